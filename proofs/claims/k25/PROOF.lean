import PyProof.Rows.All
import Wide.All
import OpenK.AllK
import Wide.FinOn
import Lean
import PyProof.EqAt
import PyProof.EqKinds
import PyProof.TupleCall
import PySem.Challenge.RW_rimread_k25_lines
local macro_rules | `(tactic| rfl') => `(tactic| decide +kernel)
local macro_rules | `(tactic| lia)=>`(tactic| first|lia -verbose|omega)
set_option Elab.async false
set_option linter.all false
set_option maxRecDepth 100000
set_option maxHeartbeats 4000000
set_option compiler.extract_closed false
def Aa_:=@List.getElem?_eq_getElem
def Ab_:=@List.length_map
def Ac_:=@PySem.wpAny_bind
def Ad_:=@List.getD_eq_getElem?_getD
def Ae_:=@List.getElem?_eq_some_iff
def Af_:=@List.length_append
def Ag_:=@List.getElem?_map
def Ah_:=@PySem.Heap.get?_push_of_some
def Ai_:=@PySem.wpAny_pure
def Aj_:=@Nat.le_refl
def Ak_:=@List.mem_singleton
def Al_:=@List.getElem?_append_left
def Am_:=@List.mem_of_getElem?
def An_:=@List.mem_append
def Ao_:=@List.getElem?_append_right
def Ap_:=@List.mem_map
def Aq_:=@List.map_append
def Ar_:=@List.mem_cons_of_mem
def As_:=@List.size_toArray
def At_:=@List.mem_cons_self
def Au_:=@PySem.Heap.lt_size
def Av_:=@PySem.Heap.get?_push_size
def Aw_:=@Option.some.inj
def Ax_:=@List.mem_cons
def Ay_:=@Nat.zero_le
def Az_:=@PySem.F.plainAttrs_list
def AA_:=@PySem.PassesOwn.never
def AB_:=@List.mem_iff_getElem
def AC_:=@PySem.F.slot_list_append
def AD_:=@PySem.F.type_list_append
def AE_:=@Int.toNat_natCast
def AF_:=@Nat.ne_of_lt
def AG_:=@List.map_cons
def AH_:=@List.mem_append_right
def AI_:=@Nat.lt_of_lt_of_le
def AJ_:=@Nat.le_of_lt
def AK_:=@List.nodup_append
def AL_:=@List.mem_append_left
def AM_:=@Nat.le_trans
def AN_:=@decide_eq_false
def AO_:=@List.not_mem_nil
def AP_:=@List.flatten_cons
def AQ_:=@List.length_singleton
def AR_:=@Bool.false_ne_true
def AS_:=@List.mem_iff_getElem?
def AT_:=@Option.map_eq_some_iff
def AU_:=@Int.emod_lt_of_pos
def AV_:=@PySem.Around.in1_units
def AW_:=@Int.emod_nonneg
def AX_:=@List.mem_range
def AY_:=@List.eq_nil_of_length_eq_zero
def AZ_:=@List.length_cons
def A0_:=@PySem.Heap.get?_update_other
def A1_:=@List.nodup_cons
def A2_:=@List.getElem?_inj
def A3_:=@List.getElem_mem
def A4_:=@List.flatten_append
def A5_:=@decide_eq_true
def A6_:=@PySem.wpAny_holding
def A7_:=@Array.perm_iff_toList_perm
def A8_:=@of_decide_eq_true
def A9_:=@Prod.ext
def Ba_:=@List.length_reverse
def Bb_:=@Nat.lt_irrefl
def Bc_:=@List.nodup_nil
def Bd_:=@Nat.lt_succ_of_lt
def Be_:=@List.getElem?_eq_none
def Bf_:=@List.map_map
def Bg_:=@List.getLast?_eq_getElem?
def Bh_:=@Nat.le_add_right
def Bi_:=@PySem.wpAny_mono
def Bj_:=@PyProof.Rows.callWith_type1
def Bk_:=@Array.getD_eq_getD_getElem?
def Bl_:=@List.length_range
def Bm_:=@Nat.not_lt_zero
def Bn_:=@List.length_take
def Bo_:=@PySem.mem_of_lookup
def Bp_:=@List.append_assoc
def Bq_:=@List.pairwise_map
def Br_:=@PySem.wpAny_truthy_bool
def Bs_:=@Bool.false_eq_true
def Bt_:=@PySem.Around.under_plainId
def Bu_:=@PySem.wpAny_loadPart'
def Bv_:=@List.pairwise_iff_getElem
def Bw_:=@List.map_congr_left
def Bx_:=@List.length_pos_iff
def By_:=@PySem.Paired.length
def Bz_:=@List.take_append_drop
def BA_:=@List.length_filterMap_le
def BB_:=@List.mem_filter
def BC_:=@List.append_nil
def BD_:=@List.take_of_length_le
def BE_:=@List.filterMap_cons
def BF_:=@List.mem_flatten
def BG_:=@Nat.lt_of_le_of_lt
def BH_:=@PySem.plainId_quiet
def BI_:=@List.mem_of_getLast?
def BJ_:=@List.getElem?_set
def BK_:=@List.length_set
def BL_:=@PySem.codeAny_builtin
def BM_:=@List.length_drop
def BN_:=@Nat.succ_le_succ
def BO_:=@List.take_succ
def BP_:=@PySem.wpAny_Call_Name_kw
def BQ_:=@PySem.wpAny_seqItems
def BR_:=@List.drop_eq_getElem_cons
def BS_:=@if_false
def BT_:=@List.find?_cons
def BU_:=@PySem.wpAny_typeNameOfWhole_itemiter
def BV_:=@List.getLast?_append
def BW_:=@List.count_append
def BX_:=@PySem.wpAny_newObj_type
def BY_:=@PySem.F.slot_dict_itemiterator_next
def BZ_:=@PySem.F.plainAttrs_dict
def B0_:=@beq_eq_false_iff_ne
def B1_:=@Array.length_toList
def B2_:=@List.getElem?_range
def B3_:=@PySem.wpAny_call_entry
def B4_:=@List.lookup_cons
def B5_:=@PySem.F.plain_min_loop
def B6_:=@Nat.mod_lt
def B7_:=@Nat.not_lt
def B8_:=@PySem.sizeLine_eq
def B9_:=@List.length_eq_one_iff
def Ca_:=@Nat.sub_self
def Cb_:=@List.mem_filterMap
def Cc_:=@of_decide_eq_false
def Cd_:=@List.getElem?_reverse
def Ce_:=@PySem.wpAny_passesOwn
def Cf_:=@List.forIn_cons
def Cg_:=@PyProof.Rows.get?_update_seq
def Ch_:=@Int.mul_ne_zero
def Ci_:=@PySem.Heap.get?_push_ne
def Cj_:=@PySem.Heap.get?_none_of_le
def Ck_:=@PySem.wpAny_typeNameOf_itemiter
def Cl_:=@PySem.Heap.size_push
def Cm_:=@Nat.mod_eq_of_lt
def Cn_:=@Int.zero_add
def Co_:=@PySem.Heap.SameBut.update
def Cp_:=@List.any_cons
def Cq_:=@PyProof.Rows.listUpdate_at
def Cr_:=@List.count_pos_iff
def Cs_:=@Option.map_some
def Ct_:=@Bool.eq_iff_iff
def Cu_:=@PySem.wpAny_specialOf
def Cv_:=@PySem.wpAny_setField_rec
def Cw_:=@Sum.inr.inj
def Cx_:=@PySem.wpAny_field
def Cy_:=@Decidable.not_not
def Cz_:=@Option.isSome_map
def CA_:=@List.dropLast_concat_getLast
def CB_:=@Nat.ne_of_gt
def CC_:=@PySem.Heap.get?_update_self
def CD_:=@PySem.wpAny_typeOf
def CE_:=@PySem.wpAny_tryCatch
def CF_:=@List.sublist_flatten_of_mem
def CG_:=@List.ext_getElem
def CH_:=@PySem.wpAny_rule
def CI_:=@Bool.and_eq_true
def CJ_:=@List.any_eq_true
def CK_:=@PySem.wpAny_isInstance
def CL_:=@List.nodup_iff_pairwise_ne
def CM_:=@PySem.wpAny_newList
def CN_:=@List.map_take
def CO_:=@PySem.wpAny_letGo
def CP_:=@List.count_cons
def CQ_:=@List.range_succ
def CR_:=@List.map_nil
def CS_:=@PySem.tupleKind_room_in1
def CT_:=@PySem.call_meets
def CU_:=@PySem.wpAny_callSpecial?_slot
def CV_:=@PySem.wpAny_pyIter_list
def CW_:=@Int.gcd_dvd_right
def CX_:=@PySem.wpAny_pyNext_list_item
def CY_:=@PySem.W.cellsFrom_some
def CZ_:=@PySem.Calls.callWith_builtin
def C0_:=@Nat.le_succ
def C1_:=@Array.getElem?_eq_none
def C2_:=@PySem.wpAny_isOneOf_itemiter
def C3_:=@List.take_length
def C4_:=@Nat.lt_succ_self
def C5_:=@beq_self_eq_true
def C6_:=@PySem.wpAny_pyNext_list_end
def C7_:=@List.contains_iff_mem
def C8_:=@List.length_filter_le
def C9_:=@PySem.isSubtype_tuple_tuple
def Da_:=@PySem.wpAny_notOrdered_dict
def Db_:=@PySem.F.args_dict_itemiterator_next_1
def Dc_:=@PySem.wpAny_execs_nil
def Dd_:=@List.of_mem_zip
def De_:=@PySem.SeqAt.EqAt.same
def Df_:=@PySem.wpAny_updateSeq
def Dg_:=@PySem.pushCells_keeps
def Dh_:=@PyProof.Rows.listItems_at
def Di_:=@PySem.F.entry_dict_itemiterator_next
def Dj_:=@PySem.F.slot_list_lt
def Dk_:=@PyProof.Rows.bits_of_natAbs_le
def Dl_:=@Nat.add_comm
def Dm_:=@List.nil_append
def Dn_:=@List.getLast?_eq_some_getLast
def Do_:=@List.replicate_succ
def Dp_:=@or_false
def Dq_:=@PySem.wpAny_newTuple
def Dr_:=@PySem.F.slot_dict_setdefault
def Ds_:=@List.mem_zipIdx_iff_getElem?
def Dt_:=@PySem.Paired.snoc
def Du_:=@PyProof.Rows.seqEpoch_at
def Dv_:=@List.not_lt
def Dw_:=@List.set_cons_zero
def Dx_:=@List.set_cons_succ
def Dy_:=@List.count_eq_zero
def Dz_:=@List.filter_append
def DA_:=@decide_eq_true_iff
def DB_:=@PyProof.Rows.assignInOrder_cons
def DC_:=@PySem.Calls.spliced_cons
def DD_:=@PySem.SeqAt.EqAt.str_str
def DE_:=@Option.isNone_none
def DF_:=@PySem.W.KFB.if_not
def DG_:=@PySem.SeqAt.EqAt.of_refs
def DH_:=@PySem.wpAny_tupleItemsOf
def DI_:=@Array.forIn_toList
def DJ_:=@PySem.Calls.Name_function_global
def DK_:=@PySem.wpAny_standAt
def DL_:=@PySem.wpAny_newFunctionEnv_cells
def DM_:=@Int.eq_of_mul_eq_mul_right
def DN_:=@List.map_drop
def DO_:=@List.reverse_cons
def DP_:=@PySem.Calls.spliced_nil
def DQ_:=@Array.size_append
def DR_:=@PySem.wpAny_dictEntries
def DS_:=@Int.emod_eq_of_lt
def DT_:=@PySem.typeIs_str
def DU_:=@List.getElem?_eq_none_iff
def DV_:=@PyProof.Rows.size_push'
def DW_:=@Array.getElem?_eq_getElem
def DX_:=@Int.natAbs_ediv_le_natAbs
def DY_:=@List.mem_or_eq_of_mem_set
def DZ_:=@List.filter_cons
def D0_:=@Nat.zero_add
def D1_:=@List.map_flatten
def D2_:=@List.Pairwise.imp_of_mem
def D3_:=@List.nodup_range
def D4_:=@PySem.codeAny_mono
def D5_:=@Option.isSome_iff_exists
def D6_:=@Option.getD_none
def D7_:=@PySem.wpAny_getItem_list_slice
def D8_:=@PySem.wpAny_comprehension_free
def D9_:=@Nat.lt_trans
def Ea_:=@PySem.wpAny_Dict_empty
def Eb_:=@PySem.Heap.size_update
def Ec_:=@PySem.F.slot_dict_values
def Ed_:=@PySem.F.entry_min_loop
def Ee_:=@Int.le_of_lt
def Ef_:=@Int.mul_ediv_cancel_left
def Eg_:=@Int.natCast_emod
def Eh_:=@PySem.F.slot_list_insert
def Ei_:=@PySem.F.type_list_insert
def Ej_:=@decide_eq_decide
def Ek_:=@PySem.F.slot_dict_update
def El_:=@PySem.F.type_dict_update
def Em_:=@List.getElem?_cons_succ
def En_:=@List.getElem?_replicate
def Eo_:=@PySem.wpAny_Call_method0_late
def Ep_:=@PySem.F.slot_dict_items
def Eq_:=@decide_eq_false_iff_not
def Er_:=@List.pairwise_singleton
def Es_:=@Int.eq_ofNat_of_zero_le
def Et_:=@Int.gcd_natCast_natCast
def Eu_:=@Nat.min_eq_left
def Ev_:=@PyProof.Rows.entry_list_sort
def Ew_:=@PySem.wpAny_dictEpoch
def Ex_:=@List.length_pos_of_mem
def Ey_:=@Prod.mk.inj
def Ez_:=@List.head?_eq_getElem?
def EA_:=@List.getElem?_set_self
def EB_:=@PySem.seqIndex_of
def EC_:=@PyProof.Rows.subscriptTail_builtinR
def ED_:=@PySem.wpAny_Assign_Subscript
def EE_:=@PyProof.Rows.call_function_entry_kw
def EF_:=@PySem.F.slot_dict_items_iter
def EG_:=@List.drop_eq_nil_of_le
def EH_:=@PySem.F.args_list_lt_2
def EI_:=@Nat.log2_lt
def EJ_:=@List.getElem_set_self
def EK_:=@List.getLast?_reverse
def EL_:=@List.filterMap_append
def EM_:=@PySem.wpAny_isTrue_Compare1
def EN_:=@List.length_replicate
def EO_:=@Array.getElem?_toList
def EP_:=@PySem.wpAny_listPart
def EQ_:=@List.forIn_nil
def ER_:=@PyProof.Rows.slot_list_sort
def ES_:=@PySem.builtinLookup_eq_fast
def ET_:=@PySem.F.entry_list_lt
def EU_:=@List.getElem?_toArray
def EV_:=@List.reverse_reverse
def EW_:=@List.getLast?_concat
def EX_:=@List.dropLast_concat
def EY_:=@List.getElem?_set_ne
def EZ_:=@Array.mem_toList_iff
def E0_:=@PyProof.Rows.Subscript_
def E1_:=@PySem.SeqAt.EqAt.bool_bool
def E2_:=@bne_iff_ne
def E3_:=@List.getElem_toArray
def E4_:=@List.replicate_succ'
def E5_:=@List.getElem_zipWith
def E6_:=@PyProof.Rows.Constant_none
def E7_:=@PySem.evalPart_none
def E8_:=@List.all_cons
def E9_:=@PySem.wpAny_attempt
def Fa_:=@List.getD_cons_zero
def Fb_:=@List.getD_cons_succ
def Fc_:=@List.flatMap_append
def Fd_:=@List.getElem_set_ne
def Fe_:=@PySem.W.pyHash_slot
def Ff_:=@PySem.Heap.get?_update_ne
def Fg_:=@PyProof.Rows.wpAny_call_entry_kw
def Fh_:=@PySem.evalArgs_none
def Fi_:=@PyProof.Rows.getElem?_mirror_all
def Fj_:=@Int.neg_ediv_of_dvd
def Fk_:=@PySem.seqIndex_neg
def Fl_:=@PySem.W.KasFin.intro
def Fm_:=@PyProof.Rows.plain_sorted
def Fn_:=@PyProof.Rows.entry_sorted
def Fo_:=@PyProof.Rows.collect_list
def Fp_:=@PySem.call_meetsIn
def Fq_:=@Sum.inl.inj
def Fr_:=@PySem.wpAny_of_eq
def Fs_:=@PySem.wpAny_mkInt
def Ft_:=@PyProof.Rows.kind_sorted
def Fu_:=@Int.neg_gcd
def Fv_:=@Int.neg_mul
namespace RimT
variable {α:Type}[DecidableEq α]
def Jj_ (p:Nat):Nat->List α->List ((Nat×Nat)×α)
 | _,[]=>[]
 | k,w::l=>((p,k),w)::Jj_ p (k+1) l
def He_:Nat->List (List α)->List ((Nat×Nat)×α)
 | _,[]=>[]
 | o,l::T=>Jj_ o 0 l++He_ (o+1) T
abbrev ends (T:List (List α)):=He_ 0 T
def wi (T:List (List α))(e:Nat×Nat):Option α:=(T.getD e.1 [])[e.2]?
theorem gR_ {p:Nat}{e:Nat×Nat}{w:α}:∀ {l:List α}{k:Nat},(e,w)∈Jj_ p k l ↔ e.1=p/\k<=e.2/\l[e.2-k]?=some w
 | [],k=>by simp [Jj_]
 | a::l,k=>by
  rw [Jj_,Ax_,gR_];constructor
  ·rintro (h|⟨h1,h2,h3⟩)
   ·cases h;simp
   ·refine ⟨h1,by lia,?_⟩;rw [show e.2-k=(e.2-(k+1))+1 by lia,Em_];exact h3
  ·rintro ⟨h1,h2,h3⟩;by_cases z:e.2=k
   ·left;rw [z,Ca_,List.getElem?_cons_zero] at h3;cases h3;exact A9_ (A9_ h1 z) rfl
   ·right;refine ⟨h1,by lia,?_⟩;rw [show e.2-k=(e.2-(k+1))+1 by lia,Em_] at h3;exact h3
theorem g3_ {e:Nat×Nat}{w:α}:∀ {T:List (List α)}{o:Nat},(e,w)∈He_ o T ↔ o<=e.1/\(T.getD (e.1-o) [])[e.2]?=some w
 | [],o=>by simp [He_]
 | l::T,o=>by
  rw [He_,An_,gR_,g3_];constructor
  ·rintro (⟨h1,h2,h3⟩|⟨h1,h2⟩)
   ·refine ⟨by lia,?_⟩;rw [h1,Ca_];exact h3
   ·refine ⟨by lia,?_⟩;rw [show e.1-o=(e.1-(o+1))+1 by lia];exact h2
  ·rintro ⟨h1,h2⟩;by_cases z:e.1=o
   ·left;rw [z,Ca_] at h2;exact ⟨z,by lia,h2⟩
   ·right;refine ⟨by lia,?_⟩;rw [show e.1-o=(e.1-(o+1))+1 by lia] at h2;exact h2
theorem if_ {T:List (List α)}{e:Nat×Nat}{w:α}:(e,w)∈ends T ↔ wi T e=some w:=by unfold ends;rw [g3_];simp [wi]
theorem kI_ (p:Nat):∀ (l:List α)(k:Nat),(Jj_ p k l).map (·.2)=l
 | [],_=>rfl
 | a::l,k=>by rw [Jj_,AG_,kI_ p l]
theorem g4_:∀ (T:List (List α))(o:Nat),(He_ o T).map (·.2)=T.flatten
 | [],_=>rfl
 | l::T,o=>by rw [He_,Aq_,kI_,g4_ T,AP_]
theorem hW_ (p:Nat):∀ (l:List α)(k:Nat),((Jj_ p k l).map (·.1)).Nodup
 | [],_=>Bc_
 | a::l,k=>by
  rw [Jj_,AG_,A1_];refine ⟨fun h=>?_,hW_ p l (k+1)⟩;obtain ⟨⟨e,w⟩,he,q⟩:=Ap_.mp h;have:=(gR_.mp he).2.1
  dsimp only at q
  rw [q] at this
  dsimp only at this
  lia
theorem g5_:∀ (T:List (List α))(o:Nat),((He_ o T).map (·.1)).Nodup
 | [],_=>Bc_
 | l::T,o=>by
  rw [He_,Aq_,AK_];refine ⟨hW_ o l 0,g5_ T (o+1),fun a ha b hb e=>?_⟩;subst e;obtain ⟨⟨e,w⟩,he,q⟩:=Ap_.mp ha;obtain ⟨⟨e',w'⟩,he',q'⟩:=Ap_.mp hb;have h1:=(gR_.mp he).1;have h2:=(g3_.mp he').1
  dsimp only at q q'
  rw [q] at h1;rw [q'] at h2;lia
theorem gk_ (w:α):∀ l:List ((Nat×Nat)×α),(l.map (·.2)).count w=(l.filter fun x=>decide (x.2=w)).length
 | []=>rfl
 | a::l=>by
  rw [AG_,CP_,gk_ w l,DZ_];by_cases h:a.2=w
  ·simp [h]
  ·simp [h]
theorem kJ_ {T:List (List α)}{w:α}(h:T.flatten.count w=2):∃ a b,(ends T).filter (fun x=>decide (x.2=w))=[(a,w),(b,w)]/\a≠b/\∀ e,wi T e=some w ↔ e=a\/e=b:=by
 have hl:((ends T).filter fun x=>decide (x.2=w)).length=2:=by rw [<-gk_,g4_];exact h
 have nd:(((ends T).filter fun x=>decide (x.2=w)).map (·.1)).Nodup:=(g5_ T 0).sublist (List.Sublist.map _ List.filter_sublist)
 have mem:∀ x,x∈(ends T).filter (fun x=>decide (x.2=w)) ↔ wi T x.1=some w/\x.2=w:=fun x=>by
  rw [BB_,decide_eq_true_eq];constructor
  ·rintro ⟨h1,h2⟩;refine ⟨?_,h2⟩;rw [<-if_,<-h2];exact h1
  ·rintro ⟨h1,h2⟩;refine ⟨?_,h2⟩;rw [<-if_,<-h2] at h1;exact h1
 generalize (ends T).filter (fun x=>decide (x.2=w))=f at hl nd mem
 match f,hl with
 | [a,b],_ =>
  have ha:=(mem a).mp (by simp);have hb:=(mem b).mp (by simp);refine ⟨a.1,b.1,?_,?_,fun e=>⟨fun he=>?_,?_⟩⟩
  ·rw [show (a.1,w)=a from A9_ rfl ha.2.symm,show (b.1,w)=b from A9_ rfl hb.2.symm]
  ·simp at nd;exact nd
  ·have:=(mem (e,w)).mpr ⟨he,rfl⟩
   rcases Ax_.mp this with z|z
   ·exact .inl (by rw [<-z])
   ·exact .inr (by rw [<-Ak_.mp z])
  ·rintro (rfl|rfl)
   ·exact ha.1
   ·exact hb.1
def Tw (T:List (List α)):Prop:=∀ w,w∈T.flatten->T.flatten.count w=2
theorem n6_ {T:List (List α)}{e:Nat×Nat}{w:α}(h:wi T e=some w):w∈T.flatten:=by rw [<-g4_ T 0];exact Ap_.mpr ⟨_,if_.mpr h,rfl⟩
def G3_ (T:List (List α))(a b:Nat×Nat):Prop:=a≠b/\∃ w,wi T a=some w/\wi T b=some w
theorem G3_.symm {T:List (List α)}{a b:Nat×Nat}(h:G3_ T a b):G3_ T b a:=⟨fun e=>h.1 e.symm,h.2.elim fun w q=>⟨w,q.2,q.1⟩⟩
theorem ig_ {T:List (List α)}(h:Tw T){a:Nat×Nat}{w:α}(ha:wi T a=some w):∃ b,G3_ T a b:=by
 obtain ⟨x,y,_,ne,all⟩:=kJ_ (h w (n6_ ha))
 rcases (all a).mp ha with e|e
 ·exact ⟨y,e ▸ ne,w,ha,(all y).mpr (.inr rfl)⟩
 ·exact ⟨x,fun z=>ne (by rw [<-z,e]),w,ha,(all x).mpr (.inl rfl)⟩
theorem dz_ {T:List (List α)}(h:Tw T){a b c:Nat×Nat}(hb:G3_ T a b)(hc:G3_ T a c):b=c:=by
 obtain ⟨n1,w,a1,b1⟩:=hb;obtain ⟨n2,w',a2,c2⟩:=hc;rw [a1] at a2;cases a2;obtain ⟨x,y,_,ne,all⟩:=kJ_ (h w (n6_ a1))
 rcases (all a).mp a1 with e|e <;> rcases (all b).mp b1 with e1|e1 <;> rcases (all c).mp c2 with e2|e2 <;> subst e <;> subst e1 <;> subst e2 <;> first|rfl|exact absurd rfl n1|exact absurd rfl n2
def rl (T:List (List α))(p:Nat):Nat:=(T.getD p []).length
def IsC (T:List (List α))(P:Nat)(c:Nat×Nat):Prop:=c.1<T.length/\c.2<rl T c.1+(if c.1<P then 1 else 0)
theorem cw_ {T:List (List α)}{e:Nat×Nat}(h:e.2<rl T e.1):∃ w,wi T e=some w:=⟨_,Aa_ h⟩
theorem F7_ {T:List (List α)}{e:Nat×Nat}{w:α}(h:wi T e=some w):e.2<rl T e.1/\e.1<T.length:=by
 have h1:e.2<rl T e.1:=(Ae_.mp h).1;refine ⟨h1,?_⟩
 rcases Nat.lt_or_ge e.1 T.length with z|z
 ·exact z
 ·unfold rl at h1;rw [Ad_,Be_ z] at h1;simp at h1
def nx (T:List (List α))(P:Nat)(c m:Nat×Nat):Nat×Nat :=
 if c.2=rl T c.1 then ((c.1+P-1)%P,0) else if m.1<P then (m.1,m.2+1) else (m.1,(m.2+1)%rl T m.1)
def Nx (T:List (List α))(P:Nat)(c c':Nat×Nat):Prop:=(c.2=rl T c.1/\c'=((c.1+P-1)%P,0))\/(c.2<rl T c.1/\∃ m,G3_ T c m/\c'=if m.1<P then (m.1,m.2+1) else (m.1,(m.2+1)%rl T m.1))
theorem nx_c {T:List (List α)}{P:Nat}(hP:0<P)(hPT:P<=T.length){c c':Nat×Nat}(hc:IsC T P c)(h:Nx T P c c'):IsC T P c':=by
 rcases h with ⟨h1,rfl⟩|⟨h1,m,⟨_,w,_,hm⟩,rfl⟩
 ·have:=B6_ (c.1+P-1) hP;exact ⟨by show (c.1+P-1)%P<_;lia,by show 0<_;simp only [this,if_true];lia⟩
 ·obtain ⟨a,b⟩:=F7_ hm;split
  ·rename_i z;exact ⟨b,by show m.2+1<_;simp only [z,if_true];lia⟩
  ·refine ⟨b,?_⟩;have:=B6_ (m.2+1) (show 0<rl T m.1 by lia);exact AI_ this (Bh_ _ _)
theorem ow_ {m a b:Nat}(ha:a<m)(hb:b<m)(h:(a+1)%m=(b+1)%m):a=b:=by
 by_cases z1:a+1=m <;> by_cases z2:b+1=m
 ·lia
 ·rw [z1,Nat.mod_self,Cm_ (by lia)] at h;lia
 ·rw [z2,Nat.mod_self,Cm_ (by lia)] at h;lia
 ·rw [Cm_ (by lia),Cm_ (by lia)] at h;lia
theorem nj_ {P a b:Nat}(ha:a<P)(hb:b<P)(h:(a+P-1)%P=(b+P-1)%P):a=b:=by
 have e:∀ x,x<P->(x+P-1)%P=if x=0 then P-1 else x-1:=fun x hx=>by
  by_cases z:x=0
  ·rw [if_pos z,z,D0_,Cm_ (by lia)]
  ·rw [if_neg z,show x+P-1=(x-1)+P by lia,Nat.add_mod_right,Cm_ (by lia)]
 rw [e a ha,e b hb] at h;split at h <;> split at h <;> lia
theorem n7_ {T:List (List α)}{P:Nat}(h:Tw T)(hP:0<P){c d x:Nat×Nat}(hc:IsC T P c)(hd:IsC T P d)(h1:Nx T P c x)(h2:Nx T P d x):c=d:=by
 have post:∀ {c:Nat×Nat},IsC T P c->c.2=rl T c.1->c.1<P:=fun {c} hc e=>by
  have:=hc.2;split at this
  ·assumption
  ·lia
 rcases h1 with ⟨a1,a2⟩|⟨a1,m,am,a2⟩ <;> rcases h2 with ⟨b1,b2⟩|⟨b1,m',bm,b2⟩
 ·rw [a2] at b2;have e:=nj_ (post hc a1) (post hd b1) (congrArg Prod.fst b2);exact A9_ e (by rw [a1,b1,e])
 ·exfalso;rw [a2] at b2;have lt:=B6_ (c.1+P-1) hP;split at b2
  ·have:=congrArg Prod.snd b2;dsimp only at this;lia
  ·have:=congrArg Prod.fst b2;dsimp only at this;lia
 ·exfalso;rw [b2] at a2;have lt:=B6_ (d.1+P-1) hP;split at a2
  ·have:=congrArg Prod.snd a2;dsimp only at this;lia
  ·have:=congrArg Prod.fst a2;dsimp only at this;lia
 ·rw [a2] at b2;obtain ⟨_,w,_,wm⟩:=id am;obtain ⟨_,w',_,wm'⟩:=id bm;have l1:=(F7_ wm).1;have l2:=(F7_ wm').1
  have e:m=m':=by
   split at b2 <;> split at b2
   ·have e1:=congrArg Prod.fst b2;have e2:=congrArg Prod.snd b2;dsimp only at e1 e2;exact A9_ e1 (by lia)
   ·have e1:=congrArg Prod.fst b2;dsimp only at e1;lia
   ·have e1:=congrArg Prod.fst b2;dsimp only at e1;lia
   ·have e1:=congrArg Prod.fst b2;have e2:=congrArg Prod.snd b2;dsimp only at e1 e2;rw [<-e1] at e2 l2;exact A9_ e1 (ow_ l1 l2 e2)
  subst e;exact dz_ h am.symm bm.symm
def corners (T:List (List α))(P:Nat):List (Nat×Nat):=(List.range T.length).flatMap fun p=>(List.range (rl T p+(if p<P then 1 else 0))).map fun k=>(p,k)
theorem bp_ {T:List (List α)}{P:Nat}{c:Nat×Nat}:c∈corners T P ↔ IsC T P c:=by
 unfold corners IsC;rw [List.mem_flatMap];constructor
 ·rintro ⟨p,hp,hc⟩;obtain ⟨k,hk,rfl⟩:=Ap_.mp hc;exact ⟨AX_.mp hp,AX_.mp hk⟩
 ·rintro ⟨h1,h2⟩;exact ⟨c.1,AX_.mpr h1,Ap_.mpr ⟨c.2,AX_.mpr h2,rfl⟩⟩
inductive Way (T:List (List α))(P:Nat):List (Nat×Nat)->Nat×Nat->Prop
 | one {c d}:Nx T P c d->Way T P [c] d
 | more {l c d}:Way T P l c->Nx T P c d->Way T P (l++[c]) d
theorem kK_ {T:List (List α)}{P:Nat}{l:List (Nat×Nat)}{d:Nat×Nat}(w:Way T P l d):l≠[]:=by
 cases w with
 | one _=>simp
 | more _ _=>simp
theorem kL_ {β:Type}{l m:List β}{c:β}(h:l≠[])(e:(l++m).head?=some c):l.head?=some c:=by
 cases l with
 | nil=>exact absurd rfl h
 | cons a r=>exact e
theorem bJ_ {β:Type}[DecidableEq β]:∀ {l m:List β},l.Nodup->(∀ x∈l,x∈m)->l.length<=m.length
 | [],_,_,_=>Ay_ _
 | a::l,m,nd,h=>by
  rw [A1_] at nd
  have:=bJ_ (l:=l) (m:=m.erase a) nd.2 fun x hx=>by
   have hne:x≠a:=fun e=>by subst e;exact nd.1 hx
   exact (List.mem_erase_of_ne hne).mpr (h x (Ar_ _ hx))
  have ha:=h a At_;rw [List.length_erase_of_mem ha] at this;have:0<m.length:=Ex_ ha;simp only [AZ_];lia
theorem ih_ {T:List (List α)}{P:Nat}(h:Tw T)(hP:0<P)(hPT:P<=T.length){c:Nat×Nat}:∀ {l:List (Nat×Nat)}{d:Nat×Nat},Way T P l d->l.head?=some c->IsC T P c->IsC T P d/\(∀ x∈l,IsC T P x)/\(∀ x∈l,x=c\/∃ y∈l,Nx T P y x)
  /\ ∃ z∈l,Nx T P z d:=by
 intro l d w
 induction w with
 | @one a b hn =>
  intro hc ic;cases hc;exact ⟨nx_c hP hPT ic hn,fun x hx=>by rw [Ak_.mp hx];exact ic,fun x hx=>.inl (Ak_.mp hx),c,by simp,hn⟩
 | @more l' x y w hn ih =>
  intro hc ic;have hc':l'.head?=some c:=kL_ (kK_ w) hc;obtain ⟨i1,i2,i3,z,hz,i4⟩:=ih hc' ic;refine ⟨nx_c hP hPT i1 hn,fun q hq=>?_,fun q hq=>?_,x,by simp,hn⟩
  ·rcases An_.mp hq with q'|q'
   ·exact i2 q q'
   ·rw [Ak_.mp q'];exact i1
  ·rcases An_.mp hq with q'|q'
   ·exact (i3 q q').imp id fun ⟨y,hy,e⟩=>⟨y,AL_ _ hy,e⟩
   ·rw [Ak_.mp q'];exact .inr ⟨z,AL_ _ hz,i4⟩
theorem ox_ {T:List (List α)}{P:Nat}(h:Tw T)(hP:0<P)(hPT:P<=T.length){c d:Nat×Nat}{l:List (Nat×Nat)}(w:Way T P l d)(hc:l.head?=some c)(ic:IsC T P c)(nd:l.Nodup)(hd:d≠c):d∉l:=fun hm=>by
 obtain ⟨i1,i2,i3,z,hz,i4⟩:=ih_ h hP hPT w hc ic
 have key:∀ {l:List (Nat×Nat)}{d:Nat×Nat},Way T P l d->l.head?=some c->l.Nodup->d∈l->d=c:=by
  intro l d w
  induction w with
  | @one a b hn =>
   intro hc nd hm;cases hc;exact Ak_.mp hm
  | @more l' x y w hn ih =>
   intro hc nd hm;have hc':l'.head?=some c:=kL_ (kK_ w) hc;obtain ⟨j1,j2,j3,z,hz,j4⟩:=ih_ h hP hPT w hc' ic;rw [AK_] at nd;have xnew:x∉l':=fun q=>nd.2.2 x q x (by simp) rfl
   rcases An_.mp hm with q|q
   ·rcases j3 y q with e|⟨u,hu,e⟩
    ·exact e
    ·have:u=x:=n7_ h hP (j2 u hu) j1 e hn;exact absurd (this ▸ hu) xnew
   ·have e:=Ak_.mp q;subst e
    have:z=y:=n7_ h hP (j2 z hz) j1 j4 hn;exact absurd (this ▸ hz) xnew
 exact hd (key w hc nd hm)
theorem oy_ {T:List (List α)}{P:Nat}(h:Tw T)(hP:0<P)(hPT:P<=T.length){c d:Nat×Nat}{l:List (Nat×Nat)}(w:Way T P l d)(hc:l.head?=some c)(ic:IsC T P c)(nd:l.Nodup):l.length<=(corners T P).length :=
 bJ_ nd fun x hx=>bp_.mpr ((ih_ h hP hPT w hc ic).2.1 x hx)
end RimT
namespace RimT
variable {α:Type}[DecidableEq α]
def ins (l:List α)(k:Nat)(w:α):List α:=l.take k++w::l.drop k
theorem fY_ (l:List α)(k:Nat)(w:α):(ins l k w).length=l.length+1:=by unfold ins;simp only [Af_,Bn_,AZ_,BM_];lia
theorem lP_ (l:List α)(k:Nat)(w x:α):(ins l k w).count x=l.count x+if w=x then 1 else 0:=by
 unfold ins;rw [BW_,CP_];have:=Bz_ k l;have e:l.count x=(l.take k).count x+(l.drop k).count x:=by rw [<-BW_,this]
 rw [e];by_cases h:w=x
 ·simp [h];lia
 ·simp [h]
def Gn_ (T:List (List α))(c:Nat×Nat)(w:α):List (List α):=T.set c.1 (ins (T.getD c.1 []) c.2 w)
theorem g6_ (x:α)(l':List α):∀ (T:List (List α))(p:Nat),p<T.length->(T.set p l').flatten.count x+(T.getD p []).count x=T.flatten.count x+l'.count x
 | [],p,h=>absurd h (by simp)
 | l::T,0,h=>by
  simp only [Dw_,AP_,BW_,Fa_];lia
 | l::T,p+1,h=>by have:=g6_ x l' T p (by simpa using h);simp only [Dx_,AP_,BW_,Fb_];lia
theorem j5_ (l':List α):∀ (T:List (List α))(p:Nat),p<T.length->(T.set p l').flatten.length+(T.getD p []).length=T.flatten.length+l'.length
 | [],p,h=>absurd h (by simp)
 | l::T,0,h=>by
  simp only [Dw_,AP_,Af_,Fa_];lia
 | l::T,p+1,h=>by have:=j5_ l' T p (by simpa using h);simp only [Dx_,AP_,Af_,Fb_];lia
theorem dA_ {T:List (List α)}{c:Nat×Nat}(h:c.1<T.length)(w x:α):(Gn_ T c w).flatten.count x=T.flatten.count x+if w=x then 1 else 0:=by have:=g6_ x (ins (T.getD c.1 []) c.2 w) T c.1 h;rw [lP_] at this;unfold Gn_;lia
theorem g7_ {T:List (List α)}{c:Nat×Nat}(h:c.1<T.length)(w:α):(Gn_ T c w).flatten.length=T.flatten.length+1:=by have:=j5_ (ins (T.getD c.1 []) c.2 w) T c.1 h;rw [fY_] at this;unfold Gn_;lia
theorem aF_ (T:List (List α))(c:Nat×Nat)(w:α):(Gn_ T c w).length=T.length:=by unfold Gn_;simp
theorem gS_ {T:List (List α)}{c:Nat×Nat}(w:α)(p:Nat):rl T p<=rl (Gn_ T c w) p:=by
 unfold Gn_ rl;rw [Ad_,Ad_,BJ_];by_cases h:c.1=p
 ·subst h;by_cases h2:c.1<T.length
  ·simp only [if_true,h2,Option.getD_some,fY_];rw [Ad_];lia
  ·simp [h2,Be_ (B7_.mp h2)]
 ·simp [h]
structure Gr (P W:Nat)(T:List (List Nat)):Prop where
 len:P<=T.length
 most:T.length<=P+10
 two:∀ w,w<W->T.flatten.count w=2
 lt:∀ w∈T.flatten,w<W
 ne:∀ p,P<=p->p<T.length->0<rl T p
 tot:T.flatten.length=2*W
theorem Gr.tw {P W:Nat}{T:List (List Nat)}(g:Gr P W T):Tw T:=fun w h=>g.two w (g.lt w h)
theorem nk_ (P:Nat):Gr P 0 (List.replicate P []):=by
 have e:(List.replicate P ([]:List Nat)).flatten=[]:=by
  induction P with
  | zero=>rfl
  | succ n ih=>rw [Do_,AP_,ih];rfl
 exact ⟨by simp,by simp,fun w h=>absurd h (by lia),fun w h=>(by rw [e] at h;cases h),fun p h1 h2=>(by simp at h2;lia),(by rw [e];rfl)⟩
theorem g8_ {T:List (List Nat)}{c:Nat×Nat}(h:c.1<T.length){w x:Nat}(hx:x∈(Gn_ T c w).flatten):x=w\/x∈T.flatten:=by
 by_cases e:x=w
 ·exact .inl e
 ·right;have:=Cr_.mpr hx;rw [dA_ h,if_neg (fun z=>e z.symm)] at this;exact Cr_.mp (by lia)
theorem oz_ {P W:Nat}{T:List (List Nat)}{c:Nat×Nat}(g:Gr P W T)(hc:c.1<T.length)(h:T.length<P+10):Gr P (W+1) (Gn_ T c W++[[W]]):=by
 have fl:(Gn_ T c W++[[W]]).flatten=(Gn_ T c W).flatten++[W]:=by rw [A4_];simp
 refine ⟨by simp [aF_];have:=g.len;lia,by simp [aF_];lia,fun w hw=>?_,fun w hw=>?_,fun p h1 h2=>?_,?_⟩
 ·rw [fl,BW_,dA_ hc];by_cases e:w=W
  ·subst e;have:T.flatten.count w=0:=Dy_.mpr fun z=>absurd (g.lt w z) (by lia);simp [this]
  ·have:=g.two w (by lia);rw [if_neg (fun z=>e z.symm),this];rw [Dy_.mpr fun z=>e (Ak_.mp z)]
 ·rw [fl] at hw
  rcases An_.mp hw with hw|hw
  ·rcases g8_ hc hw with e|e
   ·lia
   ·have:=g.lt w e;lia
  ·have:=Ak_.mp hw;lia
 ·simp only [Af_,aF_,AQ_] at h2;by_cases e:p<T.length
  ·have:=g.ne p h1 e;have a:=gS_ (T:=T) (c:=c) W p;unfold rl at a ⊢;rw [Ad_,Al_ (by rw [aF_];exact e),<-Ad_];unfold rl at this;lia
  ·have e:p=T.length:=by lia
   subst e;unfold rl;rw [Ad_,Ao_ (by rw [aF_];exact Aj_ _),aF_];simp
 ·rw [fl,Af_,g7_ hc,g.tot];simp;lia
theorem pl_ {P W:Nat}{T:List (List Nat)}{c d:Nat×Nat}(g:Gr P W T)(hc:c.1<T.length)(hd:d.1<T.length):Gr P (W+1) (Gn_ (Gn_ T c W) d W):=by
 have hd':d.1<(Gn_ T c W).length:=by rw [aF_];exact hd
 refine ⟨by rw [aF_,aF_];exact g.len,by rw [aF_,aF_];exact g.most,fun w hw=>?_,fun w hw=>?_,fun p h1 h2=>?_,?_⟩
 ·rw [dA_ hd',dA_ hc];by_cases e:w=W
  ·subst e;have:T.flatten.count w=0:=Dy_.mpr fun z=>absurd (g.lt w z) (by lia);simp [this]
  ·rw [if_neg (fun z=>e z.symm),g.two w (by lia)]
 ·rcases g8_ hd' hw with e|e
  ·lia
  ·rcases g8_ hc e with e|e
   ·lia
   ·have:=g.lt w e;lia
 ·rw [aF_,aF_] at h2;have:=g.ne p h1 h2;have a:=gS_ (T:=T) (c:=c) W p;have b:=gS_ (T:=Gn_ T c W) (c:=d) W p;lia
 ·rw [g7_ hd',g7_ hc,g.tot];lia
theorem eZ_ {T:List (List α)}{P:Nat}:(corners T P).length<=T.flatten.length+P:=by
 have key:∀ n,n<=T.length->((List.range n).flatMap fun p=>(List.range (rl T p+(if p<P then 1 else 0))).map fun k=>(p,k)).length<=(T.take n).flatten.length+min n P:=fun n=>by
  induction n with
  | zero=>intro _;simp
  | succ n ih =>
   intro h;have i:=ih (by lia);have e:T[n]?=some T[n]:=Aa_ (by lia);rw [CQ_,Fc_,Af_,BO_,e,A4_,Af_];have r:rl T n=T[n].length:=by unfold rl;rw [Ad_,e];rfl
   simp only [List.flatMap_cons,List.flatMap_nil,BC_,Ab_,Bl_,Option.toList_some,AP_,List.flatten_nil,r];split <;> lia
 have:=key T.length (Aj_ _);rw [C3_] at this;unfold corners;lia
theorem Gr.corners {P W:Nat}{T:List (List Nat)}(g:Gr P W T):(corners T P).length<=2*W+P:=by have:=eZ_ (T:=T) (P:=P);rw [g.tot] at this;exact this
end RimT
namespace RimT
variable {S:Type}[DecidableEq S]
structure Net (S:Type) where
 posts:List S
 rows:List (S×List S)
 worths:List (S×(Int×Int))
def Net.all (N:Net S):List S:=(N.rows.map (·.2)).flatten
structure FS_ (N:Net S):Prop where
 nd:(N.rows.map (·.1)).Nodup
 two:∀ x∈N.all,N.all.count x=2
 few:N.rows.length<=16
 tot:N.all.length<=30
 pl:N.posts.length<=6
 wl:N.worths.length<=15
def Gk_ (ns ws:Nat->S)(T:List (List Nat))(ord:List Nat):List (S×List S):=ord.map fun p=>(ns p,(T.getD p []).map ws)
theorem ef_ {α:Type}{l m:List (List α)}(h:l.Perm m):l.flatten.Perm m.flatten:=by
 induction h with
 | nil=>exact .nil
 | cons x _ ih=>rw [AP_,AP_];exact ih.append_left x
 | swap x y l=>rw [AP_,AP_,AP_,AP_,<-Bp_,<-Bp_];exact List.perm_append_comm.append_right _
 | trans _ _ h1 h2=>exact h1.trans h2
theorem hX_ {α:Type}(d:α)(l:List α):(List.range l.length).map (fun i=>l.getD i d)=l:=by
 apply CG_
 ·simp
 ·intro i h1 h2;simp [h2]
theorem kM_ {ns ws:Nat->S}{T:List (List Nat)}{ord:List Nat}(h:ord.Perm (List.range T.length)):(((Gk_ ns ws T ord).map (·.2)).flatten).Perm (T.flatten.map ws):=by
 have e:(Gk_ ns ws T ord).map (·.2)=(ord.map fun p=>T.getD p []).map fun l=>l.map ws:=by unfold Gk_;rw [Bf_,Bf_];rfl
 rw [e,<-D1_];refine List.Perm.map _ ?_;have h2:=h.map fun p=>T.getD p [];rw [hX_] at h2;exact ef_ h2
theorem fp_ {α β:Type}[DecidableEq α][DecidableEq β]{f:α->β}{x:α}:∀ {l:List α},(∀ a∈l,f a=f x->a=x)->(l.map f).count (f x)=l.count x
 | [],_=>rfl
 | a::l,h=>by
  rw [AG_,CP_,CP_,fp_ fun a ha=>h a (Ar_ _ ha)];congr 1;by_cases e:a=x
  ·subst e;simp
  ·have:f a≠f x:=fun z=>e (h a At_ z);simp [e,this]
theorem pm_ {P W:Nat}{T:List (List Nat)}(g:Gr P W T){ns ws:Nat->S}{ord:List Nat}(h:ord.Perm (List.range T.length))(hP:P<=6)(hW:W<=15)
  (hn:∀ a b,a<T.length->b<T.length->ns a=ns b->a=b) (hw:∀ a b,a<W->b<W->ws a=ws b->a=b) {ps:List S} {wo:List (S×(Int×Int))} (hps:ps.length<=6) (hwo:wo.length<=15):FS_ (⟨ps,Gk_ ns ws T ord,wo⟩:Net S):=by
 have al:=kM_ (ns:=ns) (ws:=ws) h;have e:((Gk_ ns ws T ord).map (·.1))=ord.map ns:=by unfold Gk_;rw [Bf_];rfl
 refine ⟨?_,fun x hx=>?_,?_,?_,hps,hwo⟩
 ·show ((Gk_ ns ws T ord).map (·.1)).Nodup;rw [e];unfold List.Nodup;rw [Bq_];exact D2_ (fun {a b} ha hb ne z=>ne (hn a b (AX_.mp (h.mem_iff.mp ha)) (AX_.mp (h.mem_iff.mp hb)) z)) (h.nodup_iff.mpr D3_)
 ·have hx':x∈T.flatten.map ws:=al.mem_iff.mp hx;obtain ⟨w,hw1,rfl⟩:=Ap_.mp hx';show (((Gk_ ns ws T ord).map (·.2)).flatten).count (ws w)=2;rw [al.count_eq,fp_ fun a ha z=>hw a w (g.lt a ha) (g.lt w hw1) z];exact g.two w (g.lt w hw1)
 ·show (Gk_ ns ws T ord).length<=16;unfold Gk_;have:=h.length_eq;rw [Bl_] at this;rw [Ab_];have:=g.most;lia
 ·show (((Gk_ ns ws T ord).map (·.2)).flatten).length<=30;rw [al.length_eq,Ab_,g.tot];lia
end RimT
namespace RimT
variable {S:Type}[DecidableEq S]
abbrev End (S:Type):=S×Nat
def Hu_:List (S×List (End S))->S->End S->List (S×List (End S))
 | [],w,e=>[(w,[e])]
 | (k,es)::r,w,e=>if k=w then (k,es++[e])::r else (k,es)::Hu_ r w e
theorem i4_ {w:S}{e:End S}:∀ {a:List (S×List (End S))},(∀ kv∈a,kv.1≠w)->Hu_ a w e=a++[(w,[e])]
 | [],_=>rfl
 | (k,es)::r,h=>by have:k≠w:=h (k,es) At_;rw [Hu_,if_neg this,i4_ fun kv hkv=>h kv (Ar_ _ hkv)];rfl
theorem fq_ {w:S}{e:End S}:∀ {a:List (S×List (End S))},(∃ kv∈a,kv.1=w)->∃ i es,a[i]?=some (w,es)/\(∀ j kv,j<i->a[j]?=some kv->kv.1≠w)/\Hu_ a w e=a.set i (w,es++[e])
 | [],h=>by obtain ⟨kv,hkv,_⟩:=h;cases hkv
 | (k,es)::r,h=>by
  by_cases hk:k=w
  ·subst hk;exact ⟨0,es,rfl,fun j kv hj=>absurd hj (by lia),by rw [Hu_,if_pos rfl];rfl⟩
  ·obtain ⟨i,es',h1,h2,h3⟩:=fq_ (w:=w) (e:=e) (a:=r) (by
    obtain ⟨kv,hkv,hw⟩:=h
    rcases Ax_.mp hkv with rfl|hkv
    ·exact absurd hw hk
    ·exact ⟨kv,hkv,hw⟩)
   refine ⟨i+1,es',h1,fun j kv hj hkv=>?_,by rw [Hu_,if_neg hk,h3];rfl⟩;cases j with
   | zero=>cases hkv;exact hk
   | succ j=>exact h2 j kv (by lia) hkv
def F6_ (p:S):Nat->List S->List (S×End S)
 | _,[]=>[]
 | k,w::ws=>(w,(p,k))::F6_ p (k+1) ws
def occ (rows:List (S×List S)):List (S×End S):=(rows.map fun r=>F6_ r.1 0 r.2).flatten
def Gd_ (l:List (S×End S)):List (S×List (End S)):=l.foldl (fun a x=>Hu_ a x.1 x.2) []
theorem fZ_ (l:List (S×End S))(x:S×End S):Gd_ (l++[x])=Hu_ (Gd_ l) x.1 x.2:=by unfold Gd_;rw [List.foldl_append];rfl
theorem ii_ {w:S}{e:End S}{kv:S×List (End S)}:∀ {a:List (S×List (End S))},kv∈Hu_ a w e->(kv.1=w/\((∃ es,(w,es)∈a/\kv.2=es++[e])\/((∀ x∈a,x.1≠w)/\kv.2=[e])))\/kv∈a
 | [],h=>by
  have:=Ak_.mp h;subst this;exact .inl ⟨rfl,.inr ⟨fun x hx=>(by cases hx),rfl⟩⟩
 | (k,es)::r,h=>by
  by_cases hk:k=w
  ·subst hk;rw [Hu_,if_pos rfl] at h
   rcases Ax_.mp h with h|h
   ·subst h;exact .inl ⟨rfl,.inl ⟨es,At_,rfl⟩⟩
   ·exact .inr (Ar_ _ h)
  ·rw [Hu_,if_neg hk] at h
   rcases Ax_.mp h with h|h
   ·subst h;exact .inr At_
   ·rcases ii_ h with ⟨e1,e2⟩|h
    ·refine .inl ⟨e1,?_⟩
     rcases e2 with ⟨es',h1,h2⟩|⟨h1,h2⟩
     ·exact .inl ⟨es',Ar_ _ h1,h2⟩
     ·refine .inr ⟨fun x hx=>?_,h2⟩
      rcases Ax_.mp hx with rfl|hx
      ·exact hk
      ·exact h1 x hx
    ·exact .inr (Ar_ _ h)
theorem eg_ {w:S}{e:End S}:∀ {a:List (S×List (End S))},(Hu_ a w e).map (·.1)=if (∃ kv∈a,kv.1=w) then a.map (·.1) else a.map (·.1)++[w]
 | []=>by simp [Hu_]
 | (k,es)::r=>by
  by_cases hk:k=w
  ·subst hk;rw [Hu_,if_pos rfl,if_pos ⟨(k,es),At_,rfl⟩];rfl
  ·rw [Hu_,if_neg hk,AG_,eg_ (a:=r)];by_cases hr:∃ kv∈r,kv.1=w
   ·rw [if_pos hr,if_pos (by obtain ⟨kv,h1,h2⟩:=hr;exact ⟨kv,Ar_ _ h1,h2⟩)];rfl
   ·rw [if_neg hr,if_neg (fun ⟨kv,h1,h2⟩=>by
     rcases Ax_.mp h1 with rfl|h1
     ·exact hk h2
     ·exact hr ⟨kv,h1,h2⟩)]
    rfl
theorem bV_:∀ (n:Nat)(l:List (S×End S)),l.length=n->((Gd_ l).map (·.1)).Nodup/\(∀ kv∈Gd_ l,kv.2=(l.filter fun x=>decide (x.1=kv.1)).map (·.2))/\(∀ x∈l,∃ kv∈Gd_ l,kv.1=x.1)/\(∀ kv∈Gd_ l,∃ x∈l,x.1=kv.1)
 | 0,l,h=>by
  have:=AY_ h;subst this;exact ⟨Bc_,fun kv hkv=>(by cases hkv),fun x hx=>(by cases hx),fun kv hkv=>(by cases hkv)⟩
 | n+1,l,h=>by
  obtain ⟨m,x,rfl⟩:∃ m x,l=m++[x]:=by refine ⟨l.dropLast,l.getLast (fun e=>by rw [e] at h;cases h),(CA_ _).symm⟩
  have hm:m.length=n:=by simpa using h
  obtain ⟨h1,h2,h3,h4⟩:=bV_ n m hm;rw [fZ_]
  have fe:∀ w,((m++[x]).filter fun y=>decide (y.1=w))=(m.filter fun y=>decide (y.1=w))++(if x.1=w then [x] else []):=fun w=>by
   rw [Dz_];by_cases e:x.1=w
   ·simp [e]
   ·simp [e]
  refine ⟨?_,fun kv hkv=>?_,fun y hy=>?_,fun kv hkv=>?_⟩
  ·rw [eg_];by_cases hc:∃ kv∈Gd_ m,kv.1=x.1
   ·rw [if_pos hc];exact h1
   ·rw [if_neg hc];refine AK_.mpr ⟨h1,by simp,fun a ha b hb e=>?_⟩;obtain ⟨kv,hkv,rfl⟩:=Ap_.mp ha;exact hc ⟨kv,hkv,by rw [e];exact Ak_.mp hb⟩
  ·rw [fe,Aq_]
   rcases ii_ hkv with ⟨e1,e2⟩|hkv'
   ·rw [e1,if_pos rfl]
    rcases e2 with ⟨es,h5,h6⟩|⟨h5,h6⟩
    ·rw [h6];have:=h2 _ h5;simp only at this;rw [this];rfl
    ·rw [h6];have:(m.filter fun y=>decide (y.1=x.1))=[]:=by refine List.filter_eq_nil_iff.mpr fun y hy z=>?_;obtain ⟨kv2,h7,h8⟩:=h3 y hy;exact h5 kv2 h7 (h8.trans (A8_ z))
     rw [this];rfl
   ·by_cases e:x.1=kv.1
    ·
     exfalso;obtain ⟨i,es,g1,g2,g3⟩:=fq_ (w:=x.1) (e:=x.2) (a:=Gd_ m) ⟨kv,hkv',e.symm⟩;rw [g3] at hkv;obtain ⟨j,hj,ej⟩:=AB_.mp hkv;rw [BK_] at hj;have hji:(Gd_ m)[j]?=some ((Gd_ m)[j]):=Aa_ hj;have hi:i<(Gd_ m).length:=(Ae_.mp g1).1;by_cases hij:i=j
     ·subst hij;rw [EJ_] at ej;have e9:kv.2=es++[x.2]:=by rw [<-ej]
      obtain ⟨j2,hj2,ej2⟩:=AB_.mp hkv';have k1:((Gd_ m).map (·.1))[j2]?=((Gd_ m).map (·.1))[i]?:=by rw [Ag_,Ag_,Aa_ hj2,ej2,g1];show some kv.1=some x.1;rw [e]
      have:=(A2_ (by rw [Ab_];exact hj2) h1).mp k1;subst this;rw [Aa_ hj2,ej2] at g1;have e10:=congrArg Prod.snd (Aw_ g1);rw [e9] at e10;have:=congrArg List.length e10;simp at this
     ·rw [Fd_ hij] at ej;have k1:((Gd_ m).map (·.1))[j]?=((Gd_ m).map (·.1))[i]?:=by rw [Ag_,Ag_,hji,ej,g1];show some kv.1=some x.1;rw [e]
      exact hij ((A2_ (by rw [Ab_];exact hj) h1).mp k1).symm
    ·rw [if_neg e];rw [h2 kv hkv'];simp
  ·by_cases hc:∃ kv∈Gd_ m,kv.1=y.1
   ·have hk:y.1∈(Hu_ (Gd_ m) x.1 x.2).map (·.1):=by
     rw [eg_];obtain ⟨kv,g1,g2⟩:=hc;have:y.1∈(Gd_ m).map (·.1):=Ap_.mpr ⟨kv,g1,g2⟩;split
     ·exact this
     ·exact AL_ _ this
    obtain ⟨kv,g1,g2⟩:=Ap_.mp hk;exact ⟨kv,g1,g2⟩
   ·rcases An_.mp hy with hy|hy
    ·exact absurd (h3 y hy) hc
    ·have e:=Ak_.mp hy;subst e;have hk:y.1∈(Hu_ (Gd_ m) y.1 y.2).map (·.1):=by rw [eg_,if_neg hc];exact AH_ _ (Ak_.mpr rfl)
     obtain ⟨kv,g1,g2⟩:=Ap_.mp hk;exact ⟨kv,g1,g2⟩
  ·rcases ii_ hkv with ⟨e1,_⟩|hkv'
   ·exact ⟨x,AH_ _ (Ak_.mpr rfl),e1.symm⟩
   ·obtain ⟨y,g1,g2⟩:=h4 kv hkv';exact ⟨y,AL_ _ g1,g2⟩
theorem f0_ (p:S):∀ (ws:List S)(k:Nat),(F6_ p k ws).map (·.1)=ws
 | [],_=>rfl
 | w::ws,k=>by rw [F6_,AG_,f0_ p ws (k+1)]
theorem ij_ (rows:List (S×List S)):(occ rows).map (·.1)=(rows.map (·.2)).flatten:=by unfold occ;rw [D1_,Bf_];congr 1;exact Bw_ fun r _=>f0_ r.1 r.2 0
theorem eC_ {p:S}{x:S×End S}:∀ {ws:List S}{k:Nat},x∈F6_ p k ws->x.2.1=p/\k<=x.2.2
 | [],_,h=>by cases h
 | w::ws,k,h=>by
  rcases Ax_.mp h with rfl|h
  ·exact ⟨rfl,Aj_ _⟩
  ·have:=eC_ h;exact ⟨this.1,by lia⟩
theorem i5_ (p:S):∀ (ws:List S)(k:Nat),((F6_ p k ws).map (·.2)).Nodup
 | [],_=>Bc_
 | w::ws,k=>by rw [F6_,AG_];refine A1_.mpr ⟨fun h=>?_,i5_ p ws (k+1)⟩;obtain ⟨x,h1,h2⟩:=Ap_.mp h;have:=(eC_ h1).2;rw [h2] at this;simp only at this;lia
theorem lQ_:∀ {rows:List (S×List S)},(rows.map (·.1)).Nodup->((occ rows).map (·.2)).Nodup
 | [],_=>Bc_
 | r::rows,h=>by have h':=A1_.mp h;have e:occ (r::rows)=F6_ r.1 0 r.2++occ rows:=rfl;rw [e,Aq_];refine AK_.mpr ⟨i5_ _ _ _,lQ_ h'.2,fun a ha b hb z=>?_⟩;obtain ⟨x,x1,x2⟩:=Ap_.mp ha;obtain ⟨y,y1,y2⟩:=Ap_.mp hb;have ex:=(eC_ x1).1;obtain ⟨l,l1,l2⟩:=BF_.mp y1;obtain ⟨r2,r3,rfl⟩:=Ap_.mp l1;have ey:=(eC_ l2).1;refine h'.1 (Ap_.mpr ⟨r2,r3,?_⟩);show r2.1=r.1;rw [<-ey,<-ex,x2,y2,z]
def Gl_ (N:Net S):List (S×List (End S)):=Gd_ (occ N.rows)
theorem oA_ (N:Net S):((Gl_ N).map (·.1)).Nodup:=(bV_ _ _ rfl).1
theorem hY_ (w:S):∀ l:List (S×End S),((l.filter fun x=>decide (x.1=w)).map (·.2)).length=(l.map (·.1)).count w
 | []=>rfl
 | x::l=>by
  have ih:=hY_ w l;rw [AG_,CP_,<-ih];by_cases e:x.1=w
  ·simp [e]
  ·simp [e]
theorem ik_ {N:Net S}(ok:FS_ N){kv:S×List (End S)}(h:kv∈Gl_ N):∃ a b,kv.2=[a,b]:=by
 obtain ⟨_,h2,_,h4⟩:=bV_ _ (occ N.rows) rfl;have hl:kv.2.length=2:=by rw [h2 kv h,hY_,ij_];obtain ⟨x,x1,x2⟩:=h4 kv h;refine ok.two kv.1 ?_;show kv.1∈(N.rows.map (·.2)).flatten;rw [<-ij_,<-x2];exact Ap_.mpr ⟨x,x1,rfl⟩
 match hk:kv.2,hl with
 | [a,b],_=>exact ⟨a,b,rfl⟩
theorem lR_ {N:Net S}{kv:S×List (End S)}(h:kv∈Gl_ N){a:End S}(ha:a∈kv.2):(kv.1,a)∈occ N.rows:=by obtain ⟨_,h2,_,_⟩:=bV_ _ (occ N.rows) rfl;rw [h2 kv h] at ha;obtain ⟨x,x1,rfl⟩:=Ap_.mp ha;obtain ⟨x2,x3⟩:=BB_.mp x1;have e:x.1=kv.1:=A8_ x3;rw [<-e];exact x2
theorem oB_ {l:List (S×End S)}(h:(l.map (·.2)).Nodup){x y:S×End S}(hx:x∈l)(hy:y∈l)(e:x.2=y.2):x=y:=by obtain ⟨i,hi,rfl⟩:=AB_.mp hx;obtain ⟨j,hj,rfl⟩:=AB_.mp hy;have:=(A2_ (l:=l.map (·.2)) (i:=i) (j:=j) (by rw [Ab_];exact hi) h).mp (by rw [Ag_,Ag_,Aa_ hi,Aa_ hj];exact congrArg some e);subst this;rfl
theorem ln_ {N:Net S}(ok:FS_ N){k1 k2:S×List (End S)}(h1:k1∈Gl_ N)(h2:k2∈Gl_ N){a:End S}(a1:a∈k1.2)(a2:a∈k2.2):k1.1=k2.1 :=
 (Ey_ (oB_ (lQ_ ok.nd) (lR_ h1 a1) (lR_ h2 a2) rfl)).1
theorem lS_ {N:Net S}(ok:FS_ N){kv:S×List (End S)}(h:kv∈Gl_ N){a b:End S}(e:kv.2=[a,b]):a≠b:=by
 obtain ⟨_,h2,_,_⟩:=bV_ _ (occ N.rows) rfl;have nd:kv.2.Nodup:=by rw [h2 kv h];have:=lQ_ ok.nd;unfold List.Nodup at this ⊢;rw [Bq_] at this ⊢;exact this.filter _
 rw [e] at nd;intro z;subst z;simp at nd
end RimT
namespace RimT
theorem g9_ {α:Type}:∀ {a b:List α},a.Nodup->b.Nodup->(∀ x,x∈a ↔ x∈b)->a.Perm b
 | [],b,_,_,h=>by
  have:b=[]:=List.eq_nil_iff_forall_not_mem.mpr fun x hx=>absurd ((h x).mpr hx) AO_;rw [this]
 | x::a,b,na,nb,h=>by
  obtain ⟨s,t,rfl⟩:=List.append_of_mem ((h x).mp At_);obtain ⟨n1,n2⟩:=A1_.mp na;have p:(x::(s++t)).Perm (s++x::t):=List.perm_middle.symm;obtain ⟨m1,m2⟩:=A1_.mp (p.nodup_iff.mpr nb);refine (List.Perm.cons x (g9_ n2 m2 fun y=>?_)).trans p;have hy:=h y;rw [<-p.mem_iff,Ax_,Ax_] at hy;constructor
  ·intro hm;exact (hy.mp (.inr hm)).resolve_left fun z=>n1 (z ▸ hm)
  ·intro hm;exact (hy.mpr (.inr hm)).resolve_left fun z=>m1 (z ▸ hm)
section
variable {α:Type}[DecidableEq α]
def Reg (T:List (List α))(P:Nat)(c:Nat×Nat)(l:List (Nat×Nat)):Prop:=Way T P l c/\l.head?=some c/\l.Nodup
open Classical in
noncomputable def cyc (T:List (List α))(P:Nat)(c:Nat×Nat):List (Nat×Nat):=if h:∃ l,Reg T P c l then choose h else []
noncomputable def fdF (T:List (List α))(P:Nat)(O:List (Nat×Nat)):List (List (Nat×Nat)):=O.foldl (fun F c=>if c∈F.flatten then F else F++[cyc T P c]) []
end
section
variable {S:Type}[DecidableEq S]
structure FH_ (N:Net S):Prop where
 pnd:N.posts.Nodup
 pin:∀ p∈N.posts,p∈N.rows.map (·.1)
 p0:0<N.posts.length
def pts (N:Net S):List S:=N.posts++(N.rows.map (·.1)).filter fun x=>decide (x∉N.posts)
def GW_ (N:Net S)(x:S):List S:=((N.rows.find? fun r=>decide (r.1=x)).map (·.2)).getD []
def trn (N:Net S):List (List S):=(pts N).map (GW_ N)
theorem kN_ {N:Net S}(ok:FS_ N)(po:FH_ N):(pts N).Nodup :=
 AK_.mpr ⟨po.pnd,ok.nd.filter _,fun a ha b hb e=>by have:=(BB_.mp hb).2;rw [DA_] at this;exact this (e ▸ ha)⟩
theorem dB_ {N:Net S}(po:FH_ N){x:S}:x∈pts N ↔ x∈N.rows.map (·.1):=by
 unfold pts;rw [An_,BB_,DA_];constructor
 ·rintro (h|h)
  ·exact po.pin x h
  ·exact h.1
 ·intro h;by_cases hp:x∈N.posts
  ·exact .inl hp
  ·exact .inr ⟨h,hp⟩
theorem gT_ {N:Net S}(ok:FS_ N)(po:FH_ N):(pts N).Perm (N.rows.map (·.1)):=g9_ (kN_ ok po) ok.nd fun x=>dB_ po
theorem lT_ {N:Net S}(ok:FS_ N)(po:FH_ N):(pts N).length=N.rows.length:=by rw [(gT_ ok po).length_eq,Ab_]
theorem lU_ {x:S}{l:List S}:∀ {rows:List (S×List S)},(rows.map (·.1)).Nodup->(x,l)∈rows->(rows.find? fun r=>decide (r.1=x))=some (x,l)
 | [],_,h=>nomatch h
 | r::rows,nd,h=>by
  obtain ⟨n1,n2⟩:=A1_.mp nd
  rcases Ax_.mp h with e|h
  ·subst e;rw [List.find?_cons_of_pos (by simp)]
  ·rw [List.find?_cons_of_neg (by simp only [decide_eq_true_eq];exact fun z=>n1 (Ap_.mpr ⟨_,h,z.symm⟩))];exact lU_ n2 h
theorem b3_ {N:Net S}(ok:FS_ N){r:S×List S}(h:r∈N.rows):GW_ N r.1=r.2:=by unfold GW_;rw [lU_ ok.nd (l:=r.2) h];rfl
theorem a5_ (N:Net S):(trn N).length=(pts N).length:=by unfold trn;rw [Ab_]
theorem ha_ {N:Net S}(ok:FS_ N)(po:FH_ N):Tw (trn N):=by
 have e:(trn N).flatten.Perm N.all:=by
  unfold trn Net.all;have h1:((N.rows.map (·.1)).map (GW_ N))=N.rows.map (·.2):=by rw [Bf_];exact Bw_ fun r hr=>b3_ ok hr
  rw [<-h1];exact ef_ ((gT_ ok po).map _)
 intro w hw;rw [e.count_eq];exact ok.two w (e.mem_iff.mp hw)
variable (d0:S)
def phi (N:Net S)(c:Nat×Nat):End S:=((pts N).getD c.1 d0,c.2)
def pid (N:Net S)(x:S):Nat:=(pts N).idxOf x
variable {d0}
theorem hb_ {N:Net S}(ok:FS_ N)(po:FH_ N){a b:Nat×Nat}(ha:a.1<(pts N).length)(hb:b.1<(pts N).length)(h:phi d0 N a=phi d0 N b):a=b:=by have h1:(pts N).getD a.1 d0=(pts N).getD b.1 d0:=congrArg Prod.fst h;have h2:a.2=b.2:=congrArg (fun e:End S=>e.2) h;rw [Ad_,Ad_,Aa_ ha,Aa_ hb] at h1;have:=(A2_ (i:=a.1) (j:=b.1) ha (kN_ ok po)).mp (by rw [Aa_ ha,Aa_ hb];exact congrArg some h1);exact A9_ this h2
theorem kO_ {N:Net S}{x:S}(h:x∈pts N):pid N x<(pts N).length:=List.idxOf_lt_length_of_mem h
theorem kP_ {N:Net S}{x:S}(h:x∈pts N):(pts N)[pid N x]?=some x:=by rw [Aa_ (kO_ h)];exact congrArg some (List.getElem_idxOf (kO_ h))
theorem lV_ {N:Net S}{x:S}(h:x∈pts N)(k:Nat):phi d0 N (pid N x,k)=(x,k):=by unfold phi;rw [Ad_,kP_ h];rfl
theorem pn_ {N:Net S}(ok:FS_ N)(po:FH_ N){p:Nat}{x:S}(h:(pts N)[p]?=some x):pid N x=p:=by have hp:=(Ae_.mp h).1;have hm:=Am_ h;exact (A2_ (kO_ hm) (kN_ ok po)).mp (by rw [kP_ hm,h])
theorem fr_ {N:Net S}(ok:FS_ N)(po:FH_ N){p:Nat}{x:S}(h:(pts N)[p]?=some x):x∈N.posts ↔ p<N.posts.length:=by
 constructor
 ·intro hx;obtain ⟨j,hj,ej⟩:=AB_.mp hx;have e:(pts N)[j]?=some x:=by unfold pts;rw [Al_ hj,Aa_ hj,ej]
  have:=(A2_ (Ae_.mp h).1 (kN_ ok po)).mp (h.trans e.symm);lia
 ·intro hp;unfold pts at h;rw [Al_ hp] at h;exact Am_ h
theorem f1_ {N:Net S}{p:Nat}{x:S}(h:(pts N)[p]?=some x):(trn N).getD p []=GW_ N x:=by unfold trn;rw [Ad_,Ag_,h];rfl
theorem lW_ {x:S×End S}:∀ {rows:List (S×List S)},x∈occ rows ↔ ∃ r∈rows,r.1=x.2.1/\r.2[x.2.2]?=some x.1:=by
 intro rows
 have row:∀ (p:S)(ws:List S)(k:Nat),x∈F6_ p k ws ↔ p=x.2.1/\k<=x.2.2/\ws[x.2.2-k]?=some x.1:=by
  intro p ws
  induction ws with
  | nil=>intro k;simp [F6_]
  | cons w ws ih =>
   intro k;rw [F6_,Ax_,ih];constructor
   ·rintro (e|⟨e1,e2,e3⟩)
    ·subst e;exact ⟨rfl,Aj_ _,by simp⟩
    ·refine ⟨e1,by lia,?_⟩;rw [show x.2.2-k=(x.2.2-(k+1))+1 by lia];exact e3
   ·rintro ⟨e1,e2,e3⟩;by_cases h:x.2.2=k
    ·left;rw [h,Ca_] at e3;have:w=x.1:=Aw_ e3;exact A9_ this.symm (A9_ e1.symm h)
    ·right;refine ⟨e1,by lia,?_⟩;rw [show x.2.2-k=(x.2.2-(k+1))+1 by lia] at e3;exact e3
 unfold occ;rw [BF_];constructor
 ·rintro ⟨l,hl,hx⟩;obtain ⟨r,hr,rfl⟩:=Ap_.mp hl;obtain ⟨e1,_,e3⟩:=(row _ _ _).mp hx;exact ⟨r,hr,e1,e3⟩
 ·rintro ⟨r,hr,e1,e2⟩;exact ⟨_,Ap_.mpr ⟨r,hr,rfl⟩,(row _ _ _).mpr ⟨e1,Ay_ _,e2⟩⟩
theorem n8_ {N:Net S}(ok:FS_ N)(po:FH_ N){c:Nat×Nat}{w:S}(h:wi (trn N) c=some w):(w,phi d0 N c)∈occ N.rows:=by
 obtain ⟨h1,h2⟩:=F7_ h;rw [a5_] at h2;have hx:(pts N)[c.1]?=some (pts N)[c.1]:=Aa_ h2;obtain ⟨r,hr,er⟩:=Ap_.mp ((dB_ po).mp (A3_ h2));have e:(trn N).getD c.1 []=r.2:=by rw [f1_ hx,<-er,b3_ ok hr]
 refine lW_.mpr ⟨r,hr,?_,?_⟩
 ·show r.1=(pts N).getD c.1 d0;rw [Ad_,hx,er];rfl
 ·unfold wi at h;rw [e] at h;exact h
theorem lX_ {N:Net S}(ok:FS_ N)(po:FH_ N){a b:Nat×Nat}(m:G3_ (trn N) a b):∃ kv∈Gl_ N,kv.2=[phi d0 N a,phi d0 N b]\/kv.2=[phi d0 N b,phi d0 N a]:=by
 obtain ⟨ne,w,wa,wb⟩:=m;have ha:=n8_ (d0:=d0) ok po wa;have hb:=n8_ (d0:=d0) ok po wb;obtain ⟨_,h2,h3,_⟩:=bV_ _ (occ N.rows) rfl;obtain ⟨kv,hkv,ekv⟩:=h3 _ ha;have ekv':kv.1=w:=ekv;have ma:phi d0 N a∈kv.2:=by rw [h2 kv hkv];exact Ap_.mpr ⟨_,BB_.mpr ⟨ha,by simp [ekv']⟩,rfl⟩
 have mb:phi d0 N b∈kv.2:=by rw [h2 kv hkv];exact Ap_.mpr ⟨_,BB_.mpr ⟨hb,by simp [ekv']⟩,rfl⟩
 have la:=(F7_ wa).2;have lb:=(F7_ wb).2;rw [a5_] at la lb;have pne:phi d0 N a≠phi d0 N b:=fun z=>ne (hb_ ok po la lb z);obtain ⟨x,y,exy⟩:=ik_ ok hkv;rw [exy] at ma mb;refine ⟨kv,hkv,?_⟩;rw [exy];simp only [Ax_,AO_,Dp_] at ma mb
 rcases ma with ma|ma <;> rcases mb with mb|mb
 ·exact absurd (ma.trans mb.symm) pne
 ·exact .inl (by rw [ma,mb])
 ·exact .inr (by rw [ma,mb])
 ·exact absurd (ma.trans mb.symm) pne
def HL_ (N:Net S):List (Nat×Nat):=N.rows.flatMap fun r=>(List.range (r.2.length+if r.1∈N.posts then 1 else 0)).map fun k=>(pid N r.1,k)
theorem Lq_ {N:Net S}(ok:FS_ N)(po:FH_ N){r:S×List S}(hr:r∈N.rows){k:Nat}(hk:k<r.2.length+if r.1∈N.posts then 1 else 0):IsC (trn N) N.posts.length (pid N r.1,k):=by
 have hm:r.1∈pts N:=(dB_ po).mpr (Ap_.mpr ⟨r,hr,rfl⟩);have e:=kP_ hm;refine ⟨by rw [a5_];exact kO_ hm,?_⟩;show k<rl (trn N) (pid N r.1)+if pid N r.1<N.posts.length then 1 else 0;unfold rl;rw [f1_ e,b3_ ok hr];by_cases h:r.1∈N.posts
 ·rw [if_pos ((fr_ ok po e).mp h)];rw [if_pos h] at hk;exact hk
 ·rw [if_neg (fun z=>h ((fr_ ok po e).mpr z))];rw [if_neg h] at hk;exact hk
theorem gU_ {N:Net S}(ok:FS_ N)(po:FH_ N){c:Nat×Nat}:c∈HL_ N ↔ IsC (trn N) N.posts.length c:=by
 unfold HL_;rw [List.mem_flatMap];constructor
 ·rintro ⟨r,hr,hc⟩;obtain ⟨k,hk,rfl⟩:=Ap_.mp hc;exact Lq_ ok po hr (AX_.mp hk)
 ·rintro ⟨h1,h2⟩;rw [a5_] at h1;have hx:(pts N)[c.1]?=some (pts N)[c.1]:=Aa_ h1;obtain ⟨r,hr,er⟩:=Ap_.mp ((dB_ po).mp (A3_ h1));refine ⟨r,hr,Ap_.mpr ⟨c.2,AX_.mpr ?_,?_⟩⟩
  ·unfold rl at h2;rw [f1_ hx,<-er,b3_ ok hr] at h2;by_cases hp:r.1∈N.posts
   ·rw [if_pos hp];rw [er] at hp;rw [if_pos ((fr_ ok po hx).mp hp)] at h2;exact h2
   ·rw [if_neg hp];rw [er] at hp;rw [if_neg (fun z=>hp ((fr_ ok po hx).mpr z))] at h2;exact h2
  ·rw [er,pn_ ok po hx]
theorem nl_ {N:Net S}(po:FH_ N):(HL_ N).map (phi d0 N)=(N.rows.map fun r=>(List.range (r.2.length+if r.1∈N.posts then 1 else 0)).map fun k=>(r.1,k)).flatten:=by unfold HL_;rw [List.flatMap_def,D1_,Bf_];congr 1;apply Bw_;intro r hr;show (List.map _ _).map _=_;rw [Bf_];apply Bw_;intro k _;exact lV_ ((dB_ po).mpr (Ap_.mpr ⟨r,hr,rfl⟩)) k
end
end RimT
namespace RimT
abbrev Sd:=(Nat×Nat)×Bool
def tn (s:Sd):Sd:=(s.1,!s.2)
theorem GZ_ (s:Sd):tn (tn s)=s:=by unfold tn;simp
theorem Lu_ (s:Sd):tn s≠s:=fun h=>by have:=congrArg Prod.snd h;unfold tn at this;cases s.2 <;> simp_all
theorem hZ_ {a b:Sd}(h:a.1=b.1):a=b\/a=tn b:=by obtain ⟨c,x⟩:=a;obtain ⟨d,y⟩:=b;cases (show c=d from h);unfold tn;cases x <;> cases y <;> simp
structure Go (G:Sd->Sd->Prop):Prop where
 one:∀ {a b c},G a b->G a c->b=c
 rev:∀ {a b},G a b->G (tn b) (tn a)
 no:∀ {a},¬ G a (tn a)
theorem Go.inj {G:Sd->Sd->Prop}(g:Go G){a b c:Sd}(h1:G a c)(h2:G b c):a=b:=by have:=g.one (g.rev h1) (g.rev h2);rw [<-GZ_ a,this,GZ_]
def Pa (G:Sd->Sd->Prop)(l:List Sd):Prop:=∀ (i:Nat)(a b:Sd),l[i]?=some a->l[i+1]?=some b->G a b
theorem Pa.no_turn {G:Sd->Sd->Prop}(g:Go G){l:List Sd}(p:Pa G l):∀ (n i:Nat)(a b:Sd),l[i]?=some a->l[i+n]?=some b->a≠tn b
 | 0,i,a,b,ha,hb,e=>by
  rw [Nat.add_zero,ha] at hb;cases hb;exact Lu_ a e.symm
 | 1,i,a,b,ha,hb,e=>by
  have h:=p i a b ha hb;have e':b=tn a:=by rw [e,GZ_]
  rw [e'] at h;exact g.no h
 | n+2,i,a,b,ha,hb,e=>by have l1:=(Ae_.mp hb).1;obtain ⟨a',ha'⟩:∃ a',l[i+1]?=some a':=⟨l[i+1],Aa_ (by lia)⟩;obtain ⟨b',hb'⟩:∃ b',l[i+n+1]?=some b':=⟨l[i+n+1],Aa_ (by lia)⟩;have h1:=p i a a' ha ha';have h2:=g.rev (p (i+n+1) b' b hb' hb);rw [<-e] at h2;have e2:=g.one h1 h2;exact Pa.no_turn g p n (i+1) a' b' ha' (by rw [show i+1+n=i+n+1 by lia];exact hb') e2
theorem Pa.nodup {G:Sd->Sd->Prop}(g:Go G){l:List Sd}(p:Pa G l){s:Sd}(h0:l[0]?=some s)(hs:∀ j b,0<j->l[j]?=some b->b≠s):l.Nodup:=by
 rw [CL_,Bv_]
 have key:∀ (i j:Nat)(a:Sd),i<j->l[i]?=some a->l[j]?=some a->False:=by
  intro i
  induction i with
  | zero =>
   intro j a hij h1 h2;rw [h0] at h1;cases h1;exact hs j _ hij h2 rfl
  | succ i ih =>intro j a hij h1 h2;obtain ⟨j,rfl⟩:∃ k,j=k+1:=⟨j-1,by lia⟩;have l1:=(Ae_.mp h1).1;have l2:=(Ae_.mp h2).1;obtain ⟨x,hx⟩:∃ x,l[i]?=some x:=⟨l[i],Aa_ (by lia)⟩;obtain ⟨y,hy⟩:∃ y,l[j]?=some y:=⟨l[j],Aa_ (by lia)⟩;have e:=g.inj (p i x a hx h1) (p j y a hy h2);subst e;exact ih j x (by lia) hx hy
 intro i j hi hj hij e;exact key i j l[i] hij (Aa_ hi) (by rw [Aa_ hj,e])
theorem Pa.corners {G:Sd->Sd->Prop}(g:Go G){l:List Sd}(p:Pa G l)(nd:l.Nodup):(l.map (·.1)).Nodup:=by
 rw [CL_,Bq_,Bv_];rw [CL_,Bv_] at nd;intro i j hi hj hij e
 rcases hZ_ e with e|e
 ·exact nd i j hi hj hij e
 ·exact p.no_turn g (j-i) i _ _ (Aa_ hi) (by rw [show i+(j-i)=j by lia];exact Aa_ hj) e
theorem Pa.back {G:Sd->Sd->Prop}(g:Go G){l:List Sd}(p:Pa G l):Pa G (l.reverse.map tn):=by intro i a b ha hb;have l1:=(Ae_.mp hb).1;rw [Ab_,Ba_] at l1;rw [Ag_,Cd_ (by lia)] at ha hb;obtain ⟨x,hx,rfl⟩:=AT_.mp ha;obtain ⟨y,hy,rfl⟩:=AT_.mp hb;refine g.rev (p (l.length-1-(i+1)) y x hy ?_);rw [show l.length-1-(i+1)+1=l.length-1-i by lia];exact hx
theorem Pa.same {G:Sd->Sd->Prop}(g:Go G){l m:List Sd}(p:Pa G l)(q:Pa G m)(h:l[0]?=m[0]?):∀ i,i<l.length->i<m.length->l[i]?=m[i]?
 | 0,_,_=>h
 | i+1,h1,h2=>by have ih:=Pa.same g p q h i (by lia) (by lia);have e1:l[i+1]?=some l[i+1]:=Aa_ h1;have e2:m[i+1]?=some m[i+1]:=Aa_ h2;have e3:l[i]?=some l[i]:=Aa_ (by lia);have:=g.one (p i _ _ e3 e1) (q i _ _ (ih ▸ e3) e2);rw [e1,e2,this]
section
variable {α:Type}[DecidableEq α]
def beh (T:List (List α))(P:Nat)(e:Nat×Nat):Nat×Nat:=if P<=e.1/\e.2+1=rl T e.1 then (e.1,0) else (e.1,e.2+1)
theorem e0_ (T:List (List α))(P:Nat)(e:Nat×Nat):(beh T P e).1=e.1:=by unfold beh;split <;> rfl
theorem hc_ {T:List (List α)}{P:Nat}{a b:Nat×Nat}(ha:a.2<rl T a.1)(hb:b.2<rl T b.1)(h:beh T P a=beh T P b):a=b:=by
 have e1:a.1=b.1:=by rw [<-e0_ T P a,h,e0_]
 obtain ⟨p,k⟩:=a;obtain ⟨q,j⟩:=b;cases (show p=q from e1);have e2:=congrArg Prod.snd h;unfold beh at e2
 dsimp only at ha hb e2 ⊢
 congr 1;by_cases c1:P<=p/\k+1=rl T p
 ·rw [if_pos c1] at e2;by_cases c2:P<=p/\j+1=rl T p
  ·lia
  ·rw [if_neg c2] at e2
   dsimp only at e2
   lia
 ·rw [if_neg c1] at e2;by_cases c2:P<=p/\j+1=rl T p
  ·rw [if_pos c2] at e2
   dsimp only at e2
   lia
  ·rw [if_neg c2] at e2
   dsimp only at e2
   lia
theorem KH_ {T:List (List α)}{P:Nat}{e:Nat×Nat}{w:α}(h:wi T e=some w):IsC T P (beh T P e):=by
 obtain ⟨h1,h2⟩:=F7_ h;refine ⟨by rw [e0_];exact h2,?_⟩;rw [e0_];unfold beh;split
 ·show 0<_;lia
 ·rename_i c;show e.2+1<_;split
  ·lia
  ·have:¬ e.2+1=rl T e.1:=fun z=>c ⟨by lia,z⟩;lia
def Gg (T:List (List α))(P:Nat)(a b:Sd):Prop:=∃ e f,G3_ T e f/\((a=(e,true)/\b=(f,false))\/(a=(beh T P e,false)/\b=(beh T P f,true)))
theorem G3_.lt {T:List (List α)}{a b:Nat×Nat}(h:G3_ T a b):a.2<rl T a.1/\b.2<rl T b.1:=let ⟨_,w,h1,h2⟩:=h;⟨(F7_ h1).1,(F7_ h2).1⟩
theorem Gh_ {T:List (List α)}{P:Nat}(tw:Tw T):Go (Gg T P) where
 one:=by
  rintro a b c ⟨e,f,m,h⟩ ⟨e',f',m',h'⟩
  rcases h with ⟨rfl,rfl⟩|⟨rfl,rfl⟩ <;> rcases h' with ⟨h1,rfl⟩|⟨h1,rfl⟩
  ·cases h1;rw [dz_ tw m m']
  ·cases h1
  ·cases h1
  ·have:=hc_ m.lt.1 m'.lt.1 (congrArg Prod.fst h1);subst this;rw [dz_ tw m m']
 rev:=by
  rintro a b ⟨e,f,m,h⟩
  rcases h with ⟨rfl,rfl⟩|⟨rfl,rfl⟩
  ·exact ⟨f,e,m.symm,.inl ⟨rfl,rfl⟩⟩
  ·exact ⟨f,e,m.symm,.inr ⟨rfl,rfl⟩⟩
 no:=by
  rintro a ⟨e,f,m,h⟩
  rcases h with ⟨rfl,h⟩|⟨rfl,h⟩
  ·exact m.1 (congrArg Prod.fst h)
  ·exact m.1 (hc_ m.lt.1 m.lt.2 (congrArg Prod.fst h))
def wr (T:List (List α))(P:Nat)(s:Sd):Option α :=
 if s.2=true then wi T s.1 else if s.1.2=0 then (if P<=s.1.1 then wi T (s.1.1,rl T s.1.1-1) else none) else wi T (s.1.1,s.1.2-1)
theorem kQ_ {T:List (List α)}{P:Nat}{e:Nat×Nat}(h:e.2<rl T e.1):wr T P (beh T P e,false)=wi T e:=by
 unfold wr;rw [if_neg (by simp),e0_];unfold beh;by_cases c:P<=e.1/\e.2+1=rl T e.1
 ·rw [if_pos c]
  dsimp only
  rw [if_pos rfl,if_pos c.1,show rl T e.1-1=e.2 by lia]
 ·rw [if_neg c]
  dsimp only
  rw [if_neg (by lia),show e.2+1-1=e.2 by lia]
theorem Jo_ {T:List (List α)}{P:Nat}{a b:Sd}(h:Gg T P a b):∃ w,wr T P a=some w/\wr T P (tn b)=some w:=by
 obtain ⟨e,f,m,h⟩:=h;obtain ⟨ne,w,h1,h2⟩:=m
 rcases h with ⟨rfl,rfl⟩|⟨rfl,rfl⟩
 ·exact ⟨w,h1,h2⟩
 ·refine ⟨w,by rw [kQ_ (F7_ h1).1];exact h1,?_⟩;show wr T P (beh T P f,false)=some w;rw [kQ_ (F7_ h2).1];exact h2
theorem n9_ {T:List (List α)}{P:Nat}{s:Sd}{w:α}(hc:IsC T P s.1)(h:wr T P s=some w):∃ e,wi T e=some w/\(s=(e,true)\/(s=(beh T P e,false))):=by
 obtain ⟨c,b⟩:=s;cases b with
 | true=>exact ⟨c,h,.inl rfl⟩
 | false =>
  unfold wr at h;rw [if_neg (by simp)] at h
  dsimp only at h
  by_cases c0:c.2=0
  ·rw [if_pos c0] at h;by_cases cP:P<=c.1
   ·rw [if_pos cP] at h;refine ⟨_,h,.inr ?_⟩;have:=(F7_ h).1;unfold beh
    dsimp only at this ⊢
    rw [if_pos ⟨cP,by lia⟩,<-c0]
   ·rw [if_neg cP] at h;cases h
  ·rw [if_neg c0] at h;refine ⟨_,h,.inr ?_⟩;have h1:=(F7_ h).1;have h2:=hc.2;unfold beh
   dsimp only at h1 h2 ⊢
   rw [if_neg (fun z=>by have:=z.2;rw [if_neg (by lia)] at h2;lia),show c.2-1+1=c.2 by lia]
theorem lY_ {T:List (List α)}{P:Nat}(tw:Tw T){s:Sd}{w:α}(hc:IsC T P s.1)(h:wr T P s=some w):∃ b,Gg T P s b:=by
 obtain ⟨e,he,h⟩:=n9_ hc h;obtain ⟨f,m⟩:=ig_ tw he
 rcases h with rfl|rfl
 ·exact ⟨_,e,f,m,.inl ⟨rfl,rfl⟩⟩
 ·exact ⟨_,e,f,m,.inr ⟨rfl,rfl⟩⟩
theorem e1_ {T:List (List α)}{P:Nat}{s b:Sd}(h:wr T P s=none):¬ Gg T P s b:=fun g=>by obtain ⟨w,h1,_⟩:=Jo_ g;rw [h] at h1;cases h1
theorem gg_c {T:List (List α)}{P:Nat}{a b:Sd}(h:Gg T P a b):IsC T P b.1:=by
 obtain ⟨e,f,m,h⟩:=h;obtain ⟨ne,w,h1,h2⟩:=m
 rcases h with ⟨_,rfl⟩|⟨_,rfl⟩
 ·have:=F7_ h2;exact ⟨this.2,AI_ this.1 (Bh_ _ _)⟩
 ·exact KH_ h2
def stt (T:List (List α))(pl:Nat):Sd:=if pl%2=0 then ((pl/2,rl T (pl/2)),false) else ((pl/2,0),true)
theorem H1_ {T:List (List α)}{P:Nat}(hPT:P<=T.length){pl:Nat}(h:pl<2*P):IsC T P (stt T pl).1:=by
 have h2:pl/2<P:=by lia
 unfold stt;split
 ·exact ⟨by show pl/2<_;lia,by show rl T (pl/2)<rl T (pl/2)+_;rw [if_pos h2];lia⟩
 ·exact ⟨by show pl/2<_;lia,by show 0<rl T (pl/2)+_;rw [if_pos h2];lia⟩
theorem bx_ {T:List (List α)}{P:Nat}{pl:Nat}(h:pl<2*P):wr T P (tn (stt T pl))=none:=by
 have h2:pl/2<P:=by lia
 unfold stt;split
 ·show wi T (pl/2,rl T (pl/2))=none;exact Be_ (Aj_ _)
 ·show wr T P ((pl/2,0),false)=none;unfold wr;rw [if_neg (by simp)]
  dsimp only
  rw [if_pos rfl,if_neg (by lia)]
theorem il_ {T:List (List α)}{a b:Nat}(h:stt T a=stt T b):a=b:=by
 unfold stt at h;by_cases ca:a%2=0
 ·by_cases cb:b%2=0
  ·rw [if_pos ca,if_pos cb] at h;have:=congrArg (fun s:Sd=>s.1.1) h
   dsimp only at this
   lia
  ·rw [if_pos ca,if_neg cb] at h;have:=congrArg Prod.snd h;cases this
 ·by_cases cb:b%2=0
  ·rw [if_neg ca,if_pos cb] at h;have:=congrArg Prod.snd h;cases this
  ·rw [if_neg ca,if_neg cb] at h;have:=congrArg (fun s:Sd=>s.1.1) h
   dsimp only at this
   lia
theorem kR_ {T:List (List α)}{P:Nat}{s:Sd}(hc:IsC T P s.1)(h:wr T P s=none):∃ pl,pl<2*P/\tn s=stt T pl:=by
 obtain ⟨⟨p,k⟩,b⟩:=s;obtain ⟨h1,h2⟩:=hc
 dsimp only at h1 h2
 have hp:p<P:=by
  refine Cy_.mp fun z=>?_;rw [if_neg z] at h2;cases b with
  | true =>
   have:wi T (p,k)=none:=h;obtain ⟨w,hw⟩:=cw_ (T:=T) (e:=(p,k)) (by dsimp only;lia);rw [this] at hw;cases hw
  | false =>
   unfold wr at h;rw [if_neg (by simp)] at h
   dsimp only at h
   by_cases k0:k=0
   ·rw [if_pos k0,if_pos (by lia)] at h;obtain ⟨w,hw⟩:=cw_ (T:=T) (e:=(p,rl T p-1)) (by dsimp only;lia);rw [h] at hw;cases hw
   ·rw [if_neg k0] at h;obtain ⟨w,hw⟩:=cw_ (T:=T) (e:=(p,k-1)) (by dsimp only;lia);rw [h] at hw;cases hw
 rw [if_pos hp] at h2;cases b with
 | true =>
  have hk:k=rl T p:=by refine Cy_.mp fun z=>?_;obtain ⟨w,hw⟩:=cw_ (T:=T) (e:=(p,k)) (by dsimp only;lia);rw [show wi T (p,k)=none from h] at hw;cases hw
  refine ⟨2*p,by lia,?_⟩;unfold stt tn;rw [if_pos (by lia),show 2*p/2=p by lia,hk];rfl
 | false =>
  have hk:k=0:=by
   refine Cy_.mp fun z=>?_;unfold wr at h;rw [if_neg (by simp)] at h
   dsimp only at h
   rw [if_neg z] at h;obtain ⟨w,hw⟩:=cw_ (T:=T) (e:=(p,k-1)) (by dsimp only;lia);rw [h] at hw;cases hw
  refine ⟨2*p+1,by lia,?_⟩;unfold stt tn;rw [if_neg (by lia),show (2*p+1)/2=p by lia,hk];rfl
end
end RimT
namespace RimT
section
variable {α:Type}[DecidableEq α]{T:List (List α)}{P:Nat}
structure Ln (T:List (List α))(P:Nat)(s:Sd)(l:List Sd):Prop where
 pa:Pa (Gg T P) l
 hd:l[0]?=some s
 ed:∀ x,l.getLast?=some x->wr T P x=none
theorem Ln.ne {s:Sd}{l:List Sd}(h:Ln T P s l):l≠[]:=fun e=>by have:=h.hd;rw [e] at this;cases this
theorem Ln.last {s:Sd}{l:List Sd}(h:Ln T P s l):∃ x,l.getLast?=some x/\l[l.length-1]?=some x:=by have:=h.ne;have hl:=Bx_.mpr this;exact ⟨l[l.length-1],by rw [Bg_,Aa_ (by lia)],Aa_ (by lia)⟩
theorem Ln.le {s:Sd}{l m:List Sd}(tw:Tw T)(h:Ln T P s l)(k:Ln T P s m):m.length<=l.length:=by refine B7_.mp fun z=>?_;obtain ⟨x,hx,hx'⟩:=h.last;have hl:=Bx_.mpr h.ne;have e:=h.pa.same (Gh_ tw) k.pa (by rw [h.hd,k.hd]) (l.length-1) (by lia) (by lia);rw [hx'] at e;have:=k.pa (l.length-1) x m[l.length-1+1] e.symm (Aa_ (by lia));exact e1_ (h.ed x hx) this
theorem Ln.one {s:Sd}{l m:List Sd}(tw:Tw T)(h:Ln T P s l)(k:Ln T P s m):l=m:=by
 have hl:l.length=m.length:=Nat.le_antisymm (k.le tw h) (h.le tw k);refine List.ext_getElem? fun i=>?_;by_cases c:i<l.length
 ·exact h.pa.same (Gh_ tw) k.pa (by rw [h.hd,k.hd]) i c (by lia)
 ·rw [Be_ (by lia),Be_ (by lia)]
theorem Pa.allC {l:List Sd}(p:Pa (Gg T P) l){s:Sd}(h0:l[0]?=some s)(hc:IsC T P s.1):∀ x∈l,IsC T P x.1:=fun x hx=>by
 obtain ⟨i,hi⟩:=AS_.mp hx;cases i with
 | zero=>rw [h0] at hi;cases hi;exact hc
 | succ i =>have l1:=(Ae_.mp hi).1;exact gg_c (p i l[i] x (Aa_ (by lia)) hi)
theorem Pa.nd_first (tw:Tw T){l:List Sd}(p:Pa (Gg T P) l){s:Sd}(h0:l[0]?=some s)(hs:wr T P (tn s)=none):l.Nodup:=by refine p.nodup (Gh_ tw) h0 fun j b hj hb e=>?_;subst e;obtain ⟨j,rfl⟩:∃ k,j=k+1:=⟨j-1,by lia⟩;have l1:=(Ae_.mp hb).1;exact e1_ hs ((Gh_ tw).rev (p j l[j] b (Aa_ (by lia)) hb))
theorem Pa.short (tw:Tw T){l:List Sd}(p:Pa (Gg T P) l){s:Sd}(h0:l[0]?=some s)(hc:IsC T P s.1)(nd:l.Nodup):l.length<=(RimT.corners T P).length:=by
 have:=bJ_ (p.corners (Gh_ tw) nd) (m:=RimT.corners T P) fun c hcm=>by obtain ⟨x,hx,rfl⟩:=Ap_.mp hcm;exact bp_.mpr (p.allC h0 hc x hx)
 rwa [Ab_] at this
theorem Ln.back (tw:Tw T){s x:Sd}{l:List Sd}(h:Ln T P s l)(hs:wr T P (tn s)=none)(hx:l.getLast?=some x):Ln T P (tn x) (l.reverse.map tn):=by
 refine ⟨h.pa.back (Gh_ tw),?_,fun y hy=>?_⟩
 ·have:=Bx_.mpr h.ne;rw [Ag_,Cd_ (by lia),Nat.sub_zero,<-Bg_,hx];rfl
 ·rw [List.getLast?_map,EK_] at hy;have e:l.head?=some s:=by rw [Ez_];exact h.hd
  rw [e] at hy;cases hy;exact hs
def wiL (T:List (List α))(P:Nat)(l:List Sd):List α:=l.filterMap (wr T P)
end
end RimT
namespace RimT
section
variable {α:Type}[DecidableEq α]{T:List (List α)}{P:Nat}
end
end RimT
namespace RimT
section
variable {α:Type}[DecidableEq α]{T:List (List α)}{P:Nat}
def cs (l:List Sd):List (Nat×Nat):=l.map (·.1)
def HI_ (T:List (List α))(P:Nat)(S:List (Nat×Nat)):Prop:=∀ a b,Gg T P a b->b.1∈S->a.1∈S
theorem HI_.app {S S':List (Nat×Nat)}(h:HI_ T P S)(h':HI_ T P S'):HI_ T P (S++S'):=fun a b g hb=>by
 rcases An_.mp hb with hb|hb
 ·exact An_.mpr (.inl (h a b g hb))
 ·exact An_.mpr (.inr (h' a b g hb))
theorem HI_.apart {S:List (Nat×Nat)}(h:HI_ T P S){l:List Sd}{s:Sd}(p:Pa (Gg T P) l)(h0:l[0]?=some s)(hs:s.1∉S):∀ (k:Nat)(x:Sd),l[k]?=some x->x.1∉S
 | 0,x,hx=>by rw [h0] at hx;cases hx;exact hs
 | k+1,x,hx=>fun hm=>by have l1:=(Ae_.mp hx).1;have e:l[k]?=some l[k]:=Aa_ (by lia);exact HI_.apart h p h0 hs k _ e (h _ _ (p k _ x e hx) hm)
theorem a0_ {l:List Sd}{c:Nat×Nat}:c∈cs l ↔ ∃ x∈l,x.1=c:=Ap_
theorem lZ_ (tw:Tw T){l:List Sd}(p:Pa (Gg T P) l)(hf:∀ s a,l[0]?=some s->Gg T P a s->a∈l)(he:∀ x b,l.getLast?=some x->Gg T P x b->b∈l):HI_ T P (cs l):=fun a b g hb=>by
 have go:=Gh_ (P:=P) tw;obtain ⟨y,hy,ey⟩:=a0_.mp hb;obtain ⟨k,hk⟩:=AS_.mp hy;have l1:=(Ae_.mp hk).1
 rcases hZ_ ey with rfl|rfl
 ·cases k with
  | zero=>exact a0_.mpr ⟨a,hf y a hk g,rfl⟩
  | succ k =>have e:l[k]?=some l[k]:=Aa_ (by lia);rw [go.inj g (p k _ y e hk)];exact a0_.mpr ⟨_,Am_ e,rfl⟩
 ·have g':=go.rev g;by_cases c:k+1<l.length
  ·have e:l[k+1]?=some l[k+1]:=Aa_ c;have:=go.one g' (p k _ _ hk e);exact a0_.mpr ⟨_,Am_ e,by rw [<-this];rfl⟩
  ·have e:l.getLast?=some (tn b):=by rw [Bg_,show l.length-1=k by lia];exact hk
   exact a0_.mpr ⟨tn a,he _ _ e g',rfl⟩
theorem Ln.shut (tw:Tw T){s:Sd}{l:List Sd}(h:Ln T P s l)(hs:wr T P (tn s)=none):HI_ T P (cs l):=lZ_ tw h.pa (fun s' a h0 g=>by rw [h.hd] at h0;cases h0;exact absurd ((Gh_ tw).rev g) (e1_ hs)) fun x b hx g=>absurd g (e1_ (h.ed x hx))
theorem l0_ (tw:Tw T){s x:Sd}{l:List Sd}(p:Pa (Gg T P) l)(h0:l[0]?=some s)(hx:l.getLast?=some x)(g:Gg T P x s):HI_ T P (cs l):=lZ_ tw p (fun s' a h0' g'=>by
 rw [h0] at h0';cases h0';rw [(Gh_ tw).inj g' g];exact BI_ hx) fun x' b hx' g'=>by
 rw [hx] at hx';cases hx';rw [(Gh_ tw).one g' g];exact Am_ h0
structure LnP (T:List (List α))(P p:Nat)(l:List Sd)(j:Nat):Prop where
 ln:Ln T P (stt T p) l
 jl:j<2*P
 ed:∃ x,l.getLast?=some x/\tn x=stt T j
theorem LnP.one (tw:Tw T){p j j':Nat}{l l':List Sd}(h:LnP T P p l j)(h':LnP T P p l' j'):l=l'/\j=j':=by have e:=h.ln.one tw h'.ln;subst e;obtain ⟨x,h1,h2⟩:=h.ed;obtain ⟨y,h3,h4⟩:=h'.ed;rw [h1] at h3;cases h3;exact ⟨rfl,il_ (h2.symm.trans h4)⟩
theorem LnP.back (tw:Tw T){p j:Nat}{l:List Sd}(hp:p<2*P)(h:LnP T P p l j):LnP T P j (l.reverse.map tn) p:=by
 obtain ⟨x,h1,h2⟩:=h.ed;have b:=h.ln.back tw (bx_ hp) h1;rw [h2] at b;refine ⟨b,hp,tn (stt T p),?_,GZ_ _⟩;have e:l.head?=some (stt T p):=by rw [Ez_];exact h.ln.hd
 rw [List.getLast?_map,EK_,e];rfl
theorem LnP.ne (tw:Tw T){p j:Nat}{l:List Sd}(h:LnP T P p l j):j≠p:=fun e=>by obtain ⟨x,h1,h2⟩:=h.ed;subst e;have hl:=Bx_.mpr h.ln.ne;rw [Bg_] at h1;exact h.ln.pa.no_turn (Gh_ tw) (l.length-1) 0 _ _ h.ln.hd (by rw [D0_];exact h1) h2.symm
theorem LnP.hits (tw:Tw T){p j i:Nat}{l:List Sd}(hi:i<2*P)(h:LnP T P p l j)(hm:(stt T i).1∈cs l):i=p\/i=j:=by
 obtain ⟨y,hy,ey⟩:=a0_.mp hm;obtain ⟨k,hk⟩:=AS_.mp hy;have l1:=(Ae_.mp hk).1;have sf:=bx_ (T:=T) hi
 rcases hZ_ ey with rfl|e
 ·cases k with
  | zero =>
   have:=h.ln.hd;rw [hk] at this;exact .inl (il_ (Aw_ this))
  | succ k =>have e:l[k]?=some l[k]:=Aa_ (by lia);exact absurd ((Gh_ tw).rev (h.ln.pa k _ _ e hk)) (e1_ sf)
 ·by_cases c:k+1<l.length
  ·have e':l[k+1]?=some l[k+1]:=Aa_ c;have:=h.ln.pa k _ _ hk e';rw [e] at this;exact absurd this (e1_ sf)
  ·obtain ⟨x,h1,h2⟩:=h.ed;rw [Bg_,show l.length-1=k by lia,hk] at h1;cases h1;rw [e,GZ_] at h2;exact .inr (il_ h2)
theorem LnP.first {p j:Nat}{l:List Sd}(h:LnP T P p l j):(stt T p).1∈cs l:=a0_.mpr ⟨_,Am_ h.ln.hd,rfl⟩
theorem LnP.last {p j:Nat}{l:List Sd}(h:LnP T P p l j):(stt T j).1∈cs l:=by obtain ⟨x,h1,h2⟩:=h.ed;exact a0_.mpr ⟨x,BI_ h1,by rw [<-h2];rfl⟩
def OpL (T:List (List α))(P:Nat):Nat->List (Nat×Nat×List Sd)->Prop
 | 0,O=>O=[]
 | i+1,O=>∃ O' l j,OpL T P i O'/\LnP T P i l j/\O=if i<j then O'++[(i,j,l)] else O'
theorem OpL.one (tw:Tw T):∀ {i:Nat}{O O':List (Nat×Nat×List Sd)},OpL T P i O->OpL T P i O'->O=O'
 | 0,_,_,h,h'=>h.trans h'.symm
 | i+1,_,_,⟨A,l,j,h1,h2,h3⟩,⟨A',l',j',h1',h2',h3'⟩=>by obtain ⟨rfl,rfl⟩:=h2.one tw h2';rw [h3,h3',OpL.one tw h1 h1']
theorem OpL.in_:∀ {i:Nat}{O:List (Nat×Nat×List Sd)},OpL T P i O->∀ t∈O,t.1<i/\t.1<t.2.1/\LnP T P t.1 t.2.2 t.2.1
 | 0,_,h,t,ht=>by rw [h] at ht;cases ht
 | i+1,_,⟨A,l,j,h1,h2,h3⟩,t,ht=>by
  rw [h3] at ht;have old:t∈A->_:=fun hA=>let z:=OpL.in_ h1 t hA;(⟨by lia,z.2⟩:t.1<i+1/\t.1<t.2.1/\LnP T P t.1 t.2.2 t.2.1);by_cases c:i<j
  ·rw [if_pos c] at ht
   rcases An_.mp ht with ht|ht
   ·exact old ht
   ·rw [Ak_.mp ht];exact ⟨C4_ _,c,h2⟩
  ·rw [if_neg c] at ht;exact old ht
theorem OpL.all:∀ {i:Nat}{O:List (Nat×Nat×List Sd)},OpL T P i O->∀ p,p<i->∃ l j,LnP T P p l j/\(p<j->(p,j,l)∈O)
 | 0,_,h,p,hp=>absurd hp (Bm_ _)
 | i+1,_,⟨A,l,j,h1,h2,h3⟩,p,hp=>by
  by_cases e:p=i
  ·subst e;exact ⟨l,j,h2,fun c=>by rw [h3,if_pos c];exact An_.mpr (.inr (Ak_.mpr rfl))⟩
  ·obtain ⟨l',j',z1,z2⟩:=OpL.all h1 p (by lia);refine ⟨l',j',z1,fun c=>?_⟩;rw [h3];split
   ·exact An_.mpr (.inl (z2 c))
   ·exact z2 c
def csO (O:List (Nat×Nat×List Sd)):List (Nat×Nat):=(O.map fun t=>cs t.2.2).flatten
theorem hd_ {O:List (Nat×Nat×List Sd)}{c:Nat×Nat}:c∈csO O ↔ ∃ t∈O,c∈cs t.2.2:=by
 unfold csO;rw [BF_];constructor
 ·rintro ⟨x,hx,hc⟩;obtain ⟨t,ht,rfl⟩:=Ap_.mp hx;exact ⟨t,ht,hc⟩
 ·rintro ⟨t,ht,hc⟩;exact ⟨_,Ap_.mpr ⟨t,ht,rfl⟩,hc⟩
theorem OpL.passed (tw:Tw T){i:Nat}{O:List (Nat×Nat×List Sd)}(hi:i<2*P)(h:OpL T P i O){l:List Sd}{j:Nat}(hl:LnP T P i l j):(stt T i).1∈csO O ↔ ¬ i<j:=by
 rw [hd_];constructor
 ·rintro ⟨t,ht,hc⟩;obtain ⟨h1,h2,h3⟩:=h.in_ t ht
  rcases h3.hits tw hi hc with e|e
  ·lia
  ·have b:=h3.back tw (by lia);rw [<-e] at b;have:=(hl.one tw b).2;lia
 ·intro c;have:=hl.ne tw;obtain ⟨l',j',h1,h2⟩:=h.all j (by lia);have b:=hl.back tw hi;have e:=(h1.one tw b).2;subst e;exact ⟨_,h2 (by lia),h1.last⟩
theorem OpL.put (tw:Tw T){i:Nat}{O:List (Nat×Nat×List Sd)}(hi:i<2*P)(h:OpL T P i O){l:List Sd}{j:Nat}(hl:LnP T P i l j)(hn:(stt T i).1∉csO O):OpL T P (i+1) (O++[(i,j,l)]):=⟨O,l,j,h,hl,by rw [if_pos (Cy_.mp fun z=>hn ((h.passed tw hi hl).mpr z))]⟩
theorem OpL.skip (tw:Tw T){i:Nat}{O:List (Nat×Nat×List Sd)}(hi:i<2*P)(h:OpL T P i O){l:List Sd}{j:Nat}(hl:LnP T P i l j)(hn:(stt T i).1∈csO O):OpL T P (i+1) O:=⟨O,l,j,h,hl,by rw [if_neg ((h.passed tw hi hl).mp hn)]⟩
end
end RimT
namespace RimT
def Rt {α:Type}(a b:List α):Prop:=∃ x y,a=x++y/\b=y++x
theorem Rt.symm {α:Type}{a b:List α}(h:Rt a b):Rt b a:=let ⟨x,y,h1,h2⟩:=h;⟨y,x,h2,h1⟩
theorem Rt.refl {α:Type}(a:List α):Rt a a:=⟨[],a,rfl,by simp⟩
theorem Rt.trans {α:Type}{a b c:List α}(h:Rt a b)(k:Rt b c):Rt a c:=by
 obtain ⟨x,y,rfl,rfl⟩:=h;obtain ⟨z,w,h1,rfl⟩:=k
 rcases List.append_eq_append_iff.mp h1 with ⟨t,rfl,rfl⟩|⟨t,rfl,rfl⟩
 ·exact ⟨t,w++y,by simp,by simp⟩
 ·exact ⟨x++z,t,by simp,by simp⟩
theorem Rt.rev {α:Type}{a b:List α}(h:Rt a b):Rt a.reverse b.reverse:=by obtain ⟨x,y,rfl,rfl⟩:=h;exact ⟨y.reverse,x.reverse,by simp,by simp⟩
def Rd {α:Type}(a b:List α):Prop:=Rt a b\/Rt a.reverse b
theorem Rd.symm {α:Type}{a b:List α}(h:Rd a b):Rd b a:=by
 rcases h with h|h
 ·exact .inl h.symm
 ·have:=h.symm.rev;rw [EV_] at this;exact .inr this
theorem Rd.trans {α:Type}{a b c:List α}(h:Rd a b)(k:Rd b c):Rd a c:=by
 rcases h with h|h <;> rcases k with k|k
 ·exact .inl (h.trans k)
 ·exact .inr (h.rev.trans k)
 ·exact .inr (h.trans k)
 ·have:=h.rev.trans k;rw [EV_] at this;exact .inl this
section
variable {α:Type}[DecidableEq α]{T:List (List α)}{P:Nat}
def Ri (T:List (List α))(P:Nat)(l:List Sd):Prop:=∃ s x,Pa (Gg T P) l/\l[0]?=some s/\l.getLast?=some x/\Gg T P x s
theorem j6_ {G:Sd->Sd->Prop}{a:Sd}{l:List Sd}(h:Pa G (a::l)):Pa G l:=fun i x y hx hy=>h (i+1) x y hx hy
theorem l1_ {G:Sd->Sd->Prop}{l:List Sd}{x b:Sd}(h:Pa G l)(hx:l.getLast?=some x)(g:G x b):Pa G (l++[b]):=fun i a c ha hc=>by
 have hl:i+1<(l++[b]).length:=(Ae_.mp hc).1;rw [Af_,AQ_] at hl;rw [Al_ (by lia)] at ha;by_cases c1:i+1<l.length
 ·rw [Al_ c1] at hc;exact h i a c ha hc
 ·rw [Ao_ (by lia),show i+1-l.length=0 by lia] at hc;cases hc;rw [Bg_,show l.length-1=i by lia,ha] at hx;cases hx;exact g
theorem Ri.rot1 {a:Sd}{l:List Sd}(h:Ri T P (a::l)):Ri T P (l++[a]):=by
 obtain ⟨s,x,p,h0,hx,g⟩:=h;cases h0;cases l with
 | nil=>exact ⟨a,x,p,rfl,hx,g⟩
 | cons b l =>rw [List.getLast?_cons_cons] at hx;exact ⟨b,a,l1_ (j6_ p) hx g,rfl,EW_,p 0 a b rfl rfl⟩
theorem Ri.rot:∀ (x:List Sd){y:List Sd},Ri T P (x++y)->Ri T P (y++x)
 | [],y,h=>by simpa using h
 | a::x,y,h=>by
  have h1:Ri T P (x++(y++[a])):=by simpa using Ri.rot1 (l:=x++y) h
  have h2:=Ri.rot x h1;simpa using h2
theorem Ri.one (tw:Tw T){a:Sd}{l m:List Sd}(h:Ri T P (a::l))(k:Ri T P (a::m))(nl:(a::l).Nodup)(nm:(a::m).Nodup):l=m:=by
 have le:∀ {l m:List Sd},Ri T P (a::l)->Ri T P (a::m)->(a::m).Nodup->m.length<=l.length:=by
  intro l m h k nm;obtain ⟨s,x,p,h0,hx,g⟩:=h;obtain ⟨s',x',p',h0',hx',g'⟩:=k;cases h0;cases h0';refine B7_.mp fun z=>?_;have e:=p.same (Gh_ tw) p' rfl l.length (by simp) (by simp;lia);rw [Bg_,AZ_,Nat.add_sub_cancel] at hx;rw [hx] at e;have lt:l.length+1<(a::m).length:=by simp;lia
  have hz:(a::m)[l.length+1]?=some (a::m)[l.length+1]:=Aa_ lt;have e2:=(Gh_ tw).one (p' l.length _ _ e.symm hz) g;have:=(A2_ (l:=a::m) (i:=l.length+1) (j:=0) lt nm).mp (by rw [hz,e2];rfl);lia
 have hl:(a::l).length=(a::m).length:=by have:=le h k nm;have:=le k h nl;simp;lia
 have:a::l=a::m:=List.ext_getElem? fun i=>by
  by_cases c:i<(a::l).length
  ·exact h.choose_spec.choose_spec.1.same (Gh_ tw) k.choose_spec.choose_spec.1 rfl i c (by lia)
  ·rw [Be_ (by lia),Be_ (by lia)]
 exact (List.cons.inj this).2
theorem f2_ (a b:List Sd):wiL T P (a++b)=wiL T P a++wiL T P b:=EL_
theorem kS_:∀ (m:List Sd)(a:Sd),Pa (Gg T P) (a::m)->wiL T P (m.reverse.map tn)=(wiL T P (a::m).dropLast).reverse
 | [],_,_=>rfl
 | b::m,a,p=>by have hb:=kS_ m b (j6_ p);obtain ⟨w,h1,h2⟩:=Jo_ (p 0 a b rfl rfl);rw [DO_,Aq_,f2_,hb,List.dropLast_cons₂];unfold wiL;rw [BE_ (a:=a),h1];simp [h2]
theorem Ri.back (tw:Tw T){a:Sd}{l:List Sd}(h:Ri T P (a::l)):Ri T P (tn a::l.reverse.map tn)/\wiL T P (tn a::l.reverse.map tn)=(wiL T P (a::l)).reverse:=by
 obtain ⟨s,x,p,h0,hx,g⟩:=h;cases h0;have q:=l1_ p hx g;have b:=q.back (Gh_ tw);have e:((a::l)++[a]).reverse.map tn=(tn a::l.reverse.map tn)++[tn a]:=by simp
 rw [e] at b;constructor
 ·refine ⟨tn a,(tn a::l.reverse.map tn).getLast (by simp),fun i x y hx hy=>?_,rfl,Dn_ (by simp),?_⟩
  ·have hl:=(Ae_.mp hy).1;exact b i x y (by rw [Al_ (by lia)];exact hx) (by rw [Al_ hl];exact hy)
  ·refine b l.length _ _ ?_ ?_
   ·rw [Al_ (by simp),List.getLast_eq_getElem,Aa_ (by simp)];congr 2;simp
   ·rw [Ao_ (by simp)];simp
 ·have:=kS_ (l++[a]) a q;rw [show (a::(l++[a])).dropLast=a::l by rw [show a::(l++[a])=(a::l)++[a] from rfl,EX_]] at this;rw [<-this];simp
theorem Ri.at_ {l:List Sd}(h:Ri T P l){x:Sd}(hx:x∈l):∃ m,Ri T P (x::m)/\(x::m).Perm l/\Rt (wiL T P l) (wiL T P (x::m)):=by obtain ⟨a,b,rfl⟩:=List.append_of_mem hx;refine ⟨b++a,h.rot a,(List.perm_append_comm (l₁:=x::b) (l₂:=a)),wiL T P a,wiL T P (x::b),f2_ _ _,?_⟩;rw [<-f2_];rfl
theorem Ri.same (tw:Tw T){l m:List Sd}(h:Ri T P l)(k:Ri T P m)(nl:l.Nodup)(nm:m.Nodup){c:Nat×Nat}(hl:c∈cs l)(hm:c∈cs m):Rd (wiL T P l) (wiL T P m)/\(cs l).Perm (cs m):=by
 obtain ⟨x,hx,ex⟩:=a0_.mp hl;obtain ⟨y,hy,ey⟩:=a0_.mp hm;obtain ⟨l',h1,h2,h3⟩:=h.at_ hx;obtain ⟨m',k1,k2,k3⟩:=k.at_ hy;have nl':=h2.nodup_iff.mpr nl;have nm':=k2.nodup_iff.mpr nm;have cl:(cs (x::l')).Perm (cs l):=h2.map _;have cm:(cs (y::m')).Perm (cs m):=k2.map _
 rcases hZ_ (ex.trans ey.symm) with rfl|rfl
 ·have e:=Ri.one tw h1 k1 nl' nm';subst e;exact ⟨.inl (h3.trans k3.symm),cl.symm.trans cm⟩
 ·obtain ⟨b1,b2⟩:=k1.back tw;have pb:(tn y::m'.reverse.map tn).Perm ((y::m').map tn):=by rw [AG_];exact ((List.reverse_perm m').map tn).cons _
  have nb:(tn y::m'.reverse.map tn).Nodup:=pb.nodup_iff.mpr (Bq_.mpr (nm'.imp fun {a b} hab e=>hab (by rw [<-GZ_ a,e,GZ_])));have e:=Ri.one tw h1 b1 nl' nb;subst e;refine ⟨?_,cl.symm.trans ?_⟩
  ·have:Rd (wiL T P m) (wiL T P (tn y::m'.reverse.map tn)):=.inr (by rw [b2];exact k3.rev);exact Rd.trans (.inl h3) this.symm
  ·have:=pb.map (fun z:Sd=>z.1);rw [Bf_] at this;exact this.trans cm
theorem h0_ (tw:Tw T){β:Type}{f:List Sd->β}(hf:∀ l m,Rd (wiL T P l) (wiL T P m)->f l=f m):∀ {L M:List (List Sd)},(∀ l∈L,Ri T P l)->(∀ m∈M,Ri T P m)->((L.map cs).flatten).Nodup->((M.map cs).flatten).Nodup->(∀ c,c∈(L.map cs).flatten ↔ c∈(M.map cs).flatten)->(L.map f).Perm (M.map f)
 | [],M,_,hM,_,_,h=>by
  cases M with
  | nil=>exact .refl _
  | cons m M =>
   obtain ⟨s,x,_,h0,_⟩:=hM m At_;exact absurd ((h s.1).mpr (BF_.mpr ⟨cs m,At_,a0_.mpr ⟨s,Am_ h0,rfl⟩⟩)) AO_
 | l::L,M,hL,hM,nL,nM,h=>by
  obtain ⟨s,x,_,h0,_⟩:=id (hL l At_);have sl:s.1∈cs l:=a0_.mpr ⟨s,Am_ h0,rfl⟩;obtain ⟨C,hC,sC⟩:=BF_.mp ((h s.1).mp (BF_.mpr ⟨cs l,At_,sl⟩));obtain ⟨m,hm,rfl⟩:=Ap_.mp hC;have pm:=List.perm_cons_erase hm;have pc:(((m::M.erase m).map cs).flatten).Perm ((M.map cs).flatten):=ef_ (pm.symm.map cs);have nM':=pc.nodup_iff.mpr nM;rw [AG_,AP_] at nL nM';obtain ⟨n1,n2,n3⟩:=AK_.mp nL;obtain ⟨n4,n5,n6⟩:=AK_.mp nM';have ndl:∀ {l:List Sd},(cs l).Nodup->l.Nodup:=fun {l} z=>(Bq_.mp z).imp fun hab e=>hab (congrArg (·.1) e);obtain ⟨r1,r2⟩:=Ri.same tw (hL l At_) (hM m hm) (ndl n1) (ndl n4) sl sC
  have ih:=h0_ tw hf (L:=L) (M:=M.erase m) (fun l' hl'=>hL l' (Ar_ _ hl')) (fun m' hm'=>hM m' (List.mem_of_mem_erase hm')) n2 n5 fun c=>by
   have hc:=h c;rw [<-pc.mem_iff,AG_,AP_,AG_,AP_,An_,An_] at hc;constructor
   ·intro z
    rcases hc.mp (.inr z) with z'|z'
    ·exact absurd rfl (n3 c (r2.mem_iff.mpr z') c z)
    ·exact z'
   ·intro z
    rcases hc.mpr (.inr z) with z'|z'
    ·exact absurd rfl (n6 c (r2.mem_iff.mp z') c z)
    ·exact z'
  rw [AG_,hf l m r1];exact (ih.cons _).trans (by rw [<-AG_];exact (pm.symm.map f))
end
end RimT
namespace RimT
section
variable {α:Type}[DecidableEq α]{T:List (List α)}{P:Nat}
theorem cx_ {l:List Sd}{x:Sd}{i:Nat}(h:i<l.length):(l++[x])[i]?=l[i]?:=Al_ h
theorem l2_ (tw:Tw T){mm:List Sd}{x:Sd}(p:Pa (Gg T P) (mm++[x]))(nd:mm.Nodup)(hx:x∈mm):mm[0]?=some x:=by
 obtain ⟨k,hk⟩:=AS_.mp hx;have hl:=(Ae_.mp hk).1;cases k with
 | zero=>exact hk
 | succ k =>have e1:mm[k]?=some mm[k]:=Aa_ (by lia);have e2:mm[mm.length-1]?=some mm[mm.length-1]:=Aa_ (by lia);have g1:=p k mm[k] x (by rw [cx_ (by lia)];exact e1) (by rw [cx_ hl];exact hk);have g2:=p (mm.length-1) mm[mm.length-1] x (by rw [cx_ (by lia)];exact e2) (by rw [show mm.length-1+1=mm.length by lia,Ao_ (Aj_ _),Ca_];rfl);have e:=(Gh_ tw).inj g1 g2;have:=(A2_ (i:=k) (j:=mm.length-1) (by lia) nd).mp (by rw [e1,e2,e]);lia
theorem oC_ (tw:Tw T){mm:List Sd}{x y:Sd}(p:Pa (Gg T P) (mm++[x]))(hy:y∈mm)(g:Gg T P y (tn x)):False:=by
 obtain ⟨k,hk⟩:=AS_.mp hy;have hl:=(Ae_.mp hk).1;obtain ⟨z,hz⟩:∃ z,(mm++[x])[k+1]?=some z:=⟨(mm++[x])[k+1]'(by simp;lia),Aa_ _⟩;have g1:=p k y z (by rw [cx_ hl];exact hk) hz;have e:=(Gh_ tw).one g1 g;subst e;have hx:(mm++[x])[mm.length]?=some x:=by rw [Ao_ (Aj_ _),Ca_];rfl
 refine p.no_turn (Gh_ tw) (mm.length-(k+1)) (k+1) (tn x) x hz ?_ rfl;rw [show k+1+(mm.length-(k+1))=mm.length by lia];exact hx
theorem oD_ {mm:List Sd}{x:Sd}(p:Pa (Gg T P) (mm++[x]))(h0:mm[0]?=some x):Ri T P mm:=by
 have hl:=(Ae_.mp h0).1;have e2:mm[mm.length-1]?=some mm[mm.length-1]:=Aa_ (by lia);refine ⟨x,mm[mm.length-1],fun i a b ha hb=>?_,h0,by rw [Bg_];exact e2,?_⟩
 ·have:=(Ae_.mp hb).1;exact p i a b (by rw [cx_ (by lia)];exact ha) (by rw [cx_ this];exact hb)
 ·exact p (mm.length-1) _ x (by rw [cx_ (by lia)];exact e2) (by rw [show mm.length-1+1=mm.length by lia,Ao_ (Aj_ _),Ca_];rfl)
theorem lo_ (tw:Tw T){mm:List Sd}(h:Ri T P mm)(z:Sd):(z∈mm\/∃ y∈mm,Gg T P y (tn z)) ↔ z.1∈cs mm:=by
 obtain ⟨s,x,p,h0,hx,g⟩:=h;have hl:=(Ae_.mp h0).1;have hxi:mm[mm.length-1]?=some x:=by rw [<-Bg_];exact hx
 constructor
 ·rintro (h|⟨y,hy,gy⟩)
  ·exact a0_.mpr ⟨z,h,rfl⟩
  ·obtain ⟨k,hk⟩:=AS_.mp hy;have hkl:=(Ae_.mp hk).1
   obtain ⟨u,hu,gu⟩:∃ u∈mm,Gg T P y u:=by
    by_cases c:k+1<mm.length
    ·exact ⟨mm[k+1],A3_ _,p k y _ hk (Aa_ c)⟩
    ·rw [show mm.length-1=k by lia,hk] at hxi;cases hxi;exact ⟨s,Am_ h0,g⟩
   have e:=(Gh_ tw).one gu gy;exact a0_.mpr ⟨u,hu,by rw [e];rfl⟩
 ·intro h;obtain ⟨u,hu,eu⟩:=a0_.mp h
  rcases hZ_ eu with rfl|rfl
  ·exact .inl hu
  ·obtain ⟨k,hk⟩:=AS_.mp hu;have hkl:=(Ae_.mp hk).1;cases k with
   | zero =>
    rw [h0] at hk;cases hk;exact .inr ⟨x,BI_ hx,g⟩
   | succ k=>exact .inr ⟨mm[k],A3_ _,p k _ _ (Aa_ (by lia)) hk⟩
theorem nm_ (O:List (Nat×Nat×List Sd))(t:Nat×Nat×List Sd):csO (O++[t])=csO O++cs t.2.2:=by unfold csO;rw [Aq_,A4_];simp
theorem OpL.facts (tw:Tw T)(PT:P<=T.length):∀ {i:Nat}{O:List (Nat×Nat×List Sd)},i<=2*P->OpL T P i O->(csO O).Nodup/\HI_ T P (csO O)/\∀ c∈csO O,IsC T P c
 | 0,_,_,h=>by rw [h];exact ⟨Bc_,fun a b _ hb=>absurd hb AO_,fun c hc=>absurd hc AO_⟩
 | i+1,O,hi,h=>by
  obtain ⟨A,l,j,h1,h2,h3⟩:=id h;obtain ⟨f1,f2,f3⟩:=OpL.facts tw PT (i:=i) (by lia) h1;by_cases c:i<j
  ·rw [if_pos c] at h3;rw [h3,nm_];have nS:(stt T i).1∉csO A:=fun z=>((h1.passed tw (by lia) h2).mp z) c;have ic:=H1_ (T:=T) PT (show i<2*P by lia);have sf:=bx_ (T:=T) (P:=P) (show i<2*P by lia);refine ⟨AK_.mpr ⟨f1,h2.ln.pa.corners (Gh_ tw) (h2.ln.pa.nd_first tw h2.ln.hd sf),fun a ha b hb e=>?_⟩,f2.app (h2.ln.shut tw sf),fun c hc=>?_⟩
   ·obtain ⟨u,hu,eu⟩:=a0_.mp hb;obtain ⟨k,hk⟩:=AS_.mp hu;exact f2.apart h2.ln.pa h2.ln.hd nS k u hk (by rw [eu,<-e];exact ha)
   ·rcases An_.mp hc with hc|hc
    ·exact f3 c hc
    ·obtain ⟨u,hu,rfl⟩:=a0_.mp hc;exact h2.ln.pa.allC h2.ln.hd ic u hu
  ·rw [if_neg c] at h3;rw [h3];exact ⟨f1,f2,f3⟩
theorem OpL.covers (tw:Tw T){O:List (Nat×Nat×List Sd)}(h:OpL T P (2*P) O){p:Nat}(hp:p<2*P):∃ l j,LnP T P p l j/\cs l ⊆ csO O/\((p,j,l)∈O\/(j,p,l.reverse.map tn)∈O):=by
 obtain ⟨l,j,h1,h2⟩:=h.all p hp;have ne:=h1.ne tw;by_cases c:p<j
 ·exact ⟨l,j,h1,fun x hx=>hd_.mpr ⟨_,h2 c,hx⟩,.inl (h2 c)⟩
 ·have b:=h1.back tw hp;obtain ⟨l',j',h3,h4⟩:=h.all j h1.jl;obtain ⟨e1,e2⟩:=h3.one tw b;subst e1 e2;have hm:=h4 (by lia);refine ⟨l,j,h1,fun x hx=>hd_.mpr ⟨_,hm,?_⟩,.inr hm⟩;obtain ⟨u,hu,rfl⟩:=a0_.mp hx;exact a0_.mpr ⟨tn u,Ap_.mpr ⟨u,List.mem_reverse.mpr hu,rfl⟩,rfl⟩
theorem OpL.places (tw:Tw T){O:List (Nat×Nat×List Sd)}(h:OpL T P (2*P) O){p:Nat}(hp:p<2*P):(stt T p).1∈csO O:=by obtain ⟨l,j,h1,h2,_⟩:=h.covers tw hp;exact h2 h1.first
theorem OpL.seen (tw:Tw T){O:List (Nat×Nat×List Sd)}(h:OpL T P (2*P) O)(z:Sd):(∃ p,p<2*P/\∃ l j,LnP T P p l j/\z∈l) ↔ z.1∈csO O:=by
 constructor
 ·rintro ⟨p,hp,l,j,h1,hz⟩;obtain ⟨l',j',h2,h3,_⟩:=h.covers tw hp;obtain ⟨rfl,rfl⟩:=h1.one tw h2;exact h3 (a0_.mpr ⟨z,hz,rfl⟩)
 ·intro hz;obtain ⟨t,ht,hc⟩:=hd_.mp hz;obtain ⟨h1,h2,h3⟩:=h.in_ t ht;obtain ⟨u,hu,eu⟩:=a0_.mp hc
  rcases hZ_ eu with rfl|e
  ·exact ⟨t.1,h1,_,_,h3,hu⟩
  ·refine ⟨t.2.1,h3.jl,_,_,h3.back tw h1,Ap_.mpr ⟨u,List.mem_reverse.mpr hu,?_⟩⟩;rw [e,GZ_]
end
end RimT
namespace L2
open PySem PySem.Spec PyProof.Rows
abbrev Key:=Sum Int Str
def Io_:Key->Value->Bool
 | .inl k,v=>Value.isInt k v
 | .inr x,v=>Value.isStrOf x v
def keyH (w:World):Key->Int
 | .inl k=>hashInt k
 | .inr x=>hashStr w x
theorem bg_:∀ {k:Key}{v:Value},Io_ k v=true->(∃ i t,k=Sum.inl i/\v=Value.int i t)\/(∃ x t,k=Sum.inr x/\v=Value.str x t)
 | .inl i,v,h=>by
  obtain ⟨t,e⟩:=Value.isInt_shape (k:=i) (v:=v) h;exact .inl ⟨i,t,rfl,e⟩
 | .inr x,v,h=>by obtain ⟨t,e⟩:=Value.isStrOf_shape (x:=x) (v:=v) h;exact .inr ⟨x,t,rfl,e⟩
theorem l3_ (i:Int)(t:Tok):Io_ (.inl i) (.int i t)=true:=by simp [Io_,Value.isInt]
theorem l4_ (x:Str)(t:Tok):Io_ (.inr x) (.str x t)=true:=by simp [Io_,Value.isStrOf]
theorem po_ (a b:Int):decide ((Sum.inl a:Key)=Sum.inl b)=(a == b):=by
 by_cases e:a=b
 ·subst e;simp
 ·have h:¬ (Sum.inl a:Key)=Sum.inl b:=fun q=>e (Fq_ q);rw [AN_ h];exact (B0_.mpr e).symm
theorem pp_ (a b:Str):decide ((Sum.inr a:Key)=Sum.inr b)=decide (a=b):=by
 by_cases e:a=b
 ·subst e;simp
 ·have h:¬ (Sum.inr a:Key)=Sum.inr b:=fun q=>e (Cw_ q);rw [AN_ h,AN_ e]
theorem pq_ (a:Int)(b:Str):decide ((Sum.inl a:Key)=Sum.inr b)=false:=AN_ (fun q=>nomatch q)
theorem pr_ (a:Str)(b:Int):decide ((Sum.inr a:Key)=Sum.inl b)=false:=AN_ (fun q=>nomatch q)
def FM_ (prog:Program)(w:World):PySem.KeyKind prog w Key where
 is:=Io_
 hash:=keyH w
 inj:=fun v a b ha hb=>by
  rcases bg_ ha with ⟨i,t,rfl,rfl⟩|⟨x,t,rfl,rfl⟩
  ·rcases bg_ hb with ⟨j,u,rfl,e⟩|⟨y,u,rfl,e⟩
   ·injection e with e1 _;rw [e1]
   ·exact nomatch e
  ·rcases bg_ hb with ⟨j,u,rfl,e⟩|⟨y,u,rfl,e⟩
   ·exact nomatch e
   ·injection e with e1 _;rw [e1]
 byValue:=fun k v h=>by rcases bg_ h with ⟨i,t,rfl,rfl⟩|⟨x,t,rfl,rfl⟩ <;> rfl
 pyHash:=fun hv h=>by
  rcases bg_ hv with ⟨i,t,rfl,rfl⟩|⟨x,t,rfl,rfl⟩
  ·exact wpAny_pyHash_int h
  ·exact wpAny_pyHash_str h
 eqBool:=fun hu hv h=>by
  rcases bg_ hu with ⟨i,t,rfl,rfl⟩|⟨x,t,rfl,rfl⟩
  ·rcases bg_ hv with ⟨j,u,rfl,rfl⟩|⟨y,u,rfl,rfl⟩
   ·rw [po_] at h;exact wpAny_eqBool_int h
   ·rw [pq_] at h;exact SeqAt.EqAt.int_str i t y u _ _ _ _ h
  ·rcases bg_ hv with ⟨j,u,rfl,rfl⟩|⟨y,u,rfl,rfl⟩
   ·rw [pr_] at h;exact SeqAt.EqAt.str_int x t j u _ _ _ _ h
   ·rw [pp_] at h;exact wpAny_eqBool_str h
 «strs»:=fun k x t v h=>by
  rcases bg_ h with ⟨i,u,rfl,e⟩|⟨y,u,rfl,e⟩
  ·exact nomatch e
  ·injection e with e1 _
   subst e1;cases v <;> rfl
theorem j7_ (prog:Program)(w:World)(i:Int)(t:Tok):(FM_ prog w).is (.inl i) (.int i t)=true:=l3_ i t
theorem j8_ (prog:Program)(w:World)(x:Str)(t:Tok):(FM_ prog w).is (.inr x) (.str x t)=true:=l4_ x t
end L2
namespace L2
open PySem PySem.Spec PyProof.Rows
inductive V where
 | non|bl (b:Bool)|int (i:Int)|str (x:Str)|byt (b:Array UInt8)|flt (b:UInt64)|ref (a:Addr)|ty (n:String)
 deriving DecidableEq
def F1_:V->Value->Prop
 | .non,u=>u=Value.none
 | .bl b,u=>u=Value.bool b
 | .int i,u=>∃ t,u=Value.int i t
 | .str x,u=>∃ t,u=Value.str x t
 | .byt b,u=>∃ t,u=Value.bytes b t
 | .flt b,u=>∃ t,u=Value.float b t
 | .ref a,u=>u=Value.ref a
 | .ty n,u=>u=Value.type n
abbrev FT_:List V->List Value->Prop:=Paired F1_
theorem FT_.length {xs:List V}{us:List Value}(r:FT_ xs us):xs.length=us.length:=By_ r
theorem FT_.get:∀ {xs:List V}{us:List Value}{i:Nat}{x:V},FT_ xs us->xs[i]?=some x->∃ u,us[i]?=some u/\F1_ x u
 | _,_,_,_,.nil,e=>by simp at e
 | _,_,0,_,.cons r _,e=>by simp at e;subst e;exact ⟨_,rfl,r⟩
 | _,_,i+1,x,.cons _ t,e=>by obtain ⟨u,h1,h2⟩:=FT_.get (i:=i) (x:=x) t (by simpa using e);exact ⟨u,by simpa using h1,h2⟩
theorem FT_.set {x:V}{u:Value}(r:F1_ x u):∀ {xs:List V}{us:List Value}(i:Nat),FT_ xs us->FT_ (xs.set i x) (us.set i u)
 | _,_,_,.nil=>.nil
 | _,_,0,.cons _ t=>.cons r t
 | _,_,i+1,.cons q t=>.cons q (FT_.set r i t)
theorem FT_.append:∀ {xs ys:List V}{us ws:List Value},FT_ xs us->FT_ ys ws->FT_ (xs++ys) (us++ws)
 | _,_,_,_,.nil,s=>s
 | _,_,_,_,.cons r t,s=>.cons r (FT_.append t s)
theorem FT_.take:∀ {xs:List V}{us:List Value}(n:Nat),FT_ xs us->FT_ (xs.take n) (us.take n)
 | _,_,0,_=>.nil
 | _,_,_+1,.nil=>.nil
 | _,_,n+1,.cons r t=>.cons r (FT_.take n t)
theorem FT_.drop:∀ {xs:List V}{us:List Value}(n:Nat),FT_ xs us->FT_ (xs.drop n) (us.drop n)
 | _,_,0,r=>r
 | _,_,_+1,.nil=>.nil
 | _,_,n+1,.cons _ t=>FT_.drop n t
def Ij_:Option V->Option Value->Prop
 | some v,some u=>F1_ v u
 | none,none=>True
 | _,_=>False
def KV {κ:Type}:List (κ×V)->List (κ×Value)->Prop:=Paired fun (p:κ×V)(q:κ×Value)=>p.1=q.1/\F1_ p.2 q.2
def kV:Key->V
 | .inl i=>.int i
 | .inr x=>.str x
inductive HO where
 | lst (xs:List V)
 | tup (xs:List V)
 | dK (kvs:List (Key×V))|dT (kvs:List (List Key×V))
 | set (S:Int->Bool) (n:Nat)
 | ins (C dx:Addr) (fs:List (Str×V))
 | own (x:Addr)
 | xd (fs:List (Str×V))
 | met (f x:Addr)
 | rng (lo hi:Int)
 | frz (o:Obj) (u:HO)
 | tbl (ps:Array Value)
 | ext (φ:Heap->Prop)
abbrev Hp:=Addr->Option HO
def upd (H:Hp)(a:Addr)(o:HO):Hp:=fun b=>if b=a then some o else H b
theorem aa_ {H:Hp}{a:Addr}{o:HO}:upd H a o a=some o:=by unfold upd;rw [if_pos rfl]
theorem af_ {H:Hp}{a b:Addr}{o:HO}(h:b≠a):upd H a o b=H b:=by unfold upd;rw [if_neg h]
theorem HF_ {H:Hp}{a b:Addr}{o u:HO}(h:H a=some o)(h':H b=some u)(d:o≠u):a≠b:=by intro e;subst e;rw [h] at h';exact d (Aw_ h')
theorem ae_ {H:Hp}{a b:Addr}{o:HO}(h:H a=some o)(h':H b=none):a≠b:=by intro e;subst e;rw [h] at h';cases h'
section
variable (P:Program)(w:World)
def F2_ (H:Hp)(h:Heap)(a:Addr):HO->Prop
 | .lst xs=>xs.length<=sizeLine/\∃ (its:List Value)(n:Nat),FT_ xs its/\h.get? a=some { cls:=.type "list",data:=.seq its.toArray n }
 | .tup xs=>xs.length<=sizeLine/\∃ its:List Value,FT_ xs its/\IsTup h a its.toArray
 | .dK kvs=>kvs.length<=sizeLine/\(a == sysModules)=false/\∃ vs,KV kvs vs/\h.DictOf (FM_ P w) a vs
 | .dT kvs=>kvs.length<=sizeLine/\(a == sysModules)=false/\∃ xs:List (List Key×Addr×Value),
   Paired (fun (p:List Key×V)(q:List Key×Addr×Value)=>p.1=q.1/\H q.2.1=some (.tup (p.1.map kV))/\F1_ p.2 q.2.2) kvs xs /\
   ∃ o es ep,h.get? a=some o/\o.ExactDict/\o.data=.dict es ep/\es.toList=xs.map (entryOfKey (tupleKind (FM_ P w)))/\(xs.map (·.1)).Nodup
 | .set S n=>h.SetOf (intKind P w) a S n
 | .ins C dx fs=>H dx=some (.own a)/\fs.length<=1000/\dx≠a/\h.get? a=some (PySem.W.instObj C dx) /\
   ∃ mA,h.Ns1 dx mA/\(∀ f,Ij_ (fs.lookup f) (mA f))/\PySem.Within mA (fs.map (·.1))
 | .own _=>∃ o,h.get? a=some o
 | .xd fs=>∃ mA,h.Ns1 a mA/\∀ f,Ij_ (fs.lookup f) (mA f)
 | .rng lo hi=>∃ t u v,h.get? a=some { cls:=.type "range",data:=.fields #[.int lo t,.int hi u,.int 1 v] }
 | .frz o u=>h.get? a=some o/\F2_ H h a u
 | .tbl ps=>h.get? a=some { cls:=.none,data:=.fields ps }
 | .met f x=>h.get? a=some (PySem.W.methodObj (.ref f) (.ref x))
 | .ext φ=>φ h/\(∃ o,h.get? a=some o)/\∀ h1 h2:Heap,φ h1->(∀ o,h1.get? a=some o->h2.get? a=some o)->φ h2
def HOk (H:Hp)(h:Heap):Prop:=∀ a o,H a=some o->F2_ P w H h a o
end
section
variable {P:Program}{w:World}{H H':Hp}{h h':Heap}{a:Addr}{o:HO}
theorem F2_.lt (x:F2_ P w H h a o):a<h.objs.size:=by
 cases o with
 | lst xs=>obtain ⟨_,_,_,_,e⟩:=x;exact Au_ e
 | tup xs=>obtain ⟨_,_,_,p⟩:=x;exact p.lt
 | dK kvs=>obtain ⟨_,_,_,_,o,_,_,e,_⟩:=x;exact Au_ e
 | dT kvs=>obtain ⟨_,_,_,_,o,_,_,e,_⟩:=x;exact Au_ e
 | set S n=>obtain ⟨o,_,_,_,e,_⟩:=x;exact Au_ e
 | ins C dx fs=>obtain ⟨_,_,_,e,_⟩:=x;exact Au_ e
 | own y=>obtain ⟨_,e⟩:=x;exact Au_ e
 | xd fs=>obtain ⟨_,⟨_,_,_,e,_⟩,_⟩:=x;exact Au_ e
 | rng lo hi=>obtain ⟨_,_,_,e⟩:=x;exact Au_ e
 | frz ob u=>obtain ⟨e,_⟩:=x;exact Au_ e
 | tbl ps=>exact Au_ (show h.get? a=some _ from x)
 | met f y=>exact Au_ (show h.get? a=some _ from x)
 | ext φ=>obtain ⟨_,⟨_,e⟩,_⟩:=x;exact Au_ e
theorem Paired.mapP {α β:Type}{F G:α->β->Prop}:∀ {l₁:List α}{l₂:List β},Paired F l₁ l₂->(∀ a b,F a b->G a b)->Paired G l₁ l₂
 | _,_,.nil,_=>.nil
 | _,_,.cons r t,f=>.cons (f _ _ r) (Paired.mapP t f)
theorem F2_.stay (x:F2_ P w H h a o)(k:∀ b u,(b=a\/H b=some (.own a))->h.get? b=some u->h'.get? b=some u)
  (ho:∀ b,H b=some (.own a)->H' b=some (.own a)) (ht:∀ b xs,H b=some (.tup xs)->H' b=some (.tup xs)):F2_ P w H' h' a o:=by
 induction o with
 | lst xs=>obtain ⟨z,its,n,r,e⟩:=x;exact ⟨z,its,n,r,k _ _ (.inl rfl) e⟩
 | tup xs=>obtain ⟨z,its,r,ob,e,c⟩:=x;exact ⟨z,its,r,ob,k _ _ (.inl rfl) e,c⟩
 | dK kvs=>obtain ⟨z,y,vs,r,ob,es,ep,e,c⟩:=x;exact ⟨z,y,vs,r,ob,es,ep,k _ _ (.inl rfl) e,c⟩
 | dT kvs =>
  obtain ⟨z,y,xs,r,ob,es,ep,e,c⟩:=x;exact ⟨z,y,xs,Paired.mapP r fun p q z=>⟨z.1,ht _ _ z.2.1,z.2.2⟩,ob,es,ep,k _ _ (.inl rfl) e,c⟩
 | set S n=>obtain ⟨ob,es,ep,t,e,c⟩:=x;exact ⟨ob,es,ep,t,k _ _ (.inl rfl) e,c⟩
 | ins C dx fs =>
  obtain ⟨d,z,ne,e,mA,⟨od,es,ep,e2,c⟩,r⟩:=x;exact ⟨ho _ d,z,ne,k _ _ (.inl rfl) e,mA,⟨od,es,ep,k _ _ (.inr d) e2,c⟩,r⟩
 | own y=>obtain ⟨ob,e⟩:=x;exact ⟨ob,k _ _ (.inl rfl) e⟩
 | xd fs=>obtain ⟨mA,⟨od,es,ep,e,c⟩,r⟩:=x;exact ⟨mA,⟨od,es,ep,k _ _ (.inl rfl) e,c⟩,r⟩
 | rng lo hi=>obtain ⟨t,u,v,e⟩:=x;exact ⟨t,u,v,k _ _ (.inl rfl) e⟩
 | frz ob u ih=>obtain ⟨e,q⟩:=x;exact ⟨k _ _ (.inl rfl) e,ih q⟩
 | tbl ps =>
  have e:h.get? a=some { cls:=.none,data:=.fields ps }:=x;show h'.get? a=some { cls:=.none,data:=.fields ps };exact k a _ (.inl rfl) e
 | met f y =>
  have e:h.get? a=some (PySem.W.methodObj (.ref f) (.ref y)):=x;show h'.get? a=some (PySem.W.methodObj (.ref f) (.ref y));exact k a _ (.inl rfl) e
 | ext φ=>obtain ⟨p,⟨o,e⟩,st⟩:=x;exact ⟨st _ _ p fun o q=>k _ _ (.inl rfl) q,⟨o,k _ _ (.inl rfl) e⟩,st⟩
theorem HOk.lt (x:HOk P w H h)(e:H a=some o):a<h.objs.size:=(x a o e).lt
theorem HOk.fresh (x:HOk P w H h)(e:h.objs.size<=a):H a=none:=by
 cases q:H a with
 | none=>rfl
 | some u=>exact absurd (AI_ (x.lt q) e) (Bb_ _)
theorem HOk.kept (x:HOk P w H h)(k:∀ b u,h.get? b=some u->h'.get? b=some u):HOk P w H h':=fun a o e =>
 (x a o e).stay (fun b u _ q=>k b u q) (fun _ q=>q) fun _ _ q=>q
theorem HOk.laid (x:HOk P w H h)(k:∀ b u,h.get? b=some u->h'.get? b=some u)(hp:h.objs.size<=a)(new:F2_ P w (upd H a o) h' a o):HOk P w (upd H a o) h':=fun b u e=>by
 have hn:=x.fresh hp;by_cases hb:b=a
 ·subst hb;rw [aa_] at e;cases e;exact new
 ·rw [af_ hb] at e;exact (x b u e).stay (fun c v _ q=>k c v q) (fun c q=>by rw [af_ (ae_ q hn)];exact q) fun c xs q=>by rw [af_ (ae_ q hn)];exact q
end
def Rd (H:Hp)(a:Addr)(u:HO):Prop:=H a=some u\/∃ o,H a=some (.frz o u)
theorem Rd.of {H:Hp}{a:Addr}{u:HO}(h:H a=some u):Rd H a u:=.inl h
theorem Rd.ok {P:Program}{w:World}{H:Hp}{h:Heap}{a:Addr}{u:HO}(r:Rd H a u)(x:HOk P w H h):F2_ P w H h a u:=by
 rcases r with r|⟨o,r⟩
 ·exact x a u r
 ·obtain ⟨_,q⟩:=x a _ r;exact q
def Mut:Option HO->Prop
 | some (.lst _)=>True
 | some (.dK _)=>True
 | some (.dT _)=>True
 | some (.set _ _)=>True
 | some (.ins _ _ _)=>True
 | some (.ext _)=>True
 | _=>False
section
variable {P:Program}{w:World}{H:Hp}{h h':Heap}{x e:Addr}{o':HO}
theorem HOk.write (ok:HOk P w H h)(mu:Mut (H x))(he:e=x\/H e=some (.own x))(k:∀ b u,b≠e->h.get? b=some u->h'.get? b=some u)(heo:∃ u,h'.get? e=some u)
  (new:F2_ P w (upd H x o') h' x o'):HOk P w (upd H x o') h':=fun b u q=>by
 have nown:∀ c y,H c=some (.own y)->c≠x:=fun c y r z=>by subst z;rw [r] at mu;exact mu
 have ntup:∀ c xs,H c=some (.tup xs)->c≠x:=fun c xs r z=>by subst z;rw [r] at mu;exact mu
 by_cases hb:b=x
 ·subst hb;rw [aa_] at q;cases q;exact new
 ·rw [af_ hb] at q;by_cases hbe:b=e
  ·have q':H b=some (.own x):=by
    rcases he with z|z
    ·exact absurd (hbe.trans z) hb
    ·rw [hbe];exact z
   rw [q] at q';cases q';obtain ⟨v,hv⟩:=heo;exact ⟨v,by rw [hbe];exact hv⟩
  ·refine (ok b u q).stay (fun c v hc r=>k c v ?_ r) (fun c r=>by rw [af_ (nown c b r)];exact r) fun c xs r=>by rw [af_ (ntup c xs r)];exact r
   rcases hc with rfl|hc
   ·exact hbe
   ·rintro rfl
    rcases he with z|z
    ·exact nown c b hc z
    ·rw [hc] at z;cases z;exact hb rfl
end
structure Un (fs ex:List Addr)(H H':Hp)(h h':Heap):Prop where
 keep:∀ b o,h.get? b=some o->H b=none->b∉fs->b∉ex->h'.get? b=some o
 slot:∀ b o,h.get? b=some o->H b=none->b∈fs->b∉ex->∃ sl,h'.get? b=some { o with slots:=sl }
 free:∀ b o,h.get? b=some o->H b=none->b∉ex->H' b=none
 there:∀ b o,h.get? b=some o->b∉ex->∃ o',h'.get? b=some o'
 tups:∀ b xs,H b=some (.tup xs)->H' b=some (.tup xs)
 frzs:∀ b o u,H b=some (.frz o u)->H' b=some (.frz o u)
 tbls:∀ b ps,H b=some (.tbl ps)->∃ more,H' b=some (.tbl (ps++more))
section
variable {fs fs' ex ex':List Addr}{H H1 H2:Hp}{h h1 h2 h':Heap}{a x e:Addr}{o:HO}
theorem Un.any (u:Un fs ex H H1 h h1){b:Addr}{ob:Obj}(q:h.get? b=some ob)(n:H b=none)(hx:b∉ex):∃ sl,h1.get? b=some { ob with slots:=sl }:=by
 by_cases hb:b∈fs
 ·exact u.slot b ob q n hb hx
 ·exact ⟨ob.slots,u.keep b ob q n hb hx⟩
theorem Un.trans (a:Un fs ex H H1 h h1)(b:Un fs ex H1 H2 h1 h2):Un fs ex H H2 h h2 where
 keep:=fun c ob q n hc hx=>b.keep c ob (a.keep c ob q n hc hx) (a.free c ob q n hx) hc hx
 slot:=fun c ob q n hc hx=>by obtain ⟨sl,e1⟩:=a.slot c ob q n hc hx;obtain ⟨sl',e2⟩:=b.slot c _ e1 (a.free c ob q n hx) hc hx;exact ⟨sl',e2⟩
 free:=fun c ob q n hx=>by obtain ⟨o',e1⟩:=a.there c ob q hx;exact b.free c o' e1 (a.free c ob q n hx) hx
 there:=fun c ob q hx=>by obtain ⟨o',e1⟩:=a.there c ob q hx;exact b.there c o' e1 hx
 tups:=fun c xs q=>b.tups c xs (a.tups c xs q)
 frzs:=fun c ob xs q=>b.frzs c ob xs (a.frzs c ob xs q)
 tbls:=fun c ps q=>by obtain ⟨m1,e1⟩:=a.tbls c ps q;obtain ⟨m2,e2⟩:=b.tbls c _ e1;exact ⟨m1++m2,by rw [e2,Array.append_assoc]⟩
theorem Un.kept (k:∀ b u,h.get? b=some u->h'.get? b=some u):Un fs ex H H h h' :=
 ⟨fun b ob q _ _ _=>k b ob q,fun b ob q _ _ _=>⟨ob.slots,k b ob q⟩,fun _ _ _ n _=>n,fun b ob q _=>⟨ob,k b ob q⟩,fun _ _ q=>q,fun _ _ _ q=>q,fun _ ps q=>⟨#[],by rw [q];simp⟩⟩
theorem Un.refl:Un fs ex H H h h:=Un.kept fun _ _ q=>q
theorem Un.laid (k:∀ b u,h.get? b=some u->h'.get? b=some u)(hp:h.objs.size<=a)(hn:H a=none):Un fs ex H (upd H a o) h h' where
 keep:=fun b u q _ _ _=>k b u q
 slot:=fun b u q _ _ _=>⟨u.slots,k b u q⟩
 free:=fun b u q n _=>by rw [af_ (AF_ (AI_ (Au_ q) hp))];exact n
 there:=fun b u q _=>⟨u,k b u q⟩
 tups:=fun b xs q=>by rw [af_ (ae_ q hn)];exact q
 frzs:=fun b u xs q=>by rw [af_ (ae_ q hn)];exact q
 tbls:=fun b ps q=>⟨#[],by rw [af_ (ae_ q hn),q];simp⟩
theorem Un.write (mu:Mut (H x))(he:e=x\/H e=some (.own x))(k:∀ b u,b≠e->h.get? b=some u->h'.get? b=some u)(heo:∃ u,h'.get? e=some u):Un fs ex H (upd H x o) h h':=by
 have hx:∀ b,H b=none->b≠x:=fun b n z=>by subst z;rw [n] at mu;exact mu
 have hb:∀ b,H b=none->b≠e:=fun b n z=>by
  subst z
  rcases he with r|r
  ·exact hx b n r
  ·rw [n] at r;cases r
 have hm:∀ b u,H b=some u->¬ Mut (some u)->b≠x:=fun b u q nm z=>by subst z;rw [q] at mu;exact nm mu
 refine ⟨fun b u q n _ _=>k b u (hb b n) q,fun b u q n _ _=>⟨u.slots,k b u (hb b n) q⟩,fun b u q n _=>by rw [af_ (hx b n)];exact n,fun b u q _=>?_,
  fun b xs q=>by rw [af_ (hm b _ q fun z=>z)];exact q,fun b u xs q=>by rw [af_ (hm b _ q fun z=>z)];exact q,fun b ps q=>⟨#[],by rw [af_ (hm b _ q fun z=>z),q];simp⟩⟩
 by_cases hbe:b=e
 ·subst hbe;exact heo
 ·exact ⟨u,k b u hbe q⟩
theorem Un.mono (u:Un fs ex H H1 h h1)(hs:∀ b∈fs,b∈fs')(hx:∀ b∈ex,b∈ex'):Un fs' ex' H H1 h h1 :=
 ⟨fun b ob q n hb he=>u.keep b ob q n (fun z=>hb (hs b z)) fun z=>he (hx b z),fun _ _ q n _ he=>u.any q n fun z=>he (hx _ z),fun b ob q n he=>u.free b ob q n fun z=>he (hx b z),fun b ob q he=>u.there b ob q fun z=>he (hx b z),u.tups,u.frzs,u.tbls⟩
end
def trk (h:Heap)(H:Hp):List Addr:=(List.range h.objs.size).filter fun a=>(H a).isSome
def Jf_ (h:Heap)(H:Hp):Heap:=PySem.W.hideAll h (trk h H)
theorem l5_ (h:Heap)(H:Hp):(Jf_ h H).objs.size=h.objs.size:=PySem.W.hideAll_size _ _
theorem nn_ {h:Heap}{H:Hp}{b:Addr}{o:Obj}(e:h.get? b=some o)(n:H b=none):(Jf_ h H).get? b=some o :=
 PySem.W.hideAll_get _ e fun hm=>by have q:(H b).isSome=true:=(BB_.mp hm).2;rw [n] at q;simp at q
theorem oE_ {h:Heap}{H:Hp}{b:Addr}{o:Obj}(e:(Jf_ h H).get? b=some o):h.get? b=some o/\H b=none:=by
 have e':h.get? b=some o:=PySem.W.of_hideAll (trk h H) e;refine ⟨e',?_⟩;cases q:H b with
 | none=>rfl
 | some x =>have hm:b∈trk h H:=BB_.mpr ⟨AX_.mpr (Au_ e'),by simp [q]⟩;have z:(Jf_ h H).get? b=none:=PySem.W.hideAll_none (trk h H) hm;rw [z] at e;cases e
def F8_ (g h:Heap)(L:Addr):List (Addr×Obj):=(List.range h.objs.size).filterMap fun a=>if a=L\/(g.get? a).isSome=true then none else (h.get? a).map fun o=>(a,o)
theorem bF_ {g h:Heap}{L a:Addr}{o:Obj}(h1:a≠L)(h2:g.get? a=none)(h3:h.get? a=some o):(a,o)∈F8_ g h L :=
 Cb_.mpr ⟨a,AX_.mpr (Au_ h3),by simp [h1,h2,h3]⟩
theorem eQ_ {g h:Heap}{L:Addr}{p:Addr×Obj}(hp:p∈F8_ g h L):p.1≠L/\g.get? p.1=none/\h.get? p.1=some p.2:=by
 obtain ⟨b,_,e⟩:=Cb_.mp hp;split at e
 ·cases e
 ·rename_i hn;cases q:h.get? b with
  | none=>rw [q] at e;simp at e
  | some u =>
   rw [q] at e;simp only [Cs_,Option.some.injEq] at e;subst e;refine ⟨fun z=>hn (.inl z),?_,q⟩;show g.get? b=none;cases r:g.get? b with
   | none=>rfl
   | some v=>exact (hn (.inr (by simp [r]))).elim
def rest (g h:Heap)(L d:Addr):List (Addr×Obj):=(F8_ g h L).filter fun p=>decide (p.1≠d)
theorem eD_ {g h:Heap}{L:Addr}:News g L h (F8_ g h L):=fun p hp=>let ⟨a,b,c⟩:=eQ_ hp;⟨c,a,b⟩
end L2
namespace L2
open PySem PySem.Spec PyProof.Rows
structure Mod (K:PySem.W.Frag)(mg:Str->Option Value)(base:Heap):Prop where
 kin:K.In base
 glob:base.Ns mainGlobals mg
 blt:∃ mb,base.Ns builtinsNs mb/\∀ x:Str,x ≠ "__name__" -> mb x=bootBuiltins x
 nolimit:base.NoLimit
structure Cx where
 prog:Program
 w:World
 K:PySem.W.Frag
 mg:Str->Option Value
 base:Heap
 A:Around
 N:List Str
 s₀:Shared
 H₀:Hp
 env:Env
 outer:List Env
 stack:List Env
 ex:List Addr
 fn:Str->Bool
 calm:Bool
 pn:List (Addr×Obj)
 xe:Value->Shared->Prop
def frs (l:List Env):List Addr:=l.filterMap (·.frame)
abbrev Cx.fs (X:Cx):List Addr:=frs X.outer
def Vis (sc:Scope)(x:Str):Prop:=sc.names.lookup x=some .local\/sc.names.lookup x=some .cell\/sc.names.lookup x=some .free
def Loc (sc:Scope)(x:Str):Prop:=sc.names.lookup x=some .local\/sc.names.lookup x=some .cell
def Look (env:Env)(h:Heap)(m:Str->Option Value)(x:Str)(u:Value):Prop :=
 (env.kindOf x=some .local/\m x=some u)\/((env.kindOf x=some .cell\/env.kindOf x=some .free)/\∃ c,env.cells.lookup x=some c/\h.IsCell c (some u))
structure Cx.Ok (X:Cx):Prop where
 mod:Mod X.K X.mg X.base
 kind:X.env.scope.kind=.function
 glob:X.env.globals=mainGlobals
 blt:X.env.builtins=builtinsNs
 above:X.s₀.heap.objs.size<=X.env.locals
 inj:∀ x y c,X.env.cells.lookup x=some c->X.env.cells.lookup y=some c->x=y
 has:∀ x,(X.env.kindOf x=some .cell\/X.env.kindOf x=some .free)->∃ c,X.env.cells.lookup x=some c
 cab:∀ x c,X.fn x=true->X.env.cells.lookup x=some c->X.s₀.heap.objs.size<=c
 hd:X.calm=true->X.A.handled=none
 frames:X.A.frames=some X.stack
 stk:X.stack=X.outer\/(X.stack=X.env::X.outer/\X.env.frame=some X.env.locals)
 exf:∀ b∈X.ex,b≠X.env.locals/\∀ x c,X.env.cells.lookup x=some c->c≠b
 bs:∀ b o,X.base.get? b=some o->X.s₀.heap.get? b=some o/\X.H₀ b=none
 bsz:X.base.objs.size<=X.s₀.heap.objs.size
 noex:∀ b o,X.base.get? b=some o->b∉X.ex
 exfs:∀ b∈X.ex,b∉X.fs
 funs:X.s₀.heap.FunFrames X.base X.outer
 frf:∀ b∈X.fs,X.H₀ b=none
structure Inv (X:Cx)(pins:List (Addr×Obj))(σ:List (Option V))(H:Hp)(s:Shared):Prop where
 ok:X.Ok
 os:s.os=X.s₀.os
 bare:AllBare s.gens
 base:Un X.fs X.ex X.H₀ H X.s₀.heap s.heap
 loc:∃ m,s.heap.Ns X.env.locals m/\∀ (i:Nat)(x:Str)(v:V),X.N[i]?=some x->σ[i]?=some (some v)->Vis X.env.scope x->∃ u,F1_ v u/\Look X.env s.heap m x u
 cell:∀ x c,X.env.cells.lookup x=some c->∃ v,s.heap.IsCell c v
 free:H X.env.locals=none
 freeC:∀ x c,X.env.cells.lookup x=some c->H c=none
 pin:∀ p∈X.pn++pins,s.heap.get? p.1=some p.2/\H p.1=none/\p.1≠X.env.locals/\p.1∉X.fs/\∀ v,p.2.data≠.cell v
 hok:HOk X.prog X.w H s.heap
 len:σ.length=X.N.length
section
variable {X:Cx}{pins:List (Addr×Obj)}{σ:List (Option V)}{H H':Hp}{s:Shared}{h':Heap}
theorem Cx.Ok.nofr (ok:X.Ok){b:Addr}{o:Obj}(e:X.base.get? b=some o):b∉X.fs:=fun hb=>by have:=(ok.funs.mem hb).1;rw [e] at this;cases this
theorem Inv.bs (I:Inv X pins σ H s):∀ b o,X.base.get? b=some o->s.heap.get? b=some o/\H b=none:=fun b o e =>⟨I.base.keep b o (I.ok.bs b o e).1 (I.ok.bs b o e).2 (I.ok.nofr e) (I.ok.noex b o e),I.base.free b o (I.ok.bs b o e).1 (I.ok.bs b o e).2 (I.ok.noex b o e)⟩
theorem Inv.bk (I:Inv X pins σ H s):∀ b o,X.base.get? b=some o->s.heap.get? b=some o:=fun b o e=>(I.bs b o e).1
theorem Inv.mod (I:Inv X pins σ H s):Mod X.K X.mg X.base:=I.ok.mod
theorem Inv.kIn (I:Inv X pins σ H s):X.K.In s.heap:=I.ok.mod.kin.keeps I.bk
theorem Inv.nolimit (I:Inv X pins σ H s):s.heap.NoLimit:=I.ok.mod.nolimit.keeps I.bk
theorem Inv.fr (I:Inv X pins σ H s):∃ m,Fr X.base X.env.locals s.heap m :=
 let ⟨m,hn,_⟩:=I.loc
 ⟨m,hn,I.bk,AM_ I.ok.bsz I.ok.above⟩
theorem Inv.lt (I:Inv X pins σ H s):X.env.locals<s.heap.objs.size:=let ⟨_,hn,_⟩:=I.loc;hn.lt
theorem Inv.sz (I:Inv X pins σ H s):X.s₀.heap.objs.size<=s.heap.objs.size:=AM_ I.ok.above (AJ_ I.lt)
theorem Inv.nofs (I:Inv X pins σ H s){a:Addr}(h:s.heap.objs.size<=a):a∉X.fs:=fun hb=>by obtain ⟨_,o,ho,_⟩:=I.ok.funs.mem hb;exact absurd (AI_ (Au_ ho) (AM_ I.sz h)) (Bb_ _)
theorem Inv.cne (I:Inv X pins σ H s):∀ x c,X.env.cells.lookup x=some c->c≠X.env.locals:=fun x c e z=>by obtain ⟨v,o,ho,hd⟩:=I.cell x c e;obtain ⟨m,⟨o',es,ep,ho',hd',_⟩,_⟩:=I.loc;rw [z,ho'] at ho;cases ho;rw [hd'] at hd;cases hd
theorem Inv.funs (I:Inv X pins σ H s):s.heap.FunFrames X.base X.outer:=by
 have all:∀ (l:List Env),(∀ b∈frs l,b∈X.fs)->X.s₀.heap.FunFrames X.base l->s.heap.FunFrames X.base l:=by
  intro l
  induction l with
  | nil=>intro _ _;trivial
  | cons env r ih =>intro hs hl;obtain ⟨hk,⟨L,o,hf,hn,ho,hd⟩,hr⟩:=hl;have hL:L∈X.fs:=hs L (by unfold frs;rw [BE_,hf];exact At_);obtain ⟨sl,e⟩:=I.base.slot L o ho (I.ok.frf L hL) hL fun z=>I.ok.exfs L z hL;exact ⟨hk,⟨L,_,hf,hn,e,hd⟩,ih (fun b hb=>hs b (by unfold frs;rw [BE_,hf];exact Ar_ _ hb)) hr⟩
 exact all X.outer (fun _ hb=>hb) I.ok.funs
theorem Inv.stack (I:Inv X pins σ H s):s.heap.FunFrames X.base X.stack:=by
 rcases I.ok.stk with e|⟨e,hf⟩
 ·rw [e];exact I.funs
 ·rw [e];obtain ⟨m,hn,_⟩:=I.loc;refine .cons (by rw [I.ok.kind];decide) hf hn ?_ I.funs;exact Cj_ (AM_ I.ok.bsz I.ok.above)
theorem Inv.stkSub (I:Inv X pins σ H s):∀ b∈frs X.stack,b∈X.env.locals::X.fs:=fun b hb=>by
 rcases I.ok.stk with e|⟨e,hf⟩
 ·rw [e] at hb;exact Ar_ _ hb
 ·rw [e] at hb;unfold frs at hb;rw [BE_,hf] at hb;exact hb
theorem Inv.stkFree (I:Inv X pins σ H s):∀ b∈frs X.stack,H b=none:=fun b hb=>by
 rcases Ax_.mp (I.stkSub b hb) with e|hb
 ·rw [e];exact I.free
 ·obtain ⟨_,o,ho,_⟩:=I.ok.funs.mem hb;exact I.base.free b o ho (I.ok.frf b hb) fun z=>I.ok.exfs b z hb
theorem Inv.step {g':Array GenState}{t':Nat}{d':Drawn}{ch:List Addr}(I:Inv X pins σ H s)
  (hch:∀ b∈ch,(b∈X.ex\/X.s₀.heap.objs.size<=b)/\b≠X.env.locals/\(∀ x c,X.env.cells.lookup x=some c->c≠b)/\∀ p∈X.pn++pins,p.1≠b)
  (keep:∀ b o,b≠X.env.locals->b∉X.fs->b∉ch->s.heap.get? b=some o->H b=none->h'.get? b=some o)
  (slot:∀ b o,b≠X.env.locals->b∈X.fs->b∉ch->s.heap.get? b=some o->H b=none->∃ sl,h'.get? b=some { o with slots:=sl }) (free:∀ b o,b∉ch->s.heap.get? b=some o->H b=none->H' b=none)
  (there:∀ b o,b∉ch->s.heap.get? b=some o->∃ o',h'.get? b=some o')
  (tups:∀ b xs,H b=some (.tup xs)->H' b=some (.tup xs)) (frzs:∀ b o u,H b=some (.frz o u)->H' b=some (.frz o u)) (tbls:∀ b ps,H b=some (.tbl ps)->∃ more,H' b=some (.tbl (ps++more)))
  (ns:∀ m,s.heap.Ns X.env.locals m->h'.Ns X.env.locals m) (hok:HOk X.prog X.w H' h') (hg:AllBare g') :
  Inv X pins σ H' { s with heap:=h',gens:=g',drawn:=d',toks:=t' }:=by
 have neL:∀ b o,X.s₀.heap.get? b=some o->b≠X.env.locals:=fun b o e=>AF_ (AI_ (Au_ e) I.ok.above)
 have neC:∀ b o,X.s₀.heap.get? b=some o->b∉X.ex->b∉ch:=fun b o e hx hb=>by
  rcases (hch b hb).1 with z|z
  ·exact hx z
  ·exact absurd (AI_ (Au_ e) z) (Bb_ _)
 have cellK:∀ x c,X.env.cells.lookup x=some c->∀ v,s.heap.IsCell c v->h'.IsCell c v:=fun x c e v ⟨o,ho,hd⟩=>by
  have nch:c∉ch:=fun z=>(hch c z).2.2.1 x c e rfl;by_cases hc:c∈X.fs
  ·obtain ⟨sl,q⟩:=slot c o (I.cne x c e) hc nch ho (I.freeC x c e);exact ⟨_,q,hd⟩
  ·exact ⟨o,keep c o (I.cne x c e) hc nch ho (I.freeC x c e),hd⟩
 refine ⟨I.ok,I.os,hg,⟨fun b o e n hb hx=>?_,fun b o e n hb hx=>?_,fun b o e n hx=>?_,fun b o e hx=>?_,fun b xs e=>tups b xs (I.base.tups b xs e),fun b o xs e=>frzs b o xs (I.base.frzs b o xs e),fun b ps e=>?_⟩,?_,fun x c e=>?_,?_,fun x c e=>?_,fun p hp=>?_,hok,I.len⟩
 ·exact keep b o (neL b o e) hb (neC b o e hx) (I.base.keep b o e n hb hx) (I.base.free b o e n hx)
 ·obtain ⟨sl,e1⟩:=I.base.slot b o e n hb hx;obtain ⟨sl',e2⟩:=slot b _ (neL b o e) hb (neC b o e hx) e1 (I.base.free b o e n hx);exact ⟨sl',e2⟩
 ·obtain ⟨o',e1⟩:=I.base.there b o e hx;exact free b o' (neC b o e hx) e1 (I.base.free b o e n hx)
 ·obtain ⟨o',e1⟩:=I.base.there b o e hx;exact there b o' (neC b o e hx) e1
 ·obtain ⟨m1,e1⟩:=I.base.tbls b ps e;obtain ⟨m2,e2⟩:=tbls b _ e1;exact ⟨m1++m2,by rw [e2,Array.append_assoc]⟩
 ·obtain ⟨m,hn,hl⟩:=I.loc;refine ⟨m,ns m hn,fun i x v e1 e2 e3=>?_⟩;obtain ⟨u,r,l⟩:=hl i x v e1 e2 e3;refine ⟨u,r,?_⟩
  rcases l with l|⟨k,c,e,z⟩
  ·exact .inl l
  ·exact .inr ⟨k,c,e,cellK x c e _ z⟩
 ·obtain ⟨v,z⟩:=I.cell x c e;exact ⟨v,cellK x c e v z⟩
 ·obtain ⟨m,⟨o,_,_,ho,_⟩,_⟩:=I.loc;exact free _ o (fun z=>(hch _ z).2.1 rfl) ho I.free
 ·obtain ⟨v,o,ho,hd⟩:=I.cell x c e;exact free c o (fun z=>(hch c z).2.2.1 x c e rfl) ho (I.freeC x c e)
 ·obtain ⟨e,n,ne,nf,d⟩:=I.pin p hp;have nch:p.1∉ch:=fun z=>(hch p.1 z).2.2.2 p hp rfl;exact ⟨keep p.1 p.2 ne nf nch e n,free p.1 p.2 nch e n,ne,nf,d⟩
theorem Inv.un {t':Nat}(I:Inv X pins σ H s)(u:Un X.fs [] H H' s.heap h')(hok:HOk X.prog X.w H' h'):Inv X pins σ H' { s with heap:=h',toks:=t' }:=by
 obtain ⟨m,⟨o,es,ep,ho,r⟩,_⟩:=id I.loc;obtain ⟨sl,hL⟩:=u.any ho I.free (by simp);exact I.step (g':=s.gens) (d':=s.drawn) (ch:=[]) (fun _ z=>nomatch z) (fun b o _ hb _ e n=>u.keep b o e n hb (by simp)) (fun b o _ hb _ e n=>u.slot b o e n hb (by simp)) (fun b o _ e n=>u.free b o e n (by simp)) (fun b o _ e=>u.there b o e (by simp)) u.tups u.frzs u.tbls (fun m' hm=>by obtain ⟨o',es',ep',ho',r'⟩:=hm;rw [ho] at ho';cases ho';exact ⟨_,es',ep',hL,r'⟩) hok I.bare
theorem Inv.call {g':Array GenState}{t':Nat}{d':Drawn}{ch:List Addr}(I:Inv X pins σ H s)(u:Un (frs X.stack) ch H H' s.heap h')(hok:HOk X.prog X.w H' h')(hg:AllBare g')
  (hch:∀ b∈ch,(b∈X.ex\/X.s₀.heap.objs.size<=b)/\b≠X.env.locals/\(∀ x c,X.env.cells.lookup x=some c->c≠b)/\∀ p∈X.pn++pins,p.1≠b) :
  Inv X pins σ H' { s with heap:=h',gens:=g',drawn:=d',toks:=t' }:=by
 obtain ⟨m,⟨o,es,ep,ho,r⟩,_⟩:=id I.loc;obtain ⟨sl,hL⟩:=u.any ho I.free fun z=>(hch _ z).2.1 rfl;exact I.step (ch:=ch) hch (fun b o hL hb hc e n=>u.keep b o e n (fun z=>(Ax_.mp (I.stkSub b z)).elim hL hb) hc) (fun b o _ _ hc e n=>u.any e n hc) (fun b o hc e n=>u.free b o e n hc) (fun b o hc e=>u.there b o e hc) u.tups u.frzs u.tbls (fun m' hm=>by obtain ⟨o',es',ep',ho',r'⟩:=hm;rw [ho] at ho';cases ho';exact ⟨_,es',ep',hL,r'⟩) hok hg
theorem Inv.turned {t':Nat}{it:Addr}(I:Inv X pins σ H s)(k:∀ b o,b≠it->s.heap.get? b=some o->h'.get? b=some o)(hn:H it=none)(hL:it≠X.env.locals)
  (h1:it∈X.ex\/X.s₀.heap.objs.size<=it) (h2:∀ x c,X.env.cells.lookup x=some c->c≠it) (h3:∀ p∈X.pn++pins,p.1≠it):Inv X pins σ H { s with heap:=h',toks:=t' }:=by
 have nit:∀ b u,H b=some u->b≠it:=fun b u e z=>by rw [z,hn] at e;cases e
 refine I.step (g':=s.gens) (d':=s.drawn) (ch:=[it]) (fun b hb=>?_) (fun b o _ _ hc e _=>k b o (fun z=>hc (by simp [z])) e) (fun b o _ _ hc e _=>⟨o.slots,k b o (fun z=>hc (by simp [z])) e⟩) (fun _ _ _ _ n=>n)
  (fun b o hc e=>⟨o,k b o (fun z=>hc (by simp [z])) e⟩) (fun _ _ e=>e) (fun _ _ _ e=>e) (fun b ps e=>⟨#[],by rw [e];simp⟩) (fun m hm=>?_) (fun b u e=>?_) I.bare
 ·have e:b=it:=by simpa using hb
  subst e;exact ⟨h1,hL,h2,h3⟩
 ·obtain ⟨o,es,ep,ho,r⟩:=hm;exact ⟨o,es,ep,k _ o (Ne.symm hL) ho,r⟩
 ·refine (I.hok b u e).stay (fun c v hc q=>k c v ?_ q) (fun _ q=>q) fun _ _ q=>q
  rcases hc with z|z
  ·rw [z];exact nit b u e
  ·exact nit c _ z
theorem Inv.tok (I:Inv X pins σ H s)(t:Nat):Inv X pins σ H { s with toks:=t }:=I.un (h':=s.heap) (t':=t) Un.refl I.hok
theorem Inv.kept {t':Nat}(I:Inv X pins σ H s)(k:∀ b u,s.heap.get? b=some u->h'.get? b=some u):Inv X pins σ H { s with heap:=h',toks:=t' }:=I.un (Un.kept k) (I.hok.kept k)
theorem Inv.laid {a:Addr}{o:HO}{t':Nat}(I:Inv X pins σ H s)(k:∀ b u,s.heap.get? b=some u->h'.get? b=some u)(hp:s.heap.objs.size<=a)(new:F2_ X.prog X.w (upd H a o) h' a o) :
  Inv X pins σ (upd H a o) { s with heap:=h',toks:=t' }:=I.un (Un.laid k hp (I.hok.fresh hp)) (I.hok.laid k hp new)
theorem Inv.write {x e:Addr}{o:HO}{t':Nat}(I:Inv X pins σ H s)(mu:Mut (H x))(he:e=x\/H e=some (.own x))(k:∀ b u,b≠e->s.heap.get? b=some u->h'.get? b=some u)(heo:∃ u,h'.get? e=some u)
  (new:F2_ X.prog X.w (upd H x o) h' x o):Inv X pins σ (upd H x o) { s with heap:=h',toks:=t' }:=I.un (Un.write mu he k heo) (I.hok.write mu he k heo new)
theorem Inv.pins_of {pins':List (Addr×Obj)}(I:Inv X pins σ H s)(h:∀ p∈pins',s.heap.get? p.1=some p.2/\H p.1=none/\p.1≠X.env.locals/\p.1∉X.fs/\∀ v,p.2.data≠.cell v):Inv X pins' σ H s :=
 ⟨I.ok,I.os,I.bare,I.base,I.loc,I.cell,I.free,I.freeC,fun p hp=>(An_.mp hp).elim (fun z=>I.pin p (AL_ _ z)) (h p),I.hok,I.len⟩
theorem kT_ {N:List Str}(hN:N.Nodup){i j:Nat}{x:Str}(a:N[i]?=some x)(b:N[j]?=some x):i=j:=by obtain ⟨h1,e1⟩:=Ae_.mp a;obtain ⟨h2,e2⟩:=Ae_.mp b;exact (List.getElem_inj hN).mp (e1.trans e2.symm)
theorem i6_ {M:Model}{A:Around}{E:Value->Shared->Prop}{i:Nat}{x:Str}{v:V}{u:Value}{Q:Unit->Shared->Prop}(I:Inv X pins σ H s)(hN:X.N.Nodup)(hi:X.N[i]?=some x)(hx:Loc X.env.scope x)(r:F1_ v u)
  (h:∀ s',Inv X pins (σ.set i (some v)) H s'->(∃ a,Heap.SameBut a s.heap s'.heap/\(a=X.env.locals\/X.env.cells.lookup x=some a))->Q () s') (hf:X.fn x=true\/X.env.scope.names.lookup x=some .local:=by first|exact .inl rfl|exact .inr rfl|assumption):wpAny M A (storeName X.env x u) Q E s:=by
 obtain ⟨m,hn,hl⟩:=id I.loc;have hcls:(X.env.scope.kind == .class || (X.env.scope.kind == .module && X.env.locals != X.env.globals))=false:=by rw [I.ok.kind];rfl
 have hiσ:i<σ.length:=by rw [I.len];exact (Ae_.mp hi).1
 have cne:=I.cne
 have tracked:∀ {a:Addr}{h':Heap},(∃ o,s.heap.get? a=some o/\H a=none)->Heap.SameBut a s.heap h'->HOk X.prog X.w H h':=fun {a h'} ha hs b ob e=>by
  obtain ⟨_,_,hfree⟩:=ha;refine (I.hok b ob e).stay (fun c w' hc q=>(hs.2 c ?_).trans q) (fun _ q=>q) fun _ _ q=>q;rintro rfl
  rcases hc with rfl|hc
  ·rw [hfree] at e;cases e
  ·rw [hfree] at hc;cases hc
 rcases hx with hk|hk
 ·refine wpAny_storeName_local hk hn (fun h' hn' hs=>?_) hcls;obtain ⟨oL,_,_,hoL,_⟩:=id hn;refine h _ ⟨I.ok,I.os,I.bare,⟨fun b o e n hb hx=>?_,fun b o e n hb hx=>?_,I.base.free,fun b o e hx=>?_,I.base.tups,I.base.frzs,I.base.tbls⟩,⟨_,hn',fun j y v' e1 e2 e3=>?_⟩,fun y c e=>?_,I.free,I.freeC,fun p hp=>?_,tracked ⟨oL,hoL,I.free⟩ hs,by simpa using I.len⟩ ⟨_,hs,.inl rfl⟩
  ·exact (hs.2 b (AF_ (AI_ (Au_ e) I.ok.above))).trans (I.base.keep b o e n hb hx)
  ·obtain ⟨sl,e1⟩:=I.base.slot b o e n hb hx;exact ⟨sl,(hs.2 b (AF_ (AI_ (Au_ e) I.ok.above))).trans e1⟩
  ·obtain ⟨o',e1⟩:=I.base.there b o e hx;exact ⟨o',(hs.2 b (AF_ (AI_ (Au_ e) I.ok.above))).trans e1⟩
  ·by_cases hj:j=i
   ·subst hj;rw [hi] at e1;cases e1;rw [EA_ hiσ] at e2;cases e2;exact ⟨u,r,.inl ⟨hk,by simp⟩⟩
   ·rw [EY_ (Ne.symm hj)] at e2;obtain ⟨u',r',q⟩:=hl j y v' e1 e2 e3;refine ⟨u',r',?_⟩
    rcases q with ⟨k,e⟩|⟨k,c,e,z⟩
    ·refine .inl ⟨k,?_⟩;have:y≠x:=fun e=>hj (kT_ hN e1 (e ▸ hi));simp [this,e]
    ·exact .inr ⟨k,c,e,z.sameBut hs (cne y c e)⟩
  ·obtain ⟨w',z⟩:=I.cell y c e;exact ⟨w',z.sameBut hs (cne y c e)⟩
  ·obtain ⟨e,n,ne,nf,d⟩:=I.pin p hp;exact ⟨(hs.2 p.1 ne).trans e,n,ne,nf,d⟩
 ·have hfn:X.fn x=true:=by
   rcases hf with z|z
   ·exact z
   ·rw [z] at hk;cases hk
  obtain ⟨c,hc⟩:=I.ok.has x (.inl hk);obtain ⟨w',z⟩:=I.cell x c hc;refine wpAny_storeName_cell I.ok.kind hk hc z (fun h' hc' hs=>?_);obtain ⟨oc,hoc,hocd⟩:=id z;refine h { s with heap:=h' } ⟨I.ok,I.os,I.bare,⟨fun b o e n hb hx=>?_,fun b o e n hb hx=>?_,I.base.free,fun b o e hx=>?_,I.base.tups,I.base.frzs,I.base.tbls⟩,⟨m,hn.sameBut hs (Ne.symm (cne x c hc)),fun j y v' e1 e2 e3=>?_⟩,fun y c' e=>?_,I.free,I.freeC,fun p hp=>?_,tracked ⟨oc,hoc,I.freeC x c hc⟩ hs,by simpa using I.len⟩ ⟨c,hs,.inr hc⟩
  ·exact (hs.2 b (AF_ (AI_ (Au_ e) (I.ok.cab x c hfn hc)))).trans (I.base.keep b o e n hb hx)
  ·obtain ⟨sl,e1⟩:=I.base.slot b o e n hb hx;exact ⟨sl,(hs.2 b (AF_ (AI_ (Au_ e) (I.ok.cab x c hfn hc)))).trans e1⟩
  ·obtain ⟨o',e1⟩:=I.base.there b o e hx;exact ⟨o',(hs.2 b (AF_ (AI_ (Au_ e) (I.ok.cab x c hfn hc)))).trans e1⟩
  ·by_cases hj:j=i
   ·subst hj;rw [hi] at e1;cases e1;rw [EA_ hiσ] at e2;cases e2;exact ⟨u,r,.inr ⟨.inl hk,c,hc,hc'⟩⟩
   ·rw [EY_ (Ne.symm hj)] at e2;obtain ⟨u',r',q⟩:=hl j y v' e1 e2 e3;refine ⟨u',r',?_⟩
    rcases q with q|⟨k,c',e,z'⟩
    ·exact .inl q
    ·refine .inr ⟨k,c',e,z'.sameBut hs ?_⟩;rintro rfl;exact hj (kT_ hN e1 (I.ok.inj _ _ _ e hc ▸ hi))
  ·by_cases hcc:c'=c
   ·subst hcc;exact ⟨_,hc'⟩
   ·obtain ⟨w2,z2⟩:=I.cell y c' e;exact ⟨w2,z2.sameBut hs hcc⟩
  ·obtain ⟨e,n,ne,nf,d⟩:=I.pin p hp;refine ⟨(hs.2 p.1 ?_).trans e,n,ne,nf,d⟩;intro q;rw [q,hoc] at e;have q':oc=p.2:=Aw_ e;exact d w' (by rw [<-q'];exact hocd)
theorem gV_ {M:Model}{A:Around}{E:Value->Shared->Prop}{i:Nat}{x:Str}{v:V}{u:Value}{Q:Unit->Shared->Prop}(I:Inv X pins σ H s)(hN:X.N.Nodup)(hi:X.N[i]?=some x)(hx:Loc X.env.scope x)(r:F1_ v u)
  (h:∀ s',Inv X pins (σ.set i (some v)) H s'->Q () s') (hf:X.fn x=true\/X.env.scope.names.lookup x=some .local:=by first|exact .inl rfl|exact .inr rfl|assumption):wpAny M A (storeName X.env x u) Q E s :=
 i6_ I hN hi hx r (fun s' I' _=>h s' I') hf
theorem Inv.call' {s':Shared}{ch:List Addr}(I:Inv X pins σ H s)(ho:s'.os=s.os)(u:Un (frs X.stack) ch H H' s.heap s'.heap)(hok:HOk X.prog X.w H' s'.heap)(hg:AllBare s'.gens)
  (hch:∀ b∈ch,(b∈X.ex\/X.s₀.heap.objs.size<=b)/\b≠X.env.locals/\(∀ x c,X.env.cells.lookup x=some c->c≠b)/\∀ p∈X.pn++pins,p.1≠b):Inv X pins σ H' s':=by
 obtain ⟨h',g',d',t',o'⟩:=s';have e:o'=s.os:=ho;subst e;exact I.call (g':=g') (t':=t') (d':=d') u hok hg hch
end
abbrev XK:=Value->Option Addr->Hp->Prop
abbrev St:=List (Option V)
abbrev VK:=V->Hp->Prop
abbrev TE:=St->Hp->VK->Prop
abbrev TT:=St->Hp->(Bool->Hp->Prop)->Prop
abbrev TA:=St->Hp->(List V->Hp->Prop)->Prop
structure HU_ where
 nx:St->Hp->Prop
 rt:VK
 bk:St->Hp->Prop:=fun _ _=>False
 ct:St->Hp->Prop:=fun _ _=>False
abbrev TS:=HU_->St->Hp->Prop
def EP (X:Cx)(pins:List (Addr×Obj))(σ:St)(Q:VK)(u:Value)(s':Shared):Prop:=∃ v H',Inv X pins σ H' s'/\F1_ v u/\Q v H'
def TP (X:Cx)(pins:List (Addr×Obj))(σ:St)(Q:Bool->Hp->Prop)(b:Bool)(s':Shared):Prop:=∃ H',Inv X pins σ H' s'/\Q b H'
def AP (X:Cx)(pins:List (Addr×Obj))(σ:St)(Q:List V->Hp->Prop)(us:List Value)(s':Shared):Prop:=∃ vs H',Inv X pins σ H' s'/\FT_ vs us/\Q vs H'
def SP (X:Cx)(pins:List (Addr×Obj))(D:HU_)(f:Flow)(s':Shared):Prop :=
 match f with
 | .next=>∃ σ' H',Inv X pins σ' H' s'/\D.nx σ' H'
 | .brk=>∃ σ' H',Inv X pins σ' H' s'/\D.bk σ' H'
 | .cont=>∃ σ' H',Inv X pins σ' H' s'/\D.ct σ' H'
 | .ret u=>∃ v σ' H',Inv X pins σ' H' s'/\F1_ v u/\D.rt v H'
def PE (X:Cx)(e:Expr)(t:TE):Prop :=
 ∀ (pins:List (Addr×Obj))(s:Shared)(σ:St)(H:Hp)(Q:VK),Inv X pins σ H s->t σ H Q->wpAny (model X.prog X.w) X.A (eval e X.env) (EP X pins σ Q) X.xe s
def PT (X:Cx)(e:Expr)(t:TT):Prop :=
 ∀ (pins:List (Addr×Obj))(s:Shared)(σ:St)(H:Hp)(Q:Bool->Hp->Prop),Inv X pins σ H s->t σ H Q->wpAny (model X.prog X.w) X.A (isTrue e X.env (eval e X.env)) (TP X pins σ Q) X.xe s
def PW (X:Cx)(e:Expr)(t:TT):Prop :=
 ∀ (whole:Sem Value)(pins:List (Addr×Obj))(s:Shared)(σ:St)(H:Hp)(Q:Bool->Hp->Prop),Inv X pins σ H s->t σ H Q->wpAny (model X.prog X.w) X.A (isTrue e X.env whole) (TP X pins σ Q) X.xe s
theorem PW.pt {X:Cx}{e:Expr}{t:TT}(h:PW X e t):PT X e t:=h _
def PA (X:Cx)(es:List Expr)(t:TA):Prop :=
 ∀ (pos:Pos)(pins:List (Addr×Obj))(s:Shared)(σ:St)(H:Hp)(Q:List V->Hp->Prop),Inv X pins σ H s->t σ H Q->wpAny (model X.prog X.w) X.A (spliced (backTo pos (starEach es X.env))) (AP X pins σ Q) X.xe s
def PS (X:Cx)(st:Stmt)(t:TS):Prop :=
 ∀ (pins:List (Addr×Obj))(s:Shared)(σ:St)(H:Hp)(D:HU_),Inv X pins σ H s->t D σ H->wpAny (model X.prog X.w) X.A (exec st X.env) (SP X pins D) X.xe s
def PSs (X:Cx)(st:List Stmt)(t:TS):Prop :=
 ∀ (pins:List (Addr×Obj))(s:Shared)(σ:St)(H:Hp)(D:HU_),Inv X pins σ H s->t D σ H->wpAny (model X.prog X.w) X.A (execs st X.env) (SP X pins D) X.xe s
theorem thn {α:Type}{t:Sem α}{Q Q':α->Shared->Prop}{M:Model}{A:Around}{E:Value->Shared->Prop}{s:Shared}(h:wpAny M A t Q E s)(hQ:∀ a s,Q a s->Q' a s):wpAny M A t Q' E s:=Bi_ h hQ fun _ _ x=>x
end L2
namespace L2
open PySem PySem.Spec PyProof.Rows
section
variable {X:Cx}
def Je_ (i:Nat):TE:=fun σ H Q=>∃ v,σ[i]?=some (some v)/\Q v H
def tC (v:V):TE:=fun _ H Q=>Q v H
theorem l6_ {i:Nat}{x:Str}{pos:Pos}(hN:X.N[i]?=some x)(hv:Vis X.env.scope x)(hd:(x == ("__debug__" : Str))=false:=by decide) (hcd:(x == ("__classdict__" : Str))=false:=by decide):PE X (.Name x pos) (Je_ i):=by
 intro pins s σ H Q I h;obtain ⟨v,e,h⟩:=h;obtain ⟨m,hn,hl⟩:=I.loc;obtain ⟨u,r,l⟩:=hl i x v hN e hv;have fin:EP X pins σ Q u s:=⟨v,H,I,r,h⟩
 rcases l with ⟨hk,hm⟩|⟨hk,c,hc,hcell⟩
 ·exact wpAny_Name (wpAny_loadName_local I.ok.kind hk hn hm fin) hd
 ·rcases hk with hk|hk
  ·exact wpAny_Name (wpAny_loadName_cell I.ok.kind hk hc hcell fin) hd
  ·exact wpAny_Name (wpAny_loadName_free I.ok.kind hk hc hcell fin hcd) hd
theorem ad_ {i j pos}:PE X (.Constant (.int i) j pos) (tC (.int i)):=fun _ _ _ H _ I h=>wpAny_Constant_int ⟨.int i,H,I.tok _,⟨_,rfl⟩,h⟩
theorem GI_ {b j pos}:PE X (.Constant (.bool b) j pos) (tC (.bl b)):=fun _ _ _ H _ I h=>Constant_bool ⟨.bl b,H,I,rfl,h⟩
theorem he_ {j pos}:PE X (.Constant .none j pos) (tC .non):=fun _ _ _ H _ I h=>E6_ ⟨.non,H,I,rfl,h⟩
theorem l7_ {x j pos}:PE X (.Constant (.str x) j pos) (tC (.str x)):=fun _ _ _ H _ I h=>Calls.Constant_str ⟨.str x,H,I.tok _,⟨_,rfl⟩,h⟩
def Gl (X:Cx)(x:Str):Prop:=X.env.kindOf x=some .globalImplicit
theorem oF_ {E:Value->Shared->Prop}{pins:List (Addr×Obj)}{s:Shared}{σ:St}{H:Hp}{x:Str}{u:Value}{pos:Pos}{Q:Value->Shared->Prop}(I:Inv X pins σ H s)(hg:Gl X x)(hm:X.mg x=some u)(h:Q u s)
  (hd:(x == ("__debug__" : Str))=false:=by decide):wpAny (model X.prog X.w) X.A (eval (.Name x pos) X.env) Q E s :=
 DJ_ I.ok.kind hg (Calls.loadGlobal_global (by rw [I.ok.glob];exact I.mod.glob.keeps I.bk) hm h) hd
theorem d5_ {E:Value->Shared->Prop}{pins:List (Addr×Obj)}{s:Shared}{σ:St}{H:Hp}{x:Str}{u:Value}{pos:Pos}{Q:Value->Shared->Prop}(I:Inv X pins σ H s)(hg:Gl X x)(hm:X.mg x=none)(hv:bootBuiltins x=some u)(h:Q u s)
  (hn:x ≠ "__name__" := by decide) (hd:(x == ("__debug__" : Str))=false:=by decide):wpAny (model X.prog X.w) X.A (eval (.Name x pos) X.env) Q E s:=by
 obtain ⟨mb,h1,h2⟩:=I.mod.blt;exact DJ_ I.ok.kind hg (Calls.loadGlobal_builtin (by rw [I.ok.glob];exact I.mod.glob.keeps I.bk) hm (by rw [I.ok.blt];exact h1.keeps I.bk) ((h2 x hn).trans hv) h) hd
theorem oG_ {x:Str}{v:V}{u:Value}{pos:Pos}(hg:Gl X x)(hm:X.mg x=none)(hv:bootBuiltins x=some u)(r:F1_ v u)(hn:x ≠ "__name__" := by decide) (hd:(x == ("__debug__" : Str))=false:=by decide):PE X (.Name x pos) (tC v) :=
 fun _ _ _ H _ I h=>d5_ I hg hm hv ⟨v,H,I,r,h⟩ hn hd
variable {a b:Expr}{ta tb:TE}{pos:Pos}
def PC (X:Cx)(op:CmpOp)(a b:Expr)(t:TE):Prop :=
 ∀ (pins:List (Addr×Obj))(s:Shared)(σ:St)(H:Hp)(Q:VK),Inv X pins σ H s->t σ H Q ->
  wpAny (model X.prog X.w) X.A (eval a X.env) (fun v s₁=>wpAny (model X.prog X.w) X.A (eval b X.env) (fun u s₂=>wpAny (model X.prog X.w) X.A (compareOp op v u) (EP X pins σ Q) X.xe s₂) X.xe s₁) X.xe s
theorem Jq_ (b:Expr){op:CmpOp}(h:op≠.In)(h2:op≠.NotIn):behindInMarks op b=false:=by
 have e1:(op == CmpOp.In)=false:=by cases op <;> first|rfl|exact absurd rfl h
 have e2:(op == CmpOp.NotIn)=false:=by cases op <;> first|rfl|exact absurd rfl h2
 cases b <;> simp [behindInMarks,e1,e2]
def Lc_ (ta:TE):TE:=fun σ H Q=>ta σ H fun x H1=>Q (.bl (decide (x=.non))) H1
def Kd_ (ta:TE):TE:=fun σ H Q=>ta σ H fun x H1=>Q (.bl (!decide (x=.non))) H1
theorem F1_.none_iff {x:V}{v:Value}(r:F1_ x v):(v == Value.none)=decide (x=.non):=by
 cases x with
 | non=>cases r;rfl
 | bl _=>cases r;rfl
 | int _=>obtain ⟨t,rfl⟩:=r;rfl
 | str _=>obtain ⟨t,rfl⟩:=r;rfl
 | byt _=>obtain ⟨t,rfl⟩:=r;rfl
 | flt _=>obtain ⟨t,rfl⟩:=r;rfl
 | ref _=>cases r;rfl
 | ty _=>cases r;rfl
theorem ps_ {j pos'} (ha:PE X a ta):PC X .Is a (.Constant .none j pos') (Lc_ ta):=by intro pins s σ H Q I h;refine thn (ha pins s σ H _ I h) fun v s1 ⟨x,H1,I1,r1,q1⟩=>?_;exact E6_ (is_none_gen ⟨.bl _,H1,I1,by rw [r1.none_iff];rfl,q1⟩)
theorem oH_ {j pos'} (ha:PE X a ta):PC X .IsNot a (.Constant .none j pos') (Kd_ ta):=by intro pins s σ H Q I h;refine thn (ha pins s σ H _ I h) fun v s1 ⟨x,H1,I1,r1,q1⟩=>?_;exact E6_ (isnot_none_gen ⟨.bl _,H1,I1,by rw [r1.none_iff];rfl,q1⟩)
def tB (t:TE):TT:=fun σ H Q=>t σ H fun x H1=>∃ c,x=.bl c/\Q c H1
theorem hf_ {op:CmpOp}{t:TE}(h:PC X op a b t)(h1:behindInMarks op b=false:=by first|exact Jq_ _ (by decide) (by decide)|rfl):PT X (.Compare a [op] [b] pos) (tB t):=by intro pins s σ H Q I hw;refine EM_ (thn (h pins s σ H _ I hw) fun v s1 h1=>thn h1 fun u s2 h2=>thn h2 fun c s3 ⟨x,H1,I1,r1,q1⟩=>?_) h1;obtain ⟨d,rfl,q⟩:=q1;cases r1;exact Br_ ⟨H1,I1,q⟩
theorem i7_ {e:Expr}{t:TE}(h:PE X e t)(he:∀ whole,isTrue e X.env whole=(do let v <-whole;standAt e.pos;holding [v] (truthy v)):=by intro _;rfl):PT X e (tB t):=by intro pins s σ H Q I hw;refine isTrue_plain (thn (h pins s σ H _ I hw) fun v s1 ⟨x,H1,I1,r1,q1⟩=>?_) (he _);obtain ⟨d,rfl,q⟩:=q1;cases r1;exact Br_ ⟨H1,I1,q⟩
variable {tA tB':TT}{rest:List Expr}
def KY_ (t u:TT):TT:=fun σ H Q=>t σ H fun c H1=>if c=true then u σ H1 Q else Q false H1
def tOr (t u:TT):TT:=fun σ H Q=>t σ H fun c H1=>if c=true then Q true H1 else u σ H1 Q
def KT_ (t:TT):TT:=fun σ H Q=>t σ H fun c H1=>Q (!c) H1
theorem oI_ (ha:PT X a tA):PW X (.BoolOp .And [a] pos) tA:=by
 intro wh pins s σ H Q I h;refine isTrue_and (thn (ha pins s σ H Q I h) fun c s1 e=>?_);cases c with
 | true=>exact isTrue_and_nil e
 | false=>exact e
theorem oa_ (ha:PT X a tA):PW X (.BoolOp .Or [a] pos) tA:=by
 intro wh pins s σ H Q I h;refine isTrue_or (thn (ha pins s σ H Q I h) fun c s1 e=>?_);cases c with
 | false=>exact isTrue_or_nil e
 | true=>exact e
theorem pt_ (ha:PT X a tA)(hb:PW X (.BoolOp .And (b::rest) pos) tB'):PW X (.BoolOp .And (a::b::rest) pos) (KY_ tA tB'):=by
 intro wh pins s σ H Q I h;refine isTrue_and (thn (ha pins s σ H _ I h) fun c s1 ⟨H1,I1,q1⟩=>?_);cases c with
 | true=>exact hb wh pins s1 σ H1 Q I1 q1
 | false=>exact ⟨H1,I1,q1⟩
theorem Km_ (ha:PT X a tA)(hb:PW X (.BoolOp .Or (b::rest) pos) tB'):PW X (.BoolOp .Or (a::b::rest) pos) (tOr tA tB'):=by
 intro wh pins s σ H Q I h;refine isTrue_or (thn (ha pins s σ H _ I h) fun c s1 ⟨H1,I1,q1⟩=>?_);cases c with
 | true=>exact ⟨H1,I1,q1⟩
 | false=>exact hb wh pins s1 σ H1 Q I1 q1
theorem kU_ (ha:PT X a tA):PT X (.UnaryOp .Not a pos) (KT_ tA):=by intro pins s σ H Q I h;exact isTrue_not (ha pins s σ H (fun c H1=>Q (!c) H1) I h)
def Ke_ (ta tb:TE):TE:=fun σ H Q=>ta σ H fun x H1=>∃ c,x=.bl c/\if c=true then tb σ H1 Q else Q (.bl false) H1
def JU_ (ta:TE):TE:=fun σ H Q=>ta σ H fun x H1=>∃ c,x=.bl c/\Q (.bl (!c)) H1
theorem pu_ {op} {t:TE} (h:PE X a t):PE X (.BoolOp op [a] pos) t:=fun pins s σ H Q I hw=>BoolOp_one (h pins s σ H Q I hw)
theorem pv_ (ha:PE X a ta)(hb:PE X (.BoolOp .And (b::rest) pos) tb):PE X (.BoolOp .And (a::b::rest) pos) (Ke_ ta tb):=by
 intro pins s σ H Q I h;refine BoolOp_and (thn (ha pins s σ H _ I h) fun v s1 ⟨x,H1,I1,r1,q1⟩=>?_);obtain ⟨c,rfl,q1⟩:=q1;cases r1;refine Br_ ?_;cases c with
 | true=>exact hb pins s1 σ H1 Q I1 q1
 | false=>exact ⟨.bl false,H1,I1,rfl,q1⟩
theorem pw_ (ha:PE X a ta):PE X (.UnaryOp .Not a pos) (JU_ ta):=by intro pins s σ H Q I h;refine UnaryOp_ (thn (ha pins s σ H _ I h) fun v s1 ⟨x,H1,I1,r1,q1⟩=>?_);obtain ⟨c,rfl,q1⟩:=q1;cases r1;exact not_of (Br_ ⟨.bl (!c),H1,I1,rfl,q1⟩)
def tIf (t:TT)(ta tb:TE):TE:=fun σ H Q=>t σ H fun c H1=>if c=true then ta σ H1 Q else tb σ H1 Q
theorem no_ {c:Expr}(hc:PT X c tA)(ha:PE X a ta)(hb:PE X b tb):PE X (.IfExp c a b pos) (tIf tA ta tb):=by
 intro pins s σ H Q I h;refine wpAny_IfExp (thn (hc pins s σ H _ I h) fun d s1 ⟨H1,I1,q1⟩=>?_);cases d with
 | true=>exact ha pins s1 σ H1 Q I1 q1
 | false=>exact hb pins s1 σ H1 Q I1 q1
end
end L2
namespace L2
open PySem PySem.Spec PyProof.Rows
def SqL (K:PySem.W.Frag)(H:Hp)(a:Addr)(xs:List V):Prop :=
 Rd H a (.lst xs) \/
  ∃ (o:Obj)(its:Array Value)(n:Nat),K.lookup a=some o/\o.cls=.type "list" /\ o.dict=none/\o.data=.seq its n/\its.size<=sizeLine/\FT_ xs its.toList
def SqT (K:PySem.W.Frag)(H:Hp)(a:Addr)(xs:List V):Prop :=
 Rd H a (.tup xs) \/
  ∃ (o:Obj)(its:Array Value)(n:Nat),K.lookup a=some o/\o.cls=.type "tuple" /\ o.data=.seq its n/\its.size<=sizeLine/\FT_ xs its.toList
def absV:Value->Option V
 | .none=>some .non
 | .bool b=>some (.bl b)
 | .int i _=>some (.int i)
 | .str x _=>some (.str x)
 | .bytes b _=>some (.byt b)
 | .float b _=>some (.flt b)
 | .ref a=>some (.ref a)
 | .type n=>some (.ty n)
 | _=>none
theorem F1_.abs {x:V}{u:Value}(r:F1_ x u):absV u=some x:=by
 cases x with
 | non=>cases r;rfl
 | bl _=>cases r;rfl
 | int _=>obtain ⟨t,rfl⟩:=r;rfl
 | str _=>obtain ⟨t,rfl⟩:=r;rfl
 | byt _=>obtain ⟨t,rfl⟩:=r;rfl
 | flt _=>obtain ⟨t,rfl⟩:=r;rfl
 | ref _=>cases r;rfl
 | ty _=>cases r;rfl
theorem F1_.inj {x y:V}{u:Value}(r:F1_ x u)(q:F1_ y u):x=y:=Aw_ (r.abs.symm.trans q.abs)
theorem FT_.inj:∀ {xs ys:List V}{us:List Value},FT_ xs us->FT_ ys us->xs=ys
 | _,_,_,.nil,.nil=>rfl
 | _,_,_,.cons r t,.cons r' t'=>by rw [r.inj r',FT_.inj t t']
section
variable {X:Cx}{pins:List (Addr×Obj)}{σ:St}{H:Hp}{s:Shared}{a:Addr}{xs ys:List V}
theorem SqL.of {K:PySem.W.Frag}(h:H a=some (.lst xs)):SqL K H a xs:=.inl (.inl h)
theorem SqT.of {K:PySem.W.Frag}(h:H a=some (.tup xs)):SqT K H a xs:=.inl (.inl h)
theorem Inv.list (I:Inv X pins σ H s)(h:SqL X.K H a xs):∃ its:List Value,FT_ xs its/\PlainL s.heap a its.toArray/\xs.length<=sizeLine:=by
 rcases h with h|⟨o,its,n,hk,hc,hd,hs,hz,r⟩
 ·obtain ⟨z,its,n,r,e⟩:=h.ok I.hok;exact ⟨its,r,⟨_,n,e,rfl,rfl,rfl⟩,z⟩
 ·refine ⟨its.toList,r,⟨o,n,I.kIn a o hk,hc,hd,by simpa using hs⟩,?_⟩;have e:=r.length;simp only [B1_] at e;lia
theorem Inv.tuple (I:Inv X pins σ H s)(h:SqT X.K H a xs):∃ its:List Value,FT_ xs its/\IsTup s.heap a its.toArray/\xs.length<=sizeLine:=by
 rcases h with h|⟨o,its,n,hk,hc,hs,hz,r⟩
 ·obtain ⟨z,its,r,p⟩:=h.ok I.hok;exact ⟨its,r,p,z⟩
 ·refine ⟨its.toList,r,⟨o,I.kIn a o hk,hc,n,by simpa using hs⟩,?_⟩;have e:=r.length;simp only [B1_] at e;lia
theorem Inv.list_inj (I:Inv X pins σ H s)(h:SqL X.K H a xs)(h':SqL X.K H a ys):xs=ys:=by
 obtain ⟨its,r,⟨o,n,e,_,_,d⟩,_⟩:=I.list h;obtain ⟨its',r',⟨o',n',e',_,_,d'⟩,_⟩:=I.list h';rw [e] at e';cases e';rw [d] at d';injection d' with d1 _
 have:its=its':=by simpa using congrArg Array.toList d1
 subst this;exact r.inj r'
theorem Inv.tuple_inj (I:Inv X pins σ H s)(h:SqT X.K H a xs)(h':SqT X.K H a ys):xs=ys:=by
 obtain ⟨its,r,⟨o,e,_,n,d⟩,_⟩:=I.tuple h;obtain ⟨its',r',⟨o',e',_,n',d'⟩,_⟩:=I.tuple h';rw [e] at e';cases e';rw [d] at d';injection d' with d1 _
 have:its=its':=by simpa using congrArg Array.toList d1
 subst this;exact r.inj r'
end
abbrev Cx.wish (X:Cx)(E:Value->Shared->Prop):Cx:={ X with xe:=E }
abbrev Cx.nox (X:Cx):Cx:=X.wish fun _ _=>False
theorem Cx.Ok.wish {X:Cx}(ok:X.Ok)(E:Value->Shared->Prop):(X.wish E).Ok :=
 ⟨ok.mod,ok.kind,ok.glob,ok.blt,ok.above,ok.inj,ok.has,ok.cab,ok.hd,ok.frames,ok.stk,ok.exf,ok.bs,ok.bsz,ok.noex,ok.exfs,ok.funs,ok.frf⟩
theorem Cx.Ok.unwish {X:Cx}{E:Value->Shared->Prop}(ok:(X.wish E).Ok):X.Ok :=
 ⟨ok.mod,ok.kind,ok.glob,ok.blt,ok.above,ok.inj,ok.has,ok.cab,ok.hd,ok.frames,ok.stk,ok.exf,ok.bs,ok.bsz,ok.noex,ok.exfs,ok.funs,ok.frf⟩
section
variable {X:Cx}{pins:List (Addr×Obj)}{σ:St}{H:Hp}{s:Shared}{E:Value->Shared->Prop}
theorem Inv.wish (I:Inv X pins σ H s)(E:Value->Shared->Prop):Inv (X.wish E) pins σ H s:=⟨I.ok.wish E,I.os,I.bare,I.base,I.loc,I.cell,I.free,I.freeC,I.pin,I.hok,I.len⟩
theorem Inv.unwish (I:Inv (X.wish E) pins σ H s):Inv X pins σ H s:=⟨I.ok.unwish,I.os,I.bare,I.base,I.loc,I.cell,I.free,I.freeC,I.pin,I.hok,I.len⟩
theorem SP.unwish {D:HU_}{f:Flow}{s':Shared}(h:SP (X.wish E) pins D f s'):SP X pins D f s':=by
 cases f with
 | next=>obtain ⟨σ',H',I,q⟩:=h;exact ⟨σ',H',I.unwish,q⟩
 | brk=>obtain ⟨σ',H',I,q⟩:=h;exact ⟨σ',H',I.unwish,q⟩
 | cont=>obtain ⟨σ',H',I,q⟩:=h;exact ⟨σ',H',I.unwish,q⟩
 | ret u=>obtain ⟨v,σ',H',I,r,q⟩:=h;exact ⟨v,σ',H',I.unwish,r,q⟩
theorem PE.nox {e:Expr}{t:TE}(h:PE X.nox e t):PE X e t:=fun pins s σ H Q I hw =>Bi_ (h pins s σ H Q (I.wish _) hw) (fun _ _ ⟨v,H',I',r,q⟩=>⟨v,H',I'.unwish,r,q⟩) fun _ _ z=>False.elim z
theorem PT.nox {e:Expr}{t:TT}(h:PT X.nox e t):PT X e t:=fun pins s σ H Q I hw =>Bi_ (h pins s σ H Q (I.wish _) hw) (fun _ _ ⟨H',I',q⟩=>⟨H',I'.unwish,q⟩) fun _ _ z=>False.elim z
theorem PSs.nox {st:List Stmt}{t:TS}(h:PSs X.nox st t):PSs X st t:=fun pins s σ H D I hw =>Bi_ (h pins s σ H D (I.wish _) hw) (fun _ _ q=>q.unwish) fun _ _ z=>False.elim z
end
section
variable {X:Cx}{st:Stmt}{rest:List Stmt}{t u:TS}{e:Expr}{te:TE}{pos:Pos}
def JY_:TS:=fun D σ H=>D.nx σ H
def La_ (t u:TS):TS:=fun D σ H=>t { D with nx:=u D } σ H
theorem aW_:PSs X [] JY_:=fun _ _ σ H _ I h=>Dc_ ⟨σ,H,I,h⟩
theorem ai_ (h1:PS X st t)(h2:PSs X rest u):PSs X (st::rest) (La_ t u):=by
 intro pins s σ H D I h;refine wpAny_execs_cons (thn (h1 pins s σ H { D with nx:=u D } I h) fun f s1 q=>?_);cases f with
 | next =>
  obtain ⟨σ',H',I',q⟩:=q;exact h2 pins s1 σ' H' D I' q
 | ret v=>exact q
 | brk=>exact q
 | cont=>exact q
theorem aj_ (h1:PS X st t):PSs X [st] t:=by
 intro pins s σ H D I h;refine wpAny_execs_cons (thn (h1 pins s σ H D I h) fun f s1 q=>?_);cases f with
 | next=>exact Dc_ q
 | ret v=>exact q
 | brk=>exact q
 | cont=>exact q
def Ku_:TS:=fun D σ H=>D.bk σ H
theorem np_:PS X (.Break pos) Ku_:=fun _ _ σ H _ I h=>wpAny_Break ⟨σ,H,I,h⟩
theorem Inv.quiet {pins:List (Addr×Obj)}{σ:St}{H:Hp}{s:Shared}(I:Inv X pins σ H s):interactive X.env=false:=by simp [interactive,I.ok.kind]
def Jk_ (te:TE):TS:=fun D σ H=>te σ H fun _ H1=>D.nx σ H1
theorem oJ_ (he:PE X e te)(hs:swapsWith e none pos.line X.env=pure false:=by rfl):PS X (.Expr e pos) (Jk_ te):=by intro pins s σ H D I h;exact wpAny_Expr_any (thn (he pins s σ H _ I h) fun v s1 ⟨x,H1,I1,r1,q1⟩=>⟨σ,H1,I1,q1⟩) I.quiet hs
def KU_ (te:TE):TS:=fun D σ H=>te σ H D.rt
theorem aB_ (he:PE X e te):PS X (.Return (some e) pos) (KU_ te):=by intro pins s σ H D I h;exact wpAny_Return_some (thn (he pins s σ H _ I h) fun v s1 ⟨x,H1,I1,r1,q1⟩=>⟨x,σ,H1,I1,r1,q1⟩)
def K8_ (c:TT)(t u:TS):TS:=fun D σ H=>c σ H fun b H1=>if b=true then t D σ H1 else u D σ H1
theorem Gp_ {c:Expr}{a b:List Stmt}{tc:TT}(hc:PT X c tc)(ha:PSs X a t)(hb:PSs X b u):PS X (.If c a b pos) (K8_ tc t u):=by
 intro pins s σ H D I h;refine wpAny_If (thn (hc pins s σ H _ I h) fun d s1 ⟨H1,I1,q1⟩=>?_);cases d with
 | true=>exact ha pins s1 σ H1 D I1 q1
 | false=>exact hb pins s1 σ H1 D I1 q1
end
abbrev TG:=V->St->Hp->(St->Hp->Prop)->Prop
abbrev TGs:=List V->St->Hp->(St->Hp->Prop)->Prop
def PG (X:Cx)(target:Expr)(t:TG):Prop :=
 ∀ (pins:List (Addr×Obj))(s:Shared)(σ:St)(H:Hp)(v:V)(u:Value)(Q:St->Hp->Prop),Inv X pins σ H s->F1_ v u->t v σ H Q ->
  wpAny (model X.prog X.w) X.A (assign target X.env u) (fun _ s'=>∃ σ' H',Inv X pins σ' H' s'/\Q σ' H') X.xe s
def PGs (X:Cx)(ts:List Expr)(t:TGs):Prop :=
 ∀ (pins:List (Addr×Obj))(s:Shared)(σ:St)(H:Hp)(vs:List V)(us:List Value)(Q:St->Hp->Prop),Inv X pins σ H s->FT_ vs us->t vs σ H Q ->
  wpAny (model X.prog X.w) X.A (assignInOrder ((assignEach ts X.env).map (·.2)) us) (fun _ s'=>∃ σ' H',Inv X pins σ' H' s'/\Q σ' H') X.xe s
abbrev Lh_:=V->V->V->Hp->(Hp->Prop)->Prop
def LI_ (X:Cx)(t:Lh_):Prop :=
 ∀ (pins:List (Addr×Obj))(s:Shared)(σ:St)(H:Hp)(o i v:V)(ov iv u:Value)(Q:Hp->Prop),Inv X pins σ H s->F1_ o ov->F1_ i iv->F1_ v u->t o i v H Q ->
  wpAny (model X.prog X.w) X.A (setItem ov iv u) (fun _ s'=>∃ H',Inv X pins σ H' s'/\Q H') X.xe s
section
variable {X:Cx}{pos:Pos}
def G4_ (i:Nat):TG:=fun v σ H Q=>Q (σ.set i (some v)) H
theorem l8_ {i:Nat}{x:Str}(hN:X.N.Nodup)(hi:X.N[i]?=some x)(hx:Loc X.env.scope x)(hf:X.fn x=true\/X.env.scope.names.lookup x=some .local:=by first|exact .inl rfl|exact .inr rfl|assumption):PG X (.Name x pos) (G4_ i):=by intro pins s σ H v u Q I r h;exact wpAny_assign_Name (gV_ I hN hi hx r (fun s' I'=>⟨_,H,I',h⟩) hf)
def Lj_:TGs:=fun vs σ H Q=>vs=[]/\Q σ H
def J6_ (t:TG)(u:TGs):TGs:=fun vs σ H Q=>∃ v r,vs=v::r/\t v σ H fun σ' H'=>u r σ' H' Q
theorem aQ_:PGs X [] Lj_:=by intro pins s σ H vs us Q I r h;obtain ⟨e,h⟩:=h;subst e;cases r;exact assignInOrder_nil ⟨σ,H,I,h⟩
theorem ak_ {e:Expr}{es:List Expr}{t:TG}{u:TGs}(h1:PG X e t)(h2:PGs X es u)
  (hs:(assignEach (e::es) X.env).map (·.2)=assign e X.env::(assignEach es X.env).map (·.2):=by rfl):PGs X (e::es) (J6_ t u):=by
 intro pins s σ H vs us Q I r h;obtain ⟨v,vr,e1,h⟩:=h;subst e1;cases r with
 | cons r rr =>rw [hs];refine DB_ (thn (h1 pins s σ H _ _ _ I r h) fun _ s1 ⟨σ1,H1,I1,q1⟩=>?_);exact h2 pins s1 σ1 H1 _ _ Q I1 rr q1
def KO_ (K:PySem.W.Frag)(n:Nat)(t:TGs):TG:=fun v σ H Q=>∃ a xs,v=.ref a/\SqT K H a xs/\xs.length=n/\t xs σ H Q
theorem px_ {es:List Expr}{k:Nat}{t:TGs}{n:Nat}(hc:X.calm=true)(h:PGs X es t)
  (hn:(assignEach es X.env).length=n:=by rfl) (hst:(assignEach es X.env).findIdx? (·.1)=none:=by rfl):PG X (.Tuple es k pos) (KO_ X.K n t):=by
 intro pins s σ H v u Q I r hw;obtain ⟨a,xs,e1,hq,hl,hw⟩:=hw;subst e1;cases r;obtain ⟨its,rv,ht,hz⟩:=I.tuple hq;refine assign_Tuple_tuple (I.ok.hd hc) ht (by simp [hn,<-hl,rv.length]) hst fun h' hx=>?_;have I1:Inv X pins σ H { s with heap:=h' }:=I.kept (t':=s.toks) fun b o e=>hx b o (AF_ (Au_ e)) e;exact h pins _ σ H xs _ Q I1 (by simpa using rv) hw
def Lk_ (to ti:TE)(t:Lh_):TG:=fun v σ H Q=>to σ H fun o H1=>ti σ H1 fun i H2=>t o i v H2 fun H3=>Q σ H3
theorem py_ {o i:Expr}{to ti:TE}{t:Lh_}(ho:PE X o to)(hi:PE X i ti)(hs:LI_ X t)
  (ha:∀ v,assign (.Subscript o i pos) X.env v=(do
   let ov <-holding [v] (eval o X.env)
   let iv <-holding [v,ov] (eval i X.env)
   standAt pos
   holding [v,ov,iv] (setItem ov iv v)
   release [v,ov,iv] []):=by intro _;rfl):PG X (.Subscript o i pos) (Lk_ to ti t):=by
 intro pins s σ H v u Q I r h;rw [ha];refine Ac_ (A6_ (thn (ho pins s σ H _ I h) fun ov s1 ⟨x,H1,I1,r1,q1⟩=>?_));refine Ac_ (A6_ (thn (hi pins s1 σ H1 _ I1 q1) fun iv s2 ⟨y,H2,I2,r2,q2⟩=>?_));refine Ac_ (DK_ (Ac_ (A6_ (thn (hs pins s2 σ H2 x y v ov iv u _ I2 r1 r2 r q2) fun _ s3 ⟨H3,I3,q3⟩=>?_))));exact wpAny_release ⟨σ,H3,I3,q3⟩
def Kf_ (te:TE)(g:TG):TS:=fun D σ H=>te σ H fun x H1=>g x σ H1 D.nx
theorem eh_ {tg e:Expr}{te:TE}{g:TG}(he:PE X e te)(hg:PG X tg g)(hs:swapsWithSole [tg] e pos.line X.env=pure false:=by rfl) (hw:swappedStores [tg] e X.env=pure none:=by rfl)
  (h1:(assignEach [tg] X.env).map (·.2)=[assign tg X.env]:=by rfl):PS X (.Assign [tg] e pos) (Kf_ te g):=by
 intro pins s σ H D I h;refine wpAny_Assign_stores (thn (he pins s σ H _ I h) fun v s1 ⟨x,H1,I1,r1,q1⟩=>?_) hs hw;rw [h1];exact thn (hg pins s1 σ H1 x v _ I1 r1 q1) fun _ s2 q=>q
theorem ob_ {i:Nat}{x:Str}{e:Expr}{te:TE}{pos':Pos}(hN:X.N.Nodup)(hi:X.N[i]?=some x)(hx:Loc X.env.scope x)(he:PE X e te)(hs:swapsWith e (some (.Name x pos')) pos.line X.env=pure false:=by rfl) (hf:X.fn x=true\/X.env.scope.names.lookup x=some .local:=by first|exact .inl rfl|exact .inr rfl|assumption) :
  PS X (.Assign [.Name x pos'] e pos) (Kf_ te (G4_ i)):=by
 intro pins s σ H D I h;refine wpAny_Assign_Name (thn (he pins s σ H _ I h) fun v s1 ⟨y,H1,I1,r1,q1⟩=>?_) hs;exact gV_ I1 hN hi hx r1 (fun s2 I2=>⟨_,H1,I2,q1⟩) hf
def K4_ (i j:Nat)(ta:TA):TS:=fun D σ H=>ta σ H fun vs H1=>∃ v w,vs=[v,w]/\D.nx ((σ.set i (some v)).set j (some w)) H1
theorem oc_ {i j:Nat}{x y:Str}{a b:Expr}{ta:TA}{px py pt:Pos}{kt k2 pt2} (hc:X.calm=true) (hN:X.N.Nodup) (hi:X.N[i]?=some x) (hj:X.N[j]?=some y) (hij:i≠j)
  (hx:X.env.scope.names.lookup x=some .local) (hy:X.env.scope.names.lookup y=some .local) (ha:PA X [a,b] ta)
  (hw:swappedStores [.Tuple [.Name x px,.Name y py] kt pt] (.Tuple [a,b] k2 pt2) X.env=pure (some [x,y]))
  (hs:swapsWithSole [.Tuple [.Name x px,.Name y py] kt pt] (.Tuple [a,b] k2 pt2) pos.line X.env=pure false:=by rfl) :
  PS X (.Assign [.Tuple [.Name x px,.Name y py] kt pt] (.Tuple [a,b] k2 pt2) pos) (K4_ i j ta):=by
 intro pins s σ H D I h;rw [exec_Assign_arm];refine Ac_ (DK_ ?_);rw [hs];refine Ac_ (Ai_ ?_);rw [if_neg (by decide)];refine Ac_ (Tuple_ (thn (ha _ pins s σ H _ I h) fun us s1 ⟨vs,H1,I1,r1,q1⟩=>?_));obtain ⟨v,w,e1,q1⟩:=q1;subst e1
 obtain ⟨u1,u2,rfl,rv,rw'⟩:∃ u1 u2,us=[u1,u2]/\F1_ v u1/\F1_ w u2:=by
  cases r1 with
  | cons p q =>
   cases q with
   | cons p' q' =>
    cases q';exact ⟨_,_,rfl,p,p'⟩
 refine BX_ ?_ (by show 2<=sizeLine;decide);have I2:Inv X pins σ H1 { s1 with heap:=s1.heap.push { cls:=.type "tuple",data:=.seq [u1,u2].toArray } }:=I1.kept (t':=s1.toks) fun b o e=>Ah_ _ e;rw [hw];refine Ac_ (Ai_ ?_);show wpAny (model X.prog X.w) X.A (do rule "assign.swapped-stores";let items <-unpackItems (.ref s1.heap.objs.size) 2 none;assignInOrder [fun v=>bindName X.env y v,fun v=>bindName X.env x v] items.reverse;pure Flow.next) _ _ _;refine Ac_ (CH_ (Ac_ (unpackItems_tuple (items:=#[u1,u2]) (I.ok.hd hc) (IsTup.new s1.heap _) fun h' hx'=>?_)));have I3:=I2.kept (h':=h') (t':=s1.toks) fun b o e=>hx' b o (AF_ (Au_ e)) e;show wpAny _ _ (assignInOrder [fun v=>bindName X.env y v,fun v=>bindName X.env x v] [u2,u1] >>= fun _=>pure Flow.next) _ _ _;refine Ac_ (DB_ (wpAny_bindName (gV_ I3 hN hj (.inl hy) rw' (fun s2 I4=>?_) (.inr hy))));refine DB_ (wpAny_bindName (gV_ I4 hN hi (.inl hx) rv (fun s3 I5=>assignInOrder_nil (Ai_ ?_)) (.inr hx)));rw [List.set_comm _ _ (Ne.symm hij)] at I5;exact ⟨_,H1,I5,q1⟩
end
section
variable {X:Cx}{pos:Pos}
def IP_ (c:TT)(tb:TS):TS:=fun D σ H=>∃ W:Nat->St->Hp->Prop,(∃ m,W m σ H)/\∀ m σ H,W m σ H ->
 c σ H fun b H1=>if b=true then ∃ N:St->Hp->Prop,(∀ σ' H',N σ' H'->∃ m',m'<m/\W m' σ' H')/\tb { D with nx:=N,ct:=N,bk:=D.nx } σ H1 else D.nx σ H1
theorem eE_ {c:Expr}{body:List Stmt}{tc:TT}{tb:TS}(hp:PassesOwn (model X.prog X.w) X.A X.env X.xe)(hc:PT X c tc)(hb:PSs X body tb):PS X (.While c body [] pos) (IP_ tc tb):=by
 intro pins s σ H D I h;obtain ⟨W,⟨m0,w0⟩,turn⟩:=h;refine wpAny_While (codeAny_whileLoop (fun n s'=>∃ σ' H',Inv X pins σ' H' s'/\W n σ' H') ?_ m0 ⟨σ,H,I,w0⟩);rintro n s1 ⟨σ1,H1,I1,w1⟩;refine Ce_ hp (thn (hc pins s1 σ1 H1 _ I1 (turn n σ1 H1 w1)) fun b s2 ⟨H2,I2,q2⟩=>?_);cases b with
 | true =>
  obtain ⟨N,hN,q2⟩:=q2;rw [if_pos rfl];refine Ce_ hp (thn (hb pins s2 σ1 H2 _ I2 q2) fun f s3 q3=>?_);cases f with
  | next =>
   obtain ⟨σ3,H3,I3,n3⟩:=q3;obtain ⟨m',hm,w3⟩:=hN σ3 H3 n3;exact ⟨m',hm,σ3,H3,I3,w3⟩
  | cont =>
   obtain ⟨σ3,H3,I3,n3⟩:=q3;obtain ⟨m',hm,w3⟩:=hN σ3 H3 n3;exact ⟨m',hm,σ3,H3,I3,w3⟩
  | brk=>exact q3
  | ret v=>exact q3
 | false =>rw [if_neg AR_];exact Dc_ ⟨σ1,H2,I2,q2⟩
end
structure It where
 go:Nat->Hp->Prop
 yld:Nat->Hp->V->Hp->Prop
 stop:Nat->Hp->Prop
def HM_ (X:Cx)(pins:List (Addr×Obj))(H:Hp)(b:Addr):Prop :=
 H b=none/\b≠X.env.locals/\b∉X.fs/\(b∈X.ex\/X.s₀.heap.objs.size<=b)/\(∀ x c,X.env.cells.lookup x=some c->c≠b)/\∀ p∈X.pn++pins,p.1≠b
theorem Inv.fpOk {X:Cx}{pins:List (Addr×Obj)}{σ:St}{H H':Hp}{s:Shared}{b:Addr}(I:Inv X pins σ H s)(hb:s.heap.objs.size<=b)(hn:H' b=none):HM_ X pins H' b:=by
 refine ⟨hn,CB_ (AI_ I.lt hb),I.nofs hb,.inr (AM_ I.sz hb),fun x c e z=>?_,fun p hp z=>?_⟩
 ·obtain ⟨v,q⟩:=I.cell x c e;exact absurd (AI_ q.lt (by rw [z];exact hb)) (Bb_ _)
 ·exact absurd (AI_ (Au_ (I.pin p hp).1) (by rw [z];exact hb)) (Bb_ _)
structure JV_ (P:Program)(w:World)(K:PySem.W.Frag)(tg:Expr)(J:It)(fp:List Addr)(it:Addr)(tn:Nat->Heap->Prop):Prop where
 mem:it∈fp
 obj:∀ i h,tn i h->∀ b∈fp,∃ o,h.get? b=some o/\∀ v,o.data≠.cell v
 keep:∀ i h h',tn i h->(∀ b∈fp,∀ o,h.get? b=some o->h'.get? b=some o)->tn i h'
 item:∀ (X:Cx),X.prog=P->X.w=w->X.K=K->X.calm=true->∀ (i:Nat)(pins:List (Addr×Obj))(s:Shared)(σ:St)(H:Hp)(E:Value->Shared->Prop),Inv X pins σ H s->(∀ b∈fp,HM_ X pins H b)->tn i s.heap->J.go i H ->
  wpAny (model P w) X.A (pyNext (.ref it)) (fun r s1=>∃ u,r=some u /\
   wpAny (model P w) X.A (letOwnedTupleGo tg (.ref it) u) (fun _ s2=>∃ x H',Inv X pins σ H' s2/\F1_ x u/\J.yld i H x H'/\tn (i+1) s2.heap/\∀ b∈fp,H' b=none) E s1) E s
 done:∀ (X:Cx),X.prog=P->X.w=w->X.K=K->X.calm=true->∀ (i:Nat)(pins:List (Addr×Obj))(s:Shared)(σ:St)(H:Hp)(E:Value->Shared->Prop),Inv X pins σ H s->(∀ b∈fp,HM_ X pins H b)->tn i s.heap->J.stop i H ->
  wpAny (model P w) X.A (pyNext (.ref it)) (fun r s1=>r=none/\Inv X pins σ H s1) E s
 self:∀ (A:Around)(i:Nat)(s:Shared)(Q:Value->Shared->Prop)(E:Value->Shared->Prop),tn i s.heap->Q (.ref it) s->wpAny (model P w) A (pyIter (.ref it)) Q E s
abbrev TI:=St->Hp->(It->Hp->Prop)->Prop
def PIE (X:Cx)(pins:List (Addr×Obj))(σ:St)(tg:Expr)(R:It->Hp->Prop)(itv:Value)(s2:Shared):Prop :=
 ∃ (it:Addr)(fp:List Addr)(tn:Nat->Heap->Prop)(J:It)(H':Hp),itv=.ref it/\Inv X pins σ H' s2/\JV_ X.prog X.w X.K tg J fp it tn/\tn 0 s2.heap/\(∀ b∈fp,HM_ X pins H' b)/\R J H'
def PI (X:Cx)(tg iter:Expr)(wi:TI):Prop :=
 ∀ (pins:List (Addr×Obj))(s:Shared)(σ:St)(H:Hp)(R:It->Hp->Prop),Inv X pins σ H s->wi σ H R ->
  wpAny (model X.prog X.w) X.A (eval iter X.env) (fun v s1=>wpAny (model X.prog X.w) X.A (pyIter v) (PIE X pins σ tg R) X.xe s1) X.xe s
theorem Jl_ {M:Model}{A:Around}{E:Value->Shared->Prop}{s:Shared}{tg:Expr}{it:Addr}{u:Value}{o:Obj}{n:String}{vs:Array Value}{Q:Unit->Shared->Prop}(ho:s.heap.get? it=some o)(hc:o.cls=.type n)(hd:o.data=.fields vs)
    (hn:["enumerate", "zip", "dict_itemiterator", "dict_reverseitemiterator", "odict_iterator", "itertools.zip_longest", "itertools.pairwise"].contains n=false) (hQ:Q () s):wpAny M A (letOwnedTupleGo tg (.ref it) u) Q E s:=by
  unfold letOwnedTupleGo
  cases tg <;> first
    | exact Ai_ hQ
    | (cases u <;> first
        | exact Ai_ hQ
        | (refine Ac_ (wpAny_load ho ?_)
           rw [hc,hd];show wpAny M A (if (["enumerate", "zip", "dict_itemiterator", "dict_reverseitemiterator", "odict_iterator", "itertools.zip_longest", "itertools.pairwise"].contains n && vs[0]? == some (rawInt _))=true then _ else _) Q E s;rw [if_neg (by intro h;rw [hn,Bool.false_and] at h;cases h)];exact Ai_ hQ))
def Itl (K:PySem.W.Frag)(a:Addr):It :=
 ⟨fun i H=>∃ xs x,SqL K H a xs/\xs[i]?=some x,fun i H x H'=>H'=H/\∀ xs,SqL K H a xs->xs[i]?=some x,fun i H=>∃ xs,SqL K H a xs/\xs.length<=i⟩
def Itt (K:PySem.W.Frag)(a:Addr):It :=
 ⟨fun i H=>∃ xs x,SqT K H a xs/\xs[i]?=some x,fun i H x H'=>H'=H/\∀ xs,SqT K H a xs->xs[i]?=some x,fun i H=>∃ xs,SqT K H a xs/\xs.length<=i⟩
def Itr (lo:Int)(n:Nat):It:=⟨fun i _=>i<n,fun i H x H'=>H'=H/\x=.int (lo+i),fun i _=>n<=i⟩
theorem l9_ {P:Program}{w:World}{K:PySem.W.Frag}{tg:Expr}(a it:Addr):JV_ P w K tg (Itl K a) [it] it (fun i h=>h.IsListIter it a i) where
 mem:=by simp
 obj:=fun i h st b hb=>by
  have e:b=it:=by simpa using hb
  subst e;obtain ⟨o,e,c,d⟩:=st;exact ⟨o,e,fun v z=>by rw [d] at z;cases z⟩
 keep:=fun i h h' st k=>st.at fun o e=>k it (by simp) o e
 item:=by intro X hP hw hK hc i pins s σ H E I hf st hg;subst hP hw hK;obtain ⟨xs,x,hq,hx⟩:=hg;obtain ⟨its,rv,p,hz⟩:=I.list hq;obtain ⟨u,hu,ru⟩:=rv.get hx;obtain ⟨f0,f1,f2,f3,f4,f5⟩:=hf it (by simp);refine CX_ st p.isList (x:=u) (by simpa using hu) fun h' st' sb=>?_;have I1:Inv X pins σ H { s with heap:=h' }:=I.turned (t':=s.toks) (fun b o hb e=>(sb.2 b hb).trans e) f0 f1 f3 f4 f5;obtain ⟨o,e,c,d⟩:=id st';exact ⟨u,rfl,Jl_ (s:={ s with heap:=h' }) e c d (by decide) ⟨x,H,I1,ru,⟨rfl,fun ys hy=>by rw [I.list_inj hy hq];exact hx⟩,st',fun b hb=>(hf b hb).1⟩⟩
 done:=by intro X hP hw hK hc i pins s σ H E I hf st hg;subst hP hw hK;obtain ⟨xs,hq,hx⟩:=hg;obtain ⟨its,rv,p,hz⟩:=I.list hq;obtain ⟨f0,f1,f2,f3,f4,f5⟩:=hf it (by simp);have hl:=rv.length;exact C6_ (I.ok.hd hc) st p.isList (by simp;lia) fun h' eb=>⟨rfl,I.turned (t':=s.toks) (fun b o hb e=>eb b o hb e) f0 f1 f3 f4 f5⟩
 self:=fun _ _ _ _ _ st h=>wpAny_pyIter_listiter st h
theorem lp_ {P:Program}{w:World}{K:PySem.W.Frag}{tg:Expr}(a it:Addr):JV_ P w K tg (Itt K a) [it] it (fun i h=>h.IsTupleIter it a i) where
 mem:=by simp
 obj:=fun i h st b hb=>by
  have e:b=it:=by simpa using hb
  subst e;obtain ⟨o,e,c,d⟩:=st;exact ⟨o,e,fun v z=>by rw [d] at z;cases z⟩
 keep:=fun i h h' st k=>st.at fun o e=>k it (by simp) o e
 item:=by intro X hP hw hK hc i pins s σ H E I hf st hg;subst hP hw hK;obtain ⟨xs,x,hq,hx⟩:=hg;obtain ⟨its,rv,p,hz⟩:=I.tuple hq;obtain ⟨u,hu,ru⟩:=rv.get hx;obtain ⟨f0,f1,f2,f3,f4,f5⟩:=hf it (by simp);refine wpAny_pyNext_tuple_item st (show s.heap.IsTuple a its.toArray from p) (x:=u) (by simpa using hu) fun h' st' sb=>?_;have I1:Inv X pins σ H { s with heap:=h' }:=I.turned (t':=s.toks) (fun b o hb e=>(sb.2 b hb).trans e) f0 f1 f3 f4 f5;obtain ⟨o,e,c,d⟩:=id st';exact ⟨u,rfl,Jl_ (s:={ s with heap:=h' }) e c d (by decide) ⟨x,H,I1,ru,⟨rfl,fun ys hy=>by rw [I.tuple_inj hy hq];exact hx⟩,st',fun b hb=>(hf b hb).1⟩⟩
 done:=by intro X hP hw hK hc i pins s σ H E I hf st hg;subst hP hw hK;obtain ⟨xs,hq,hx⟩:=hg;obtain ⟨its,rv,p,hz⟩:=I.tuple hq;obtain ⟨f0,f1,f2,f3,f4,f5⟩:=hf it (by simp);have hl:=rv.length;exact wpAny_pyNext_tuple_end (I.ok.hd hc) st (show s.heap.IsTuple a its.toArray from p) (by simp;lia) fun h' eb=>⟨rfl,I.turned (t':=s.toks) (fun b o hb e=>eb b o hb e) f0 f1 f3 f4 f5⟩
 self:=fun _ _ _ _ _ st h=>wpAny_pyIter_tupleiter st h
theorem lq_ {P:Program}{w:World}{K:PySem.W.Frag}{tg:Expr}(it:Addr)(lo:Int)(n:Nat):JV_ P w K tg (Itr lo n) [it] it (fun i h=>IsRangeIter h it (lo+(i:Nat)*1) ((n:Int)-(i:Nat)) 1) where
 mem:=by simp
 obj:=fun i h st b hb=>by
  have e:b=it:=by simpa using hb
  subst e;exact ⟨_,st,fun v z=>by have z':Data.fields _=Data.cell v:=z;cases z'⟩
 keep:=fun i h h' st k=>k it (by simp) _ st
 item:=by intro X hP hw hK hc i pins s σ H E I hf st hg;subst hP hw hK;obtain ⟨f0,f1,f2,f3,f4,f5⟩:=hf it (by simp);have W:=Walks.range (prog:=X.prog) (w:=X.w) (I.ok.hd hc) it lo 1 n;refine W.item i s _ _ hg st fun v h' tk hv st' kk=>?_;obtain ⟨t,rfl⟩:=hv;have I1:Inv X pins σ H { s with heap:=h',toks:=tk }:=I.turned (fun b o hb e=>kk b o (by simpa using hb) e) f0 f1 f3 f4 f5;refine ⟨_,rfl,Jl_ (s:={ s with heap:=h',toks:=tk }) (n := "range_iterator") st' rfl rfl (by decide) ⟨.int (lo+i),H,I1,⟨t,?_⟩,⟨rfl,rfl⟩,st',fun b hb=>(hf b hb).1⟩⟩;rw [Int.mul_one]
 done:=by intro X hP hw hK hc i pins s σ H E I hf st hg;subst hP hw hK;obtain ⟨f0,f1,f2,f3,f4,f5⟩:=hf it (by simp);exact wpAny_pyNext_range_end (I.ok.hd hc) st (by have:n<=i:=hg;lia) fun h' eb=>⟨rfl,I.turned (t':=s.toks) (fun b o hb e=>eb b o hb e) f0 f1 f3 f4 f5⟩
 self:=fun _ _ _ _ _ st h=>wpAny_pyIter_rangeiter st h
end L2
namespace L2
open PySem PySem.Spec PyProof.Rows
section
variable {X:Cx}{tg:Expr}
def Ji_ (K:PySem.W.Frag)(tl:TE):TI:=fun σ H R=>tl σ H fun x H1=>∃ a,x=.ref a/\(∃ xs,SqL K H1 a xs)/\R (Itl K a) H1
def KP_ (K:PySem.W.Frag)(tl:TE):TI:=fun σ H R=>tl σ H fun x H1=>∃ a,x=.ref a/\(∃ xs,SqT K H1 a xs)/\R (Itt K a) H1
theorem oK_ {l:Expr}{tl:TE}(hl:PE X l tl):PI X tg l (Ji_ X.K tl):=by
 intro pins s σ H R I h;refine thn (hl pins s σ H _ I h) fun v s1 ⟨x,H1,I1,r1,q1⟩=>?_;obtain ⟨a,e,⟨xs,hq⟩,q⟩:=q1;subst e;cases r1;obtain ⟨its,rv,p,hz⟩:=I1.list hq;refine CV_ p.isList ?_;refine ⟨s1.heap.objs.size,[s1.heap.objs.size],_,_,H1,rfl,I1.kept (t':=s1.toks) fun b o e=>Ah_ _ e,l9_ a _,⟨_,Av_ _ rfl,rfl,rfl⟩,fun b hb=>?_,q⟩;have e:b=s1.heap.objs.size:=by simpa using hb
 subst e;exact I1.fpOk (Aj_ _) (I1.hok.fresh (Aj_ _))
theorem pz_ {l:Expr}{tl:TE}(hl:PE X l tl):PI X tg l (KP_ X.K tl):=by
 intro pins s σ H R I h;refine thn (hl pins s σ H _ I h) fun v s1 ⟨x,H1,I1,r1,q1⟩=>?_;obtain ⟨a,e,⟨xs,hq⟩,q⟩:=q1;subst e;cases r1;obtain ⟨its,rv,p,hz⟩:=I1.tuple hq;refine wpAny_pyIter_tuple (show s1.heap.IsTuple a its.toArray from p) ?_;refine ⟨s1.heap.objs.size,[s1.heap.objs.size],_,_,H1,rfl,I1.kept (t':=s1.toks) fun b o e=>Ah_ _ e,lp_ a _,⟨_,Av_ _ rfl,rfl,rfl⟩,fun b hb=>?_,q⟩;have e:b=s1.heap.objs.size:=by simpa using hb
 subst e;exact I1.fpOk (Aj_ _) (I1.hok.fresh (Aj_ _))
theorem kV_ {pins:List (Addr×Obj)}{σ:St}{H:Hp}{s:Shared}{R:It->Hp->Prop}{E:Value->Shared->Prop}{lo hi:Int}{t u v:Tok}{tk:Nat}(I:Inv X pins σ H s)(h1:-(2 ^ 62)<=lo)(h2:lo<2 ^ 62)(h3:-(2 ^ 62)<=hi)(h4:hi<2 ^ 62)
  (q:R (Itr lo (hi-lo).toNat) H):wpAny (model X.prog X.w) X.A (pyIter (.ref s.heap.objs.size)) (PIE X pins σ tg R) E { s with heap:=s.heap.push { cls:=.type "range",data:=.fields #[.int lo t,.int hi u,.int 1 v] },toks:=tk }:=by
 refine wpAny_pyIter_range (IsRange.new ..) (small_one h1 h2 h3 h4) ?_;have I1:Inv X pins σ H { s with heap:=s.heap.push { cls:=.type "range",data:=.fields #[.int lo t,.int hi u,.int 1 v] },toks:=tk }:=I.kept fun b o e=>Ah_ _ e
 refine ⟨(s.heap.push { cls:=.type "range",data:=.fields #[.int lo t,.int hi u,.int 1 v] }).objs.size,[(s.heap.push { cls:=.type "range",data:=.fields #[.int lo t,.int hi u,.int 1 v] }).objs.size],_,_,H,rfl,
  I1.kept (t':=tk) fun b o e=>Ah_ _ e,lq_ _ lo (hi-lo).toNat,?_,fun b hb=>?_,q⟩
 ·have e1:lo+((0:Nat):Int)*1=lo:=by simp
  have e2:(((hi-lo).toNat:Nat):Int)-((0:Nat):Int)=Builtin.Range.rangeSize lo hi 1:=by rw [rangeSize_one];split <;> lia
  show IsRangeIter _ _ (lo+((0:Nat):Int)*1) ((((hi-lo).toNat:Nat):Int)-((0:Nat):Int)) 1;rw [e1,e2];exact Av_ _ rfl
 ·have e:b=(s.heap.push { cls:=.type "range",data:=.fields #[.int lo t,.int hi u,.int 1 v] }).objs.size:=by simpa using hb
  subst e;exact I1.fpOk (Aj_ _) (I1.hok.fresh (Aj_ _))
def JM_ (ta:TA):TI:=fun σ H R=>ta σ H fun vs H1=>∃ j:Int,vs=[.int j] /\ -(2 ^ 62)<=j/\j<2 ^ 62/\R (Itr 0 j.toNat) H1
def JN_ (ta:TA):TI:=fun σ H R=>ta σ H fun vs H1=>∃ i j:Int,vs=[.int i,.int j]/\(-(2 ^ 62)<=i/\i<2 ^ 62 /\ -(2 ^ 62)<=j/\j<2 ^ 62)/\R (Itr i (j-i).toNat) H1
theorem aC_ {a:Expr}{ta:TA}{p pos:Pos}(hg:Gl X "range") (hm:X.mg "range" = none) (ha:PA X [a] ta) (hs:starEach [a] X.env=[(false,eval a X.env)]:=by rfl):PI X tg (.Call (.Name "range" p) [a] [] pos) (JM_ ta):=by
 intro pins s σ H R I h;refine Call_ (d5_ I hg hm boot_range (Bj_ (thn (ha pos pins s σ H _ I h) fun us s1 ⟨vs,H1,I1,r1,q1⟩=>?_) hs rfl));obtain ⟨j,e,q1,q2,q⟩:=q1;subst e;cases r1 with
 | cons r rr =>
  cases rr;obtain ⟨t,rfl⟩:=r;exact call_range_1 (kV_ I1 (by lia) (by lia) q1 q2 (by simpa using q))
theorem ma_ {a b:Expr}{ta:TA}{p pos:Pos}(hg:Gl X "range") (hm:X.mg "range" = none) (ha:PA X [a,b] ta) (hs:starEach [a,b] X.env=[(false,eval a X.env),(false,eval b X.env)]:=by rfl) (hs2:starEach [b] X.env=[(false,eval b X.env)]:=by rfl) :
  PI X tg (.Call (.Name "range" p) [a,b] [] pos) (JN_ ta):=by
 intro pins s σ H R I h;refine Call_ (d5_ I hg hm boot_range (Bj_ (thn (ha pos pins s σ H _ I h) fun us s1 ⟨vs,H1,I1,r1,q1⟩=>?_) (by rw [hs,hs2]) (by rw [hs2];rfl)));obtain ⟨i,j,e,⟨q1,q2,q3,q4⟩,q⟩:=q1;subst e;cases r1 with
 | cons r rr =>
  cases rr with
  | cons r' rr =>
   cases rr;obtain ⟨t,rfl⟩:=r;obtain ⟨t',rfl⟩:=r';exact call_range_2 (kV_ I1 q1 q2 q3 q4 q)
def LG_ (wi:TI)(g:TG)(tb:TS):TS:=fun D σ H=>wi σ H fun J H1=>∃ W:Nat->Nat->St->Hp->Prop,(∃ m,W 0 m σ H1)/\∀ i m σ H,W i m σ H ->
 (J.stop i H/\D.nx σ H)\/(J.go i H/\∃ N:St->Hp->Prop,(∀ σ' H',N σ' H'->∃ m',m'<m/\W (i+1) m' σ' H')/\∀ x H',J.yld i H x H'->g x σ H' fun σ2 H2=>tb { D with nx:=N,ct:=N,bk:=D.nx } σ2 H2)
def Hs_ (fp:List Addr)(h:Heap):List (Addr×Obj):=fp.filterMap fun b=>(h.get? b).map fun o=>(b,o)
theorem eF_ {fp:List Addr}{h:Heap}{b:Addr}{o:Obj}(hb:b∈fp)(e:h.get? b=some o):(b,o)∈Hs_ fp h:=Cb_.mpr ⟨b,hb,by rw [e];rfl⟩
theorem mb_ {fp:List Addr}{h:Heap}{p:Addr×Obj}(hp:p∈Hs_ fp h):p.1∈fp/\h.get? p.1=some p.2:=by
 obtain ⟨b,hb,e⟩:=Cb_.mp hp;cases q:h.get? b with
 | none=>rw [q] at e;cases e
 | some o =>rw [q] at e;have e':(b,o)=p:=Aw_ e;subst e';exact ⟨hb,q⟩
theorem Inv.pinned {pins:List (Addr×Obj)}{σ:St}{H:Hp}{s:Shared}{fp:List Addr}(I:Inv X pins σ H s)(hf:∀ b∈fp,HM_ X pins H b)(ho:∀ b∈fp,∃ o,s.heap.get? b=some o/\∀ v,o.data≠.cell v):Inv X (pins++Hs_ fp s.heap) σ H s :=
 I.pins_of fun p hp=>(An_.mp hp).elim (fun z=>I.pin p (AH_ _ z)) fun z=>by obtain ⟨hb,e⟩:=mb_ z;obtain ⟨f0,f1,f2,_⟩:=hf p.1 hb;obtain ⟨o,e',d⟩:=ho p.1 hb;rw [e] at e';cases e';exact ⟨e,f0,f1,f2,d⟩
theorem Inv.unpinned {pins pl:List (Addr×Obj)}{σ:St}{H:Hp}{s:Shared}(I:Inv X (pins++pl) σ H s):Inv X pins σ H s:=I.pins_of fun p hp=>I.pin p (AH_ _ (AL_ _ hp))
theorem aZ_ {iter:Expr}{body:List Stmt}{wi:TI}{g:TG}{tb:TS}{pos:Pos}(hp:PassesOwn (model X.prog X.w) X.A X.env X.xe)(hc:X.calm=true)(hi:PI X tg iter wi)(hg:PG X tg g)(hb:PSs X body tb)
  (hs:∀ x,foldedSetIterable iter X.env x=pure x:=by intro _;rfl):PS X (.For tg iter body [] pos) (LG_ wi g tb):=by
 intro pins s σ H D I h;refine wpAny_For (thn (hi pins s σ H _ I h) fun v s1 h1=>thn h1 fun itv s2 h2=>?_) hs;obtain ⟨it,fp,tn,J,H2,e,I2,T,st2,f2,W,⟨m0,w0⟩,turn⟩:=h2;subst e
 have stat:∀ {H':Hp},(∀ b∈fp,H' b=none)->∀ b∈fp,HM_ X pins H' b:=fun hn b hb=>⟨hn b hb,(f2 b hb).2⟩;refine codeAny_forLoop_any (fun n s'=>∃ i σ' H',Inv X pins σ' H' s'/\tn i s'.heap/\(∀ b∈fp,H' b=none)/\W i n σ' H') ?_ m0 ⟨0,σ,H2,I2,st2,fun b hb=>(f2 b hb).1,w0⟩;rintro n s3 ⟨i,σ3,H3,I3,st3,fr3,w3⟩
 rcases turn i n σ3 H3 w3 with ⟨stop,qn⟩|⟨go,N,hN,step⟩
 ·refine Ce_ hp (thn (T.done X rfl rfl rfl hc i pins s3 σ3 H3 X.xe I3 (stat fr3) st3 stop) fun r s4 ⟨hr,I4⟩=>?_);subst hr;exact Dc_ ⟨σ3,H3,I4,qn⟩
 ·refine Ce_ hp (thn (T.item X rfl rfl rfl hc i pins s3 σ3 H3 X.xe I3 (stat fr3) st3 go) fun r s4 ⟨u,hr,h4⟩=>?_);subst hr;refine Ce_ hp (thn h4 fun _ s5 ⟨x,H5,I5,r5,y5,st5,fr5⟩=>?_);have I5':=I5.pinned (stat fr5) (T.obj _ _ st5);refine Ce_ hp (thn (hg _ s5 σ3 H5 x u _ I5' r5 (step x H5 y5)) fun _ s6 ⟨σ6,H6,I6,q6⟩=>?_);refine Ce_ hp (thn (hb _ s6 σ6 H6 _ I6 q6) fun f s7 q7=>?_);have again:∀ {σ7:St}{H7:Hp},Inv X (pins++Hs_ fp s5.heap) σ7 H7 s7->N σ7 H7->∃ m,m<n/\∃ i σ' H',Inv X pins σ' H' s7/\tn i s7.heap/\(∀ b∈fp,H' b=none)/\W i m σ' H':=fun {σ7 H7} I7 n7=>by obtain ⟨m',hm,w7⟩:=hN σ7 H7 n7;refine ⟨m',hm,i+1,σ7,H7,I7.unpinned,T.keep _ _ _ st5 fun b hb o e=>(I7.pin (b,o) (AH_ _ (AH_ _ (eF_ hb e)))).1,fun b hb=>?_,w7⟩;obtain ⟨o,e,d⟩:=T.obj _ _ st5 b hb;exact (I7.pin (b,o) (AH_ _ (AH_ _ (eF_ hb e)))).2.1
  cases f with
  | next=>obtain ⟨σ7,H7,I7,n7⟩:=q7;exact again I7 n7
  | cont=>obtain ⟨σ7,H7,I7,n7⟩:=q7;exact again I7 n7
  | brk=>obtain ⟨σ7,H7,I7,q7⟩:=q7;exact ⟨σ7,H7,I7.unpinned,q7⟩
  | ret v=>obtain ⟨x7,σ7,H7,I7,r7,q7⟩:=q7;exact ⟨x7,σ7,H7,I7.unpinned,r7,q7⟩
end
theorem nq_ {K:PySem.W.Frag}{a:Addr}{xs:List V}{g:TG}{tb:TS}{D:HU_}{σ:St}{H:Hp}(Pv:Nat->St->Hp->Prop)(h0:Pv 0 σ H)(hl:∀ i σ H,i<=xs.length->Pv i σ H->SqL K H a xs)
  (hs:∀ i x σ H,xs[i]?=some x->Pv i σ H->g x σ H fun σ2 H2=>tb { D with nx:=Pv (i+1),ct:=Pv (i+1),bk:=D.nx } σ2 H2) (hd:∀ σ H,Pv xs.length σ H->D.nx σ H) :
  ∃ W:Nat->Nat->St->Hp->Prop,(∃ m,W 0 m σ H)/\∀ i m σ H,W i m σ H ->
   ((Itl K a).stop i H/\D.nx σ H)\/((Itl K a).go i H/\∃ N:St->Hp->Prop,(∀ σ' H',N σ' H'->∃ m',m'<m/\W (i+1) m' σ' H')/\∀ x H',(Itl K a).yld i H x H'->g x σ H' fun σ2 H2=>tb { D with nx:=N,ct:=N,bk:=D.nx } σ2 H2):=by
 refine ⟨fun i m σ H=>m=xs.length-i/\i<=xs.length/\Pv i σ H,⟨xs.length,by simp,Ay_ _,h0⟩,?_⟩;rintro i m σ H ⟨rfl,hi,p⟩;have q:=hl i σ H hi p;by_cases hlt:i<xs.length
 ·refine .inr ⟨⟨xs,xs[i],q,by simp [hlt]⟩,Pv (i+1),fun σ' H' p'=>⟨xs.length-(i+1),by lia,rfl,hlt,p'⟩,fun x H' y=>?_⟩;obtain ⟨e,y⟩:=y;subst e;exact hs i x σ _ (y xs q) p
 ·have e:i=xs.length:=by lia
  subst e;exact .inl ⟨⟨xs,q,Aj_ _⟩,hd σ H p⟩
theorem mc_ {lo:Int}{n:Nat}{g:TG}{tb:TS}{D:HU_}{σ:St}{H:Hp}(Pv:Nat->St->Hp->Prop)(h0:Pv 0 σ H)
  (hs:∀ i σ H,i<n->Pv i σ H->g (.int (lo+i)) σ H fun σ2 H2=>tb { D with nx:=Pv (i+1),ct:=Pv (i+1),bk:=D.nx } σ2 H2) (hd:∀ σ H,Pv n σ H->D.nx σ H) :
  ∃ W:Nat->Nat->St->Hp->Prop,(∃ m,W 0 m σ H)/\∀ i m σ H,W i m σ H ->
   ((Itr lo n).stop i H/\D.nx σ H)\/((Itr lo n).go i H/\∃ N:St->Hp->Prop,(∀ σ' H',N σ' H'->∃ m',m'<m/\W (i+1) m' σ' H')/\∀ x H',(Itr lo n).yld i H x H'->g x σ H' fun σ2 H2=>tb { D with nx:=N,ct:=N,bk:=D.nx } σ2 H2):=by
 refine ⟨fun i m σ H=>m=n-i/\i<=n/\Pv i σ H,⟨n,by simp,Ay_ _,h0⟩,?_⟩;rintro i m σ H ⟨rfl,hi,p⟩;by_cases hlt:i<n
 ·refine .inr ⟨hlt,Pv (i+1),fun σ' H' p'=>⟨n-(i+1),by lia,rfl,hlt,p'⟩,fun x H' y=>?_⟩;obtain ⟨e,y⟩:=y;subst e y;exact hs i σ _ hlt p
 ·have e:i=n:=by lia
  subst e;exact .inl ⟨Aj_ _,hd σ H p⟩
end L2
namespace L2
open PySem PySem.Spec PyProof.Rows
abbrev R2:=V->V->Hp->VK->Prop
def OpR (X:Cx)(f:Value->Value->Sem Value)(r:R2):Prop :=
 ∀ (pins:List (Addr×Obj))(s:Shared)(σ:St)(H:Hp)(x y:V)(v u:Value)(Q:VK),Inv X pins σ H s->F1_ x v->F1_ y u->r x y H Q ->
  wpAny (model X.prog X.w) X.A (f v u) (EP X pins σ Q) X.xe s
def UnR (X:Cx)(f:Value->Sem Value)(r:V->Hp->VK->Prop):Prop :=
 ∀ (pins:List (Addr×Obj))(s:Shared)(σ:St)(H:Hp)(x:V)(v:Value)(Q:VK),Inv X pins σ H s->F1_ x v->r x H Q ->
  wpAny (model X.prog X.w) X.A (f v) (EP X pins σ Q) X.xe s
def GE_ (X:Cx)(f:Value)(r:List V->Hp->VK->Prop):Prop :=
 ∀ (pins:List (Addr×Obj))(s:Shared)(σ:St)(H:Hp)(xs:List V)(us:List Value)(Q:VK),Inv X pins σ H s->FT_ xs us->r xs H Q ->
  wpAny (model X.prog X.w) X.A (call f us) (EP X pins σ Q) X.xe s
def tOp (r:R2)(ta tb:TE):TE:=fun σ H Q=>ta σ H fun x H1=>tb σ H1 fun y H2=>r x y H2 Q
def tUn (r:V->Hp->VK->Prop)(ta:TE):TE:=fun σ H Q=>ta σ H fun x H1=>r x H1 Q
def rI (C:Int->Int->Prop)(g:Int->Int->V):R2:=fun x y H Q=>∃ i j,x=.int i/\y=.int j/\C i j/\Q (g i j) H
def rI0 (g:Int->Int->V):R2:=fun x y H Q=>∃ i j,x=.int i/\y=.int j/\Q (g i j) H
def rU (g:Int->V):V->Hp->VK->Prop:=fun x H Q=>∃ i,x=.int i/\Q (g i) H
section
variable {X:Cx}{a b c:Expr}{ta tb tc:TE}{pos:Pos}
theorem binT (ha:PE X a ta)(hb:PE X b tb){pins:List (Addr×Obj)}{s:Shared}{σ:St}{H:Hp}{R:V->V->Hp->Prop}(I:Inv X pins σ H s)
  (h:ta σ H fun x H1=>tb σ H1 fun y H2=>R x y H2) {Q:Value->Shared->Prop} {f:Value->Value->Sem Value}
  (hf:∀ v u s2 x y H2,Inv X pins σ H2 s2->F1_ x v->F1_ y u->R x y H2->wpAny (model X.prog X.w) X.A (f v u) Q X.xe s2) :
  wpAny (model X.prog X.w) X.A (eval a X.env) (fun v s₁=>wpAny (model X.prog X.w) X.A (eval b X.env) (fun u s₂=>wpAny (model X.prog X.w) X.A (f v u) Q X.xe s₂) X.xe s₁) X.xe s:=by
 refine thn (ha pins s σ H _ I h) fun v s1 ⟨x,H1,I1,r1,q1⟩=>?_;refine thn (hb pins s1 σ H1 _ I1 q1) fun u s2 ⟨y,H2,I2,r2,q2⟩=>?_;exact hf v u s2 x y H2 I2 r1 r2 q2
theorem Fz_ {op:Operator}{r:R2}(ho:OpR X (binaryOp op) r)(ha:PE X a ta)(hb:PE X b tb):PE X (.BinOp a op b pos) (tOp r ta tb):=by intro pins s σ H Q I h;exact wpAny_BinOp (binT ha hb I h fun v u s2 x y H2 I2 rx ry q=>ho pins s2 σ H2 x y v u Q I2 rx ry q)
theorem Lp_ {op:UnaryOp}{r:V->Hp->VK->Prop}(ho:UnR X (unaryOp op) r)(ha:PE X a ta):PE X (.UnaryOp op a pos) (tUn r ta):=by intro pins s σ H Q I h;exact UnaryOp_ (thn (ha pins s σ H _ I h) fun v s1 ⟨x,H1,I1,r1,q1⟩=>ho pins s1 σ H1 x v Q I1 r1 q1)
theorem opI {f:Value->Value->Sem Value}{C:Int->Int->Prop}{g:Int->Int->Int}
  (rule:∀ (i j:Int)(t u:Tok)(s:Shared)(Q:Value->Shared->Prop)(E:Value->Shared->Prop),C i j->Q (.int (g i j) s.toks) { s with toks:=s.toks+1 }->wpAny (model X.prog X.w) X.A (f (.int i t) (.int j u)) Q E s) :
  OpR X f (rI C fun i j=>.int (g i j)):=by
 intro pins s σ H x y v u Q I rx ry h;obtain ⟨i,j,rfl,rfl,hc,q⟩:=h;obtain ⟨t,rfl⟩:=rx;obtain ⟨t',rfl⟩:=ry;exact rule i j t t' s _ _ hc ⟨.int (g i j),H,I.tok _,⟨_,rfl⟩,q⟩
theorem opI0 {f:Value->Value->Sem Value}{g:Int->Int->Int}
  (rule:∀ (i j:Int)(t u:Tok)(s:Shared)(Q:Value->Shared->Prop)(E:Value->Shared->Prop),Q (.int (g i j) s.toks) { s with toks:=s.toks+1 }->wpAny (model X.prog X.w) X.A (f (.int i t) (.int j u)) Q E s) :
  OpR X f (rI0 fun i j=>.int (g i j)):=by
 intro pins s σ H x y v u Q I rx ry h;obtain ⟨i,j,rfl,rfl,q⟩:=h;obtain ⟨t,rfl⟩:=rx;obtain ⟨t',rfl⟩:=ry;exact rule i j t t' s _ _ ⟨.int (g i j),H,I.tok _,⟨_,rfl⟩,q⟩
theorem opB0 {f:Value->Value->Sem Value}{g:Int->Int->Bool}
  (rule:∀ (i j:Int)(t u:Tok)(s:Shared)(Q:Value->Shared->Prop)(E:Value->Shared->Prop),Q (.bool (g i j)) s->wpAny (model X.prog X.w) X.A (f (.int i t) (.int j u)) Q E s) :
  OpR X f (rI0 fun i j=>.bl (g i j)):=by
 intro pins s σ H x y v u Q I rx ry h;obtain ⟨i,j,rfl,rfl,q⟩:=h;obtain ⟨t,rfl⟩:=rx;obtain ⟨t',rfl⟩:=ry;exact rule i j t t' s _ _ ⟨.bl (g i j),H,I,rfl,q⟩
def Lb_ (i j:Int):Prop:=0<=j/\j<=1000000/\i.natAbs<2 ^ 64
def Kq_ (i j:Int):Prop:=(-(2 ^ 64)<i/\i<2 ^ 64)\/(-(2 ^ 64)<j/\j<2 ^ 64)
theorem Kq_.ok {i j:Int}(h:Kq_ i j):IntMulOk i j:=by
 rcases h with ⟨h1,h2⟩|⟨h1,h2⟩
 ·exact .of_left (intBits_le_64 h1 h2)
 ·exact .of_right (intBits_le_64 h1 h2)
theorem aK_:OpR X (binaryOp .Add) (rI0 fun i j=>.int (i+j)):=opI0 fun _ _ _ _ _ _ _ q=>add_int q
theorem h1_:OpR X (binaryOp .Sub) (rI0 fun i j=>.int (i-j)):=opI0 fun _ _ _ _ _ _ _ q=>sub_int q
theorem fs_:OpR X (binaryOp .Mult) (rI Kq_ fun i j=>.int (i*j)):=opI fun _ _ _ _ _ _ _ hc q=>mul_int q hc.ok
theorem aD_:OpR X (binaryOp .Mod) (rI (fun _ j=>0<j) fun i j=>.int (i%j)):=opI fun i j _ _ _ _ _ hc q=>by have h1:(0:Int)<j:=hc;exact mod_int' (by lia) (by rw [Int.fmod_eq_emod_of_nonneg i (by lia)];exact q)
theorem od_:OpR X (binaryOp .Pow) (rI Lb_ fun i j=>.int (i ^ j.toNat)):=opI fun _ _ _ _ _ _ _ hc q=>pow_int_small hc.1 hc.2.1 hc.2.2 q
theorem unI {f:Value->Sem Value}{g:Int->Int}
  (rule:∀ (i:Int)(t:Tok)(s:Shared)(Q:Value->Shared->Prop)(E:Value->Shared->Prop),Q (.int (g i) s.toks) { s with toks:=s.toks+1 }->wpAny (model X.prog X.w) X.A (f (.int i t)) Q E s) :
  UnR X f (rU fun i=>.int (g i)):=by
 intro pins s σ H x v Q I rx h;obtain ⟨i,rfl,q⟩:=h;obtain ⟨t,rfl⟩:=rx;exact rule i t s _ _ ⟨.int (g i),H,I.tok _,⟨_,rfl⟩,q⟩
theorem pA_:UnR X (unaryOp .USub) (rU fun i=>.int (-i)):=unI fun _ _ _ _ _ q=>neg_int q
end
def scal:V->V->Bool
 | .non,.non=>true | .non,.int _=>true | .int _,.non=>true | .non,.bl _=>true | .bl _,.non=>true | .non,.str _=>true | .str _,.non=>true
 | .int _,.int _=>true | .bl _,.bl _=>true | .str _,.str _=>true | .byt _,.byt _=>true
 | .int _,.str _=>true | .str _,.int _=>true | .bl _,.str _=>true | .str _,.bl _=>true
 | _,_=>false
def rEq:R2:=fun x y H Q=>scal x y=true/\Q (.bl (decide (x=y))) H
theorem oL_ {i j:Int}:decide (V.int i=V.int j)=(i == j):=by rw [Ct_];simp
theorem pB_ {i j:Bool}:decide (V.bl i=V.bl j)=(i == j):=by rw [Ct_];simp
theorem oM_ {i j:Str}:decide (V.str i=V.str j)=(i == j):=by rw [Ct_];simp
theorem oN_ {i j:Array UInt8}:decide (V.byt i=V.byt j)=(i.toList == j.toList):=by rw [Ct_];cases i;cases j;simp
section
variable {X:Cx}{a b c:Expr}{ta tb tc:TE}{pos:Pos}
theorem cy_ {pins:List (Addr×Obj)}{σ:St}{H:Hp}{s:Shared}{Q:VK}{k k':Bool}(I:Inv X pins σ H s)(q:Q (.bl k) H)(e:k=k'):EP X pins σ Q (.bool k') s:=by subst e;exact ⟨.bl k,H,I,rfl,q⟩
theorem G0_:OpR X (compareOp .Eq) rEq:=by
 intro pins s σ H x y v u Q I rx ry h;obtain ⟨hs,q⟩:=h;cases x with
 | non =>
  cases rx;cases y with
  | non=>cases ry;exact PySem.EqNone.eq_none_none (cy_ I q (by simp))
  | bl j=>cases ry;exact PySem.EqNone.eq_none_bool (cy_ I q (by simp))
  | int j=>obtain ⟨t',rfl⟩:=ry;exact PySem.EqNone.eq_none_int (cy_ I q (by simp))
  | str j=>obtain ⟨t',rfl⟩:=ry;exact PySem.EqNone.eq_none_str (cy_ I q (by simp))
  | _=>exact absurd (show false=true from hs) AR_
 | bl i =>
  cases rx;cases y with
  | non=>cases ry;exact PySem.EqNone.eq_bool_none (cy_ I q (by simp))
  | bl j=>cases ry;exact eq_bool (cy_ I q pB_)
  | str j=>obtain ⟨t',rfl⟩:=ry;exact PySem.EqMixed.eq_bool_str (cy_ I q (by simp))
  | _=>exact absurd (show false=true from hs) AR_
 | int i =>
  obtain ⟨t,rfl⟩:=rx;cases y with
  | non=>cases ry;exact PySem.EqNone.eq_int_none (cy_ I q (by simp))
  | int j=>obtain ⟨t',rfl⟩:=ry;exact eq_int (cy_ I q oL_)
  | str j=>obtain ⟨t',rfl⟩:=ry;exact PySem.EqMixed.eq_int_str (cy_ I q (by simp))
  | _=>exact absurd (show false=true from hs) AR_
 | str i =>
  obtain ⟨t,rfl⟩:=rx;cases y with
  | non=>cases ry;exact PySem.EqNone.eq_str_none (cy_ I q (by simp))
  | bl j=>cases ry;exact PySem.EqMixed.eq_str_bool (cy_ I q (by simp))
  | int j=>obtain ⟨t',rfl⟩:=ry;exact PySem.EqMixed.eq_str_int (cy_ I q (by simp))
  | str j=>obtain ⟨t',rfl⟩:=ry;exact eq_str (cy_ I q oM_)
  | _=>exact absurd (show false=true from hs) AR_
 | byt i =>
  obtain ⟨t,rfl⟩:=rx;cases y with
  | byt j=>obtain ⟨t',rfl⟩:=ry;exact PySem.W.eq_bytes (cy_ I q oN_)
  | _=>exact absurd (show false=true from hs) AR_
 | _=>cases y <;> exact absurd (show false=true from hs) AR_
theorem Iw_:OpR X (compareOp .Lt) (rI0 fun i j=>.bl (decide (i<j))):=opB0 fun _ _ _ _ _ _ _ q=>lt_int q
theorem KC_:OpR X (compareOp .Gt) (rI0 fun i j=>.bl (decide (j<i))):=opB0 fun _ _ _ _ _ _ _ q=>gt_int q
theorem KB_:OpR X (compareOp .GtE) (rI0 fun i j=>.bl (decide (j<=i))):=opB0 fun _ _ _ _ _ _ _ q=>ge_int q
theorem FY_ (b:Expr){op:CmpOp}(h:op≠.In:=by decide) (h2:op≠.NotIn:=by decide):behindInMarks op b=false:=by
 have e1:(op == CmpOp.In)=false:=by cases op <;> first|rfl|exact absurd rfl h
 have e2:(op == CmpOp.NotIn)=false:=by cases op <;> first|rfl|exact absurd rfl h2
 cases b <;> simp [behindInMarks,e1,e2]
theorem im_ {op:CmpOp}{r:R2}(ho:OpR X (compareOp op) r)(ha:PE X a ta)(hb:PE X b tb)(hm:behindInMarks op b=false):PE X (.Compare a [op] [b] pos) (tOp r ta tb):=by intro pins s σ H Q I h;exact wpAny_Compare1 (binT ha hb I h fun v u s2 x y H2 I2 rx ry q=>ho pins s2 σ H2 x y v u Q I2 rx ry q) hm
def JS_ (t:TE):TT:=fun σ H Q=>t σ H fun x H'=>∃ k,x=.bl k/\Q k H'
theorem aG_ {op:CmpOp}{r:R2}(ho:OpR X (compareOp op) r)(ha:PE X a ta)(hb:PE X b tb)(hm:behindInMarks op b=false):PT X (.Compare a [op] [b] pos) (JS_ (tOp r ta tb)):=by
 intro pins s σ H Q I h;refine EM_ (thn (ha pins s σ H _ I h) fun v s1 ⟨x,H1,I1,r1,q1⟩=>thn (hb pins s1 σ H1 _ I1 q1) fun u s2 ⟨y,H2,I2,r2,q2⟩ =>thn (ho pins s2 σ H2 x y v u _ I2 r1 r2 q2) fun c s3 ⟨z,H3,I3,r3,k,e,q3⟩=>?_) hm;subst e;cases r3;exact Br_ ⟨H3,I3,q3⟩
theorem HD_:(sizeLine:Nat)<2 ^ 63:=by rw [B8_];decide
theorem eG_:OpR X (binaryOp .Add) (fun x y H Q=>∃ i j,x=.str i/\y=.str j/\i.length+j.length<=sizeLine/\Q (.str (i++j)) H):=by intro pins s σ H x y v u Q I rx ry h;obtain ⟨i,j,rfl,rfl,hz,q⟩:=h;obtain ⟨t,rfl⟩:=rx;obtain ⟨t',rfl⟩:=ry;exact add_str (fun t' tk=>⟨.str (i++j),H,I.tok _,⟨_,rfl⟩,q⟩) hz
theorem GF_ {x:V}{us:List Value}(r:FT_ [x] us):∃ u,us=[u]/\F1_ x u:=by
 cases r with
 | cons r1 r2=>cases r2;exact ⟨_,rfl,r1⟩
theorem HE_ {x y:V}{us:List Value}(r:FT_ [x,y] us):∃ u w',us=[u,w']/\F1_ x u/\F1_ y w':=by
 cases r with
 | cons r1 r2 =>
  cases r2 with
  | cons r3 r4=>cases r4;exact ⟨_,_,rfl,r1,r3⟩
theorem nr_:GE_ X (.builtin "abs") (fun xs H Q=>∃ i,xs=[.int i]/\Q (.int (if i<0 then -i else i)) H):=by intro pins s σ H xs us Q I r h;obtain ⟨i,rfl,q⟩:=h;obtain ⟨u,rfl,t,rfl⟩:=GF_ r;exact call_abs_int fun u tk=>⟨.int (if i<0 then -i else i),H,I.tok _,⟨_,rfl⟩,q⟩
theorem i8_:GE_ X (.type "int") (fun xs H Q=>(∃ i,xs=[.int i]/\Q (.int i) H)\/∃ k,xs=[.bl k]/\Q (.int (if k then 1 else 0)) H):=by
 intro pins s σ H xs us Q I r h
 rcases h with ⟨i,rfl,q⟩|⟨k,rfl,q⟩
 ·obtain ⟨u,rfl,t,rfl⟩:=GF_ r;exact call_int_int ⟨.int i,H,I,⟨_,rfl⟩,q⟩
 ·obtain ⟨u,rfl,r1⟩:=GF_ r;cases r1;exact call_int_bool ⟨.int (if k then 1 else 0),H,I.tok _,⟨_,rfl⟩,q⟩
end
end L2
namespace L2
open PySem PySem.Spec PyProof.Rows
structure LH_ (h:Heap)(x dx C:Addr)(mA:Str->Option Value):Prop where
 obj:h.get? x=some (PySem.W.instObj C dx)
 ns:h.Ns1 dx mA
 ne:dx≠x
theorem md_ {h:Heap}{dx:Addr}{mA:Str->Option Value}(n:h.Ns1 dx mA):∃ od,h.get? dx=some od/\∀ name,PySem.W.lookIn name od=some (mA name):=by
 obtain ⟨o,es,ep,ho,hd,hk,_,hm⟩:=n;refine ⟨o,ho,fun name=>?_⟩;have e:=hm name;unfold nsFind findBy at e;rw [<-Array.find?_toList] at e;unfold PySem.W.lookIn;rw [hd]
 dsimp only
 split
 ·rename_i y q;rw [q] at e;exact congrArg some e
 ·rename_i q;rw [q] at e;have a:es.toList.any (·.refKey)=false:=by rw [List.any_eq_false];intro y hy;obtain ⟨z,t,hkey⟩:=hk y (EZ_.mp hy);simp [DictEntry.refKey,hkey]
  have a':¬ es.toList.any (·.refKey)=true:=by rw [a];exact AR_
  rw [if_neg a'];exact congrArg some e
theorem LH_.look {h:Heap}{x dx C:Addr}{mA:Str->Option Value}(I:LH_ h x dx C mA):∃ od,PySem.W.InstAt h x (PySem.W.instObj C dx) C (some od)/\∀ name,PySem.W.lookIn name od=some (mA name) :=
 let ⟨od,ho,hl⟩:=md_ I.ns
 ⟨od,⟨I.obj,rfl,rfl,ho⟩,hl⟩
section
variable {prog:Program}{w:World}{A:Around}{E:Value->Shared->Prop}{s:Shared}{K:PySem.W.Frag}{x dx C f:Addr}{mA:Str->Option Value}{name:Str}{v:Value}
end
def putF (f:Str)(v:V):List (Str×V)->List (Str×V)
 | []=>[(f,v)]
 | (g,x)::r=>if g=f then (g,v)::r else (g,x)::putF f v r
theorem Ij_.some_of {v:V}{o:Option Value}(r:Ij_ (some v) o):∃ u,o=some u/\F1_ v u:=by
 cases o with
 | none=>exact (show False from r).elim
 | some u=>exact ⟨u,rfl,r⟩
section
variable {P:Program}{w:World}{H H':Hp}{h h':Heap}{a C dx:Addr}{fs fs':List (Str×V)}
end
structure Cls (K:PySem.W.Frag)(C:Addr):Prop where
 pg:PySem.W.plainGet K C Str.empty=true
 hd:PySem.W.hasDictIn K C=true
 po:PySem.W.plainOver K C=true
 sa:PySem.W.findIn K (.ref C) "__setattr__" = some (some (.builtin "object.__setattr__"))
theorem Cls.get {K:PySem.W.Frag}{C:Addr}(c:Cls K C)(f:Str):PySem.W.plainGet K C f=true:=c.pg
structure Con (K:PySem.W.Frag)(C:Addr)(f:Str)(v:V)(u:Value):Prop where
 at_:PySem.W.findIn K (.ref C) f=some (some u)
 rel:F1_ v u
 get:PySem.W.specialIn K u "__get__" = some none
 cp:PySem.W.copiedNames.contains f=false
structure Meth (K:PySem.W.Frag)(C:Addr)(m:Str)(f:Addr):Prop where
 at_:PySem.W.findIn K (.ref C) m=some (some (.ref f))
 fn:PySem.W.isFn K (.ref f)=true
 kp:PySem.W.keepIn K (.ref f)=true
section
variable {X:Cx}{pins:List (Addr×Obj)}{σ:St}{H:Hp}{s:Shared}{a C dx:Addr}{fs:List (Str×V)}{f:Str}{v:V}{A:Around}{E:Value->Shared->Prop}
end
section
variable {X:Cx}{o e value:Expr}{f:Str}{pos pos' tpos:Pos}{ta tv:TE}
end
section
variable {X:Cx}{pins:List (Addr×Obj)}{σ:St}{H:Hp}{s:Shared}{A:Around}{E:Value->Shared->Prop}{Q:Value->Shared->Prop}{c:Value}{b:Bool}
inductive IN_ (K:PySem.W.Frag)(H:Hp):V->Value->Prop where
 | non:IN_ K H .non (.type "NoneType")
 | bl (x:Bool):IN_ K H (.bl x) (.type "bool")
 | int (i:Int):IN_ K H (.int i) (.type "int")
 | str (x:Str):IN_ K H (.str x) (.type "str")
 | flt (x:UInt64):IN_ K H (.flt x) (.type "float")
 | lst {a:Addr} {xs:List V} (e:H a=some (.lst xs)):IN_ K H (.ref a) (.type "list")
 | frz {a:Addr} {o:Obj} {xs:List V} (e:H a=some (.frz o (.lst xs))):IN_ K H (.ref a) (.type "list")
 | tup {a:Addr} {xs:List V} (e:H a=some (.tup xs)):IN_ K H (.ref a) (.type "tuple")
 | dK {a:Addr} {kvs:List (Key×V)} (e:H a=some (.dK kvs)):IN_ K H (.ref a) (.type "dict")
 | dT {a:Addr} {kvs:List (List Key×V)} (e:H a=some (.dT kvs)):IN_ K H (.ref a) (.type "dict")
 | ins {a C dx:Addr} {fs:List (Str×V)} (e:H a=some (.ins C dx fs)) (cl:Cls K C) (ha:PySem.W.findIn K (.ref C) "__class__" = some (some (.builtin "object.__class__")))
   (hn:PySem.W.specialIn K (.builtin "object.__class__") "__get__" = some (some (.builtin "getset_descriptor.__get__"))) (htk:PySem.W.takesIn K (.builtin "object.__class__")=some true)
   (hm:PySem.W.mroIn K C (.type "object")=some true):IN_ K H (.ref a) (.ref C)
end
end L2
namespace L2
open PySem PySem.Spec PyProof.Rows
structure GK_ (k:Nat)(A:Around):Prop where
 hd:A.handled=none
 dp:A.depth+3*k+5<recursionLimit
 un:A.units+16*k+200<cLine
theorem GK_.mono {j k:Nat}{A:Around}(r:GK_ k A)(h:j<=k):GK_ j A:=⟨r.hd,by have:=r.dp;lia,by have:=r.un;lia⟩
theorem GK_.deeper {k:Nat}{A:Around}(r:GK_ (k+1) A)(env:Env):GK_ k (A.deeper env) :=
 ⟨r.hd,by have:=r.dp;show A.depth+1+3*k+5<_;lia,by have:=r.un;show A.units+3+16*k+200<_;lia⟩
theorem GK_.in1 {k:Nat}{A:Around}(r:GK_ (k+1) A):GK_ k A.in1 :=
 ⟨r.hd,by have:=r.dp;show A.depth+3*k+5<_;lia,by have:=r.un;show A.units+1+16*k+200<_;lia⟩
theorem GK_.depth {k:Nat}{A:Around}(r:GK_ k A):A.depth<recursionLimit:=by have:=r.dp;lia
theorem GK_.units {k:Nat}{A:Around}(r:GK_ k A):A.units+64<cLine:=by have:=r.un;lia
def KQ_:TA:=fun _ H Q=>Q [] H
def It_ (ta:TE)(tr:TA):TA:=fun σ H Q=>ta σ H fun x H1=>tr σ H1 fun xs H2=>Q (x::xs) H2
section
variable {X:Cx}{e:Expr}{es:List Expr}{te:TE}{t:TA}{pos:Pos}
theorem ab_:PA X [] KQ_:=fun _ _ _ _ H Q I h=>DP_ ⟨[],H,I,.nil,h⟩
theorem oO_ (ha:PE X e te)(hr:PA X es t)(hs:starEach (e::es) X.env=(false,eval e X.env)::starEach es X.env:=by rfl):PA X (e::es) (It_ te t):=by intro pos pins s σ H Q I h;rw [hs];show wpAny _ _ (spliced ((false,eval e X.env)::backTo pos (starEach es X.env))) _ _ s;refine DC_ (thn (ha pins s σ H _ I h) fun u s1 ⟨x,H1,I1,r1,q1⟩=>?_);exact thn (hr pos pins s1 σ H1 _ I1 q1) fun us s2 ⟨xs,H2,I2,r2,q2⟩=>⟨x::xs,H2,I2,.cons r1 r2,q2⟩
def KR_ (t:TA):TE:=fun σ H Q=>t σ H fun xs H1=>xs.length<=sizeLine/\∀ p,H1 p=none->Q (.ref p) (upd H1 p (.tup xs))
def Lf_ (t:TA):TE:=fun σ H Q=>t σ H fun xs H1=>xs.length<=sizeLine/\∀ p,H1 p=none->Q (.ref p) (upd H1 p (.lst xs))
theorem aq_ {x1} (h:PA X es t):PE X (.Tuple es x1 pos) (KR_ t):=by intro pins s σ H Q I hq;refine wpAny_Tuple_spliced (thn (h pos pins s σ H _ I hq) fun us s1 ⟨xs,H1,I1,r,z,q⟩=>⟨by rw [<-r.length];exact z,?_⟩);have hf:H1 s1.heap.objs.size=none:=I1.hok.fresh (Aj_ _);refine ⟨.ref s1.heap.objs.size,upd H1 s1.heap.objs.size (.tup xs),I1.laid (t':=s1.toks) (fun b u e=>Ah_ _ e) (Aj_ _) ?_,rfl,q _ hf⟩;exact ⟨z,us,r,⟨_,Av_ _ rfl,rfl,_,rfl⟩⟩
theorem bo_ (h:PA X es t):PE X (.List es pos) (Lf_ t):=by intro pins s σ H Q I hq;refine wpAny_List_spliced (thn (h pos pins s σ H _ I hq) fun us s1 ⟨xs,H1,I1,r,z,q⟩=>⟨by rw [<-r.length];exact z,?_⟩);have hf:H1 s1.heap.objs.size=none:=I1.hok.fresh (Aj_ _);refine ⟨.ref s1.heap.objs.size,upd H1 s1.heap.objs.size (.lst xs),I1.laid (t':=s1.toks) (fun b u e=>Ah_ _ e) (Aj_ _) ?_,rfl,q _ hf⟩;exact ⟨z,us,0,r,Av_ _ rfl⟩
end
abbrev Sp:=List V->Hp->VK->XK->Prop
abbrev CXT:=List Env->Hp->Shared->XK->Value->Shared->Prop
structure Jh_ (P:Program)(w:World)(K:PySem.W.Frag)(mg:Str->Option Value)(base:Heap)(A:Around)(outer:List Env)(s:Shared)(H:Hp):Prop where
 frames:A.frames=some outer
 mod:Mod K mg base
 bs:∀ b o,base.get? b=some o->s.heap.get? b=some o/\H b=none
 bsz:base.objs.size<=s.heap.objs.size
 funs:s.heap.FunFrames base outer
 frf:∀ b∈frs outer,H b=none
 hok:HOk P w H s.heap
 bare:AllBare s.gens
def CE (outer:List Env)(P:Program)(w:World)(H:Hp)(s:Shared)(Q:VK)(u:Value)(s':Shared):Prop :=
 ∃ v H',s'.os=s.os/\AllBare s'.gens/\Un (frs outer) [] H H' s.heap s'.heap/\HOk P w H' s'.heap/\F1_ v u/\Q v H'
def CR (CX:CXT)(outer:List Env)(P:Program)(w:World)(H:Hp)(s:Shared)(Q:VK)(E:XK)(r:Result)(s':Shared):Prop :=
 match r with
 | .ok (.ret u)=>CE outer P w H s Q u s'
 | .ok _=>False
 | .error e=>CX outer H s E e s'
structure HK_ (P:Program)(w:World)(K:PySem.W.Frag)(mg:Str->Option Value)(base:Heap)(CX:CXT)(k:Nat)(f:Addr)(fd:FuncData)(ps:List Str)(sp:Sp):Prop where
 len:∀ vs H Q E,sp vs H Q E->vs.length=ps.length
 run:∀ (A:Around)(outer:List Env)(s:Shared)(H:Hp)(args:Args)(us:List Value)(vs:List V)(Q:VK)(E:XK),GK_ k A->Jh_ P w K mg base A outer s H->BindsTo s fd args (ps.zip us)->FT_ vs us->sp vs H Q E ->
  codeAny (model P w) A (.call (.ref f) args) (CR CX outer P w H s Q E) s
theorem HK_.mono {P:Program}{w:World}{K:PySem.W.Frag}{mg:Str->Option Value}{base:Heap}{CX:CXT}{j k:Nat}{f:Addr}{fd:FuncData}{ps:List Str}{sp:Sp}(F:HK_ P w K mg base CX j f fd ps sp)(h:j<=k) :
  HK_ P w K mg base CX k f fd ps sp:=⟨F.len,fun A outer s H args us vs Q E hr=>F.run A outer s H args us vs Q E (hr.mono h)⟩
theorem HK_.imp {P:Program}{w:World}{K:PySem.W.Frag}{mg:Str->Option Value}{base:Heap}{CX:CXT}{k:Nat}{f:Addr}{fd:FuncData}{ps:List Str}{sp sp':Sp}(F:HK_ P w K mg base CX k f fd ps sp)
  (h:∀ vs H Q E,sp' vs H Q E->sp vs H Q E):HK_ P w K mg base CX k f fd ps sp' :=
 ⟨fun vs H Q E q=>F.len vs H Q E (h _ _ _ _ q),fun A outer s H args us vs Q E hr he hb hv hs=>F.run A outer s H args us vs Q E hr he hb hv (h _ _ _ _ hs)⟩
theorem Jh_.in1 {P:Program}{w:World}{K:PySem.W.Frag}{mg:Str->Option Value}{base:Heap}{A:Around}{outer:List Env}{s:Shared}{H:Hp}(e:Jh_ P w K mg base A outer s H) :
  Jh_ P w K mg base A.in1 outer s H:=⟨e.frames,e.mod,e.bs,e.bsz,e.funs,e.frf,e.hok,e.bare⟩
section
variable {X:Cx}{pins:List (Addr×Obj)}{σ:St}{H:Hp}{s s':Shared}
theorem Inv.env0 (I:Inv X pins σ H s):Jh_ X.prog X.w X.K X.mg X.base X.A X.stack s H :=
 ⟨I.ok.frames,I.ok.mod,I.bs,AM_ I.ok.bsz I.sz,I.stack,I.stkFree,I.hok,I.bare⟩
theorem Inv.after {Q:VK}{u:Value}(I:Inv X pins σ H s)(h:CE X.stack X.prog X.w H s Q u s'):EP X pins σ Q u s':=by obtain ⟨v,H',os,bare,un,hok,r,q⟩:=h;obtain ⟨hh,g,d,t,os'⟩:=s';obtain rfl:os'=s.os:=os;exact ⟨v,H',I.call (h':=hh) (g':=g) (d':=d) (t':=t) (ch:=[]) un hok bare (fun b z=>absurd z (by simp)),r,q⟩
end
def IL_ (sp:Sp)(dvs:List V)(E:XK)(t:TA):TE:=fun σ H Q=>t σ H fun vs H1=>sp (vs++dvs) H1 Q E
def Iq_ (K:PySem.W.Frag)(fd:FuncData)(ps:List Str)(ds:List Value):Prop :=
 ∀ (s:Shared)(us:List Value),K.In s.heap->(us++ds).length=ps.length->BindsTo s fd ⟨us,[]⟩ (ps.zip (us++ds))
theorem Iq_.all {K:PySem.W.Frag}{fd:FuncData}{ps:List Str}(h:∀ us:List Value,us.length=ps.length->bindArgs fd ⟨us,[]⟩=pure (ps.zip us)):Iq_ K fd ps []:=fun s us _ hl=>by rw [BC_] at hl ⊢;exact .of_eq (h us hl)
def IT_ (CX:CXT)(X:Cx)(E:XK):Prop:=∀ (pins:List (Addr×Obj))(σ:St)(H:Hp)(s:Shared)(e:Value)(s':Shared),Inv X pins σ H s->CX X.stack H s E e s'->X.xe e s'
section
variable {X:Cx}{CX:CXT}{k:Nat}{f C:Addr}{fd:FuncData}{ps:List Str}{sp:Sp}{dvs:List V}{ds:List Value}{E:XK}{x m:Str}{p pos apos:Pos}{e o:Expr}{es:List Expr}{ta:TE}{t:TA}
theorem pC_ {pins:List (Addr×Obj)}{σ:St}{H:Hp}{s:Shared}{Q:VK}{us:List Value}{vs:List V}(F:HK_ X.prog X.w X.K X.mg X.base CX k f fd ps sp)(hr:GK_ k X.A)(hb:Iq_ X.K fd ps ds)(hd:FT_ dvs ds)(hx:IT_ CX X E)
  (I:Inv X pins σ H s) (r:FT_ vs us) (h:sp (vs++dvs) H Q E):wpAny (model X.prog X.w) X.A (call (.ref f) us) (EP X pins σ Q) X.xe s:=by
 have r2:FT_ (vs++dvs) (us++ds):=r.append hd;have hl:(us++ds).length=ps.length:=by rw [<-r2.length];exact F.len _ _ _ _ h
 refine wpAny_call (D4_ (F.run X.A X.stack s H ⟨us,[]⟩ (us++ds) (vs++dvs) Q E hr I.env0 (hb s us I.kIn hl) r2 h) fun r s' hq=>?_);cases r with
 | error e=>exact hx pins σ H s e s' I hq
 | ok fl =>
  cases fl with
  | ret u=>exact I.after hq
  | next=>exact False.elim hq
  | brk=>exact False.elim hq
  | cont=>exact False.elim hq
theorem oP_ (F:HK_ X.prog X.w X.K X.mg X.base CX k f fd ps sp)(hr:GK_ k X.A)(hg:Gl X x)(hm:X.mg x=some (.ref f))(hk:PySem.W.keepIn X.K (.ref f)=true)(hb:Iq_ X.K fd ps ds)(hd:FT_ dvs ds)(hx:IT_ CX X E)
  (ha:PA X (e::es) t) (hdb:(x == ("__debug__" : Str))=false:=by decide) (he:starEach (e::es) X.env=(false,eval e X.env)::starEach es X.env:=by rfl) (hpl:(backTo pos (starEach es X.env)).any (·.1)=false:=by rfl) :
  PE X (.Call (.Name x p) (e::es) [] pos) (IL_ sp dvs E t):=by
 intro pins s σ H Q I h;refine BP_ (oF_ I hg hm ?_ hdb);refine PySem.W.callWith_K (h₀:=X.base) I.ok.mod.kin hk (thn (ha pos pins s σ H _ I h) fun us s1 ⟨vs,H1,I1,r,q⟩=>⟨I1.kIn,?_⟩) he hpl;exact pC_ F hr hb hd hx I1 r q
structure Mk (K:PySem.W.Frag)(C f:Addr):Prop where
 makes:PySem.W.makesIn K C=true
 init:PySem.W.findIn K (.ref C) "__init__" = some (some (.ref f))
 fn:PySem.W.isFn K (.ref f)=true
 kp:PySem.W.keepIn K (.ref C)=true
end
section
variable {X:Cx}{CX:CXT}{k:Nat}{f C:Addr}{fd:FuncData}{ps ks:List Str}{sp:Sp}{E:XK}{x m:Str}{p pos apos kpos:Pos}{e o:Expr}{es:List Expr}{kws:List Keyword}{te ta:TE}{t tk:TA}{nm:Option Str}
structure LC_ (K:PySem.W.Frag)(fd:FuncData)(ps ks:List Str)(g:List Value->List Value->List Value)(gV:List V->List V->List V):Prop where
 to:∀ (s:Shared)(us ws:List Value),K.In s.heap->(g us ws).length=ps.length->BindsTo s fd ⟨us,ks.zip ws⟩ (ps.zip (g us ws))
 rel:∀ {vs:List V}{us:List Value}{zs:List V}{ws:List Value},FT_ vs us->FT_ zs ws->FT_ (gV vs zs) (g us ws)
variable {g:List Value->List Value->List Value}{gV:List V->List V->List V}
end
structure FF_ (N P:List Str)(sc:Scope):Prop where
 kind:sc.kind=.function
 co:sc.isCoroutine=false
 gen:sc.isGenerator=false
 nd:N.Nodup
 pre:N.take P.length=P
 par:∀ x∈P,sc.names.lookup x=some .local\/sc.names.lookup x=some .cell
 nofree:∀ y∈sc.names,y.2≠.free
theorem i9_ {kindOf:Str->Option NameKind}{x:Str}:∀ {binds:List (Str×Value)}{m:Str->Option Value},(∀ v,(x,v)∉binds)->bindL kindOf binds m x=m x
 | [],_,_=>rfl
 | (n,v)::r,m,h=>by
  unfold bindL;rw [i9_ fun w hw=>h w (Ar_ _ hw)];split
  ·have:x≠n:=by rintro rfl;exact h v At_
   simp [this]
  ·rfl
theorem ja_ {kindOf:Str->Option NameKind}{x:Str}:∀ {binds:List (Str×Value)}{m:Str->Option Value},(∀ v,(x,v)∉binds)->bindC kindOf binds m x=m x
 | [],_,_=>rfl
 | (n,v)::r,m,h=>by
  unfold bindC;rw [ja_ fun w hw=>h w (Ar_ _ hw)];split
  ·rfl
  ·have:x≠n:=by rintro rfl;exact h v At_
   simp [this]
theorem jb_ {kindOf:Str->Option NameKind}{x:Str}{v:Value}:∀ {P:List Str}{vs:List Value}{i:Nat}{m:Str->Option Value},P.Nodup->P[i]?=some x->vs[i]?=some v->kindOf x=some .local ->
  bindL kindOf (P.zip vs) m x=some v
 | [],_,_,_,_,h,_,_=>by simp at h
 | _::_,[],_,_,_,_,h,_=>by simp at h
 | p::P,w::vs,0,m,nd,h1,h2,hk=>by
  simp at h1 h2;subst h1;subst h2;show bindL kindOf ((p,w)::P.zip vs) m p=_;unfold bindL;rw [i9_ fun v hv=>(A1_.mp nd).1 (Dd_ hv).1,if_pos hk];simp
 | p::P,w::vs,i+1,m,nd,h1,h2,hk=>by show bindL kindOf ((p,w)::P.zip vs) m x=_;unfold bindL;exact jb_ (i:=i) (A1_.mp nd).2 (by simpa using h1) (by simpa using h2) hk
theorem jc_ {kindOf:Str->Option NameKind}{x:Str}{v:Value}:∀ {P:List Str}{vs:List Value}{i:Nat}{m:Str->Option Value},P.Nodup->P[i]?=some x->vs[i]?=some v->kindOf x≠some .local ->
  bindC kindOf (P.zip vs) m x=some v
 | [],_,_,_,_,h,_,_=>by simp at h
 | _::_,[],_,_,_,_,h,_=>by simp at h
 | p::P,w::vs,0,m,nd,h1,h2,hk=>by
  simp at h1 h2;subst h1;subst h2;show bindC kindOf ((p,w)::P.zip vs) m p=_;unfold bindC;rw [ja_ fun v hv=>(A1_.mp nd).1 (Dd_ hv).1,if_neg hk];simp
 | p::P,w::vs,i+1,m,nd,h1,h2,hk=>by show bindC kindOf ((p,w)::P.zip vs) m x=_;unfold bindC;exact jc_ (i:=i) (A1_.mp nd).2 (by simpa using h1) (by simpa using h2) hk
def start (N:List Str)(vs:List V):St:=vs.map some++List.replicate (N.length-vs.length) none
def Ir_ (CX:CXT)(P:Program)(w:World)(K:PySem.W.Frag)(mg:Str->Option Value)(base:Heap)(N:List Str)(qual:Str)(scope:Scope)(f:Addr)(cd:Value)(A:Around)(outer:List Env)(s:Shared)(H:Hp)(E:XK):Cx where
 prog:=P
 w:=w
 K:=K
 mg:=mg
 base:=base
 A:=A.deeper (envOfC qual scope s.heap.objs.size f cd)
 N:=N
 s₀:=s
 H₀:=H
 env:=envOfC qual scope s.heap.objs.size f cd
 outer:=outer
 stack:=envOfC qual scope s.heap.objs.size f cd::outer
 ex:=[]
 calm:=true
 fn:=fun _=>true
 pn:=[]
 xe:=fun e s'=>wpAny (model P w) (A.deeper (envOfC qual scope s.heap.objs.size f cd)) (leaving (envOfC qual scope s.heap.objs.size f cd) e) (fun _ s''=>CX outer H s E e s'') (fun e' s''=>CX outer H s E e' s'') s'
theorem kW_ {sc:Scope}{n:Nat}{x:Str}(h:sc.names.lookup x=some .cell):∃ c,(cellsFrom n sc.names []).lookup x=some c:=by have q:=CY_ sc.names n [] (.inl h);exact D5_.mp q
theorem jd_ {CX:CXT}{P:Program}{w:World}{K:PySem.W.Frag}{mg:Str->Option Value}{base:Heap}{N ps:List Str}{qual:Str}{scope:Scope}{f:Addr}{cd:Value}{A:Around}{outer:List Env}{s s1:Shared}{H:Hp}{E:XK}{us:List Value}{vs:List V}
  (S:FF_ N ps scope) (hd:A.handled=none) (e0:Jh_ P w K mg base A outer s H) (hl:vs.length=ps.length) (r:FT_ vs us)
  (x:InCallC s s.heap.objs.size (bindL (envOfC qual scope s.heap.objs.size f cd).kindOf (ps.zip us) fun _=>none) (cellsFrom (s.heap.objs.size+1) scope.names []) (bindC (envOfC qual scope s.heap.objs.size f cd).kindOf (ps.zip us) fun _=>none) s1) :
  Inv (Ir_ CX P w K mg base N qual scope f cd A outer s H E) [] (start N vs) H s1:=by
 have hpl:ps.length<=N.length:=by have:=congrArg List.length S.pre;rw [Bn_] at this;lia
 obtain ⟨h1,tk,rfl,hk⟩:=x.done;have noA:∀ b:Addr,b∉(Ir_ CX P w K mg base N qual scope f cd A outer s H E).ex:=fun b z=>absurd (show b∈([]:List Addr) from z) (by simp)
 refine ⟨⟨e0.mod,S.kind,rfl,rfl,Aj_ _,fun y z c h1 h2=>?_,fun y hy=>?_,fun y c _ h=>?_,fun _=>hd,Around.frames_deeper e0.frames,.inr ⟨rfl,rfl⟩,fun b z=>absurd z (noA b),e0.bs,e0.bsz,fun b _ _=>noA b,fun b z=>absurd z (noA b),e0.funs,e0.frf⟩,
  rfl,e0.bare,Un.kept hk,⟨_,x.toInCall.ns,fun i y v h1 h2 h3=>?_⟩,fun y c h=>⟨_,x.cell y c h⟩,e0.hok.fresh (Aj_ _),fun y c h=>?_,fun p hp=>absurd (show p∈([]:List (Addr×Obj)) from hp) (by simp),e0.hok.kept hk,?_⟩
 ·exact name_of_addr x.apart (Bo_ h1) (Bo_ h2)
 ·have hy:scope.names.lookup y=some .cell\/scope.names.lookup y=some .free:=hy
  rcases hy with hy|hy
  ·exact kW_ hy
  ·exact absurd rfl (S.nofree _ (Bo_ hy))
 ·exact AJ_ (x.above y c (Bo_ h))
 ·have hi:i<vs.length:=by
   unfold start at h2;by_cases hi:i<vs.length
   ·exact hi
   ·rw [Ao_ (by simpa using hi)] at h2;rw [En_] at h2;split at h2 <;> cases h2
  have ha:vs[i]?=some v:=by
   unfold start at h2;rw [Al_ (by simpa using hi),Ag_] at h2;cases e:vs[i]? with
   | none=>rw [e] at h2;cases h2
   | some a=>rw [e] at h2;cases h2;rfl
  obtain ⟨u,hu,rv⟩:=r.get ha;have hp:ps[i]?=some y:=by rw [<-S.pre,List.getElem?_take_of_lt (by lia)];exact h1
  have ndP:ps.Nodup:=by rw [<-S.pre];exact S.nd.sublist (List.take_sublist _ _)
  refine ⟨u,rv,?_⟩
  rcases S.par y (Am_ hp) with k|k
  ·exact .inl ⟨k,jb_ ndP hp hu k⟩
  ·obtain ⟨c,e⟩:=kW_ (n:=s.heap.objs.size+1) k;refine .inr ⟨.inl k,c,e,?_⟩;have q:=x.cell y c e;rw [jc_ ndP hp hu (by show scope.names.lookup y≠_;rw [k];decide)] at q;exact q
 ·exact e0.hok.fresh (AJ_ (x.above y c (Bo_ h)))
 ·unfold start;show _=N.length;rw [Af_,Ab_,EN_];lia
theorem KE_ {CX:CXT}{P:Program}{w:World}{K:PySem.W.Frag}{mg:Str->Option Value}{base:Heap}{k:Nat}{f:Addr}{name qual:Str}{params:Arguments}{body:List Stmt}{scope:Scope}{dV kV doc pm cdv ct oc:Value}{an od:Option Addr}
  {osl:Array (Option Value)} {N ps:List Str} {sp:Sp} (lk:K.lookup f=some ⟨oc,od,.func (PySem.W.fnOf name qual params body scope dV kV doc pm an cdv ct),osl⟩) (hcd:PySem.W.codeIn K cdv qual=true) (S:FF_ N ps scope)
  (len:∀ vs H Q E,sp vs H Q E->vs.length=ps.length)
  (hbody:∀ (A:Around)(outer:List Env)(s:Shared)(H:Hp)(vs:List V)(Q:VK)(E:XK),GK_ k (A.deeper (envOfC qual scope s.heap.objs.size f cdv))->sp vs H Q E ->
   ∃ t,PSs (Ir_ CX P w K mg base N qual scope f cdv A outer s H E) body t/\t { nx:=fun _ H'=>Q .non H',rt:=Q } (start N vs) H) :
  HK_ P w K mg base CX (k+1) f (PySem.W.fnOf name qual params body scope dV kV doc pm an cdv ct) ps sp:=by
 refine ⟨len,fun A outer s H args us vs Q E hr e0 hb r hsp=>?_⟩;have hl:=len _ _ _ _ hsp;have KX:K.In s.heap:=e0.mod.kin.keeps fun b o e=>(e0.bs b o e).1;have lim:s.heap.NoLimit:=e0.mod.nolimit.keeps fun b o e=>(e0.bs b o e).1
 have hkind:∀ y∈ps.zip us,scope.names.lookup y.1=some .local\/(scope.names.lookup y.1=some .cell/\((cellsFrom (s.heap.objs.size+1) scope.names []).lookup y.1).isSome=true):=fun ⟨n,v⟩ hy=>by
  rcases S.par n (Dd_ hy).1 with q|q
  ·exact .inl q
  ·exact .inr ⟨q,CY_ _ _ _ (.inl q)⟩
 refine codeAny_call_function hr.depth (KX _ _ lk) rfl S.co S.gen rfl (PySem.W.codeRec_of KX hcd) (hb _ _ _ _ ?_);refine DL_ S.kind hkind fun env he s1 x=>?_;subst he;refine ⟨lim.keeps x.toInCall.keep,codeAny_func ?_⟩;obtain ⟨t,ht,hq⟩:=hbody A outer s H vs Q E (hr.deeper _) hsp;have I:Inv (Ir_ CX P w K mg base N qual scope f cdv A outer s H E) [] (start N vs) H s1:=jd_ S hr.hd e0 hl r x;refine Bi_ (ht [] s1 (start N vs) H _ I hq) (fun fl s' hs=>?_) fun e s' hs=>hs
 have fin:∀ {σ':St}{H':Hp}{v:V}{u:Value},Inv (Ir_ CX P w K mg base N qual scope f cdv A outer s H E) [] σ' H' s'->F1_ v u->Q v H'->CE outer P w H s Q u s' :=
  fun {σ' H' v u} J rv q=>⟨v,H',J.os,J.bare,J.base,J.hok,rv,q⟩
 cases fl with
 | ret u =>
  obtain ⟨v,σ',H',J,rv,q⟩:=hs;exact fin J rv q
 | next =>
  obtain ⟨σ',H',J,q⟩:=hs;exact fin (v:=V.non) (u:=Value.none) J rfl q
 | brk =>
  obtain ⟨_,_,_,q⟩:=hs;exact False.elim q
 | cont =>obtain ⟨_,_,_,q⟩:=hs;exact False.elim q
end L2
namespace L2
open PySem PySem.Spec PyProof.Rows
section
variable {X:Cx}{x:Str}{p pos:Pos}{e:Expr}{es:List Expr}{t:TA}{id T:String}{r:List V->Hp->VK->Prop}
def tCB (r:List V->Hp->VK->Prop)(t:TA):TE:=fun σ H Q=>t σ H fun vs H1=>r vs H1 Q
theorem ns_ (hc:GE_ X (.builtin id) r)(hg:Gl X x)(hm:X.mg x=none)(hv:bootBuiltins x=some (.builtin id))(ha:PA X (e::es) t)(hn:x ≠ "__name__" := by decide) (hdb:(x == ("__debug__" : Str))=false:=by decide)
  (he:starEach (e::es) X.env=(false,eval e X.env)::starEach es X.env:=by rfl) (hpl:(backTo pos (starEach es X.env)).any (·.1)=false:=by rfl):PE X (.Call (.Name x p) (e::es) [] pos) (tCB r t):=by
 intro pins s σ H Q I h;refine BP_ (d5_ I hg hm hv ?_ hn hdb);exact PyProof.Rows.callWith_builtin1 (thn (ha pos pins s σ H _ I h) fun us s1 ⟨vs,H1,I1,r1,q1⟩=>hc pins s1 σ H1 vs us Q I1 r1 q1) he hpl
theorem me_ (hc:GE_ X (.type T) r)(hg:Gl X x)(hm:X.mg x=none)(hv:bootBuiltins x=some (.type T))(ha:PA X (e::es) t)(hn:x ≠ "__name__" := by decide) (hdb:(x == ("__debug__" : Str))=false:=by decide)
  (he:starEach (e::es) X.env=(false,eval e X.env)::starEach es X.env:=by rfl) (hpl:(backTo pos (starEach es X.env)).any (·.1)=false:=by rfl):PE X (.Call (.Name x p) (e::es) [] pos) (tCB r t):=by
 intro pins s σ H Q I h;refine BP_ (d5_ I hg hm hv ?_ hn hdb);exact Bj_ (thn (ha pos pins s σ H _ I h) fun us s1 ⟨vs,H1,I1,r1,q1⟩=>hc pins s1 σ H1 vs us Q I1 r1 q1) he hpl
end
end L2
namespace HT
open PySem PyProof.Rows
section
open PySem.SeqAt
open PySem.AutoSeq1 (wpAny_loadPart')
open PySem.MeetsSeq PySem.MeetsSeq2 PySem.MeetsSeq3
end
section
variable {prog:Program}{w:World}{A:Around}{E:Value->Shared->Prop}{s:Shared}
def sIx (n d:Nat):Option Int->Nat
 | none=>d
 | some v=>if v<0 then (v+(n:Int)).toNat else min v.toNat n
theorem sIx_none (n d:Nat):sIx n d none=d:=rfl
theorem sIx_nat (n d k:Nat):sIx n d (some (k:Int))=min k n:=by show (if (k:Int)<0 then ((k:Int)+(n:Int)).toNat else min (k:Int).toNat n)=min k n;rw [if_neg (by lia),AE_]
end
end HT
namespace L2
open PySem PySem.Spec PyProof.Rows
abbrev TO:=St->Hp->(Option Int->Hp->Prop)->Prop
def PO (X:Cx)(e:Option Expr)(t:TO):Prop :=
 ∀ (pins:List (Addr×Obj))(s:Shared)(σ:St)(H:Hp)(Q:Option Int->Hp->Prop),Inv X pins σ H s->t σ H Q ->
  wpAny (model X.prog X.w) X.A (evalPart e X.env) (fun u s'=>∃ o H',Inv X pins σ H' s'/\IsPart u o/\Q o H') X.xe s
def HW_:TO:=fun _ H Q=>Q none H
def J0_ (t:TE):TO:=fun σ H Q=>t σ H fun x H1=>∃ i,x=.int i/\Q (some i) H1
theorem lr_ {ns:List Int}:∀ {us:List Value},FT_ (ns.map V.int) us->IntsAre us ns:=by
 induction ns with
 | nil=>intro us r;rw [CR_] at r;cases r;exact .nil
 | cons n ns ih =>
  intro us r;rw [AG_] at r;cases r with
  | cons r1 r2 =>obtain ⟨t,e⟩:=r1;subst e;exact .cons n t (ih r2)
section
variable {X:Cx}{e:Expr}{te:TE}{lo hi:Option Expr}{tl th:TO}{pos p2:Pos}
theorem cz_:PO X none HW_:=by intro pins s σ H Q I h;rw [E7_];exact Ai_ ⟨none,H,I,.none,h⟩
theorem cl_ (h:PE X e te):PO X (some e) (J0_ te):=by intro pins s σ H Q I hw;rw [evalPart_some];refine thn (h pins s σ H _ I hw) fun u s1 ⟨x,H1,I1,r1,q1⟩=>?_;obtain ⟨i,rfl,q⟩:=q1;obtain ⟨t,rfl⟩:=r1;exact ⟨some i,H1,I1,.int i t,q⟩
def SlR (X:Cx)(r:V->Option Int->Option Int->Hp->VK->Prop):Prop :=
 ∀ (pins:List (Addr×Obj))(s:Shared)(σ:St)(H:Hp)(x:V)(v vl vu:Value)(lo hi:Option Int)(sl:Addr)(Q:VK),Inv X pins σ H s->F1_ x v->s.heap.IsSliceOf sl vl vu .none->IsPart vl lo->IsPart vu hi->r x lo hi H Q ->
  ∃ T id,typeLookup (.type T) "__getitem__" = pure (some (.builtin id))/\s.TypeIs v T/\wpAny (model X.prog X.w) X.A (getItem v (.ref sl)) (EP X pins σ Q) X.xe s
def tSl (r:V->Option Int->Option Int->Hp->VK->Prop)(te:TE)(tl th:TO):TE:=fun σ H Q=>te σ H fun x H1=>tl σ H1 fun l H2=>th σ H2 fun u H3=>r x l u H3 Q
theorem bO_ {r:V->Option Int->Option Int->Hp->VK->Prop}(hr:SlR X r)(he:PE X e te)(hl:PO X lo tl)(hu:PO X hi th):PE X (.Subscript e (.Slice lo hi none p2) pos) (tSl r te tl th):=by intro pins s σ H Q I h;refine E0_ (thn (he pins s σ H _ I h) fun v s1 ⟨x,H1,I1,r1,q1⟩=>?_);refine wpAny_Slice (thn (hl pins s1 σ H1 _ I1 q1) fun vl s2 ⟨l,H2,I2,pl,q2⟩=>thn (hu pins s2 σ H2 _ I2 q2) fun vu s3 ⟨u,H3,I3,pu,q3⟩=>?_);rw [E7_];refine Ai_ ?_;have I4:Inv X pins σ H3 { s3 with heap:=s3.heap.push { cls:=.type "slice",data:=.fields #[vl,vu,.none] } }:=I3.kept (t':=s3.toks) fun b ob q=>Ah_ _ q;obtain ⟨T,id,hT,ht,hg⟩:=hr pins { s3 with heap:=s3.heap.push { cls:=.type "slice",data:=.fields #[vl,vu,.none] } } σ H3 x v vl vu l u s3.heap.objs.size Q I4 r1 (Heap.IsSliceOf.new ..) pl pu q3;show wpAny (model X.prog X.w) X.A (subscriptTail e (.Slice lo hi none p2) v (.ref s3.heap.objs.size)) (EP X pins σ Q) X.xe { s3 with heap:=s3.heap.push { cls:=.type "slice",data:=.fields #[vl,vu,.none] } };exact tail_any (ops:=[.ref s3.heap.objs.size,v]) ht hT hg (by with_unfolding_all rfl)
def HJ_ (xs:List V)(lo hi:Option Int):List V:=(xs.drop (HT.sIx xs.length 0 lo)).take (HT.sIx xs.length xs.length hi-HT.sIx xs.length 0 lo)
theorem j9_ (xs:List V)(lo hi:Option Int):(HJ_ xs lo hi).length<=xs.length:=by unfold HJ_;rw [Bn_,BM_];lia
end
end L2
namespace L2
open PySem PySem.Spec PyProof.Rows
def ixN (n:Nat)(i:Int):Option Nat:=if 0<=i then (if i<n then some i.toNat else none) else if -(n:Int)<=i then some (i+n).toNat else none
def atI {α:Type}(xs:List α)(i:Int):Option α:=(ixN xs.length i).bind fun j=>xs[j]?
theorem mf_ {n:Nat}{i:Int}{j:Nat}(h:ixN n i=some j):seqIndex? i n=some j/\j<n /\ -(n:Int)<=i/\i<n:=by
 unfold ixN at h;by_cases h0:0<=i
 ·rw [if_pos h0] at h;by_cases h1:i<n
  ·rw [if_pos h1] at h;have e:i.toNat=j:=Aw_ h;exact ⟨by rw [EB_ h0 h1,e],by lia,by lia,h1⟩
  ·rw [if_neg h1] at h;cases h
 ·rw [if_neg h0] at h;by_cases h1:-(n:Int)<=i
  ·rw [if_pos h1] at h;have e:(i+n).toNat=j:=Aw_ h;exact ⟨by rw [Fk_ (by lia) h1,e],by lia,h1,by lia⟩
  ·rw [if_neg h1] at h;cases h
theorem ka_ {α:Type}{xs:List α}{i:Int}{v:α}(h:atI xs i=some v):∃ j,seqIndex? i xs.length=some j/\xs[j]?=some v/\j<xs.length /\ -(xs.length:Int)<=i/\i<xs.length:=by
 unfold atI at h;cases e:ixN xs.length i with
 | none=>rw [e] at h;cases h
 | some j =>rw [e] at h;obtain ⟨h1,h2,h3,h4⟩:=mf_ e;exact ⟨j,h1,h,h2,h3,h4⟩
theorem kb_ {α:Type}{xs:List α}{j:Nat}{v:α}(h:xs[j]?=some v):atI xs (j:Int)=some v:=by
 have hj:j<xs.length:=(Ae_.mp h).1;have e:ixN xs.length (j:Int)=some j:=by unfold ixN;rw [if_pos (by lia),if_pos (by lia)];simp
 unfold atI;rw [e];exact h
def Kb_ (b:Expr):Prop:=∀ o i,subscripted b false o i=operate [o,i] (getItem o i)
def IxR (X:Cx)(r:R2):Prop :=
 ∀ (value slice:Expr)(pins:List (Addr×Obj))(s:Shared)(σ:St)(H:Hp)(x y:V)(v u:Value)(Q:VK),Inv X pins σ H s->F1_ x v->F1_ y u->r x y H Q ->
  subscripted slice false v u=operate [v,u] (getItem v u)->wpAny (model X.prog X.w) X.A (subscriptTail value slice v u) (EP X pins σ Q) X.xe s
def MtR (X:Cx)(id:String)(r:V->List V->Hp->VK->Prop):Prop :=
 ∀ (pins:List (Addr×Obj))(s:Shared)(σ:St)(H:Hp)(x:V)(xs:List V)(v:Value)(us:List Value)(Q:VK),Inv X pins σ H s->F1_ x v->FT_ xs us->r x xs H Q ->
  wpAny (model X.prog X.w) X.A (call (.builtin id) (v::us)) (EP X pins σ Q) X.xe s
section
variable {X:Cx}{a b:Expr}{ta tb:TE}{pos:Pos}
theorem FG_ {r:R2}(hr:IxR X r)(ha:PE X a ta)(hb:PE X b tb)(hs:Kb_ b):PE X (.Subscript a b pos) (tOp r ta tb):=by intro pins s σ H Q I h;exact E0_ (binT ha hb I h fun v u s2 x y H2 I2 rx ry q=>hr a b pins s2 σ H2 x y v u Q I2 rx ry q (hs _ _))
def LD_ (K:PySem.W.Frag):R2:=fun x y H Q=>∃ p xs i v,x=.ref p/\y=.int i/\SqL K H p xs/\atI xs i=some v/\Q v H
def K7_ (K:PySem.W.Frag):R2:=fun x y H Q=>∃ p xs i v,x=.ref p/\y=.int i/\SqT K H p xs/\atI xs i=some v/\Q v H
def K2_:R2:=fun x y H Q=>∃ z i c,x=.str z/\y=.int i/\z.length<=sizeLine/\atI z.cps.toList i=some c/\Q (.str ⟨#[c]⟩) H
theorem mg_:IxR X (LD_ X.K):=by
 intro value slice pins s σ H x y v u Q I rx ry h hs;obtain ⟨p,xs,i,z,rfl,rfl,hq,he,q⟩:=h;cases rx;obtain ⟨t,rfl⟩:=ry;obtain ⟨its,r,pl,hz⟩:=I.list hq;obtain ⟨j,h1,h2,h3,h4,h5⟩:=ka_ he;obtain ⟨w,ew,rw'⟩:=r.get h2;have hl:=r.length;have hn:=HD_;have fin:EP X pins σ Q w s:=⟨z,H,I,rw',q⟩;by_cases h0:0<=i
 ·have hj:i.toNat=j:=by rw [EB_ h0 h5] at h1;exact Aw_ h1
  exact item_listR pl.isList h0 (by lia) (by rw [hj];simpa using ew) fin hs
 ·have hj:(i+(its.toArray.size:Int)).toNat=j:=by rw [Fk_ (by lia) h4] at h1;rw [As_,<-hl];exact Aw_ h1
  exact EC_ (x:=w) pl.isList.typeIs slot_list_getitem.lookup
   (wpAny_getItem_list_neg (Q:=fun r s'=>r=w/\EP X pins σ Q r s') pl.isList (by lia) (by rw [As_] <;> lia) (by lia) (by rw [hj];simpa using ew) ⟨rfl,fin⟩) hs
theorem pD_:IxR X (K7_ X.K):=by
 intro value slice pins s σ H x y v u Q I rx ry h hs;obtain ⟨p,xs,i,z,rfl,rfl,hq,he,q⟩:=h;cases rx;obtain ⟨t,rfl⟩:=ry;obtain ⟨its,r,pl,hz⟩:=I.tuple hq;obtain ⟨j,h1,h2,h3,h4,h5⟩:=ka_ he;obtain ⟨w,ew,rw'⟩:=r.get h2;have hl:=r.length;have hn:=HD_;have fin:EP X pins σ Q w s:=⟨z,H,I,rw',q⟩
 exact EC_ (x:=w) pl.typeIs slot_tuple_getitem.lookup
  (getItem_tuple (j:=j) (Q:=fun r s'=>r=w/\EP X pins σ Q r s') pl (by lia) (by lia) (by rw [As_,<-hl];exact h1) (by simpa using ew) ⟨rfl,fin⟩) hs
theorem kX_:IxR X K2_:=by
 intro value slice pins s σ H x y v u Q I rx ry h hs;obtain ⟨z,i,c,rfl,rfl,hz,he,q⟩:=h;obtain ⟨t,rfl⟩:=rx;obtain ⟨t',rfl⟩:=ry;obtain ⟨j,h1,h2,h3,h4,h5⟩:=ka_ he;have hl:z.cps.toList.length=z.length:=by simp [Str.length]
 rw [hl] at h1 h4 h5;have hn:=HD_;exact tail_any (DT_ s z t) slot_str_getitem.lookup (getItem_str (c:=c) (by have e1:decide (i < -(2 ^ 63:Int))=false:=AN_ (by lia);have e2:decide (i ≥ 2 ^ 63)=false:=AN_ (by lia);rw [e1,e2,Bool.or_false]) (by rw [h1];simpa using h2) ⟨.str ⟨#[c]⟩,H,I.tok _,⟨_,rfl⟩,q⟩) hs
theorem ls_ (its:List Value)(n j:Nat)(u:Value):Obj.mapSeq (·.setIfInBounds j u) { cls:=.type "list",data:=.seq its.toArray n }={ cls:=.type "list",data:=.seq (its.set j u).toArray n }:=by simp [Obj.mapSeq]
theorem Inv.lst {pins:List (Addr×Obj)}{σ:St}{H:Hp}{s:Shared}{p:Addr}{xs:List V}(I:Inv X pins σ H s)(h:H p=some (.lst xs)) :
  ∃ (its:List Value)(n:Nat),FT_ xs its/\s.heap.get? p=some { cls:=.type "list",data:=.seq its.toArray n }/\xs.length<=sizeLine:=by
 obtain ⟨z,its,n,r,e⟩:=I.hok p _ h;exact ⟨its,n,r,e,z⟩
theorem Inv.lstUpd {pins:List (Addr×Obj)}{σ:St}{H:Hp}{s:Shared}{p:Addr}{xs ys:List V}{its its':List Value}{n n':Nat}{f:Obj->Obj}(I:Inv X pins σ H s)(h:H p=some (.lst xs))
  (ho:s.heap.get? p=some { cls:=.type "list",data:=.seq its.toArray n }) (hf:f { cls:=.type "list",data:=.seq its.toArray n }={ cls:=.type "list",data:=.seq its'.toArray n' }) (r:FT_ ys its') (hz:ys.length<=sizeLine) (t:Nat) :
  Inv X pins σ (upd H p (.lst ys)) { s with heap:=s.heap.update p f,toks:=t }:=by
 have e:(s.heap.update p f).get? p=some { cls:=.type "list",data:=.seq its'.toArray n' }:=by rw [CC_ f ho (by rw [hf] <;> rfl),hf]
 refine I.write (x:=p) (e:=p) (by rw [h];trivial) (.inl rfl) (fun b u hb q=>(A0_ _ _ (Ne.symm hb)).trans q) ⟨_,e⟩ ?_;exact ⟨hz,its',n',r,e⟩
def J3_:V->V->V->Hp->(Hp->Prop)->Prop:=fun o i v H Q=>∃ p xs k j,o=.ref p/\i=.int k/\H p=some (.lst xs)/\ixN xs.length k=some j/\Q (upd H p (.lst (xs.set j v)))
theorem nt_:LI_ X J3_:=by
 intro pins s σ H o i v ov iv u Q I ro ri rv h;obtain ⟨p,xs,k,j,rfl,rfl,hp,hj,q⟩:=h;cases ro;obtain ⟨t,rfl⟩:=ri;obtain ⟨its,n,r,ho,hz⟩:=I.lst hp;obtain ⟨h1,h2,h3,h4⟩:=mf_ hj;have hl:=r.length;have hn:=HD_
 have I':Inv X pins σ (upd H p (.lst (xs.set j v))) { s with heap:=s.heap.update p (Obj.mapSeq (·.setIfInBounds j u)) } :=
  I.lstUpd hp ho (ls_ its n j u) (r.set rv j) (by rw [BK_];exact hz) s.toks
 by_cases h0:0<=k
 ·have hk:k.toNat=j:=by rw [EB_ h0 h4] at h1;exact Aw_ h1
  exact PySem.W.ki_setAt ho h0 (by lia) (by rw [As_,<-hl];exact h4) (by rw [hk];exact ⟨_,I',q⟩)
 ·have hk:(k+(its.toArray.size:Int)).toNat=j:=by rw [Fk_ (by lia) h3] at h1;rw [As_,<-hl];exact Aw_ h1
  exact PySem.W.ki_setBack ho (by lia) (by rw [As_,<-hl];exact h3) (by lia) (by rw [hk];exact ⟨_,I',q⟩)
theorem je_ (lo hi:Option Int)(n:Nat):(sliceBounds lo hi none n).1=((HT.sIx n 0 lo:Nat):Int)/\(sliceBounds lo hi none n).2.1=((HT.sIx n n hi:Nat):Int)/\(sliceBounds lo hi none n).2.2=1:=by
 refine ⟨?_,?_,rfl⟩
 ·cases lo with
  | none=>simp [sliceBounds,HT.sIx]
  | some i =>
   simp only [sliceBounds,HT.sIx,D6_,show (1:Int) > 0 by decide,if_true];by_cases h:i<0
   ·simp only [h,if_true] <;> lia
   ·simp only [h,BS_] <;> lia
 ·cases hi with
  | none=>simp [sliceBounds,HT.sIx]
  | some i =>
   simp only [sliceBounds,HT.sIx,D6_,show (1:Int) > 0 by decide,if_true];by_cases h:i<0
   ·simp only [h,if_true] <;> lia
   ·simp only [h,BS_] <;> lia
theorem io_ (its:List Value)(lo hi:Option Int):slicePick its.toArray lo hi none=((its.drop (HT.sIx its.length 0 lo)).take (HT.sIx its.length its.length hi-HT.sIx its.length 0 lo)).toArray:=by obtain ⟨h1,h2,h3⟩:=je_ lo hi its.toArray.size;unfold slicePick;rw [h1,h2,h3];simp only [sliceRange_one,pick_run,As_] <;> rfl
def rSlL (K:PySem.W.Frag):V->Option Int->Option Int->Hp->VK->Prop:=fun x lo hi H Q=>∃ a xs,x=.ref a/\SqL K H a xs/\∀ p,H p=none->Q (.ref p) (upd H p (.lst (HJ_ xs lo hi)))
theorem oQ_:SlR X (rSlL X.K):=by intro pins s σ H x v vl vu lo hi sl Q I rx hs pl pu h;obtain ⟨a,xs,rfl,hx,q⟩:=h;cases rx;obtain ⟨its,r,ht,hz⟩:=I.list hx;have hlen:=r.length;refine ⟨"list",_,slot_list_getitem.lookup,ht.isList.typeIs,?_⟩;refine D7_ ht.isList hs pl pu .none (by simp) ?_ (by rw [As_] <;> lia);rw [io_,<-hlen];refine ⟨.ref s.heap.objs.size,_,I.laid (t':=s.toks) (o:=.lst (HJ_ xs lo hi)) (fun b ob q=>Ah_ _ q) (Aj_ _) ?_,rfl,q _ (I.hok.fresh (Aj_ _))⟩;exact ⟨AM_ (j9_ xs lo hi) hz,_,0,(r.drop (HT.sIx xs.length 0 lo)).take (HT.sIx xs.length xs.length hi-HT.sIx xs.length 0 lo),Av_ _ rfl⟩
def GY_:V->Bool
 | .non=>true
 | .bl _=>true
 | .int _=>true
 | .str _=>true
 | _=>false
def eqV:V->V->Bool
 | .non,.non=>true
 | .bl a,.bl b=>a == b
 | .bl a,.int b=>(if a then 1 else 0) == b
 | .int a,.bl b=>a == (if b then 1 else 0)
 | .int a,.int b=>a == b
 | .str a,.str b=>a == b
 | _,_=>false
theorem pE_ {A:Around}{s:Shared}{y x:V}{u v:Value}(ry:F1_ y u)(rx:F1_ x v)(fy:GY_ y=true)(fx:GY_ x=true):SeqAt.EqAt A s u v (eqV y x):=by
 cases y with
 | non =>
  cases ry;cases x with
  | non=>cases rx;exact De_ _
  | bl b=>cases rx;exact SeqAt.EqAt.none_bool b
  | int b=>obtain ⟨t,rfl⟩:=rx;exact SeqAt.EqAt.none_int b t
  | str b=>obtain ⟨t,rfl⟩:=rx;exact SeqAt.EqAt.none_str b t
  | _=>exact absurd (show false=true from fx) AR_
 | bl a =>
  cases ry;cases x with
  | non=>cases rx;exact SeqAt.EqAt.bool_none a
  | bl b=>cases rx;exact E1_ a b
  | int b=>obtain ⟨t,rfl⟩:=rx;exact SeqAt.EqAt.bool_int a b t
  | str b=>obtain ⟨t,rfl⟩:=rx;exact SeqAt.EqAt.bool_str a b t
  | _=>exact absurd (show false=true from fx) AR_
 | int a =>
  obtain ⟨t',rfl⟩:=ry;cases x with
  | non=>cases rx;exact SeqAt.EqAt.int_none a t'
  | bl b=>cases rx;exact SeqAt.EqAt.int_bool a t' b
  | int b=>obtain ⟨t,rfl⟩:=rx;exact SeqAt.EqAt.int_int a t' b t
  | str b=>obtain ⟨t,rfl⟩:=rx;exact SeqAt.EqAt.int_str a t' b t
  | _=>exact absurd (show false=true from fx) AR_
 | str a =>
  obtain ⟨t',rfl⟩:=ry;cases x with
  | non=>cases rx;exact SeqAt.EqAt.str_none a t'
  | bl b=>cases rx;exact SeqAt.EqAt.str_bool a t' b
  | int b=>obtain ⟨t,rfl⟩:=rx;exact SeqAt.EqAt.str_int a t' b t
  | str b=>obtain ⟨t,rfl⟩:=rx;exact DD_ a t' b t
  | _=>exact absurd (show false=true from fx) AR_
 | _=>exact absurd (show false=true from fy) AR_
def eqU (x:V)(u:Value):Bool:=match u with
 | .none=>eqV .non x
 | .bool b=>eqV (.bl b) x
 | .int i _=>eqV (.int i) x
 | .str z _=>eqV (.str z) x
 | _=>false
theorem oe_ {x y:V}{u:Value}(r:F1_ y u)(f:GY_ y=true):eqU x u=eqV y x:=by
 cases y with
 | non=>cases r;rfl
 | bl b=>cases r;rfl
 | int i=>obtain ⟨t,rfl⟩:=r;rfl
 | str z=>obtain ⟨t,rfl⟩:=r;rfl
 | _=>exact absurd (show false=true from f) AR_
theorem hg_ {x:V}:∀ {xs:List V}{us:List Value},FT_ xs us->xs.all GY_=true->us.any (eqU x)=xs.any fun y=>eqV y x
 | _,_,.nil,_=>rfl
 | y::xs,u::us,.cons r t,f=>by rw [E8_,CI_] at f;rw [Cp_,Cp_,oe_ r f.1,hg_ t f.2]
theorem ft_ {A:Around}{s:Shared}{x:V}{v:Value}(rx:F1_ x v)(fx:GY_ x=true):∀ {xs:List V}{us:List Value},FT_ xs us->xs.all GY_=true->∀ u∈us,SeqAt.EqAt A s u v (eqU x u)
 | _,_,.nil,_=>fun u hu=>by cases hu
 | y::xs,u::us,.cons r t,f=>fun u' hu=>by
  rw [E8_,CI_] at f
  rcases Ax_.mp hu with rfl|hu
  ·rw [oe_ r f.1];exact pE_ r rx f.1 fx
  ·exact ft_ rx fx t f.2 u' hu
def inV (x:V)(xs:List V):Bool:=xs.any fun y=>eqV y x
def rIn (K:PySem.W.Frag)(neg:Bool):R2:=fun x y H Q=>∃ p xs,y=.ref p/\(SqL K H p xs\/SqT K H p xs)/\GY_ x=true/\xs.all GY_=true/\Q (.bl (if neg then !inV x xs else inV x xs)) H
theorem mh_:OpR X (compareOp .In) (rIn X.K false):=by
 intro pins s σ H x y v u Q I rx ry h;obtain ⟨p,xs,rfl,hq,fx,fs,q⟩:=h;cases ry
 rcases hq with hq|hq
 ·obtain ⟨its,r,pl,hz⟩:=I.list hq;refine SeqAt.in_listAt (eqU x) pl.isList (fun w hw=>ft_ rx fx r fs w (by simpa using hw)) ⟨.bl _,H,I,rfl,?_⟩;rw [show its.toArray.any (eqU x)=its.any (eqU x) by simp,hg_ r fs];exact q
 ·obtain ⟨its,r,pl,hz⟩:=I.tuple hq;refine SeqAt.in_tupleAt (eqU x) pl (fun w hw=>ft_ rx fx r fs w (by simpa using hw)) ⟨.bl _,H,I,rfl,?_⟩;rw [show its.toArray.any (eqU x)=its.any (eqU x) by simp,hg_ r fs];exact q
theorem jf_:OpR X (compareOp .NotIn) (rIn X.K true):=by
 intro pins s σ H x y v u Q I rx ry h;obtain ⟨p,xs,rfl,hq,fx,fs,q⟩:=h;cases ry
 rcases hq with hq|hq
 ·obtain ⟨its,r,pl,hz⟩:=I.list hq;refine SeqAt.notIn_listAt (eqU x) pl.isList (fun w hw=>ft_ rx fx r fs w (by simpa using hw)) ⟨.bl _,H,I,rfl,?_⟩;rw [show its.toArray.any (eqU x)=its.any (eqU x) by simp,hg_ r fs];exact q
 ·obtain ⟨its,r,pl,hz⟩:=I.tuple hq;refine SeqAt.notIn_tupleAt (eqU x) pl (fun w hw=>ft_ rx fx r fs w (by simpa using hw)) ⟨.bl _,H,I,rfl,?_⟩;rw [show its.toArray.any (eqU x)=its.any (eqU x) by simp,hg_ r fs];exact q
theorem gl_:GE_ X (.builtin "len") (fun xs H Q=>∃ p ys,xs=[.ref p]/\(SqL X.K H p ys\/SqT X.K H p ys)/\Q (.int ys.length) H):=by
 intro pins s σ H xs us Q I r h;obtain ⟨p,ys,rfl,hq,q⟩:=h;obtain ⟨u,rfl,rx⟩:=GF_ r;cases rx;have hn:=HD_
 rcases hq with hq|hq
 ·obtain ⟨its,r',pl,hz⟩:=I.list hq;have hlen:=r'.length;exact Calls.call_len_list pl.isList (by simp only [As_] <;> lia) ⟨.int ys.length,H,I.tok _,⟨s.toks+1,by rw [As_,hlen]⟩,q⟩
 ·obtain ⟨its,r',pl,hz⟩:=I.tuple hq;have hlen:=r'.length;exact len_tuple pl (by simp only [As_] <;> lia) ⟨.int ys.length,H,I.tok _,⟨s.toks+1,by rw [As_,hlen]⟩,q⟩
theorem jg_:GE_ X (.type "list") (fun xs H Q=>∃ p ys,xs=[.ref p]/\(SqL X.K H p ys\/SqT X.K H p ys)/\∀ l,H l=none->Q (.ref l) (upd H l (.lst ys))):=by
 intro pins s σ H xs us Q I r h;obtain ⟨p,ys,rfl,hq,q⟩:=h;obtain ⟨u,rfl,rx⟩:=GF_ r;cases rx
 have fin:∀ (its:List Value),FT_ ys its->ys.length<=sizeLine->∀ (h':Heap)(c':Nat),(∀ b o',s.heap.get? b=some o'->h'.get? b=some o') ->
   h'.get? s.heap.objs.size=some { cls:=.type "list",dict:=none,data:=.seq its.toArray c',slots:=#[] }->EP X pins σ Q (.ref s.heap.objs.size) { s with heap:=h' }:=fun its r' hz h' c' kp e =>
  ⟨.ref s.heap.objs.size,_,I.laid (t':=s.toks) kp (Aj_ _) (show F2_ X.prog X.w _ h' _ (.lst ys) from ⟨hz,its,c',r',e⟩),rfl,q _ (I.hok.fresh (Aj_ _))⟩
 rcases hq with hq|hq
 ·obtain ⟨its,r',pl,hz⟩:=I.list hq;have hlen:=r'.length;obtain ⟨o,ho,hc,n,hd⟩:=pl.isList;exact call_list_seq p (.inl rfl) ho hc hd (fun h' c' kp e=>fin its r' hz h' c' kp e) (by simp only [As_] <;> lia)
 ·obtain ⟨its,r',pl,hz⟩:=I.tuple hq;have hlen:=r'.length;obtain ⟨o,ho,hc,n,hd⟩:=pl;exact call_list_seq p (.inr rfl) ho hc hd (fun h' c' kp e=>fin its r' hz h' c' kp e) (by simp only [As_] <;> lia)
def tyV (K:PySem.W.Frag)(T:String)(x:V)(H:Hp):Prop:=match x with
 | .str _=>T = "str"
 | .int _=>T = "int"
 | .ref p=>(T = "list" /\ ∃ xs,SqL K H p xs)\/(T = "tuple" /\ ∃ o,K.lookup p=some o/\o.cls=.type "tuple" /\ o.dict=none) \/
   (T = "dict" /\ ((∃ kvs,H p=some (.dK kvs))\/∃ kvs,H p=some (.dT kvs)))\/(T = "set" /\ ∃ S n,H p=some (.set S n))
 | _=>False
theorem pF_ {pins:List (Addr×Obj)}{σ:St}{H:Hp}{s:Shared}{T:String}{x:V}{v:Value}(I:Inv X pins σ H s)(r:F1_ x v)(ty:tyV X.K T x H) :
  s.TypeIs v T/\∀ a,v=.ref a->∃ ob,s.heap.get? a=some ob/\ob.dict=none:=by
 cases x with
 | str z =>
  obtain ⟨t,rfl⟩:=r;cases (show T = "str" from ty);exact ⟨DT_ s z t,fun _ e=>nomatch e⟩
 | int i =>
  obtain ⟨t,rfl⟩:=r;cases (show T = "int" from ty);exact ⟨typeIs_int s i t,fun _ e=>nomatch e⟩
 | ref p =>
  cases r
  rcases ty with ⟨rfl,xs,hq⟩|⟨rfl,o,hk,hc,hd⟩|⟨rfl,hk⟩|⟨rfl,S,n,hk⟩
  ·obtain ⟨its,_,pl,_⟩:=I.list hq;refine ⟨pl.isList.typeIs,fun a e=>?_⟩;cases e;obtain ⟨o,n,e,c,hd,_⟩:=pl;exact ⟨o,e,hd⟩
  ·refine ⟨⟨o,I.kIn p o hk,hc⟩,fun a e=>?_⟩;cases e;exact ⟨o,I.kIn _ o hk,hd⟩
  ·have z:∃ o,s.heap.get? p=some o/\o.ExactDict:=by
    rcases hk with ⟨kvs,hk⟩|⟨kvs,hk⟩
    ·obtain ⟨_,_,_,_,o,_,_,e,ex,_⟩:=I.hok p _ hk;exact ⟨o,e,ex⟩
    ·obtain ⟨_,_,_,_,o,_,_,e,ex,_⟩:=I.hok p _ hk;exact ⟨o,e,ex⟩
   obtain ⟨o,e,ex⟩:=z;refine ⟨⟨o,e,ex.1⟩,fun a e2=>?_⟩;cases e2;exact ⟨o,e,ex.2.1⟩
  ·obtain ⟨o,_,_,_,e,ex,_⟩:=I.hok p _ hk;refine ⟨⟨o,e,ex.1⟩,fun a e2=>?_⟩;cases e2;exact ⟨o,e,ex.2.1⟩
 | _=>exact False.elim ty
def tBM (K:PySem.W.Frag)(T:String)(r:V->List V->Hp->VK->Prop)(to:TE)(t:TA):TE:=fun σ H Q=>to σ H fun x H1=>tyV K T x H1/\t σ H1 fun xs H2=>r x xs H2 Q
variable {o e:Expr}{es:List Expr}{to:TE}{t:TA}{name:Str}{apos cpos:Pos}{T id:String}{r:V->List V->Hp->VK->Prop}
theorem Gi_ (pa:PlainAttrs T)(slot:Slot T name id)(hty:typeOf (.builtin id)=pure (.type "method_descriptor")) (hm:MtR X id r) (ho:PE X o to) (ha:PA X (e::es) t)
  (hbase:attributeBase o name X.env (eval o X.env)=eval o X.env:=by rfl)
  (hfew:((backTo cpos (starEach (e::es) X.env)).all (fun x=>!x.1) && (backToKw cpos (keywordEach [] X.env)).all (fun x=>x.1.isSome)
   && decide ((e::es).length+([]:List Keyword).length+(if ([]:List Keyword).isEmpty then 0 else 1)<30))=true:=by rfl)
  (hline:(apos.endLine == cpos.line)=true:=by rfl) (hs:starEach (e::es) X.env=(false,eval e X.env)::starEach es X.env:=by rfl) (hplain:(backTo cpos (starEach es X.env)).any (·.1)=false:=by rfl) :
  PE X (.Call (.Attribute o name apos) (e::es) [] cpos) (tBM X.K T r to t):=by
 intro pins s σ H Q I h;refine wpAny_Call_method_late hbase hfew hline rfl (thn (ho pins s σ H _ I h) fun v s1 ⟨x,H1,I1,r1,ty,q1⟩=>?_);obtain ⟨h1,h2⟩:=pF_ I1 r1 ty;refine ⟨T,id,pa,slot,hty,h1,h2,?_⟩;have hA:=ha cpos pins s1 σ H1 _ I1 q1;rw [hs] at hA ⊢;refine CZ_ (by show (false || (backTo cpos (starEach es X.env)).any (·.1))=false;rw [hplain] <;> rfl) (Calls.evalArgs_plain ?_);exact thn hA fun us s2 ⟨vs,H2,I2,r2,q2⟩=>hm pins s2 σ H2 x vs v us Q I2 r1 r2 q2
end
end L2
namespace L2
open PySem PySem.Spec PyProof.Rows
def MtM (X:Cx)(id:String)(r:V->List V->Hp->VK->Prop):Prop :=
 ∀ (pins:List (Addr×Obj))(s:Shared)(σ:St)(H:Hp)(x:V)(xs:List V)(v:Value)(us:List Value)(Q:VK),Inv X pins σ H s->F1_ x v->FT_ xs us->r x xs H Q ->
  wpAny (model X.prog X.w) X.A (call (.builtin id) (v::us)) (EP X pins σ Q) X.xe s
theorem FT_.one:∀ {x:V}{us:List Value},FT_ [x] us->∃ u,us=[u]/\F1_ x u
 | _,_,.cons r .nil=>⟨_,rfl,r⟩
theorem FT_.two:∀ {x y:V}{us:List Value},FT_ [x,y] us->∃ u v,us=[u,v]/\F1_ x u/\F1_ y v
 | _,_,_,.cons r (.cons q .nil)=>⟨_,_,rfl,r,q⟩
theorem FT_.zero:∀ {us:List Value},FT_ [] us->us=[]
 | _,.nil=>rfl
theorem FT_.dropLast {xs:List V}{us:List Value}(h:FT_ xs us):FT_ xs.dropLast us.dropLast:=by
 induction h with
 | nil=>exact .nil
 | cons r t ih =>
  cases t with
  | nil=>exact .nil
  | cons q t'=>exact .cons r ih
theorem FT_.eraseIdx:∀ {xs:List V}{us:List Value}(i:Nat),FT_ xs us->FT_ (xs.eraseIdx i) (us.eraseIdx i)
 | _,_,_,.nil=>.nil
 | _,_,0,.cons _ t=>t
 | _,_,i+1,.cons r t=>.cons r (FT_.eraseIdx i t)
theorem FT_.reverse {xs:List V}{us:List Value}(h:FT_ xs us):FT_ xs.reverse us.reverse:=by
 induction h with
 | nil=>exact .nil
 | cons r t ih=>rw [DO_,DO_];exact FT_.append ih (.cons r .nil)
theorem FT_.rep {xs:List V}{us:List Value}(h:FT_ xs us):∀ k:Nat,FT_ (List.replicate k xs).flatten (List.replicate k us).flatten
 | 0=>.nil
 | k+1=>by rw [Do_,Do_,AP_,AP_];exact FT_.append h (FT_.rep h k)
theorem jh_ {α:Type}:∀ (l:List α)(i:Nat),(l.eraseIdx i).length<=l.length
 | [],_=>Aj_ _
 | _::_,0=>C0_ _
 | _::r,i+1=>BN_ (jh_ r i)
section
variable {X:Cx}{pins:List (Addr×Obj)}{σ:St}{H:Hp}{s:Shared}{l b:Addr}{xs ys zs:List V}
theorem Inv.lset {its its':List Value}{n:Nat}{f:Array Value->Array Value}{t':Nat}(I:Inv X pins σ H s)(hH:H l=some (.lst xs))
  (e:s.heap.get? l=some { cls:=.type "list",data:=.seq its.toArray n }) (hf:f its.toArray=its'.toArray) (hv:FT_ ys its') (hz:ys.length<=sizeLine) :
  Inv X pins σ (upd H l (.lst ys)) { s with heap:=s.heap.update l (Obj.mapSeq f),toks:=t' }:=by
 have q:=PySem.IsL.update e f;rw [hf] at q;refine I.write (x:=l) (e:=l) (by rw [hH];exact trivial) (.inl rfl) (fun b' u hb hu=>(A0_ s.heap (Obj.mapSeq f) (Ne.symm hb)).trans hu) ⟨_,q⟩ ?_;exact ⟨hz,its',_,hv,q⟩
theorem Inv.lnew {its:List Value}{t':Nat}(I:Inv X pins σ H s)(hv:FT_ ys its)(hz:ys.length<=sizeLine) :
  Inv X pins σ (upd H s.heap.objs.size (.lst ys)) { s with heap:=s.heap.push { cls:=.type "list",data:=.seq its.toArray },toks:=t' } :=
 I.laid (fun _ _ q=>Ah_ _ q) (Aj_ _) ⟨hz,its,0,hv,Av_ _ rfl⟩
theorem Inv.fresh (I:Inv X pins σ H s):H s.heap.objs.size=none:=I.hok.fresh (Aj_ _)
theorem Inv.lstM (I:Inv X pins σ H s)(hH:H l=some (.lst xs)):xs.length<=sizeLine/\∃ (its:List Value)(n:Nat),FT_ xs its/\xs.length=its.length/\s.heap.get? l=some { cls:=.type "list",data:=.seq its.toArray n }:=by obtain ⟨z,its,n,r,e⟩:=I.hok l _ hH;exact ⟨z,its,n,r,r.length,e⟩
theorem Hg_ {n:Nat}(h:n<=sizeLine):Builtin.List.listTooLong n=false:=by unfold Builtin.List.listTooLong;exact AN_ (by lia)
end
section
variable {X:Cx}
def HY_:V->List V->Hp->VK->Prop:=fun x vs H Q=>∃ l xs y,x=.ref l/\vs=[y]/\H l=some (.lst xs)/\xs.length<sizeLine/\Q .non (upd H l (.lst (xs++[y])))
theorem az_:MtM X "list.append" HY_:=by intro pins s σ H x vs v us Q I rx rv h;obtain ⟨l,xs,y,rfl,rfl,hH,hz,q⟩:=h;cases rx;obtain ⟨u,rfl,ru⟩:=rv.one;obtain ⟨z,its,n,r,hl,e⟩:=I.lstM hH;refine CT_ F.slot_list_append ⟨_,e,rfl⟩ F.entry_list_append (F.args_list_append_2 _ _) (PySem.list_append l its.toArray n u (by rw [As_];lia)) ⟨e,?_⟩;refine ⟨.non,_,I.lset (its':=its++[u]) hH e (by simp) (r.append (.cons ru .nil)) ?_,rfl,q⟩;rw [Af_,AQ_];lia
def HT_:V->List V->Hp->VK->Prop:=fun x vs H Q=>∃ l b xs zs,x=.ref l/\vs=[.ref b]/\H l=some (.lst xs)/\H b=some (.lst zs)/\xs.length+zs.length<=sizeLine/\Q .non (upd H l (.lst (xs++zs)))
theorem mi_:MtM X "list.extend" HT_:=by
 intro pins s σ H x vs v us Q I rx rv h;obtain ⟨l,b,xs,zs,rfl,rfl,hH,hB,hz,q⟩:=h;cases rx;obtain ⟨u,rfl,ru⟩:=rv.one;cases ru;obtain ⟨z,its,n,r,hl,e⟩:=I.lstM hH;obtain ⟨z2,its2,n2,r2,hl2,e2⟩:=I.lstM hB;have hsz:its.toArray.size+its2.toArray.size<=sizeLine:=by rw [As_,As_];lia
 have hlong:¬ (!its.toArray.isEmpty && Builtin.List.listTooLong (its.toArray.size+its2.toArray.size))=true:=by rw [Hg_ hsz,Bool.and_false];exact AR_
 refine CT_ F.slot_list_extend ⟨_,e,rfl⟩ F.entry_list_extend (F.args_list_extend_2 _ _)
  (AutoSeq1.list_extend_list_list_0 l its.toArray n b its2.toArray n2 hlong (by rw [As_];lia) (by lia)) ⟨e,e2,?_⟩
 refine ⟨.non,_,I.lset (its':=its++its2) hH e (by simp) (r.append r2) ?_,rfl,q⟩;rw [Af_];lia
def IQ_:V->List V->Hp->VK->Prop:=fun x vs H Q=>∃ l xs i k y,x=.ref l/\vs=[.int i]/\H l=some (.lst xs) /\ -(2 ^ 63)<=i/\i<2 ^ 63/\seqIndex? i xs.length=some k/\xs[k]?=some y/\Q y (upd H l (.lst (xs.eraseIdx k)))
theorem nu_:MtM X "list.pop" IQ_:=by
 intro pins s σ H x vs v us Q I rx rv h;obtain ⟨l,xs,i,k,y,rfl,rfl,hH,h1,h2,hk,hy,q⟩:=h;cases rx;obtain ⟨u,rfl,ru⟩:=rv.one;obtain ⟨t,rfl⟩:=ru;obtain ⟨z,its,n,r,hl,e⟩:=I.lstM hH;obtain ⟨w,hw,rw'⟩:=r.get hy
 refine CT_ F.slot_list_pop ⟨_,e,rfl⟩ F.entry_list_pop (F.args_list_pop_2 _ _)
  (MeetsSeq.list_pop_at l its.toArray n i t k w (fitsIndex_both h1 h2) (by rw [As_,<-hl];exact hk) (by rw [<-EO_];exact hw) (by rw [As_];lia)) ⟨e,?_⟩
 refine ⟨y,_,I.lset (its':=its.eraseIdx k) hH e ?_ (r.eraseIdx k) ?_,rw',q⟩
 ·show its.toArray.eraseIdxIfInBounds k=(its.eraseIdx k).toArray;rw [List.eraseIdxIfInBounds_toArray]
 ·have:=jh_ xs k;lia
def Ld_:R2:=fun x y H Q=>∃ l b xs zs,x=.ref l/\y=.ref b/\H l=some (.lst xs)/\H b=some (.lst zs)/\xs.length+zs.length<=sizeLine/\∀ p,H p=none->Q (.ref p) (upd H p (.lst (xs++zs)))
theorem fu_:OpR X (binaryOp .Add) Ld_:=by
 intro pins s σ H x y v u Q I rx ry h;obtain ⟨l,b,xs,zs,rfl,rfl,hH,hB,hz,q⟩:=h;cases rx;cases ry;obtain ⟨z,its,n,r,hl,e⟩:=I.lstM hH;obtain ⟨z2,its2,n2,r2,hl2,e2⟩:=I.lstM hB;refine PySem.P.add_list e e2 ?_ (by rw [As_,As_];lia);have ea:its.toArray++its2.toArray=(its++its2).toArray:=by simp
 rw [ea];exact ⟨.ref _,_,I.lnew (t':=s.toks) (r.append r2) (by rw [Af_];lia),rfl,q _ I.fresh⟩
end
section
variable {prog:Program}{w:World}{A:Around}{E:Value->Shared->Prop}{s:Shared}
theorem lt_ {a c n:Nat}(hac:a<=c)(hc:c<=n):sliceBounds (some (a:Int)) (some (c:Int)) none n=((a:Int),(c:Int),1):=by
 simp only [sliceBounds,D6_];have h1:¬ ((a:Int)<0):=by lia
 have h2:¬ ((c:Int)<0):=by lia
 simp only [h1,h2,BS_,show (1:Int) > 0 by decide,if_true];congr 1
 ·lia
 ·congr 1;lia
set_option maxRecDepth 100000 in
theorem nv_ {l b sl:Addr}{items new:Array Value}{n n2:Nat}{vl vu:Value}{a c:Nat}{Q:Unit->Shared->Prop}
    (e:s.heap.get? l=some { cls:=.type "list",data:=.seq items n }) (e2:s.heap.get? b=some { cls:=.type "list",data:=.seq new n2 }) (hne:l≠b)
    (hs:s.heap.IsSliceOf sl vl vu .none) (pl:IsPart vl (some (a:Int))) (pu:IsPart vu (some (c:Int))) (hac:a<=c) (hc:c<=items.size)
    (hsz:items.size+new.size<=sizeLine) (h:Q () { s with heap:=s.heap.update l (Obj.mapSeq fun xs=>xs.extract 0 a++new++xs.extract c xs.size) }) :
    wpAny (model prog w) A (setItem (.ref l) (.ref sl) (.ref b)) Q E s:=by
  have hl:s.heap.IsList l items:=PySem.IsL.isList e;have hb:s.heap.IsList b new:=PySem.IsL.isList e2;obtain ⟨os,hos,hcs,hds⟩:=id hs;have hTs:s.TypeIs (.ref sl) "slice" := ⟨os,hos,hcs⟩;have hstep:¬ ((rawPart none == rawInt 0)=true):=AR_;have hsame:Builtin.List.listSameRef (.ref l) (.ref b)=false:=by unfold Builtin.List.listSameRef;exact B0_.mpr hne
  have hmax:(max (a:Int) (c:Int)).toNat=c:=by lia
  have hz':((fun xs:Array Value=>xs.extract 0 a++new++xs.extract c xs.size) items).size<=sizeLine+1:=by simp only [DQ_,Array.size_extract];lia
  unfold setItem
  try with_reducible refine A6_ ?_
  first|refine Ac_ (Ai_ ?_)|skip
  refine Ac_ (wpAny_sequenceKey hl.typeIs (by decide) ?_)
  refine Ac_ (CU_ (name:=Str.ofString "__setitem__") hl.typeIs slot_list_setitem
    (B3_ slot_list_setitem hl.typeIs entry_list_setitem ?_ (args_list_setitem _ _ _)))
  show wpAny _ _ (Builtin.List.listSubscript? (.ref sl) >>= _) _ _ s;refine Ac_ ?_;unfold Builtin.List.listSubscript?;refine Ac_ (Cu_ hTs slice_no_index ?_);simp only [DE_,if_true];refine Ai_ ?_;show wpAny _ _ (typeOf (.ref sl) >>= _) _ _ s;refine Ac_ (CD_ hTs ?_)
  first
    | rw [if_neg (by decide)]
    | refine DF_ (by decide) ?_
  rw [listSliceParts_eq];refine Ac_ (Ac_ (Cx_ hos hds (x:=.none) rfl (Ac_ (EP_ .none ?_))));rw [if_neg hstep];refine Ac_ (Cx_ hos hds (x:=vl) rfl (Ac_ (EP_ pl ?_)));refine Ac_ (Cx_ hos hds (x:=vu) rfl (Ac_ (EP_ pu (Ai_ ?_))))
  first
    | simp only [hsame,Bs_,BS_]
    | refine DF_ hsame ?_
    | (dsimp only
       rw [if_neg (by rw [hsame];exact AR_)])
  refine Ac_ (m:=Builtin.List.listAllItems (.ref b) "must assign iterable to extended slice") ?_;unfold Builtin.List.listAllItems;refine Ac_ (CD_ hb.typeIs ?_)
  first
    | refine PySem.W.KFB.if_so (by decide) ?_
    | rw [if_pos (by decide)]
    | simp only [C5_,Bool.true_or,if_true]
  unfold Builtin.List.listItems;refine Ac_ (BQ_ e2 rfl (Ai_ ?_));refine Ac_ (Ac_ (BQ_ e rfl (Ai_ ?_)));refine Ac_ (Fr_ ((sliceIndices_raw (some (a:Int)) (some (c:Int)) none items.size (by simp)).trans (congrArg (pure:Int×Int×Int->Sem (Int×Int×Int)) (lt_ hac hc))) ?_);show wpAny _ _ (if ((1:Int) == 1)=true then _ else _) _ _ s;rw [if_pos (by decide)];refine Ac_ (CH_ ?_)
  first
    | simp only [Hg_ hsz,Bs_,BS_]
    | refine DF_ (Hg_ hsz) ?_
  first|refine Ac_ (Ai_ ?_)|skip
  show wpAny _ _ (updateSeq l (fun xs=>xs.extract 0 ((a:Int)).toNat++new++xs.extract (max (a:Int) (c:Int)).toNat xs.size) >>= _) _ _ s;rw [hmax,AE_];refine Ac_ (Df_ (hz:=AM_ (Bh_ _ _) hsz) (_hz':=hz') e rfl ?_);refine Ac_ (CO_ ?_)
  first
    | exact Ac_ (Ai_ (Ai_ ⟨.none,rfl,Ai_ h⟩))
    | exact Ai_ ⟨.none,rfl,Ai_ h⟩
end
section
variable {X:Cx}
end
end L2
namespace Att
open PySem PySem.W PySem.Calls PyProof.Rows
theorem hh_ {P:Params}{h:Heap}:∀ (ns:List Int)(vs:List Value),WellAll P h vs (ns.map WData.int)->IntsAre vs ns:=by
 intro ns
 induction ns with
 | nil =>
  intro vs w;rw [CR_] at w;cases w;exact .nil
 | cons n ns ih =>
  intro vs w;rw [AG_] at w;cases w with
  | cons a b =>
   cases a;exact .cons _ _ (ih _ b)
theorem mj_ {l:OpenLaw}{n:Nat}(hn:l.most=some n){P:Params}{h:Heap}{args:List WData}{vals:List Value}
  (hpre:l.row.toRowW.claim.pre args=true) (hwl:WellAll P h vals args) :
  ∃ a vs ns,vals=[Value.ref a]/\args=[WData.list (ns.map WData.int)]/\h.get? a=some { cls:=.type "list",data:=.seq vs.toArray }/\IntsAre vs ns/\ns.length<=n:=by
 have hsh:WShape.hasAll [] args [.list .int]=true:=(pre_splitW hpre).1;have hc:l.pre.holds [] { args:=args }=true:=(pre_splitW hpre).2;obtain ⟨d,r,rfl,h1,h2⟩:=hasAllW_cons hsh;obtain rfl:=hasAllW_nil h2;obtain ⟨xs,rfl,h3⟩:=hasW_list h1;obtain ⟨ns,rfl⟩:=items_int h3
 have hlen:ns.length<=n:=by
  unfold OpenLaw.pre at hc;have h4:(WTm.not (.lt (.lit (.int (n:Int))) (.len (.arg 0)))).holds [] { args:=[.list (ns.map .int)] }=true:=by have h4:=(holds_andW hc).1;rw [hn] at h4;exact h4
  have h5:=condW_of h4 (w_not (w_lt w_lit (w_len_list (w_arg rfl))));rw [Ab_] at h5;refine Nat.le_of_not_lt fun q=>?_;have q':(n:Int)<((ns.length:Nat):Int):=by lia
  first
   | (rw [A5_ q'] at h5;exact absurd h5 (by decide))
   | (simp at h5;lia)
 cases hwl with
 | cons w1 w2 =>
  cases w2;cases w1 with
  | list ho hall=>exact ⟨_,_,ns,rfl,rfl,ho,hh_ ns _ hall,hlen⟩
theorem mk_ (l:OpenLaw)(args:List WData):l.row.toRowW.claim.post args (.bool true) args=true :=
 postW_of (r:=l.row.toRowW) (X:=(true == true))
  (show WShape.has [] (.bool true) .bool=true by first|rfl|decide|simp [WShape.has,WShape.arms,WShape.armsAll])
  (show (WTm.eq .res (.lit (.bool true))).value [] { args:=args,res:=some (.bool true),after:=args }=some (.bool (true == true)) from w_eq_bool (w_res rfl) w_lit) rfl
theorem attach_call {l:OpenLaw}{n:Nat}{q:Program}{loose:List Str}{XP:(Str->Option Value)->Heap->Prop}{YP:World->Heap->Prop}{d:DefRec}
  (hn:l.most=some n) (hdf:d.params.defaults=[])
  (call:∀ (w:World)(s₀ s₁:Shared)(mg mb:Str->Option Value)(fa:Addr)(o:Obj)(pm cd doc:Value)(a:Addr)(vs:List Value)(ns:List Int),
   Ground q loose [] XP w s₀ mg mb s₁.heap->YP w s₁.heap ->
   s₁.heap.get? fa=some o->o.data=.func (docDef d.name d.params d.body d.scope pm cd doc)->s₁.heap.CodeRec cd d.name->mg d.name=some (.ref fa) ->
   s₁.heap.get? a=some { cls:=.type "list",data:=.seq vs.toArray }->IntsAre vs ns->ns.length<=n->s₁.gens = #[] ->
   codeAny (model l.prog w) callerA (.call (.ref fa) ⟨[.ref a],[]⟩) (fun r s'=>r=.ok (.ret (.bool true))/\OldK s₁.heap s'.heap/\s'.os=s₁.os/\AllBare s'.gens) s₁) :
  WalkO q loose XP YP l.row.toRowW d [] (fun f vs=>PySem.call f vs):=by
 intro w s₀ s₁ mg mb G Y fa o pm cd doc dV kV ho hd hcd hD hmg hg args vals as hpre hlay hrd hwl hlo;obtain rfl:dV=.none:=Dflts.none hD hdf;obtain rfl:kV=.none:=Dflts.noKw hD;obtain ⟨a,vs,ns,rfl,rfl,hobj,hints,hlen⟩:=mj_ hn hpre hwl;refine enter_call (D4_ (call w s₀ s₁ mg mb fa o pm cd doc a vs ns G Y ho (fd_plain hd) hcd hmg hobj hints hlen hg) fun r s' hq=>?_);obtain ⟨rfl,h2,h3,h4⟩:=hq;exact ⟨.inl ⟨.bool true,.bool true,[],rfl,fun _=>rfl,.bool true,mk_ l _,fun _=>⟨List.Pairwise.nil,fun _ hm=>(nomatch hm)⟩⟩,h2,h3,h4⟩
section
variable {prog:Program}{w:World}{A:Around}{E:Value->Shared->Prop}{s:Shared}{K:Frag}
end
end Att
namespace L2
open PySem PySem.Spec PyProof.Rows
theorem ji_:∀ {vs:List Value}{ns:List Int},IntsAre vs ns->FT_ (ns.map V.int) vs
 | _,_,.nil=>.nil
 | _,_,.cons n t h=>.cons ⟨t,rfl⟩ (ji_ h)
end L2
namespace L2
open PySem PySem.Spec PyProof.Rows
end L2
namespace L2
open PySem PySem.Spec PyProof.Rows
def GD_ (s:Stmt):Arguments:=match s with
 | .FunctionDef _ a _ _ _ _ _ _ _ _=>a
 | _=>{ posonlyargs:=[],args:=[],vararg:=none,kwonlyargs:=[],kw_defaults:=[],kwarg:=none,defaults:=[] }
def Gr_ (s:Stmt):List Stmt:=match s with
 | .FunctionDef _ _ b _ _ _ _ _ _ _=>b
 | _=>[]
def Fy_ (s:Stmt):Scope:=match s with
 | .FunctionDef _ _ _ _ _ _ sc _ _ _=>sc
 | _=>{ kind:=.function,names:=[],isGenerator:=false,isCoroutine:=false }
abbrev CX0:CXT:=fun _ _ _ _ _ _=>False
abbrev E0:XK:=fun _ _ _=>False
theorem Ln_ {X:Cx}:IT_ CX0 X E0:=fun _ _ _ _ _ _ _ h=>h.elim
structure Fun (K:PySem.W.Frag)(x qual:Str)(st:Stmt)(f:Addr)(fd:FuncData):Prop where
 ex:∃ (oc:Value)(od:Option Addr)(kV doc pm:Value)(an:Option Addr)(cdv ct:Value)(osl:Array (Option Value)),
  fd=PySem.W.fnOf x qual (GD_ st) (Gr_ st) (Fy_ st) .none kV doc pm an cdv ct/\K.lookup f=some ⟨oc,od,.func fd,osl⟩/\PySem.W.codeIn K cdv qual=true
 kp:PySem.W.keepIn K (.ref f)=true
section
variable {P:Program}{w:World}{K:PySem.W.Frag}{mg:Str->Option Value}{base:Heap}
theorem Fun.ok {x qual:Str}{st:Stmt}{f:Addr}{fd:FuncData}{N ps:List Str}{k:Nat}{sp:Sp}(F:Fun K x qual st f fd)(S:FF_ N ps (Fy_ st))(len:∀ vs H Q E,sp vs H Q E->vs.length=ps.length)
  (hbody:∀ (cdv:Value)(A:Around)(outer:List Env)(s:Shared)(H:Hp)(vs:List V)(Q:VK)(E:XK),GK_ k (A.deeper (envOfC qual (Fy_ st) s.heap.objs.size f cdv))->sp vs H Q E ->
   ∃ t,PSs (Ir_ CX0 P w K mg base N qual (Fy_ st) f cdv A outer s H E).nox (Gr_ st) t/\t { nx:=fun _ H'=>Q .non H',rt:=Q } (start N vs) H):HK_ P w K mg base CX0 (k+1) f fd ps sp:=by
 obtain ⟨oc,od,kV,doc,pm,an,cdv,ct,osl,rfl,lk,hcd⟩:=F.ex;refine KE_ lk hcd S len fun A outer s H vs Q E hr hsp=>?_;obtain ⟨t,h,q⟩:=hbody cdv A outer s H vs Q E hr hsp;exact ⟨t,h.nox,q⟩
theorem Fun.binds {x qual:Str}{st:Stmt}{f:Addr}{fd:FuncData}{ps:List Str}(F:Fun K x qual st f fd)
  (h:∀ (kV doc pm:Value)(an:Option Addr)(cdv ct:Value)(us:List Value),us.length=ps.length->bindArgs (PySem.W.fnOf x qual (GD_ st) (Gr_ st) (Fy_ st) .none kV doc pm an cdv ct) ⟨us,[]⟩=pure (ps.zip us)):Iq_ K fd ps []:=by
 obtain ⟨oc,od,kV,doc,pm,an,cdv,ct,osl,rfl,lk,hcd⟩:=F.ex;exact .all (h kV doc pm an cdv ct)
theorem of_ {x qual:Str}{st:Stmt}{f:Addr}{oc:Value}{od an:Option Addr}{osl:Array (Option Value)}{kV doc pm cdv ct:Value}(l:K.lookup f=some ⟨oc,od,.func (PySem.W.fnOf x qual (GD_ st) (Gr_ st) (Fy_ st) .none kV doc pm an cdv ct),osl⟩)
  (c:PySem.W.codeIn K cdv qual=true) (k:PySem.W.keepIn K (.ref f)=true):Fun K x qual st f (PySem.W.fnOf x qual (GD_ st) (Gr_ st) (Fy_ st) .none kV doc pm an cdv ct):=⟨⟨oc,od,kV,doc,pm,an,cdv,ct,osl,rfl,l,c⟩,k⟩
end
theorem Fw_ {n:Nat}(h:n<=1000):n<sizeLine:=BG_ h (by decide)
section
variable {X:Cx}
theorem pv (i:Nat){x:Str}{pos:Pos}(hN:X.N[i]?=some x:=by rfl) (hv:Vis X.env.scope x:=by first|exact Or.inl rfl|exact Or.inr (Or.inl rfl)|exact Or.inr (Or.inr rfl)) (hd:(x == ("__debug__" : Str))=false:=by decide)
  (hcd:(x == ("__classdict__" : Str))=false:=by decide):PE X (.Name x pos) (Je_ i):=l6_ hN hv hd hcd
end
theorem ite2 {c A B:Prop}[Decidable c](h1:c->A)(h2:¬ c->B):if c then A else B:=by
 by_cases h:c
 ·rw [if_pos h];exact h1 h
 ·rw [if_neg h];exact h2 h
def Fx_ (H H':Hp):Prop:=∀ b o,H b=some o->H' b=some o
theorem Fx_.refl (H:Hp):Fx_ H H:=fun _ _ h=>h
theorem Fx_.trans {H H1 H2:Hp}(a:Fx_ H H1)(b:Fx_ H1 H2):Fx_ H H2:=fun c o h=>b c o (a c o h)
theorem Fx_.free {H H':Hp}(e:Fx_ H H'){l:Addr}(h:H' l=Option.none):H l=Option.none:=by
 cases q:H l with
 | none=>rfl
 | some o =>rw [e l o q] at h;cases h
theorem Fx_.seq {K:PySem.W.Frag}{H H':Hp}{a:Addr}{xs:List V}(e:Fx_ H H')(h:SqL K H a xs):SqL K H' a xs:=by
 rcases h with (h|⟨o,h⟩)|h
 ·exact .inl (.inl (e _ _ h))
 ·exact .inl (.inr ⟨o,e _ _ h⟩)
 ·exact .inr h
end L2
namespace L2
open PySem PySem.Spec PyProof.Rows
def ID_ (H:Hp):V->Option String
 | .non=>some "NoneType"
 | .bl _=>some "bool"
 | .int _=>some "int"
 | .str _=>some "str"
 | .ref p=>match H p with
  | some (.lst _)=>some "list"
  | some (.tup _)=>some "tuple"
  | _=>none
 | _=>none
def LM_ (a b:String):Bool:=a == b || (a == "bool" && b == "int")
def Ig_ (T:String):Prop:=T = "int" \/ T = "bool" \/ T = "tuple" \/ T = "list" \/ T = "str"
section
variable {X:Cx}
theorem gW_:GE_ X (.builtin "isinstance") (fun xs H Q=>∃ x T k,xs=[x,.ty T]/\Ig_ T/\ID_ H x=some k/\Q (.bl (LM_ k T)) H):=by
 intro pins s σ H xs us Q I r h;obtain ⟨x,T,k,rfl,hT,hk,q⟩:=h;obtain ⟨u,w',rfl,rx,ry⟩:=HE_ r;cases (show w'=Value.type T from ry);have fin:∀ {b:Bool}{s':Shared},b=LM_ k T->Inv X pins σ H s'->EP X pins σ Q (.bool b) s':=fun {b s'} e J=>⟨.bl b,H,J,rfl,by rw [e];exact q⟩;cases x with
 | non =>
  cases (show u=Value.none from rx);cases hk
  rcases hT with rfl|rfl|rfl|rfl|rfl
  ·exact IsiPair.NoneType_int (fin (by decide) (I.tok _))
  ·exact IsiPair.NoneType_bool (fin (by decide) (I.tok _))
  ·exact IsiPair.NoneType_tuple (fin (by decide) (I.tok _))
  ·exact IsiPair.NoneType_list (fin (by decide) (I.tok _))
  ·exact IsiPair.NoneType_str (fin (by decide) (I.tok _))
 | bl b =>
  cases (show u=Value.bool b from rx);cases hk
  rcases hT with rfl|rfl|rfl|rfl|rfl
  ·exact IsiPair.bool_int (fin (by decide) I)
  ·exact IsiPair.bool_bool (fin (by decide) I)
  ·exact IsiPair.bool_tuple (fin (by decide) (I.tok _))
  ·exact IsiPair.bool_list (fin (by decide) (I.tok _))
  ·exact IsiPair.bool_str (fin (by decide) (I.tok _))
 | int i =>
  obtain ⟨t,rfl⟩:=(show ∃ t,u=Value.int i t from rx);cases hk
  rcases hT with rfl|rfl|rfl|rfl|rfl
  ·exact IsiPair.int_int (fin (by decide) I)
  ·exact IsiPair.int_bool (fin (by decide) (I.tok _))
  ·exact IsiPair.int_tuple (fin (by decide) (I.tok _))
  ·exact IsiPair.int_list (fin (by decide) (I.tok _))
  ·exact IsiPair.int_str (fin (by decide) (I.tok _))
 | str z =>
  obtain ⟨t,rfl⟩:=(show ∃ t,u=Value.str z t from rx);cases hk
  rcases hT with rfl|rfl|rfl|rfl|rfl
  ·exact IsiPair.str_int (fin (by decide) (I.tok _))
  ·exact IsiPair.str_bool (fin (by decide) (I.tok _))
  ·exact IsiPair.str_tuple (fin (by decide) (I.tok _))
  ·exact IsiPair.str_list (fin (by decide) (I.tok _))
  ·exact IsiPair.str_str (fin (by decide) I)
 | ref p =>
  cases (show u=Value.ref p from rx);cases e:H p with
  | none=>simp [ID_,e] at hk
  | some o =>
   cases o with
   | lst ys =>
    have hk':k = "list" := by simp [ID_,e] at hk;exact hk.symm
    subst hk';obtain ⟨its,n,rr,ho,hz⟩:=I.lst e
    rcases hT with rfl|rfl|rfl|rfl|rfl
    ·exact IsiPair.list_int ho rfl (fin (by decide) (I.tok _))
    ·exact IsiPair.list_bool ho rfl (fin (by decide) (I.tok _))
    ·exact IsiPair.list_tuple ho rfl (fin (by decide) (I.tok _))
    ·exact IsiPair.list_list ho rfl (fin (by decide) I)
    ·exact IsiPair.list_str ho rfl (fin (by decide) (I.tok _))
   | tup ys =>
    have hk':k = "tuple" := by simp [ID_,e] at hk;exact hk.symm
    subst hk';obtain ⟨its,rr,⟨ob,ho,hc,_⟩,hz⟩:=I.tuple (xs:=ys) (.inl (.inl e))
    rcases hT with rfl|rfl|rfl|rfl|rfl
    ·exact IsiPair.tuple_int ho hc (fin (by decide) (I.tok _))
    ·exact IsiPair.tuple_bool ho hc (fin (by decide) (I.tok _))
    ·exact IsiPair.tuple_tuple ho hc (fin (by decide) I)
    ·exact IsiPair.tuple_list ho hc (fin (by decide) (I.tok _))
    ·exact IsiPair.tuple_str ho hc (fin (by decide) (I.tok _))
   | _=>simp [ID_,e] at hk
 | _=>cases hk
def J5_ (i j:Int):Prop:=0<j/\j.natAbs.log2<9000
theorem au_:OpR X (binaryOp .FloorDiv) (rI J5_ fun i j=>.int (i/j)):=opI fun i j _ _ _ _ _ hc q=>by have h1:(0:Int)<j:=hc.1;exact floordiv_int (by lia) (by rw [Int.fdiv_eq_ediv_of_nonneg i (by lia)];exact q) (.inl (PyProof.noPylong_of_log2 hc.2))
end
end L2
namespace L2
open PySem PySem.Spec PyProof.Rows
def Fn0 (K:PySem.W.Frag)(mg:Str->Option Value)(x:Str)(st:Stmt):Prop:=∃ f fd,Fun K x x st f fd/\mg x=some (.ref f)
theorem pG_ {K:PySem.W.Frag}{mg:Str->Option Value}{h:Heap}(X:K.In h)(G:h.Ns mainGlobals mg){x:Str}{st:Stmt}{f:Addr}{oc:Value}{od an:Option Addr}{osl:Array (Option Value)}{kV doc pm cdv ct:Value}
  (a:PySem.W.nsIn K mainGlobals x=some (some (.ref f))) (l:K.lookup f=some ⟨oc,od,.func (PySem.W.fnOf x x (GD_ st) (Gr_ st) (Fy_ st) .none kV doc pm an cdv ct),osl⟩) (c:PySem.W.codeIn K cdv x=true) (k:PySem.W.keepIn K (.ref f)=true):Fn0 K mg x st :=
 ⟨f,_,of_ l c k,PySem.W.mg_of X G a⟩
def Cal (P:Program)(w:World)(K:PySem.W.Frag)(mg:Str->Option Value)(base:Heap)(x:Str)(ps:List Str)(k:Nat)(sp:Sp):Prop :=
 ∃ f fd,mg x=some (.ref f)/\PySem.W.keepIn K (.ref f)=true/\Iq_ K fd ps []/\HK_ P w K mg base CX0 k f fd ps sp
theorem a1_ {P:Program}{w:World}{K:PySem.W.Frag}{mg:Str->Option Value}{base:Heap}{x:Str}{st:Stmt}{N ps:List Str}{k:Nat}{sp:Sp}(F:Fn0 K mg x st)(S:FF_ N ps (Fy_ st))
  (hb:∀ (kV doc pm:Value)(an:Option Addr)(cdv ct:Value)(us:List Value),us.length=ps.length->bindArgs (PySem.W.fnOf x x (GD_ st) (Gr_ st) (Fy_ st) .none kV doc pm an cdv ct) ⟨us,[]⟩=pure (ps.zip us))
  (len:∀ vs H Q E,sp vs H Q E->vs.length=ps.length)
  (hbody:∀ (f:Addr)(cdv:Value)(A:Around)(outer:List Env)(s:Shared)(H:Hp)(vs:List V)(Q:VK)(E:XK),GK_ k (A.deeper (envOfC x (Fy_ st) s.heap.objs.size f cdv))->sp vs H Q E ->
   ∃ t,PSs (Ir_ CX0 P w K mg base N x (Fy_ st) f cdv A outer s H E).nox (Gr_ st) t/\t { nx:=fun _ H'=>Q .non H',rt:=Q } (start N vs) H):Cal P w K mg base x ps (k+1) sp:=by
 obtain ⟨f,fd,F,m⟩:=F;exact ⟨f,fd,m,F.kp,F.binds hb,F.ok S len fun cdv A outer s H vs Q E=>hbody f cdv A outer s H vs Q E⟩
section
variable {X:Cx}{x:Str}{ps:List Str}{k:Nat}{sp:Sp}{e:Expr}{es:List Expr}{t:TA}{p pos:Pos}
theorem nw_ (C:Cal X.prog X.w X.K X.mg X.base x ps k sp)(hr:GK_ k X.A)(hg:Gl X x)(ha:PA X (e::es) t)(hdb:(x == ("__debug__" : Str))=false:=by decide)
  (he:starEach (e::es) X.env=(false,eval e X.env)::starEach es X.env:=by rfl) (hpl:(backTo pos (starEach es X.env)).any (·.1)=false:=by rfl):PE X (.Call (.Name x p) (e::es) [] pos) (IL_ sp [] E0 t):=by
 obtain ⟨f,fd,m,kp,b,F⟩:=C;exact oP_ F hr hg m kp b .nil Ln_ ha hdb he hpl
end
theorem Fx_.upd {H H':Hp}{a:Addr}{o:HO}(e:Fx_ H H')(h:H a=none):Fx_ H (upd H' a o):=fun b o' q=>by rw [af_ (ae_ q h)];exact e b o' q
theorem Fx_.new {H:Hp}{a:Addr}{o:HO}(h:H a=none):Fx_ H (L2.upd H a o):=(Fx_.refl H).upd h
end L2
namespace L2
open PySem PySem.Spec PyProof.Rows
def Iu_:R2:=fun x y H Q=>∃ p xs i v,x=.ref p/\y=.int i/\H p=some (.tup xs)/\atI xs i=some v/\Q v H
def J1_:R2:=fun x y H Q=>∃ p xs i v,x=.ref p/\y=.int i/\H p=some (.lst xs)/\atI xs i=some v/\Q v H
theorem ap_ {X:Cx}:IxR X Iu_:=by intro value slice pins s σ H x y v u Q I rx ry h hs;obtain ⟨p,xs,i,z,e1,e2,hp,ha,q⟩:=h;exact pD_ value slice pins s σ H x y v u Q I rx ry ⟨p,xs,i,z,e1,e2,.inl (.inl hp),ha,q⟩ hs
theorem ar_ {X:Cx}:IxR X J1_:=by intro value slice pins s σ H x y v u Q I rx ry h hs;obtain ⟨p,xs,i,z,e1,e2,hp,ha,q⟩:=h;exact mg_ value slice pins s σ H x y v u Q I rx ry ⟨p,xs,i,z,e1,e2,.inl (.inl hp),ha,q⟩ hs
def J2_:List V->Hp->VK->Prop:=fun xs H Q=>∃ p ys,xs=[V.ref p]/\(H p=some (.lst ys)\/H p=some (.tup ys))/\Q (.int ys.length) H
theorem ao_ {X:Cx}:GE_ X (.builtin "len") J2_:=by intro pins s σ H xs us Q I r h;obtain ⟨p,ys,e,hp,q⟩:=h;exact gl_ pins s σ H xs us Q I r ⟨p,ys,e,hp.imp (fun z=>.inl (.inl z)) (fun z=>.inl (.inl z)),q⟩
theorem kY_ {X:Cx}{x:Str}{n:String}{pos:Pos}(hg:Gl X x)(hm:X.mg x=none)(hv:bootBuiltins x=some (.type n))(hn:x ≠ "__name__" := by decide) (hd:(x == ("__debug__" : Str))=false:=by decide):PE X (.Name x pos) (tC (.ty n)) :=
 oG_ hg hm hv rfl hn hd
theorem Gt_ {α:Type}{x:α}{xs:List α}:atI (x::xs) 0=some x:=by simp [atI,ixN]
theorem Gy_ {α:Type}{x y:α}{xs:List α}:atI (x::y::xs) 1=some y:=by
 have h:(1:Int)<(xs.length:Int)+1+1:=by lia
 simp [atI,ixN,h]
theorem H0_ {α:Type}{x y z:α}{xs:List α}:atI (x::y::z::xs) 2=some z:=by
 have h:(2:Int)<(xs.length:Int)+1+1+1:=by lia
 simp [atI,ixN,h]
theorem fv_ {α:Type}{xs:List α}{i:Int}{v:α}(h0:0<=i)(h:xs[i.toNat]?=some v):atI xs i=some v:=by
 have hl:i.toNat<xs.length:=(Ae_.mp h).1;have hl':i<xs.length:=by lia
 unfold atI ixN;rw [if_pos h0,if_pos hl'];exact h
theorem pH_ (n:Nat):ixN (n+1) 0=some 0:=by
 have:(0:Int)<(n:Int)+1:=by lia
 simp [ixN,this]
theorem kc_ {c:TT}{tb:TS}{D:HU_}{σ:St}{H:Hp}(Pv:St->Hp->Prop)(μ:St->Hp->Nat)(h0:Pv σ H)
  (hs:∀ σ H,Pv σ H->c σ H fun b H1=>if b=true then ∃ N:St->Hp->Prop,(∀ σ' H',N σ' H'->∃ m',m'<μ σ H/\m'=μ σ' H'/\Pv σ' H')/\tb { D with nx:=N,ct:=N,bk:=D.nx } σ H1 else D.nx σ H1):IP_ c tb D σ H :=
 ⟨fun m σ H=>m=μ σ H/\Pv σ H,⟨_,rfl,h0⟩,by rintro m σ H ⟨rfl,p⟩;exact hs σ H p⟩
theorem N_ok {Pv:St->Hp->Prop}{μ:St->Hp->Nat}{k:Nat}:∀ σ' H',(Pv σ' H'/\μ σ' H'<k)->∃ m',m'<k/\m'=μ σ' H'/\Pv σ' H':=fun _ _ ⟨a,b⟩=>⟨_,b,rfl,a⟩
def G6_ (J:It)(g:TG)(tb:TS)(D:HU_)(σ:St)(H:Hp):Prop:=∃ W:Nat->Nat->St->Hp->Prop,(∃ m,W 0 m σ H)/\∀ i m σ H,W i m σ H ->
 (J.stop i H/\D.nx σ H)\/(J.go i H/\∃ N:St->Hp->Prop,(∀ σ' H',N σ' H'->∃ m',m'<m/\W (i+1) m' σ' H')/\∀ x H',J.yld i H x H'->g x σ H' fun σ2 H2=>tb { D with nx:=N,ct:=N,bk:=D.nx } σ2 H2)
theorem oR_ {wi:TI}{g:TG}{tb:TS}{D:HU_}{σ:St}{H:Hp}:LG_ wi g tb D σ H=wi σ H fun J H1=>G6_ J g tb D σ H1:=rfl
theorem ip_ {lo:Int}{n:Nat}{g:TG}{tb:TS}{D:HU_}{σ:St}{H:Hp}(Pv:Nat->St->Hp->Prop)(h0:Pv 0 σ H)
  (hs:∀ i σ H,i<n->Pv i σ H->g (.int (lo+i)) σ H fun σ2 H2=>tb { D with nx:=Pv (i+1),ct:=Pv (i+1),bk:=D.nx } σ2 H2) (hd:∀ σ H,Pv n σ H->D.nx σ H):G6_ (Itr lo n) g tb D σ H:=mc_ Pv h0 hs hd
theorem iq_ {K:PySem.W.Frag}{a:Addr}{xs:List V}{g:TG}{tb:TS}{D:HU_}{σ:St}{H:Hp}(Pv:Nat->St->Hp->Prop)(h0:Pv 0 σ H)(hl:∀ i σ H,i<=xs.length->Pv i σ H->SqL K H a xs)
  (hs:∀ i x σ H,xs[i]?=some x->Pv i σ H->g x σ H fun σ2 H2=>tb { D with nx:=Pv (i+1),ct:=Pv (i+1),bk:=D.nx } σ2 H2) (hd:∀ σ H,Pv xs.length σ H->D.nx σ H):G6_ (Itl K a) g tb D σ H:=nq_ Pv h0 hl hs hd
def Go_:Expr->Bool
 | .Starred .. => false
 | _=>true
theorem an_ {e:Expr}{es:List Expr}{env:Env}(h:Go_ e=true):starEach (e::es) env=(false,eval e env)::starEach es env:=by
 cases e <;> first|rfl|exact absurd (show false=true from h) AR_
def FJ_:List Expr->Bool
 | []=>true
 | e::es=>Go_ e && FJ_ es
theorem cc_ {pos:Pos}{env:Env}:∀ {es:List Expr},FJ_ es=true->(backTo pos (starEach es env)).any (·.1)=false
 | [],_=>rfl
 | e::es,h=>by
  have h':Go_ e=true/\FJ_ es=true:=by simpa [FJ_] using h
  rw [an_ h'.1];show (false || (backTo pos (starEach es env)).any (·.1))=false;rw [cc_ h'.2];rfl
def IC_:Expr->Bool
 | .ListComp .. => true
 | .SetComp .. => true
 | .DictComp .. => true
 | _=>false
theorem hi_ {e:Expr}{t:Option Expr}{n:Nat}{env:Env}(h:IC_ e=false):swapsWith e t n env=pure false:=by
 cases e <;> first|rfl|exact absurd (show true=false from h) Bool.noConfusion
section
variable {X:Cx}{x:Str}{ps:List Str}{k:Nat}{sp:Sp}{e:Expr}{es:List Expr}{te:TE}{t:TA}{p pos:Pos}{id:String}{r:List V->Hp->VK->Prop}
theorem pa_c (ha:PE X e te)(hr:PA X es t)(hs:Go_ e=true:=by rfl):PA X (e::es) (It_ te t):=oO_ ha hr (an_ hs)
theorem al_ (C:Cal X.prog X.w X.K X.mg X.base x ps k sp)(hr:GK_ k X.A)(hg:Gl X x)(ha:PA X (e::es) t)(hs:FJ_ (e::es)=true:=by rfl) (hdb:(x == ("__debug__" : Str))=false:=by decide) :
  PE X (.Call (.Name x p) (e::es) [] pos) (IL_ sp [] E0 t) :=
 have h':Go_ e=true/\FJ_ es=true:=by simpa [FJ_] using hs
 nw_ C hr hg ha hdb (an_ h'.1) (cc_ h'.2)
theorem am_ (hc:GE_ X (.builtin id) r)(hg:Gl X x)(hm:X.mg x=none)(hv:bootBuiltins x=some (.builtin id))(ha:PA X (e::es) t)(hs:FJ_ (e::es)=true:=by rfl) (hn:x ≠ "__name__" := by decide) (hdb:(x == ("__debug__" : Str))=false:=by decide) :
  PE X (.Call (.Name x p) (e::es) [] pos) (tCB r t) :=
 have h':Go_ e=true/\FJ_ es=true:=by simpa [FJ_] using hs
 ns_ hc hg hm hv ha hn hdb (an_ h'.1) (cc_ h'.2)
theorem ah_ {i:Nat}{pos':Pos}(hN:X.N.Nodup)(hi:X.N[i]?=some x)(hx:X.env.scope.names.lookup x=some .local)(he:PE X e te)(hs:IC_ e=false:=by rfl):PS X (.Assign [.Name x pos'] e pos) (Kf_ te (G4_ i)) :=
 ob_ hN hi (.inl hx) he (hi_ hs) (.inr hx)
theorem ag_ {i:Nat}(hN:X.N.Nodup)(hi:X.N[i]?=some x)(hx:X.env.scope.names.lookup x=some .local):PG X (.Name x pos) (G4_ i):=l8_ hN hi (.inl hx) (.inr hx)
theorem aA_ (he:PE X e te)(hs:IC_ e=false:=by rfl):PS X (.Expr e pos) (Jk_ te):=oJ_ he (hi_ hs)
theorem pv1 (i:Nat)(hN:X.N[i]?=some x:=by rfl) (hv:X.env.scope.names.lookup x=some .local:=by rfl) (hd:(x == ("__debug__" : Str))=false:=by decide) (hcd:(x == ("__classdict__" : Str))=false:=by decide):PE X (.Name x pos) (Je_ i):=l6_ hN (.inl hv) hd hcd
end
def tCut (t:TS):TS:=fun D σ H=>∃ M:St->Hp->Prop,t { D with nx:=M } σ H/\∀ σ' H',M σ' H'->D.nx σ' H'
theorem hj_ {X:Cx}{st:Stmt}{t:TS}(h:PS X st t):PS X st (tCut t):=by
 intro pins s σ H D I hq;obtain ⟨M,h1,h2⟩:=hq;refine thn (h pins s σ H _ I h1) fun f s' q=>?_;cases f with
 | next=>obtain ⟨σ',H',I',m⟩:=q;exact ⟨σ',H',I',h2 _ _ m⟩
 | brk=>exact q
 | cont=>exact q
 | ret u=>exact q
theorem aX_:bootBuiltins "len" = some (.builtin "len"):=by rfl'
theorem pI_:bootBuiltins "abs" = some (.builtin "abs"):=by rfl'
theorem og_:bootBuiltins "min" = some (.builtin "min"):=by rfl'
theorem cr_:bootBuiltins "isinstance" = some (.builtin "isinstance"):=by rfl'
theorem fw_:bootBuiltins "sorted" = some (.builtin "sorted"):=by rfl'
theorem ml_:bootBuiltins "int" = some (.type "int"):=by rfl'
theorem nx_:bootBuiltins "tuple" = some (.type "tuple"):=by rfl'
theorem dC_:bootBuiltins "list" = some (.type "list"):=by rfl'
theorem jj_:bootBuiltins "enumerate" = some (.type "enumerate"):=by rfl'
end L2
namespace L2
open PySem PySem.Spec PyProof.Rows
def Hn_ (cells:List (Str×Addr)):List (Str×NameKind)->List (Str×Addr)->List (Str×Addr)
 | [],acc=>acc
 | (n,k)::r,acc=>if k == .free then Hn_ cells r ((n,(cells.lookup n).getD 0)::acc) else Hn_ cells r acc
theorem lu_ {env:Env}:∀ (names:List (Str×NameKind))(acc:List (Str×Addr)),(∀ p∈names,p.2=.free->∃ c,env.cells.lookup p.1=some c) ->
  (forIn (m:=Sem) names acc fun x r=>(match x with|(name,kind)=>if (kind == NameKind.free)=true then do let a <-cellOf env name;pure (ForInStep.yield ((name,a)::r)) else pure (ForInStep.yield r)))=pure (Hn_ env.cells names acc):=by
 intro names
 induction names with
 | nil=>intro acc _;rfl
 | cons p r ih =>
  intro acc h;obtain ⟨n,k⟩:=p;rw [Cf_];by_cases hk:(k == NameKind.free)=true
  ·obtain ⟨c,hc⟩:=h (n,k) At_ (by simpa using hk);have e1:cellOf env n=pure c:=by unfold cellOf;rw [hc]
   simp only [hk,if_true,e1];have:=ih ((n,c)::acc) fun p hp=>h p (Ar_ _ hp);show _=pure (Hn_ env.cells ((n,k)::r) acc);rw [Hn_,if_pos hk,hc];exact this
  ·simp only [hk];have:=ih acc fun p hp=>h p (Ar_ _ hp);show _=pure (Hn_ env.cells ((n,k)::r) acc);rw [Hn_,if_neg hk];exact this
theorem h2_ {scope:Scope}{env:Env}(h:∀ p∈scope.names,p.2=.free->∃ c,env.cells.lookup p.1=some c):closureFor scope env=pure (Hn_ env.cells scope.names []):=by unfold closureFor;exact Eq.trans (congrArg (fun z=>z >>= fun s=>pure s) (lu_ (env:=env) scope.names [] h)) rfl
theorem ir_ {cells:List (Str×Addr)}:∀ (names:List (Str×NameKind))(acc:List (Str×Addr)),(∀ p∈names,p.2=.free->∃ c,cells.lookup p.1=some c)->(∀ q∈acc,cells.lookup q.1=some q.2)->∀ q∈Hn_ cells names acc,cells.lookup q.1=some q.2
 | [],acc,_,h=>h
 | (n,k)::r,acc,h1,h2=>by
  rw [Hn_];by_cases hk:(k == NameKind.free)=true
  ·rw [if_pos hk];refine ir_ r _ (fun p hp=>h1 p (Ar_ _ hp)) fun q hq=>?_
   rcases Ax_.mp hq with rfl|hq
   ·obtain ⟨c,hc⟩:=h1 (n,k) At_ (by simpa using hk);rw [hc];rfl
   ·exact h2 q hq
  ·rw [if_neg hk];exact ir_ r _ (fun p hp=>h1 p (Ar_ _ hp)) h2
theorem is_ {cells:List (Str×Addr)}{x:Str}:∀ (names:List (Str×NameKind))(acc:List (Str×Addr)),((x,NameKind.free)∈names\/∃ c,(x,c)∈acc)->∃ c,(x,c)∈Hn_ cells names acc
 | [],acc,h=>h.elim (fun z=>absurd z (by simp)) id
 | (n,k)::r,acc,h=>by
  rw [Hn_];by_cases hk:(k == NameKind.free)=true
  ·rw [if_pos hk];refine is_ r _ ?_
   rcases h with h|⟨c,hc⟩
   ·rcases Ax_.mp h with e|h
    ·cases e;exact .inr ⟨_,At_⟩
    ·exact .inl h
   ·exact .inr ⟨c,Ar_ _ hc⟩
  ·rw [if_neg hk];refine is_ r _ ?_
   rcases h with h|h
   ·rcases Ax_.mp h with e|h
    ·cases e;exact absurd rfl hk
    ·exact .inl h
   ·exact .inr h
theorem cP_ {x:Str}{c:Addr}:∀ {l:List (Str×Addr)},(x,c)∈l->∃ c',l.lookup x=some c'
 | (n,d)::r,h=>by
  rw [B4_];cases e:x == n with
  | true=>exact ⟨d,rfl⟩
  | false =>
   rcases Ax_.mp h with z|h
   ·cases z;simp at e
   ·exact cP_ h
theorem hk_ {cells:List (Str×Addr)}{q:Str×Addr}:∀ (names:List (Str×NameKind))(acc:List (Str×Addr)),q∈Hn_ cells names acc->(q.1,NameKind.free)∈names\/q∈acc
 | [],acc,h=>.inr h
 | (n,k)::r,acc,h=>by
  rw [Hn_] at h;by_cases hk:(k == NameKind.free)=true
  ·rw [if_pos hk] at h;have hk':k=.free:=by simpa using hk
   rcases hk_ r _ h with h|h
   ·exact .inl (Ar_ _ h)
   ·rcases Ax_.mp h with rfl|h
    ·exact .inl (by rw [hk'];exact At_)
    ·exact .inr h
  ·rw [if_neg hk] at h;exact (hk_ r _ h).imp (Ar_ _) id
theorem c2_ {x:Str}{c:Addr}:∀ (names:List (Str×NameKind))(h:Heap)(acc:List (Str×Addr)),(x,c)∈cellsFrom h.objs.size names acc->(x,c)∈acc\/(h.objs.size<=c/\(pushCells h names).IsCell c none/\(x,NameKind.cell)∈names)
 | [],_,_,h=>.inl h
 | (n,k)::r,hp,acc,h=>by
  unfold cellsFrom at h;unfold pushCells;by_cases hk:(k == NameKind.cell)=true
  ·rw [if_pos hk] at h ⊢;have hk':k=.cell:=by simpa using hk
   have h':(x,c)∈cellsFrom (hp.push { cls:=.type "cell",data:=.cell none }).objs.size r ((n,hp.objs.size)::acc):=by rw [Cl_];exact h
   rcases c2_ r _ _ h' with h|⟨h1,h2,h3⟩
   ·rcases Ax_.mp h with e|h
    ·cases e;exact .inr ⟨Aj_ _,⟨_,Dg_ r _ _ _ (Av_ _ rfl),rfl⟩,by rw [hk'];exact At_⟩
    ·exact .inl h
   ·rw [Cl_] at h1;exact .inr ⟨by lia,h2,Ar_ _ h3⟩
  ·rw [if_neg hk] at h ⊢;exact (c2_ r hp acc h).imp id fun ⟨h1,h2,h3⟩=>⟨h1,h2,Ar_ _ h3⟩
theorem dD_ {x:Str}:∀ (names:List (Str×NameKind))(n:Nat)(acc:List (Str×Addr)),((x,NameKind.cell)∈names\/∃ c,(x,c)∈acc)->∃ c,(x,c)∈cellsFrom n names acc
 | [],_,acc,h=>h.elim (fun z=>absurd z (by simp)) id
 | (y,k)::r,n,acc,h=>by
  unfold cellsFrom;by_cases hk:(k == NameKind.cell)=true
  ·rw [if_pos hk];refine dD_ r _ _ ?_
   rcases h with h|⟨c,hc⟩
   ·rcases Ax_.mp h with e|h
    ·cases e;exact .inr ⟨_,At_⟩
    ·exact .inl h
   ·exact .inr ⟨c,Ar_ _ hc⟩
  ·rw [if_neg hk];refine dD_ r _ _ ?_
   rcases h with h|h
   ·rcases Ax_.mp h with e|h
    ·cases e;exact absurd rfl hk
    ·exact .inl h
   ·exact .inr h
theorem dE_ {lo:Nat}:∀ (names:List (Str×NameKind))(n:Nat)(acc:List (Str×Addr)),(∀ x c,(x,c)∈acc->c<n)->(∀ x y c,lo<=c->(x,c)∈acc->(y,c)∈acc->x=y)->∀ x y c,lo<=c->(x,c)∈cellsFrom n names acc->(y,c)∈cellsFrom n names acc->x=y
 | [],_,_,_,h=>h
 | (z,k)::r,n,acc,h1,h2=>by
  unfold cellsFrom;by_cases hk:(k == NameKind.cell)=true
  ·rw [if_pos hk];refine dE_ r _ _ (fun x c hm=>?_) fun x y c hc hx hy=>?_
   ·rcases Ax_.mp hm with e|hm
    ·cases e;exact C4_ _
    ·exact Bd_ (h1 x c hm)
   ·rcases Ax_.mp hx with e|hx <;> rcases Ax_.mp hy with e'|hy
    ·cases e;cases e';rfl
    ·cases e;exact absurd (h1 _ _ hy) (Bb_ _)
    ·cases e';exact absurd (h1 _ _ hx) (Bb_ _)
    ·exact h2 x y c hc hx hy
  ·rw [if_neg hk];exact dE_ r n acc h1 h2
def GL_ (scope:Scope)(env:Env)(n:Nat):List (Str×Addr):=cellsFrom (n+1) scope.names (Hn_ env.cells scope.names [])
def cxC (X:Cx)(N':List Str)(scope:Scope)(s:Shared)(H:Hp)(ex:List Addr):Cx :=
 { X with N:=N',s₀:=s,H₀:=H,env:=compEnvC scope (GL_ scope X.env s.heap.objs.size) s.heap.objs.size X.env,outer:=X.stack,ex:=ex,fn:=fun x=>decide ((x,NameKind.cell)∈scope.names) }
def pick (σ:St)(ix:List (Option Nat)):St:=ix.map fun o=>match o with|some i=>(match σ[i]? with|some v=>v|none=>none)|none=>none
structure Scp (psc:Scope)(PN N':List Str)(ix:List (Option Nat))(scope:Scope):Prop where
 kind:scope.kind=.function
 names:∀ x∈scope.names,x.2=.local->scope.names.lookup x.1=some .local
 uni:∀ x∈scope.names,x.2=.free->scope.names.lookup x.1=some .free
 apart:∀ x∈scope.names,x.2=.cell->(x.1,NameKind.free)∉scope.names
 free:∀ x∈scope.names,x.2=.free->psc.names.lookup x.1=some .cell\/psc.names.lookup x.1=some .free
 len:ix.length=N'.length
 at_:∀ (j i:Nat)(x:Str),N'[j]?=some x->ix[j]?=some (some i)->PN[i]?=some x/\(x,NameKind.free)∈scope.names
section
variable {X:Cx}{pins:List (Addr×Obj)}{σ:St}{H:Hp}{s:Shared}{N':List Str}{ix:List (Option Nat)}{scope:Scope}{fp:List Addr}
theorem cQ_ {env:Env}:∀ {names:List (Str×NameKind)}{x:Str},names.lookup x=some .free ->
  (names.map fun (n,k)=>if (k == NameKind.free && env.scope.kind == .function && env.kindOf n == some .cell) then (n,NameKind.cell) else (n,k)).lookup x=some .cell \/
  (names.map fun (n,k)=>if (k == NameKind.free && env.scope.kind == .function && env.kindOf n == some .cell) then (n,NameKind.cell) else (n,k)).lookup x=some .free
 | [],_,h=>by simp at h
 | (n,k)::r,x,h=>by
  have ih:=@cQ_ env r x;simp only [AG_];cases hx:x == n with
  | true =>
   simp only [B4_,hx] at h;cases h;by_cases hc:(NameKind.free == NameKind.free && env.scope.kind == .function && env.kindOf n == some .cell)=true
   ·rw [if_pos hc];simp [B4_,hx]
   ·rw [if_neg hc];simp [B4_,hx]
  | false =>
   simp only [B4_,hx] at h;by_cases hc:(k == NameKind.free && env.scope.kind == .function && env.kindOf n == some .cell)=true
   ·rw [if_pos hc];simp only [B4_,hx];exact ih h
   ·rw [if_neg hc];simp only [B4_,hx];exact ih h
theorem hl_ {scope:Scope}{env:Env}{x:Str}(h:scope.names.lookup x=some .free):(relabel scope env).names.lookup x=some .cell\/(relabel scope env).names.lookup x=some .free:=cQ_ h
theorem jk_ {scope:Scope}{env:Env}{x:Str}(h:(relabel scope env).names.lookup x=some .cell\/(relabel scope env).names.lookup x=some .free):(x,NameKind.cell)∈scope.names\/(x,NameKind.free)∈scope.names:=by
 have:∃ k,(x,k)∈(relabel scope env).names/\(k=.cell\/k=.free):=by
  rcases h with h|h
  ·exact ⟨_,Bo_ h,.inl rfl⟩
  ·exact ⟨_,Bo_ h,.inr rfl⟩
 obtain ⟨k,hm,hk⟩:=this;obtain ⟨⟨n,k'⟩,hm',e⟩:=Ap_.mp hm
 dsimp only at e
 split at e
 ·rename_i hc;cases e;have:k'=.free:=by simp at hc;exact hc.1.1
  rw [this] at hm';exact .inr hm'
 ·cases e
  rcases hk with rfl|rfl
  ·exact .inl hm'
  ·exact .inr hm'
theorem ny_ (I:Inv X pins σ H s)(S:Scp X.env.scope X.N N' ix scope)(hf:∀ b∈fp,HM_ X pins H b)(hfl:∀ b∈fp,b<s.heap.objs.size)(t':Nat) :
  Inv (cxC X N' scope s H fp) [] (pick σ ix) H { s with heap:=pushCells (s.heap.push { cls:=.type "dict",data:=.dict #[] }) scope.names,toks:=t' }:=by
 have hn:(pushCells (s.heap.push { cls:=.type "dict",data:=.dict #[] }) scope.names).Ns s.heap.objs.size fun _=>none:=(Heap.Ns.new s.heap (.type "dict")).keeps (Dg_ _ _);have hk:∀ b o,s.heap.get? b=some o->(pushCells (s.heap.push { cls:=.type "dict",data:=.dict #[] }) scope.names).get? b=some o:=fun b o e=>Dg_ _ _ b o (Ah_ _ e);have hfr:∀ p∈scope.names,p.2=NameKind.free->∃ c,X.env.cells.lookup p.1=some c:=fun p hp e=>I.ok.has p.1 (S.free p hp e);have clm:∀ q∈Hn_ X.env.cells scope.names [],X.env.cells.lookup q.1=some q.2:=ir_ scope.names [] hfr (by simp)
 have spec:∀ x c,(GL_ scope X.env s.heap.objs.size).lookup x=some c->(X.env.cells.lookup x=some c/\(x,NameKind.free)∈scope.names) \/
   (s.heap.objs.size<c/\(pushCells (s.heap.push { cls:=.type "dict",data:=.dict #[] }) scope.names).IsCell c none/\(x,NameKind.cell)∈scope.names):=fun x c e=>by
  have hm:(x,c)∈cellsFrom (s.heap.push { cls:=.type "dict",data:=.dict #[] }).objs.size scope.names (Hn_ X.env.cells scope.names []):=by rw [Cl_];exact Bo_ e
  rcases c2_ scope.names _ _ hm with h|⟨h1,h2,h3⟩
  ·exact .inl ⟨clm _ h,(hk_ scope.names [] h).elim id (fun z=>absurd z (by simp))⟩
  ·rw [Cl_] at h1;exact .inr ⟨h1,h2,h3⟩
 have hasC:∀ x,((relabel scope X.env).names.lookup x=some .cell\/(relabel scope X.env).names.lookup x=some .free)->∃ c,(GL_ scope X.env s.heap.objs.size).lookup x=some c:=fun x hx=>by have:∃ c,(x,c)∈GL_ scope X.env s.heap.objs.size:=dD_ scope.names _ _ ((jk_ hx).imp id fun z=>is_ scope.names [] (.inl z));obtain ⟨c,hc⟩:=this;exact cP_ hc
 have cold:∀ x c,X.env.cells.lookup x=some c->c<s.heap.objs.size:=fun x c e=>let ⟨v,q⟩:=I.cell x c e;q.lt
 refine ⟨⟨I.ok.mod,S.kind,I.ok.glob,I.ok.blt,Aj_ _,fun x y c e1 e2=>?_,hasC,fun x c z e=>?_,I.ok.hd,I.ok.frames,.inl rfl,
  fun b hb=>⟨AF_ (hfl b hb),fun x c e=>?_⟩,I.bs,AM_ I.ok.bsz I.sz,fun b o e hb=>?_,fun b hb z=>?_,I.stack,I.stkFree⟩,
  rfl,I.bare,Un.kept hk,⟨_,hn,fun j x v e1 e2 e3=>?_⟩,fun x c e=>?_,I.hok.fresh (Aj_ _),fun x c e=>?_,fun p hp=>?pn,I.hok.kept hk,?_⟩
 case pn =>obtain ⟨q1,q2,q3,q4,q5⟩:=I.pin p (AL_ _ (show p∈X.pn from (An_.mp hp).elim id fun z=>nomatch z));exact ⟨hk _ _ q1,q2,AF_ (Au_ q1),fun z=>(Ax_.mp (I.stkSub _ z)).elim q3 q4,q5⟩
 ·by_cases hc:c<s.heap.objs.size+1
  ·rcases spec x c e1 with ⟨q1,_⟩|⟨q1,_⟩
   ·rcases spec y c e2 with ⟨q2,_⟩|⟨q2,_⟩
    ·exact I.ok.inj x y c q1 q2
    ·exact absurd q2 (B7_.mpr (Nat.le_of_lt_succ hc))
   ·exact absurd q1 (B7_.mpr (Nat.le_of_lt_succ hc))
  ·exact dE_ (lo:=s.heap.objs.size+1) scope.names _ _ (fun x c hm=>Bd_ (cold x c (clm _ hm))) (fun x y c hc hx _=>absurd (cold x c (clm _ hx)) (B7_.mpr (AM_ (C0_ _) hc))) x y c (B7_.mp hc) (Bo_ e1) (Bo_ e2)
 ·have z':(x,NameKind.cell)∈scope.names:=A8_ z
  rcases spec x c e with ⟨_,q⟩|⟨q,_⟩
  ·exact absurd q (S.apart _ z' rfl)
  ·exact AJ_ q
 ·rcases spec x c e with ⟨q,_⟩|⟨q,_⟩
  ·exact (hf b hb).2.2.2.2.1 x c q
  ·exact fun z=>absurd (hfl b hb) (B7_.mpr (z ▸ AJ_ q))
 ·exact (hf b hb).2.2.2.1.elim (fun z=>I.ok.noex b o e z) fun z=>absurd (AI_ (Au_ e) I.ok.bsz) (B7_.mpr z)
 ·have hb2:=hf b hb
  rcases Ax_.mp (I.stkSub b z) with q|q
  ·exact hb2.2.1 q
  ·exact hb2.2.2.1 q
 ·have e4:∃ i,ix[j]?=some (some i)/\σ[i]?=some (some v):=by
   have e2':(pick σ ix)[j]?=some (some v):=e2;unfold pick at e2';rw [Ag_] at e2';cases q:ix[j]? with
   | none=>rw [q] at e2';cases e2'
   | some o =>
    rw [q] at e2';cases o with
    | none=>cases e2'
    | some i =>
     refine ⟨i,rfl,?_⟩;cases z:σ[i]? with
     | none=>simp [z] at e2'
     | some y=>simp [z] at e2';rw [e2']
  obtain ⟨i,e4,e5⟩:=e4;obtain ⟨a1,a2⟩:=S.at_ j i x e1 e4;have a3:=S.free _ a2 rfl;obtain ⟨m0,hn0,hl0⟩:=I.loc;obtain ⟨u,r,l⟩:=hl0 i x v a1 e5 (.inr a3);refine ⟨u,r,?_⟩
  rcases l with ⟨k1,_⟩|⟨k1,c,hcl,hce⟩
  ·have k1':X.env.scope.names.lookup x=some .local:=k1
   rcases a3 with z|z <;> (rw [k1'] at z;cases z)
  ·
   have e3':(relabel scope X.env).names.lookup x=some .local\/(relabel scope X.env).names.lookup x=some .cell\/(relabel scope X.env).names.lookup x=some .free:=e3;have k3:=hl_ (env:=X.env) (S.uni _ a2 rfl);obtain ⟨c',hc'⟩:=hasC x k3
   rcases spec x c' hc' with ⟨q,_⟩|⟨_,_,q⟩
   ·rw [hcl] at q;cases q;exact .inr ⟨k3,c,hc',hce.keeps hk⟩
   ·exact absurd a2 (S.apart _ q rfl)
 ·rcases spec x c e with ⟨q,_⟩|⟨q,q2,_⟩
  ·obtain ⟨v,q'⟩:=I.cell x c q;exact ⟨v,q'.keeps hk⟩
  ·exact ⟨none,q2⟩
 ·rcases spec x c e with ⟨q,_⟩|⟨q,_⟩
  ·exact I.freeC x c q
  ·exact I.hok.fresh (AJ_ q)
 ·show (pick σ ix).length=N'.length;unfold pick;rw [Ab_];exact S.len
end
section
variable {prog:Program}{w:World}{A:Around}{R:Result->Shared->Prop}{s:Shared}
def IZ_ (ifs:List Expr)(env:Env):Sem Bool:=forIn ifs true fun c r=>if r=true then do let ok <-isTrue c env (eval c env);pure (ForInStep.yield ok) else pure (ForInStep.yield r)
theorem jl_ {elt target iter:Expr}{ifs:List Expr}{scope:Scope}{pos:Pos}{it acc:Value}{env:Env}(I:Nat->Shared->Prop)
  (turn:∀ n s,I n s->wpAny (model prog w) A (pyNext it) (fun r s₁=>match r with
   | none=>R (.ok .next) s₁
   | some v=>wpAny (model prog w) A (letOwnedTupleGo target it v) (fun _ s₁'=>wpAny (model prog w) A (assign target env v) (fun _ s₂=>wpAny (model prog w) A (IZ_ ifs env) (fun ok s₃ =>
     if ok=true then wpAny (model prog w) A (eval elt env) (fun x s₄=>wpAny (model prog w) A (call (.builtin "list.append") [acc,x]) (fun _ s₅=>∃ m,m<n/\I m s₅) (fun _ _=>False) s₄) (fun _ _=>False) s₃
     else ∃ m,m<n/\I m s₃) (fun _ _=>False) s₂) (fun _ _=>False) s₁') (fun _ _=>False) s₁) (fun _ _=>False) s)
  (n:Nat) (h:I n s):codeAny (model prog w) A (.compLoop (.ListComp elt [⟨target,iter,ifs,0⟩] scope pos) 0 it acc env) R s:=by
 refine codeAny_loop rfl I (fun n s hI=>?_) n h;show wpAny _ _ ((compTurn (.ListComp elt [⟨target,iter,ifs,0⟩] scope pos) 0 it acc env).onRaise (fun x=>do noteFrame x env;theTreesLotGoes x)) _ _ s;refine wpAny_noted ?_;rw [compTurn_list];refine Ac_ (DK_ (Ac_ (Bi_ (turn n s hI) (fun r s₁ h₁=>?_) fun _ _ h'=>h'.elim)));cases r with
 | none=>exact Ai_ h₁
 | some v =>
  refine Ac_ (Bi_ h₁ (fun _ s₁' h₁'=>?_) fun _ _ h'=>h'.elim);refine Ac_ (Bi_ h₁' (fun _ s₂ h₂=>Ac_ (Bi_ h₂ (fun ok s₃ h₃=>?_) fun _ _ h'=>h'.elim)) fun _ _ h'=>h'.elim);cases ok with
  | false=>exact Ai_ ⟨rfl,h₃⟩
  | true =>exact Ac_ (Ac_ (Bi_ h₃ (fun x s₄ h₄=>Ac_ (Bi_ h₄ (fun _ s₅ h₅=>Ai_ (Ai_ ⟨rfl,h₅⟩)) fun _ _ h'=>h'.elim)) fun _ _ h'=>h'.elim))
end
theorem kd_ {M:Model}{A:Around}{E:Value->Shared->Prop}{s:Shared}{scope:Scope}{globals:Addr}{cl:List (Str×Addr)}{qual:Str}{env:Env}{Q:Env->Shared->Prop}
  (hQ:Q { scope:=scope,locals:=s.heap.objs.size,globals:=globals,cells:=cellsFrom (s.heap.objs.size+1) scope.names cl,qual:=qual,func:=none,code:=env.code,frame:=env.frame,builtins:=env.builtins } { s with heap:=pushCells (s.heap.push { cls:=.type "dict",data:=.dict #[] }) scope.names }) :
  wpAny M A (newFunctionEnv scope globals cl [] qual none .none (some env)) Q E s:=by
 simp only [newFunctionEnv,Option.isSome_some,if_true];refine Ac_ (wpAny_alloc ?_);refine Ac_ (wpAny_layCells _ (fun name kind cells=>by cases hkc:kind == NameKind.cell <;> simp [hkc]) _ _ _ _ ?_);rw [show ({ s with heap:=s.heap.push { cls:=.type "dict",data:=.dict #[] } }:Shared).heap.objs.size=s.heap.objs.size+1 from Cl_ ..];exact Ac_ (Ai_ (Ai_ hQ))
def PF (X:Cx)(ifs:List Expr)(t:TT):Prop :=
 ∀ (pins:List (Addr×Obj))(s:Shared)(σ:St)(H:Hp)(Q:Bool->Hp->Prop),Inv X pins σ H s->t σ H Q->wpAny (model X.prog X.w) X.A (IZ_ ifs X.env) (TP X pins σ Q) X.xe s
def Kp_:TT:=fun _ H Q=>Q true H
theorem d6_ {X:Cx}:PF X [] Kp_:=fun _ _ _ H _ I h=>wpAny_tests_nil ⟨H,I,h⟩
theorem mm_ {X:Cx}{c:Expr}{t:TT}(h:PT X c t):PF X [c] t:=fun pins s σ H Q I q=>wpAny_tests_one (h pins s σ H Q I q)
def HC_ (J:It)(g:TG)(tt:TT)(te:TE)(σ:St)(H:Hp)(Q:VK):Prop:=∀ D,H D=none->∃ W:Nat->Nat->St->Hp->Prop,(∃ m,W 0 m σ (upd H D (.lst [])))/\∀ i m σ H,W i m σ H ->
 (J.stop i H/\Q (.ref D) H)\/(J.go i H/\∃ N:St->Hp->Prop,(∀ σ' H',N σ' H'->∃ m',m'<m/\W (i+1) m' σ' H')/\∀ x H',J.yld i H x H'->g x σ H' fun σ2 H2=>tt σ2 H2 fun b H3 =>if b=true then te σ2 H3 fun v H4=>∃ xs,H4 D=some (.lst xs)/\xs.length<sizeLine/\N σ2 (upd H4 D (.lst (xs++[v]))) else N σ2 H3)
def IK_ (ix:List (Option Nat))(wi:TI)(g:TG)(tt:TT)(te:TE):TE:=fun σ H Q=>wi σ H fun J H1=>HC_ J g tt te (pick σ ix) H1 Q
section
variable {X:Cx}{N':List Str}{ix:List (Option Nat)}{scope:Scope}{tg iter elt:Expr}{ifs:List Expr}{wi:TI}{g:TG}{tt:TT}{te:TE}{pos:Pos}
structure K0_ (C:Cx->Prop)(P:Program)(w:World)(K:PySem.W.Frag)(tg:Expr)(J:It)(fp:List Addr)(it:Addr)(tn:Nat->Heap->Prop):Prop where
 obj:∀ i h,tn i h->∀ b∈fp,∃ o,h.get? b=some o/\∀ v,o.data≠.cell v
 keep:∀ i h h',tn i h->(∀ b∈fp,∀ o,h.get? b=some o->h'.get? b=some o)->tn i h'
 item:∀ (X:Cx),X.prog=P->X.w=w->X.K=K->C X->∀ (i:Nat)(pins:List (Addr×Obj))(s:Shared)(σ:St)(H:Hp)(E:Value->Shared->Prop),Inv X pins σ H s->(∀ b∈fp,HM_ X pins H b)->tn i s.heap->J.go i H ->
  wpAny (model P w) X.A (pyNext (.ref it)) (fun r s1=>∃ u,r=some u/\wpAny (model P w) X.A (letOwnedTupleGo tg (.ref it) u) (fun _ s2=>∃ x H',Inv X pins σ H' s2/\F1_ x u/\J.yld i H x H'/\tn (i+1) s2.heap/\∀ b∈fp,H' b=none) E s1) E s
 done:∀ (X:Cx),X.prog=P->X.w=w->X.K=K->C X->∀ (i:Nat)(pins:List (Addr×Obj))(s:Shared)(σ:St)(H:Hp)(E:Value->Shared->Prop),Inv X pins σ H s->(∀ b∈fp,HM_ X pins H b)->tn i s.heap->J.stop i H ->
  wpAny (model P w) X.A (pyNext (.ref it)) (fun r s1=>r=none/\Inv X pins σ H s1) E s
 self:∀ (A:Around)(i:Nat)(s:Shared)(Q:Value->Shared->Prop)(E:Value->Shared->Prop),tn i s.heap->Q (.ref it) s->wpAny (model P w) A (pyIter (.ref it)) Q E s
def PIc (C:Cx->Prop)(X:Cx)(tg iter:Expr)(wi:TI):Prop:=∀ (pins:List (Addr×Obj))(s:Shared)(σ:St)(H:Hp)(R:It->Hp->Prop),Inv X pins σ H s->wi σ H R ->
 wpAny (model X.prog X.w) X.A (eval iter X.env) (fun v s1=>wpAny (model X.prog X.w) X.A (pyIter v) (fun itv s2=>∃ (it:Addr)(fp:List Addr)(tn:Nat->Heap->Prop)(J:It)(H':Hp),itv=.ref it/\Inv X pins σ H' s2/\K0_ C X.prog X.w X.K tg J fp it tn/\tn 0 s2.heap/\(∀ b∈fp,HM_ X pins H' b)/\R J H') X.xe s1) X.xe s
theorem PI.c {X:Cx}{tg iter:Expr}{wi:TI}(h:PI X tg iter wi):PIc (fun X=>X.calm=true) X tg iter wi:=fun pins s σ H R I q=>thn (h pins s σ H R I q) fun _ _ h1=>thn h1 fun _ _ ⟨it,fp,tn,J,H',e,I2,T,z⟩=>⟨it,fp,tn,J,H',e,I2,⟨T.obj,T.keep,T.item,T.done,T.self⟩,z⟩
theorem jm_ {C:Cx->Prop}(hc:∀ s H ex,C (cxC X N' scope s H ex))(hxe:X.xe=fun _ _=>False)(S:Scp X.env.scope X.N N' ix scope)(hi:PIc C X tg iter wi)(hg:∀ s H ex,PG (cxC X N' scope s H ex) tg g)(ht:∀ s H ex,PF (cxC X N' scope s H ex) ifs tt)(he:∀ s H ex,PE (cxC X N' scope s H ex) elt te)
  {pins:List (Addr×Obj)} {s:Shared} {σ:St} {H:Hp} {Q:VK} (I:Inv X pins σ H s) (h:IK_ ix wi g tt te σ H Q) {Post:Value->Addr->Result->Shared->Prop}
  (fin':∀ (D C:Addr)(H':Hp)(s':Shared),Inv X pins σ H' s'->HM_ X pins H' C->(∃ m,s'.heap.Ns C m)->Q (.ref D) H'->Post (.ref D) C (.ok .next) s') :
  wpAny (model X.prog X.w) X.A (eval iter X.env) (fun x s₁=>wpAny (model X.prog X.w) X.A (pyIter x) (fun it s₂=>wpAny (model X.prog X.w) X.A (newList []) (fun acc s₃ =>wpAny (model X.prog X.w) X.A (newFunctionEnv scope X.env.globals (Hn_ X.env.cells scope.names []) [] X.env.qual none .none (some X.env)) (fun cenv s₄ =>codeAny (model X.prog X.w) X.A (.compStart (.ListComp elt [⟨tg,iter,ifs,0⟩] scope pos) 0 it acc { cenv with scope:=relabel scope X.env }) (Post acc cenv.locals) s₄) X.xe s₃) X.xe s₂) X.xe s₁) X.xe s:=by
 refine thn (hi pins s σ H _ I h) fun v s1 h1=>thn h1 fun itv s2 h2=>?_;obtain ⟨it,fp,tn,J,H2,e,I2,T,st2,f2,go⟩:=h2;subst e;refine BX_ ?_;have hD:H2 s2.heap.objs.size=none:=I2.hok.fresh (Aj_ _)
 have I3:Inv X pins σ (upd H2 s2.heap.objs.size (.lst [])) { s2 with heap:=s2.heap.push { cls:=.type "list",dict:=none,data:=.seq ([]:List Value).toArray } } :=
  I2.laid (t':=s2.toks) (fun b u e=>Ah_ _ e) (Aj_ _) ⟨Ay_ _,[],0,.nil,Av_ _ rfl⟩
 obtain ⟨W,⟨m0,w0⟩,turn⟩:=go s2.heap.objs.size hD;have fpl:∀ b∈fp,b<s2.heap.objs.size:=fun b hb=>let ⟨o,e,_⟩:=T.obj _ _ st2 b hb;Au_ e;have tF:∀ {α:Type}{t:Sem α}{Q':α->Shared->Prop}{s':Shared},wpAny (model X.prog X.w) X.A t Q' X.xe s'->wpAny (model X.prog X.w) X.A t Q' (fun _ _=>False) s':=fun hw=>hxe ▸ hw;generalize hH3:upd H2 s2.heap.objs.size (.lst [])=H3 at I3 w0;generalize hs3:({ s2 with heap:=s2.heap.push { cls:=.type "list",dict:=none,data:=.seq ([]:List Value).toArray } }:Shared)=s3 at I3 ⊢;have h23:∀ b o,s2.heap.get? b=some o->s3.heap.get? b=some o:=fun b o e=>by rw [<-hs3];exact Ah_ _ e
 have sz3:s2.heap.objs.size<=s3.heap.objs.size:=by rw [<-hs3];show _<=(s2.heap.push _).objs.size;rw [Cl_];exact C0_ _
 have fpl3:∀ b∈fp,b<s3.heap.objs.size:=fun b hb=>AI_ (fpl b hb) sz3;have f3:∀ b∈fp,HM_ X pins H3 b:=fun b hb=>⟨by rw [<-hH3,af_ (AF_ (fpl b hb))];exact (f2 b hb).1,(f2 b hb).2⟩;refine kd_ ?_;generalize hh1:pushCells (s3.heap.push { cls:=.type "dict",data:=.dict #[] }) scope.names=h1;have hk:∀ b o,s3.heap.get? b=some o->h1.get? b=some o:=fun b o e=>by rw [<-hh1];exact Dg_ _ _ b o (Ah_ _ e)
 have I4:Inv (cxC X N' scope s3 H3 fp) [] (pick σ ix) H3 { s3 with heap:=h1 }:=by rw [<-hh1];exact ny_ I3 S f3 fpl3 s3.toks
 have st4:tn 0 h1:=T.keep _ _ _ st2 fun b hb o e=>hk b o (h23 b o e);have fin:∀ {σ':St}{H':Hp}{s':Shared},Inv (cxC X N' scope s3 H3 fp) [] σ' H' s'->Q (.ref s2.heap.objs.size) H'->Post (.ref s2.heap.objs.size) s3.heap.objs.size (.ok .next) s':=fun {σ' H' s'} J q=>by obtain ⟨m,hn,_⟩:=J.loc;have K1:Inv X pins σ H' s':=I3.call' J.os J.base J.hok J.bare fun b hb=>⟨(f3 b hb).2.2.2.1,(f3 b hb).2.1,(f3 b hb).2.2.2.2.1,(f3 b hb).2.2.2.2.2⟩;exact fin' _ _ H' s' K1 (I3.fpOk (b:=s3.heap.objs.size) (Aj_ _) (show H' s3.heap.objs.size=none from J.free)) ⟨m,hn⟩ q
 have loop:codeAny (model X.prog X.w) X.A (.compLoop (.ListComp elt [⟨tg,iter,ifs,0⟩] scope pos) 0 (.ref it) (.ref s2.heap.objs.size) (compEnvC scope (GL_ scope X.env s3.heap.objs.size) s3.heap.objs.size X.env)) (Post (.ref s2.heap.objs.size) s3.heap.objs.size) { s3 with heap:=h1 }:=by
  refine jl_ (fun n s'=>∃ i σ' H',Inv (cxC X N' scope s3 H3 fp) [] σ' H' s'/\tn i s'.heap/\(∀ b∈fp,H' b=none)/\W i n σ' H') ?_ m0 ⟨0,_,H3,I4,st4,fun b hb=>(f3 b hb).1,w0⟩;rintro n s5 ⟨i,σ5,H5,I5,st5,fr5,w5⟩;have stat:∀ {H':Hp},(∀ b∈fp,H' b=none)->∀ b∈fp,HM_ (cxC X N' scope s3 H3 fp) [] H' b:=fun hn b hb=>⟨hn b hb,(I5.ok.exf b hb).1,I5.ok.exfs b hb,.inl hb,(I5.ok.exf b hb).2,fun p hp=>(f3 b hb).2.2.2.2.2 p (AL_ _ (show p∈X.pn from (An_.mp hp).elim id fun z=>nomatch z))⟩
  rcases turn i n σ5 H5 w5 with ⟨stop,qn⟩|⟨go,N,hN,step⟩
  ·refine thn (tF (T.done (cxC X N' scope s3 H3 fp) rfl rfl rfl (hc _ _ _) i [] s5 σ5 H5 X.xe I5 (stat fr5) st5 stop)) fun r s6 ⟨hr,I6⟩=>?_;subst hr;exact fin I6 qn
  ·refine thn (tF (T.item (cxC X N' scope s3 H3 fp) rfl rfl rfl (hc _ _ _) i [] s5 σ5 H5 X.xe I5 (stat fr5) st5 go)) fun r s6 ⟨u,hr,h6⟩=>?_;subst hr;refine thn (tF h6) fun _ s7 ⟨x,H7,I7,r7,y7,st7,fr7⟩=>?_;have I7':=I7.pinned (stat fr7) (T.obj _ _ st7);have again:∀ {σ':St}{H':Hp}{s':Shared},Inv (cxC X N' scope s3 H3 fp) ([]++Hs_ fp s7.heap) σ' H' s'->N σ' H'->∃ m,m<n/\∃ i σ' H',Inv (cxC X N' scope s3 H3 fp) [] σ' H' s'/\tn i s'.heap/\(∀ b∈fp,H' b=none)/\W i m σ' H':=fun {σ' H' s'} J n10=>by obtain ⟨m',hm,w10⟩:=hN σ' H' n10;refine ⟨m',hm,i+1,σ',H',J.unpinned,T.keep _ _ _ st7 fun b hb o e=>(J.pin (b,o) (AH_ _ (AH_ _ (eF_ hb e)))).1,fun b hb=>?_,w10⟩;obtain ⟨o,e,d⟩:=T.obj _ _ st7 b hb;exact (J.pin (b,o) (AH_ _ (AH_ _ (eF_ hb e)))).2.1
   refine thn (tF (hg s3 H3 fp _ s7 σ5 H7 x u _ I7' r7 (step x H7 y7))) fun _ s8 ⟨σ8,H8,I8,q8⟩=>?_;refine thn (tF (ht s3 H3 fp _ s8 σ8 H8 _ I8 q8)) fun ok s8' ⟨H8',I8',q8'⟩=>?_;cases ok with
   | false=>exact again I8' (by simpa using q8')
   | true =>rw [if_pos rfl] at q8' ⊢;refine thn (tF (he s3 H3 fp _ s8' σ8 H8' _ I8' q8')) fun v s9 ⟨y,H9,I9,r9,xs,hl9,hz9,n9⟩=>?_;exact thn (tF (az_ (X:=cxC X N' scope s3 H3 fp) _ s9 σ8 H9 (.ref s2.heap.objs.size) [y] (.ref s2.heap.objs.size) [v] (fun _ H'=>N σ8 H') I9 rfl (.cons r9 .nil) ⟨s2.heap.objs.size,xs,y,rfl,rfl,hl9,hz9,n9⟩)) fun _ s10 ⟨_,H10,I10,_,n10⟩=>again I10 n10
 exact codeAny_compStart_list loop (T.self _ 0 _ _ _ st4 loop)
theorem cA_ (hc:X.calm=true)(hxe:X.xe=fun _ _=>False)(S:Scp X.env.scope X.N N' ix scope)(hi:PI X tg iter wi)(hg:∀ s H ex,PG (cxC X N' scope s H ex) tg g)(ht:∀ s H ex,PF (cxC X N' scope s H ex) ifs tt)(he:∀ s H ex,PE (cxC X N' scope s H ex) elt te)
  (hs:∀ x,foldedSetIterable iter X.env x=pure x:=by intro _;rfl):PE X (.ListComp elt [⟨tg,iter,ifs,0⟩] scope pos) (IK_ ix wi g tt te):=by
 intro pins s σ H Q I h;rw [eval_ListComp];refine D8_ (use:=none) rfl hs (h2_ fun p hp e=>I.ok.has p.1 (S.free p hp e)) S.kind S.names (jm_ (C:=fun X=>X.calm=true) (fun _ _ _=>hc) hxe S hi.c hg ht he I h fun D C H' s' K1 F ⟨m,hn⟩ q=>?_);refine ⟨m,hn,fun h' sb=>?_⟩;obtain ⟨g0,g1,g2,g3,g4,g5⟩:=F;exact ⟨.ref D,H',K1.turned (t':=s'.toks) (fun b o hb e=>sb.extBut b o hb e) g0 g1 g3 g4 g5,rfl,q⟩
theorem it_ {i:Nat}{y:Str}{py spos:Pos}(hc:X.calm=true)(hxe:X.xe=fun _ _=>False)(hN:X.N.Nodup)(hy:X.N[i]?=some y)(hl:X.env.scope.names.lookup y=some .local)
  (hsw:swapsWith (.ListComp elt [⟨tg,iter,ifs,0⟩] scope pos) (some (.Name y py)) spos.line X.env=pure true)
  (S:Scp X.env.scope X.N N' ix scope) (hi:PI X tg iter wi) (hg:∀ s H ex,PG (cxC X N' scope s H ex) tg g) (ht:∀ s H ex,PF (cxC X N' scope s H ex) ifs tt) (he:∀ s H ex,PE (cxC X N' scope s H ex) elt te)
  (hs:∀ x,foldedSetIterable iter X.env x=pure x:=by intro _;rfl):PS X (.Assign [.Name y py] (.ListComp elt [⟨tg,iter,ifs,0⟩] scope pos) spos) (Kf_ (IK_ ix wi g tt te) (G4_ i)):=by
 intro pins s σ H D I h;rw [exec_Assign_Name_used _ _ _ _ hsw];refine Ac_ (DK_ (Ac_ ?_));show wpAny _ X.A (do let _ <-comprehension (.ListComp elt [⟨tg,iter,ifs,0⟩] scope pos) scope X.env _ (newList []) false (eval iter X.env) (some (assign (.Name y py) X.env))) _ _ s
 refine Ac_ (Bi_ (D8_ (use:=some (assign (.Name y py) X.env)) (Q:=fun _ s'=>SP X pins D .next s') rfl hs (h2_ fun p hp e=>I.ok.has p.1 (S.free p hp e)) S.kind S.names
  (jm_ (C:=fun X=>X.calm=true) (fun _ _ _=>hc) hxe S hi.c hg ht he I h fun L C H' s' K1 F ⟨m,hn⟩ q=>?_)) (fun _ s' hq=>Ai_ (Ai_ hq)) fun _ _ e=>e)
 show wpAny _ X.A (assign (.Name y py) X.env (.ref L)) _ _ _;obtain ⟨g0,g1,g2,g3,g4,g5⟩:=F;refine wpAny_assign_Name (i6_ K1 hN hy (.inl hl) (v:=.ref L) rfl (fun s2 I2 ⟨a,sb,ha⟩=>?_) (.inr hl))
 have hCa:C≠a:=by
  rcases ha with rfl|ha
  ·exact g1
  ·exact fun z=>g4 _ _ ha z.symm
 refine ⟨m,hn.sameBut sb hCa,fun h' sb'=>?_⟩;exact ⟨_,H',I2.turned (t':=s2.toks) (fun b o hb e=>sb'.extBut b o hb e) g0 g1 g3 g4 g5,q⟩
end
def Hx_ (psc:Scope)(PN N':List Str)(ix:List (Option Nat))(scope:Scope):Bool :=
 scope.kind == .function &&
 scope.names.all (fun x=>x.2 != .local || scope.names.lookup x.1 == some .local) &&
 scope.names.all (fun x=>x.2 != .free || scope.names.lookup x.1 == some .free) &&
 scope.names.all (fun x=>x.2 != .cell || !scope.names.contains (x.1,NameKind.free)) &&
 scope.names.all (fun x=>x.2 != .free || (psc.names.lookup x.1 == some .cell || psc.names.lookup x.1 == some .free)) &&
 ix.length == N'.length &&
 (List.range N'.length).all (fun j=>match ix[j]?,N'[j]? with|some (some i),some x=>PN[i]? == some x && scope.names.contains (x,NameKind.free)|_,_=>true)
theorem cB_ {psc:Scope}{PN N':List Str}{ix:List (Option Nat)}{scope:Scope}(h:Hx_ psc PN N' ix scope=true):Scp psc PN N' ix scope:=by
 unfold Hx_ at h;simp only [CI_,List.all_eq_true,beq_iff_eq,Bool.or_eq_true,E2_,ne_eq,C7_,Bool.not_eq_true',AX_] at h;obtain ⟨⟨⟨⟨⟨⟨h1,h2⟩,h3⟩,h4⟩,h5⟩,h6⟩,h7⟩:=h;refine ⟨h1,fun x hx e=>(h2 x hx).resolve_left fun z=>z e,fun x hx e=>(h3 x hx).resolve_left fun z=>z e,fun x hx e hm=>?_,fun x hx e=>(h5 x hx).resolve_left fun z=>z e,h6,fun j i x e1 e2=>?_⟩
 ·have:=(h4 x hx).resolve_left fun z=>z e;rw [C7_.mpr hm] at this;cases this
 ·have hj:j<N'.length:=(Ae_.mp e1).1;have:=h7 j hj;rw [e1,e2] at this;simp only [CI_,beq_iff_eq,C7_] at this;exact this
section
variable {X:Cx}{x:Str}{pos:Pos}{i:Nat}{e:Expr}{te:TE}
theorem pvc (i:Nat)(hN:X.N[i]?=some x:=by rfl) (hv:X.env.scope.names.lookup x=some .cell:=by rfl) (hd:(x == ("__debug__" : Str))=false:=by decide) (hcd:(x == ("__classdict__" : Str))=false:=by decide):PE X (.Name x pos) (Je_ i):=l6_ hN (.inr (.inl hv)) hd hcd
theorem iu_ {pos':Pos}(hN:X.N.Nodup)(hi:X.N[i]?=some x)(hx:X.env.scope.names.lookup x=some .cell)(hf:X.fn x=true)(he:PE X e te)(hs:swapsWith e (some (.Name x pos')) pos.line X.env=pure false):PS X (.Assign [.Name x pos'] e pos) (Kf_ te (G4_ i)) :=
 ob_ hN hi (.inr hx) he hs (.inl hf)
theorem eH_ (hN:X.N.Nodup)(hi:X.N[i]?=some x)(hx:X.env.scope.names.lookup x=some .cell)(hf:X.fn x=true):PG X (.Name x pos) (G4_ i):=l8_ hN hi (.inr hx) (.inl hf)
end
end L2
namespace L2
open PySem PySem.Spec PyProof.Rows
theorem aR_ {X:Cx}{K:PySem.W.Frag}{tg l:Expr}{tl:TE}(hK:X.K=K)(hl:PE X l tl):PI X tg l (Ji_ K tl):=hK ▸ oK_ hl
theorem oS_ {X:Cx}{K:PySem.W.Frag}{tg l:Expr}{tl:TE}(hK:X.K=K)(hl:PE X l tl):PI X tg l (KP_ K tl):=hK ▸ pz_ hl
theorem nz_ {X:Cx}{K:PySem.W.Frag}(hK:X.K=K):IxR X (LD_ K):=hK ▸ mg_
inductive Dt where
 | non|bl (b:Bool)|int (i:Int)|str (x:Str)|tup (xs:List Dt)|lst (xs:List Dt)
mutual
def Rep (H:Hp):V->Dt->Prop
 | v,.non=>v=.non
 | v,.bl b=>v=.bl b
 | v,.int i=>v=.int i
 | v,.str x=>v=.str x
 | v,.tup ds=>∃ p xs,v=.ref p/\H p=some (.tup xs)/\F0_ H xs ds
 | v,.lst ds=>∃ p xs,v=.ref p/\H p=some (.lst xs)/\F0_ H xs ds
def F0_ (H:Hp):List V->List Dt->Prop
 | xs,[]=>xs=[]
 | xs,d::ds=>∃ x r,xs=x::r/\Rep H x d/\F0_ H r ds
end
mutual
theorem Rep.mono {H H':Hp}(e:Fx_ H H'):∀ {v:V}(d:Dt),Rep H v d->Rep H' v d
 | v,.non,h=>h
 | v,.bl b,h=>h
 | v,.int i,h=>h
 | v,.str x,h=>h
 | v,.tup ds,⟨p,xs,h1,h2,h3⟩=>⟨p,xs,h1,e _ _ h2,F0_.mono e ds h3⟩
 | v,.lst ds,⟨p,xs,h1,h2,h3⟩=>⟨p,xs,h1,e _ _ h2,F0_.mono e ds h3⟩
theorem F0_.mono {H H':Hp}(e:Fx_ H H'):∀ {xs:List V}(ds:List Dt),F0_ H xs ds->F0_ H' xs ds
 | xs,[],h=>h
 | xs,d::ds,⟨x,r,h1,h2,h3⟩=>⟨x,r,h1,Rep.mono e d h2,F0_.mono e ds h3⟩
end
mutual
theorem Rep.inj {H:Hp}:∀ {v:V}(d e:Dt),Rep H v d->Rep H v e->d=e
 | v,.non,e,h,h'=>by
  cases h;cases e <;> first|rfl|(simp [Rep] at h')
 | v,.bl b,e,h,h'=>by
  cases h;cases e <;> simp [Rep] at h' <;> simp [h']
 | v,.int i,e,h,h'=>by
  cases h;cases e <;> simp [Rep] at h' <;> simp [h']
 | v,.str x,e,h,h'=>by
  cases h;cases e <;> simp [Rep] at h' <;> simp [h']
 | v,.tup ds,e,⟨p,xs,h1,h2,h3⟩,h'=>by
  subst h1;cases e with
  | tup es =>
   obtain ⟨p',xs',g1,g2,g3⟩:=h';cases g1;rw [h2] at g2;cases g2;rw [F0_.inj ds es h3 g3]
  | lst es =>
   obtain ⟨p',xs',g1,g2,g3⟩:=h';cases g1;rw [h2] at g2;cases g2
  | _=>simp [Rep] at h'
 | v,.lst ds,e,⟨p,xs,h1,h2,h3⟩,h'=>by
  subst h1;cases e with
  | tup es =>
   obtain ⟨p',xs',g1,g2,g3⟩:=h';cases g1;rw [h2] at g2;cases g2
  | lst es =>
   obtain ⟨p',xs',g1,g2,g3⟩:=h';cases g1;rw [h2] at g2;cases g2;rw [F0_.inj ds es h3 g3]
  | _=>simp [Rep] at h'
theorem F0_.inj {H:Hp}:∀ {xs:List V}(ds es:List Dt),F0_ H xs ds->F0_ H xs es->ds=es
 | xs,[],es,h,h'=>by
  cases h;cases es with
  | nil=>rfl
  | cons e es=>obtain ⟨x,r,g,_⟩:=h';cases g
 | xs,d::ds,es,⟨x,r,h1,h2,h3⟩,h'=>by
  subst h1;cases es with
  | nil=>cases h'
  | cons e es =>obtain ⟨x',r',g1,g2,g3⟩:=h';cases g1;rw [Rep.inj d e h2 g2,F0_.inj ds es h3 g3]
end
theorem F0_.length {H:Hp}:∀ {xs:List V}{ds:List Dt},F0_ H xs ds->xs.length=ds.length
 | xs,[],h=>by cases h;rfl
 | xs,d::ds,⟨x,r,h1,h2,h3⟩=>by subst h1;simp [F0_.length h3]
theorem F0_.get {H:Hp}:∀ {xs:List V}{ds:List Dt}{i:Nat}{d:Dt},F0_ H xs ds->ds[i]?=some d->∃ x,xs[i]?=some x/\Rep H x d
 | xs,[],i,d,h,e=>by simp at e
 | xs,d'::ds,0,d,⟨x,r,h1,h2,h3⟩,e=>by
  subst h1;simp at e;subst e;exact ⟨x,rfl,h2⟩
 | xs,d'::ds,i+1,d,⟨x,r,h1,h2,h3⟩,e=>by subst h1;obtain ⟨y,hy,hr⟩:=F0_.get (i:=i) (d:=d) h3 (by simpa using e);exact ⟨y,by simpa using hy,hr⟩
theorem F0_.append {H:Hp}:∀ {xs:List V}{ds:List Dt}{ys:List V}{es:List Dt},F0_ H xs ds->F0_ H ys es->F0_ H (xs++ys) (ds++es)
 | xs,[],ys,es,h,g=>by cases h;exact g
 | xs,d::ds,ys,es,⟨x,r,h1,h2,h3⟩,g=>by subst h1;exact ⟨x,r++ys,rfl,h2,F0_.append h3 g⟩
mutual
def deq:Dt->Dt->Option Bool
 | .non,.non=>some true
 | .bl a,.bl b=>some (a == b)
 | .int a,.int b=>some (a == b)
 | .str a,.str b=>some (a == b)
 | .tup xs,.tup ys=>deqs xs ys
 | .lst xs,.lst ys=>if xs.length=ys.length then deqs xs ys else some false
 | _,_=>none
def deqs:List Dt->List Dt->Option Bool
 | [],[]=>some true
 | x::xs,y::ys=>match deq x y,deqs xs ys with
  | some a,some b=>some (a && b)
  | _,_=>none
 | _,_=>some false
end
mutual
def dep:Dt->Nat
 | .tup ds=>deps ds+1
 | .lst ds=>deps ds+1
 | _=>0
def deps:List Dt->Nat
 | []=>0
 | d::ds=>max (dep d) (deps ds)
end
def eAt (ds es:List Dt)(j:Nat):Bool:=match ds[j]?,es[j]? with
 | some d,some e=>(deq d e).getD false
 | _,_=>false
theorem bW_:∀ (ds es:List Dt)(b:Bool),deqs ds es=some b->((List.range (min ds.length es.length)).all (eAt ds es) && ds.length == es.length)=b
 | [],[],b,h=>by cases h;rfl
 | [],_::_,b,h=>by cases h;simp
 | _::_,[],b,h=>by cases h;simp
 | d::ds,e::es,b,h=>by
  rw [deqs] at h;cases h1:deq d e with
  | none=>rw [h1] at h;cases h
  | some a =>
   cases h2:deqs ds es with
   | none=>rw [h1,h2] at h;cases h
   | some c =>
    rw [h1,h2] at h;cases h;rw [<-bW_ ds es c h2];simp only [AZ_,Nat.succ_min_succ,List.range_succ_eq_map,E8_,List.all_map,Bool.and_assoc];congr 1
    ·simp [eAt,h1]
    ·congr 1;simp
mutual
theorem iv_:∀ (d:Dt)(b:Bool),deq d d=some b->b=true
 | .non,b,h=>by cases h;rfl
 | .bl a,b,h=>by simp [deq] at h;exact h
 | .int a,b,h=>by simp [deq] at h;exact h
 | .str a,b,h=>by simp [deq] at h;exact h
 | .tup xs,b,h=>hm_ xs b h
 | .lst xs,b,h=>by rw [deq,if_pos rfl] at h;exact hm_ xs b h
theorem hm_:∀ (ds:List Dt)(b:Bool),deqs ds ds=some b->b=true
 | [],b,h=>by cases h;rfl
 | d::ds,b,h=>by
  rw [deqs] at h;cases h1:deq d d with
  | none=>rw [h1] at h;cases h
  | some a =>
   cases h2:deqs ds ds with
   | none=>rw [h1,h2] at h;cases h
   | some c =>rw [h1,h2] at h;cases h;rw [iv_ d a h1,hm_ ds c h2];rfl
end
def Vw (K:PySem.W.Frag)(H J:Hp):Prop:=(∀ q xs,J q=some (.tup xs)->SqT K H q xs)/\∀ q xs,J q=some (.lst xs)->SqL K H q xs
theorem Vw.refl {K:PySem.W.Frag}{H:Hp}:Vw K H H:=⟨fun _ _ h=>.inl (.inl h),fun _ _ h=>.inl (.inl h)⟩
section
variable {X:Cx}{pins:List (Addr×Obj)}{σ:St}{H:Hp}{s:Shared}
mutual
theorem kZ_ (I:Inv X pins σ H s){J:Hp}(hJ:Vw X.K H J):∀ (d e:Dt){A:Around}{x y:V}{u v:Value}{b:Bool},Rep J x d->Rep J y e->F1_ x u->F1_ y v->deq d e=some b->A.units+dep d<cLine->SeqAt.EqAt A s u v b
 | .non,e,A,x,y,u,v,b,hx,hy,rx,ry,hb,hu=>by
  cases e <;> first|(cases hb;cases hx;cases hy;cases rx;cases ry;exact De_ _)|(simp [deq] at hb)
 | .bl a,e,A,x,y,u,v,b,hx,hy,rx,ry,hb,hu=>by
  cases e <;> first|(cases hb;cases hx;cases hy;cases rx;cases ry;exact E1_ _ _)|(simp [deq] at hb)
 | .int a,e,A,x,y,u,v,b,hx,hy,rx,ry,hb,hu=>by
  cases e <;> first|(cases hb;cases hx;cases hy;obtain ⟨t,rfl⟩:=rx;obtain ⟨t',rfl⟩:=ry;exact SeqAt.EqAt.int_int _ _ _ _)|(simp [deq] at hb)
 | .str a,e,A,x,y,u,v,b,hx,hy,rx,ry,hb,hu=>by
  cases e <;> first|(cases hb;cases hx;cases hy;obtain ⟨t,rfl⟩:=rx;obtain ⟨t',rfl⟩:=ry;exact DD_ _ _ _ _)|(simp [deq] at hb)
 | .tup ds,e,A,x,y,u,v,b,hx,hy,rx,ry,hb,hu=>by
  cases e with
  | tup es =>
   obtain ⟨p,xs,e1,hp,hr⟩:=id hx;obtain ⟨q,ys,e2,hq,hs⟩:=id hy;subst e1 e2;cases rx;cases ry;by_cases hpq:p=q
   ·subst hpq;have:=Rep.inj _ _ hx hy;cases this;rw [iv_ _ b hb];exact De_ _
   ·obtain ⟨its,r1,pl1,_⟩:=I.tuple (hJ.1 _ _ hp);obtain ⟨its',r2,pl2,_⟩:=I.tuple (hJ.1 _ _ hq);have l1:=r1.length;have l2:=r2.length;have g1:=hr.length;have g2:=hs.length;have hu':A.in1.units+deps ds<cLine:=by have:A.units+(deps ds+1)<cLine:=hu;rw [AV_];lia
    have hb':deqs ds es=some b:=hb;rw [<-bW_ ds es b hb'];have:=SeqAt.RcAt.tuples (e:=eAt ds es) (A:=A) (s:=s) pl1 pl2 (BG_ (Bh_ _ _) hu) (fun j h1 h2=>by have:=e2_ I hJ ds es hr hs r1 r2 hb' hu' j (by simpa using h1) (by simpa using h2);simpa using this);simp only [As_,<-l1,<-l2,g1,g2] at this;exact DG_ hpq this
  | _=>simp [deq] at hb
 | .lst ds,e,A,x,y,u,v,b,hx,hy,rx,ry,hb,hu=>by
  cases e with
  | lst es =>
   obtain ⟨p,xs,e1,hp,hr⟩:=id hx;obtain ⟨q,ys,e2,hq,hs⟩:=id hy;subst e1 e2;cases rx;cases ry;by_cases hpq:p=q
   ·subst hpq;have:=Rep.inj _ _ hx hy;cases this;rw [iv_ _ b hb];exact De_ _
   ·obtain ⟨its,r1,pl1,_⟩:=I.list (hJ.2 _ _ hp);obtain ⟨its',r2,pl2,_⟩:=I.list (hJ.2 _ _ hq);have l1:=r1.length;have l2:=r2.length;have g1:=hr.length;have g2:=hs.length;have hu0:A.units<cLine:=BG_ (Bh_ _ _) hu;have hu':A.in1.units+deps ds<cLine:=by have:A.units+(deps ds+1)<cLine:=hu;rw [AV_];lia
    rw [deq] at hb;by_cases hl:ds.length=es.length
    ·rw [if_pos hl] at hb;rw [<-bW_ ds es b hb];have:=SeqAt.RcAt.lists (e:=eAt ds es) (A:=A) (s:=s) pl1.isList pl2.isList (by simp only [As_];lia) hu0 (fun j h1 h2=>by have:=e2_ I hJ ds es hr hs r1 r2 hb hu' j (by simpa using h1) (by simpa using h2);simpa using this);simp only [As_,<-l1,g1] at this;refine DG_ hpq ?_;have e3:min ds.length es.length=ds.length:=by lia
     rw [e3,hl];simpa [hl] using this
    ·rw [if_neg hl] at hb;cases hb;exact DG_ hpq (SeqAt.RcAt.lists_lengths pl1.isList pl2.isList (by simp only [As_,E2_,ne_eq];lia) hu0)
  | _=>simp [deq] at hb
theorem e2_ (I:Inv X pins σ H s){J:Hp}(hJ:Vw X.K H J):∀ (ds es:List Dt){A:Around}{xs ys:List V}{us vs:List Value}{b:Bool},F0_ J xs ds->F0_ J ys es->FT_ xs us->FT_ ys vs->deqs ds es=some b->A.units+deps ds<cLine ->
  ∀ (j:Nat)(h1:j<us.length)(h2:j<vs.length),SeqAt.EqAt A s us[j] vs[j] (eAt ds es j)
 | [],es,A,xs,ys,us,vs,b,hx,hy,rx,ry,hb,hu,j,h1,h2=>by
  cases hx;cases rx;exact absurd h1 (Bm_ _)
 | d::ds,es,A,xs,ys,us,vs,b,⟨x,r,e1,hd,hr⟩,hy,rx,ry,hb,hu,j,h1,h2=>by
  subst e1;cases es with
  | nil =>
   cases hy;cases ry;exact absurd h2 (Bm_ _)
  | cons e es =>
   obtain ⟨y,r',e2,he,hs⟩:=hy;subst e2;cases rx with
   | cons rx rxs =>
    cases ry with
    | cons ry rys =>
     rw [deqs] at hb;cases g1:deq d e with
     | none=>rw [g1] at hb;cases hb
     | some a =>
      cases g2:deqs ds es with
      | none=>rw [g1,g2] at hb;cases hb
      | some c =>
       have hm:A.units+max (dep d) (deps ds)<cLine:=hu;cases j with
       | zero =>
        have:=kZ_ I hJ d e (A:=A) hd he rx ry g1 (by lia);simpa [eAt,g1] using this
       | succ j =>have:=e2_ I hJ ds es (A:=A) hr hs rxs rys g2 (by lia) j (by simpa using h1) (by simpa using h2);simpa [eAt] using this
end
def K5_ (K:PySem.W.Frag):R2:=fun x y H Q=>∃ J p q d e b,Vw K H J/\x=.ref p/\y=.ref q/\Rep J x d/\Rep J y e/\deq d e=some b/\dep d<=60/\Q (.bl b) H
theorem pJ_ {K:PySem.W.Frag}(hK:X.K=K)(hu:X.A.units+64<cLine):OpR X (compareOp .Eq) (K5_ K):=by
 subst hK;intro pins s σ H x y v u Q I rx ry h;obtain ⟨J,p,q,d,e,b,hJ,e1,e2,hx,hy,hb,hd,k⟩:=h;subst e1 e2;cases rx;cases ry;have fin:EP X pins σ Q (.bool b) s:=⟨.bl b,H,I,rfl,k⟩;cases d with
 | tup ds =>
  cases e with
  | tup es =>
   obtain ⟨_,xs,z,hp,hr⟩:=hx;cases z;obtain ⟨_,ys,z,hq,hs⟩:=hy;cases z;obtain ⟨its,r1,pl1,_⟩:=I.tuple (hJ.1 _ _ hp);obtain ⟨its',r2,pl2,_⟩:=I.tuple (hJ.1 _ _ hq);have l1:=r1.length;have l2:=r2.length;have g1:=hr.length;have g2:=hs.length;have hd':deps ds+1<=60:=hd;have hu':X.A.in1.units+deps ds<cLine:=by rw [AV_];lia
   have hb':deqs ds es=some b:=hb;refine SeqAt.eq_tupleAt (e:=eAt ds es) pl1 pl2 (by lia) (fun j h1 h2=>by have:=e2_ I hJ ds es hr hs r1 r2 hb' hu' j (by simpa using h1) (by simpa using h2);simpa using this) ?_;simp only [As_,<-l1,<-l2,g1,g2];rw [bW_ ds es b hb'];exact fin
  | _=>simp [deq] at hb
 | lst ds =>
  cases e with
  | lst es =>
   obtain ⟨_,xs,z,hp,hr⟩:=hx;cases z;obtain ⟨_,ys,z,hq,hs⟩:=hy;cases z;obtain ⟨its,r1,pl1,_⟩:=I.list (hJ.2 _ _ hp);obtain ⟨its',r2,pl2,_⟩:=I.list (hJ.2 _ _ hq);have l1:=r1.length;have l2:=r2.length;have g1:=hr.length;have g2:=hs.length;have hd':deps ds+1<=60:=hd;have hu':X.A.in1.units+deps ds<cLine:=by rw [AV_];lia
   rw [deq] at hb;by_cases hl:ds.length=es.length
   ·rw [if_pos hl] at hb;refine SeqAt.eq_listAt (e:=eAt ds es) pl1.isList pl2.isList (by simp only [As_];lia) (by lia) (fun j h1 h2=>by have:=e2_ I hJ ds es hr hs r1 r2 hb hu' j (by simpa using h1) (by simpa using h2);simpa using this) ?_;have e3:=bW_ ds es b hb;have e4:min ds.length es.length=ds.length:=by lia
    rw [e4,hl] at e3;simp only [C5_,Bool.and_true] at e3;simp only [As_,<-l1,g1,hl,e3];exact fin
   ·rw [if_neg hl] at hb;cases hb;exact SeqAt.eq_list_lengthsAt pl1.isList pl2.isList (by simp only [As_,E2_,ne_eq];lia) (by lia) fin
  | _=>simp [deq] at hb
 | _=>simp [Rep] at hx
def Le_:R2:=fun x y H Q=>∃ p q d e b,x=.ref p/\y=.ref q/\Rep H x d/\Rep H y e/\deq d e=some b/\dep d<=60/\Q (.bl b) H
theorem oh_ (hu:X.A.units+64<cLine):OpR X (compareOp .Eq) Le_:=fun pins s σ H x y v u Q I rx ry ⟨p,q,d,e,b,h⟩=>pJ_ rfl hu pins s σ H x y v u Q I rx ry ⟨H,p,q,d,e,b,Vw.refl,h⟩
def K1_ (K:PySem.W.Frag):R2:=fun x y H Q=>∃ J p q d e b,Vw K H J/\x=.ref p/\y=.ref q/\Rep J x d/\Rep J y e/\deq d e=some b/\dep d<=60/\Q (.bl (!b)) H
theorem pK_ {K:PySem.W.Frag}(hK:X.K=K)(hu:X.A.units+64<cLine):OpR X (compareOp .NotEq) (K1_ K):=by
 subst hK;intro pins s σ H x y v u Q I rx ry h;obtain ⟨J,p,q,d,e,b,hJ,e1,e2,hx,hy,hb,hd,k⟩:=h;subst e1 e2;cases rx;cases ry;have fin:EP X pins σ Q (.bool (!b)) s:=⟨.bl (!b),H,I,rfl,k⟩;cases d with
 | tup ds =>
  cases e with
  | tup es =>
   obtain ⟨_,xs,z,hp,hr⟩:=hx;cases z;obtain ⟨_,ys,z,hq,hs⟩:=hy;cases z;obtain ⟨its,r1,pl1,_⟩:=I.tuple (hJ.1 _ _ hp);obtain ⟨its',r2,pl2,_⟩:=I.tuple (hJ.1 _ _ hq);have l1:=r1.length;have l2:=r2.length;have g1:=hr.length;have g2:=hs.length;have hd':deps ds+1<=60:=hd;have hu':X.A.in1.units+deps ds<cLine:=by rw [AV_];lia
   have hb':deqs ds es=some b:=hb;refine SeqAt.RcNeAt.tuples (e:=eAt ds es) pl1 pl2 (by lia) (fun j h1 h2=>by have:=e2_ I hJ ds es hr hs r1 r2 hb' hu' j (by simpa using h1) (by simpa using h2);simpa using this) _ _ _ _ ?_;simp only [As_,<-l1,<-l2,g1,g2];rw [bW_ ds es b hb'];exact fin
  | _=>simp [deq] at hb
 | lst ds =>
  cases e with
  | lst es =>
   obtain ⟨_,xs,z,hp,hr⟩:=hx;cases z;obtain ⟨_,ys,z,hq,hs⟩:=hy;cases z;obtain ⟨its,r1,pl1,_⟩:=I.list (hJ.2 _ _ hp);obtain ⟨its',r2,pl2,_⟩:=I.list (hJ.2 _ _ hq);have l1:=r1.length;have l2:=r2.length;have g1:=hr.length;have g2:=hs.length;have hd':deps ds+1<=60:=hd;have hu':X.A.in1.units+deps ds<cLine:=by rw [AV_];lia
   rw [deq] at hb;by_cases hl:ds.length=es.length
   ·rw [if_pos hl] at hb;refine SeqAt.RcNeAt.lists (e:=eAt ds es) pl1.isList pl2.isList (by simp only [As_];lia) (by lia) (fun j h1 h2=>by have:=e2_ I hJ ds es hr hs r1 r2 hb hu' j (by simpa using h1) (by simpa using h2);simpa using this) _ _ _ _ ?_;have e3:=bW_ ds es b hb;have e4:min ds.length es.length=ds.length:=by lia
    rw [e4,hl] at e3;simp only [C5_,Bool.and_true] at e3;simp only [As_,<-l1,g1,hl,e3];exact fin
   ·rw [if_neg hl] at hb;cases hb;exact SeqAt.RcNeAt.lists_lengths pl1.isList pl2.isList (by simp only [As_,E2_,ne_eq];lia) (by lia) _ _ _ _ fin
  | _=>simp [deq] at hb
 | _=>simp [Rep] at hx
def KV_:R2:=fun x y H Q=>∃ p q d e b,x=.ref p/\y=.ref q/\Rep H x d/\Rep H y e/\deq d e=some b/\dep d<=60/\Q (.bl (!b)) H
theorem jn_ (hu:X.A.units+64<cLine):OpR X (compareOp .NotEq) KV_:=fun pins s σ H x y v u Q I rx ry ⟨p,q,d,e,b,h⟩=>pK_ rfl hu pins s σ H x y v u Q I rx ry ⟨H,p,q,d,e,b,Vw.refl,h⟩
end
end L2
namespace L2
open PySem PySem.Spec PyProof.Rows
section
variable {X:Cx}{pins:List (Addr×Obj)}{σ:St}{H:Hp}{s:Shared}{h':Heap}
theorem Inv.turnedL {t':Nat}{ch:List Addr}(I:Inv X pins σ H s)(k:∀ b o,b∉ch->s.heap.get? b=some o->h'.get? b=some o)(hf:∀ b∈ch,HM_ X pins H b):Inv X pins σ H { s with heap:=h',toks:=t' }:=by
 have nit:∀ b u,H b=some u->b∉ch:=fun b u e z=>by rw [(hf b z).1] at e;cases e
 refine I.step (g':=s.gens) (d':=s.drawn) (ch:=ch) (fun b hb=>?_) (fun b o _ _ hc e _=>k b o hc e) (fun b o _ _ hc e _=>⟨o.slots,k b o hc e⟩) (fun _ _ _ _ n=>n)
  (fun b o hc e=>⟨o,k b o hc e⟩) (fun _ _ e=>e) (fun _ _ _ e=>e) (fun b ps e=>⟨#[],by rw [e];simp⟩) (fun m hm=>?_) (fun b u e=>?_) I.bare
 ·obtain ⟨g0,g1,g2,g3,g4,g5⟩:=hf b hb;exact ⟨g3,g1,g4,g5⟩
 ·obtain ⟨o,es,ep,ho,r⟩:=hm;exact ⟨o,es,ep,k _ o (fun z=>(hf _ z).2.1 rfl) ho,r⟩
 ·refine (I.hok b u e).stay (fun c v hc q=>k c v ?_ q) (fun _ q=>q) fun _ _ q=>q
  rcases hc with z|z
  ·rw [z];exact nit b u e
  ·exact nit c _ z
end
section
variable {X:Cx}{elts:List Expr}{kt:Nat}{tpos:Pos}
end
def I0_:List V->Hp->VK->Prop:=fun xs H Q=>∃ p ys,xs=[V.ref p]/\(H p=some (.lst ys)\/H p=some (.tup ys))/\∀ l,H l=none->Q (.ref l) (upd H l (.lst ys))
theorem dn_ {X:Cx}:GE_ X (.type "list") I0_:=by intro pins s σ H xs us Q I r h;obtain ⟨p,ys,e,hp,q⟩:=h;exact jg_ pins s σ H xs us Q I r ⟨p,ys,e,hp.imp (fun z=>.inl (.inl z)) (fun z=>.inl (.inl z)),q⟩
theorem cs_ {X:Cx}{x:Str}{e:Expr}{es:List Expr}{t:TA}{p pos:Pos}{n:String}{r:List V->Hp->VK->Prop}(hc:GE_ X (.type n) r)(hg:Gl X x)(hm:X.mg x=none)(hv:bootBuiltins x=some (.type n))(ha:PA X (e::es) t)(hs:FJ_ (e::es)=true:=by rfl) (hn:x ≠ "__name__" := by decide) (hdb:(x == ("__debug__" : Str))=false:=by decide) :
  PE X (.Call (.Name x p) (e::es) [] pos) (tCB r t) :=
 have h':Go_ e=true/\FJ_ es=true:=by simpa [FJ_] using hs
 me_ hc hg hm hv ha hn hdb (an_ h'.1) (cc_ h'.2)
end L2
namespace L2
open PySem PySem.Spec PyProof.Rows
def Hm_ (B H:Hp):Hp:=fun b=>match B b with|some _=>none|none=>H b
def Ic_ (B:Hp)(D:Addr)(H:Hp):Hp:=fun b=>if b=D then none else Hm_ B H b
theorem bq_ {B H:Hp}{b:Addr}{o:HO}(h:Hm_ B H b=some o):B b=none/\H b=some o:=by
 unfold Hm_ at h;cases e:B b with
 | some z=>rw [e] at h;cases h
 | none=>rw [e] at h;exact ⟨rfl,h⟩
theorem dF_ {B H:Hp}{b:Addr}(h:B b=none):Hm_ B H b=H b:=by unfold Hm_;rw [h]
theorem mn_ {B H:Hp}{D b:Addr}{o:HO}(h:Ic_ B D H b=some o):b≠D/\B b=none/\H b=some o:=by
 unfold Ic_ at h;by_cases e:b=D
 ·rw [if_pos e] at h;cases h
 ·rw [if_neg e] at h;exact ⟨e,bq_ h⟩
theorem dG_ {B H:Hp}{D b:Addr}(e:b≠D)(h:B b=none):Ic_ B D H b=H b:=by unfold Ic_;rw [if_neg e,dF_ h]
theorem fx_ {B H:Hp}:Fx_ (Hm_ B H) H:=fun b o h=>(bq_ h).2
theorem k0_ {B H:Hp}{D:Addr}:Fx_ (Ic_ B D H) (Hm_ B H):=fun b o h=>by obtain ⟨h1,h2,h3⟩:=mn_ h;rw [dF_ h2];exact h3
theorem jo_ {B H H':Hp}{D:Addr}(e:Fx_ H H'):Fx_ (Ic_ B D H) (Ic_ B D H'):=fun b o h=>by obtain ⟨h1,h2,h3⟩:=mn_ h;rw [dG_ h1 h2];exact e _ _ h3
theorem jp_ {B H H':Hp}(e:Fx_ H H'):Fx_ (Hm_ B H) (Hm_ B H'):=fun b o h=>by obtain ⟨h1,h2⟩:=bq_ h;rw [dF_ h1];exact e _ _ h2
theorem k1_ {B H:Hp}{D:Addr}{o:HO}:Ic_ B D (upd H D o)=Ic_ B D H:=by
 funext b;unfold Ic_ Hm_;by_cases e:b=D
 ·rw [if_pos e,if_pos e]
 ·rw [if_neg e,if_neg e,af_ e]
theorem dH_ {J:It}{g:TG}{te:TE}{σ:St}{H:Hp}{Q:VK}(n:Nat)(B:Hp)(Pσ:St->Prop)(ds:List Dt)(hB:Fx_ B H)(h0:Pσ σ)(hlen:ds.length=n)(hz:n<=1000)
  (hgo:∀ i H',i<n->Fx_ H H'->J.go i H') (hst:∀ H',Fx_ H H'->J.stop n H')
  (hs:∀ D i x d σ' H' H'',H D=none->(∃ o,H' D=some o)->Fx_ H H'->i<n->ds[i]?=some d->J.yld i H' x H''->Pσ σ'->∀ R:St->V->Hp->Prop,
   (∀ σ2 v H3,Pσ σ2->Fx_ H' H3->Rep (Ic_ B D H3) v d->R σ2 v H3)->g x σ' H'' fun σ2 H2=>te σ2 H2 fun v H3=>R σ2 v H3)
  (hd:∀ D H',H D=none->Fx_ H H'->Rep (Hm_ B H') (.ref D) (.lst ds)->Q (.ref D) H'):HC_ J g Kp_ te σ H Q:=by
 intro D hD;have hBD:B D=none:=hB.free hD;refine ⟨fun i m σ' H'=>m=n-i/\i<=n/\Pσ σ'/\Fx_ H H'/\∃ ys,H' D=some (.lst ys)/\F0_ (Ic_ B D H') ys (ds.take i)/\ys.length=i,⟨n,by simp,Ay_ _,h0,Fx_.new hD,[],aa_,rfl,rfl⟩,?_⟩;rintro i m σ' H' ⟨rfl,hi,hp,hs',ys,hys,hr,hl⟩;by_cases hlt:i<n
 ·refine .inr ⟨hgo i H' hlt hs',fun σ2 H2=>Pσ σ2/\Fx_ H H2/\∃ ys,H2 D=some (.lst ys)/\F0_ (Ic_ B D H2) ys (ds.take (i+1))/\ys.length=i+1,fun σ2 H2 ⟨a,b,c⟩=>⟨n-(i+1),by lia,rfl,hlt,a,b,c⟩,fun x H'' hy=>?_⟩;have hdi:ds[i]?=some ds[i]:=by simp [hlen,hlt]
  simp only [Kp_,if_true];refine hs D i x ds[i] σ' H' H'' hD ⟨_,hys⟩ hs' hlt hdi hy hp _ fun σ2 v H3 hp2 s3 hv=>?_;refine ⟨ys,s3 _ _ hys,by rw [hl];exact Fw_ (by lia),hp2,(hs'.trans s3).upd hD,ys++[v],aa_,?_,by simp [hl]⟩;rw [k1_];have e:ds.take (i+1)=ds.take i++[ds[i]]:=by rw [BO_,hdi];rfl
  rw [e];exact (F0_.mono (jo_ s3) _ hr).append ⟨v,[],rfl,hv,rfl⟩
 ·have e:i=n:=by lia
  subst e;refine .inl ⟨hst H' hs',hd D H' hD hs' ⟨D,ys,rfl,?_,?_⟩⟩
  ·rw [dF_ hBD];exact hys
  ·rw [BD_ (by lia)] at hr;exact F0_.mono k0_ _ hr
theorem F0_.of_get {H:Hp}{xs:List V}{ds:List Dt}{i:Nat}{x:V}(h:F0_ H xs ds)(e:xs[i]?=some x):∃ d,ds[i]?=some d/\Rep H x d:=by
 have hi:i<xs.length:=(Ae_.mp e).1;have hi':i<ds.length:=by rw [<-h.length];exact hi
 obtain ⟨y,hy,hr⟩:=h.get (i:=i) (d:=ds[i]) (by simp [hi']);rw [e] at hy;cases hy;exact ⟨ds[i],by simp [hi'],hr⟩
theorem aS_ {X:Cx}{K:PySem.W.Frag}{es:List Expr}{k:Nat}{t:TGs}{n:Nat}{pos:Pos}(hK:X.K=K)(hc:X.calm=true)(h:PGs X es t)
  (hn:(assignEach es X.env).length=n:=by rfl) (hst:(assignEach es X.env).findIdx? (·.1)=none:=by rfl):PG X (.Tuple es k pos) (KO_ K n t):=hK ▸ px_ hc h hn hst
end L2
namespace L2
open PySem PySem.Spec PyProof.Rows
def Pl2 (h:Heap)(e:Addr):Prop:=∃ o vs,h.get? e=some o/\o.data=.fields vs/\vs[2]?=some .none
def IU_ (base:Heap)(l:List Env)(e:Addr)(cls a0 fl:Value)(h:Heap):Prop:=base.StaysIn h/\base.get? e=none/\h.FunFrames base l/\h.TracedAtW base e cls a0 fl/\Pl2 h e
theorem IU_.there {base:Heap}{l:List Env}{e:Addr}{cls a0 fl:Value}{h:Heap}(x:IU_ base l e cls a0 fl h):∃ ob,h.get? e=some ob/\ob.cls=cls:=x.2.2.2.1.there
section
variable {M:Model}{A:Around}{E:Value->Shared->Prop}{s:Shared}{base:Heap}{env:Env}{outer:List Env}{L e:Addr}{Q:Unit->Shared->Prop}
theorem IU_.less {cls a0 fl:Value}{h:Heap}(x:IU_ base (env::outer) e cls a0 fl h):IU_ base outer e cls a0 fl h:=⟨x.1,x.2.1,x.2.2.1.2.2,x.2.2.2⟩
end
end L2
namespace L2
open PySem PySem.Spec PyProof.Rows
theorem F2_.obj {P:Program}{w:World}{H:Hp}{h:Heap}{a:Addr}{o:HO}(x:F2_ P w H h a o):∃ u,h.get? a=some u:=by
 cases o with
 | lst xs=>obtain ⟨_,_,_,_,e⟩:=x;exact ⟨_,e⟩
 | tup xs=>obtain ⟨_,_,_,ob,e,_⟩:=x;exact ⟨_,e⟩
 | dK kvs=>obtain ⟨_,_,_,_,o,_,_,e,_⟩:=x;exact ⟨_,e⟩
 | dT kvs=>obtain ⟨_,_,_,_,o,_,_,e,_⟩:=x;exact ⟨_,e⟩
 | set S n=>obtain ⟨o,_,_,_,e,_⟩:=x;exact ⟨_,e⟩
 | ins C dx fs=>obtain ⟨_,_,_,e,_⟩:=x;exact ⟨_,e⟩
 | own y=>exact x
 | xd fs=>obtain ⟨_,⟨_,_,_,e,_⟩,_⟩:=x;exact ⟨_,e⟩
 | rng lo hi=>obtain ⟨_,_,_,e⟩:=x;exact ⟨_,e⟩
 | frz ob u=>obtain ⟨e,_⟩:=x;exact ⟨_,e⟩
 | tbl ps=>exact ⟨_,show h.get? a=some _ from x⟩
 | met f y=>exact ⟨_,show h.get? a=some _ from x⟩
 | ext φ=>obtain ⟨_,e,_⟩:=x;exact e
structure ExC (K:PySem.W.Frag)(C:Addr):Prop where
 obj:∀ {h:Heap},K.In h->∃ bm N nm q bs hdct sn sub ab col dd k0 k1 k2 k3 k5 mN,h.get? C=some (excClassObj nm q C N bs bm hdct sn sub ab col dd k0 k1 k2 k3 k5 "ValueError.__new__")/\h.Ns N mN/\mN "__init__" = none /\
  OwnTail h [.type "ValueError",.type "Exception",.type "BaseException",.type "object"] bm
section
variable {P:Program}{w:World}{K:PySem.W.Frag}{mg:Str->Option Value}{base:Heap}{N:List Str}{qual:Str}{scope:Scope}{f:Addr}{cd:Value}{A:Around}{outer:List Env}{s₀:Shared}{H₀:Hp}{E:XK}
end
section
variable {X:Cx}{pins:List (Addr×Obj)}{σ:List (Option V)}{H:Hp}{s:Shared}
end
structure HnC (K:PySem.W.Frag)(C:Addr):Prop where
 ty:PySem.W.typeIn K (.ref C)=some (.type "type")
 cl:(PySem.W.clsIn K C).isSome=true
 ex:PySem.W.mroIn K C (.type "BaseException")=some true
abbrev calmed (A:Around):Around:={ A with handled:=none }
structure FnOkH (P:Program)(w:World)(K:PySem.W.Frag)(mg:Str->Option Value)(base:Heap)(k:Nat)(f:Addr)(fd:FuncData)(ps:List Str)(sp:Sp):Prop where
 len:∀ vs H Q E,sp vs H Q E->vs.length=ps.length
 run:∀ (A:Around)(outer:List Env)(s:Shared)(H:Hp)(args:Args)(us:List Value)(vs:List V)(Q:VK)(E:XK),GK_ k (calmed A)->Jh_ P w K mg base A outer s H->BindsTo s fd args (ps.zip us)->FT_ vs us->sp vs H Q E ->
  codeAny (model P w) A (.call (.ref f) args) (CR CX0 outer P w H s Q E) s
end L2
namespace L2
open PySem PySem.Spec PyProof.Rows
section
variable {X:Cx}{x:Str}{ps:List Str}{k:Nat}{sp:Sp}{e:Expr}{es:List Expr}{t:TA}{p pos:Pos}{E:XK}
end
structure KitE (K:PySem.W.Frag)(C:Addr):Prop where
 cl:(PySem.W.clsIn K C).isSome=true
 ga:PySem.W.findIn K (.ref C) "__getattribute__" = some (some (.builtin "BaseException.__getattribute__"))
 gh:PySem.W.findIn K (.ref C) "__getattr__" = some none
 at_:PySem.W.findIn K (.ref C) "__class__" = some (some (.builtin "object.__class__"))
 get:PySem.W.specialIn K (.builtin "object.__class__") "__get__" = some (some (.builtin "getset_descriptor.__get__"))
 set:PySem.W.takesIn K (.builtin "object.__class__")=some true
 obj:PySem.W.mroIn K C (.type "object")=some true
 exc:PySem.W.mroIn K C (.type "BaseException")=some true
def LK_ (x:Addr)(D:Value)(h:Heap):Prop:=∃ o,h.get? x=some o/\o.cls=D
theorem LK_.ty {x:Addr}{D:Value}{M:Model}{h:Heap}(p:LK_ x D h):PySem.W.Looks M h (typeOf (.ref x)) D:=by obtain ⟨o,h1,h2⟩:=p;exact h2 ▸ (PySem.W.Looks.ld h1).andThen .now
end L2
namespace L2
open PySem PySem.Spec PyProof.Rows
def Lg_:V->Option Int->Option Int->Hp->VK->Prop:=fun x lo hi H Q=>∃ a xs,x=.ref a/\H a=some (.lst xs)/\∀ p,H p=none->Q (.ref p) (upd H p (.lst (HJ_ xs lo hi)))
theorem ct_ {X:Cx}:SlR X Lg_:=by intro pins s σ H x v vl vu lo hi sl Q I rx hs pl pu h;obtain ⟨a,xs,e,hx,q⟩:=h;exact oQ_ pins s σ H x v vl vu lo hi sl Q I rx hs pl pu ⟨a,xs,e,.inl (.inl hx),q⟩
theorem iw_ (xs:List V)(k:Nat)(h:k<=xs.length):HJ_ xs (some (k:Int)) none=xs.drop k:=by unfold HJ_;rw [HT.sIx_nat,HT.sIx_none,Eu_ h];exact BD_ (by simp)
theorem k2_ (xs:List V)(k:Nat)(h:k<=xs.length):HJ_ xs none (some (k:Int))=xs.take k:=by unfold HJ_;rw [HT.sIx_nat,HT.sIx_none,Eu_ h];simp
end L2
namespace L2
open PySem PySem.Spec PyProof.Rows
theorem nA_ {J:It}{g:TG}{tt:TT}{te:TE}{σ:St}{H:Hp}{Q:VK}(n:Nat)(Pσ:St->Prop)(bs:Nat->Bool)(val:Nat->V)(h0:Pσ σ)(hz:n<=1000)(hgo:∀ i H',i<n->Fx_ H H'->J.go i H')(hst:∀ H',Fx_ H H'->J.stop n H')
  (hs:∀ D i x σ' H' H'',H D=none->(∃ o,H' D=some o)->Fx_ H H'->i<n->J.yld i H' x H''->Pσ σ'->∀ (Y:St->V->Hp->Prop)(R:St->Hp->Prop),(bs i=true->∀ σ2 H3,Pσ σ2->Fx_ H' H3->Y σ2 (val i) H3)->(bs i=false->∀ σ2 H3,Pσ σ2->Fx_ H' H3->R σ2 H3) ->
   g x σ' H'' fun σ2 H2=>tt σ2 H2 fun b H3=>if b=true then te σ2 H3 fun v H4=>Y σ2 v H4 else R σ2 H3)
  (hd:∀ D H',H D=none->Fx_ H H'->H' D=some (.lst (((List.range n).filter bs).map val))->Q (.ref D) H'):HC_ J g tt te σ H Q:=by
 intro D hD;refine ⟨fun i m σ' H'=>m=n-i/\i<=n/\Pσ σ'/\Fx_ H H'/\H' D=some (.lst (((List.range i).filter bs).map val)),⟨n,by simp,Ay_ _,h0,Fx_.new hD,aa_⟩,?_⟩;rintro i m σ' H' ⟨rfl,hi,hp,hs',hDD⟩;by_cases hlt:i<n
 ·refine .inr ⟨hgo i H' hlt hs',fun σ2 H2=>Pσ σ2/\Fx_ H H2/\H2 D=some (.lst (((List.range (i+1)).filter bs).map val)),fun σ2 H2 ⟨a,b,c⟩=>⟨n-(i+1),by lia,rfl,hlt,a,b,c⟩,fun x H'' hy=>?_⟩;refine hs D i x σ' H' H'' hD ⟨_,hDD⟩ hs' hlt hy hp _ _ (fun hb σ2 H3 hp2 s3=>?_) fun hb σ2 H3 hp2 s3=>?_
  ·refine ⟨_,s3 _ _ hDD,?_,hp2,(hs'.trans s3).upd hD,?_⟩
   ·rw [Ab_];have:=C8_ bs (List.range i);rw [Bl_] at this;exact Fw_ (by lia)
   ·rw [aa_,CQ_,Dz_,Aq_];simp [hb]
  ·refine ⟨hp2,hs'.trans s3,?_⟩;rw [CQ_,Dz_,Aq_];have e:[i].filter bs=[]:=by simp [hb]
   rw [e,CR_,BC_];exact s3 _ _ hDD
 ·have e:i=n:=by lia
  subst e;exact .inl ⟨hst H' hs',hd D H' hD hs' hDD⟩
end L2
namespace L2
open PySem PySem.Spec PyProof.Rows PySem.W
def noD (D:Addr)(H:Hp):Hp:=fun b=>if b=D then none else H b
theorem jq_ {D b:Addr}{H:Hp}(h:b≠D):noD D H b=H b:=if_neg h
theorem k3_ {D:Addr}{H:Hp}:Fx_ (noD D H) H:=fun b o e=>by
 unfold noD at e;split at e
 ·cases e
 ·exact e
theorem mo_ {D:Addr}{H:Hp}{o:HO}:noD D (upd H D o)=noD D H:=by
 funext b;unfold noD;by_cases h:b=D
 ·rw [if_pos h,if_pos h]
 ·rw [if_neg h,if_neg h,af_ h]
theorem pL_ {D:Addr}{H H':Hp}(s:Fx_ H H')(h:H D=none):Fx_ H (noD D H'):=fun b o e=>by rw [jq_ (ae_ e h)];exact s _ _ e
theorem gX_ {D:Addr}{H H':Hp}(s:Fx_ H H'):Fx_ (noD D H) (noD D H'):=fun b o e=>by
 unfold noD at e ⊢;by_cases h:b=D
 ·rw [if_pos h] at e;cases e
 ·rw [if_neg h] at e ⊢;exact s _ _ e
theorem ei_ {J:It}{g:TG}{tt:TT}{te:TE}{σ:St}{H:Hp}{Q:VK}(n:Nat)(Pσ:St->Prop)(Pv:Nat->List V->Hp->Prop)(h0:Pσ σ)(hz:n<=1000)(p0:Pv 0 [] H)(mono:∀ i vs H1 H2,Fx_ H1 H2->Pv i vs H1->Pv i vs H2)(len:∀ i vs H1,Pv i vs H1->vs.length<=i)
  (hgo:∀ i H',i<n->Fx_ H H'->J.go i H') (hst:∀ H',Fx_ H H'->J.stop n H')
  (hs:∀ D i x σ' H' H'' vs,H D=none->(∃ o,H' D=some o)->Fx_ H H'->i<n->J.yld i H' x H''->Pσ σ'->Pv i vs (noD D H')->∀ (Y:St->V->Hp->Prop)(R:St->Hp->Prop),(∀ v σ2 H3,Pσ σ2->Fx_ H' H3->Pv (i+1) (vs++[v]) (noD D H3)->Y σ2 v H3)->(∀ σ2 H3,Pσ σ2->Fx_ H' H3->Pv (i+1) vs (noD D H3)->R σ2 H3) ->
   g x σ' H'' fun σ2 H2=>tt σ2 H2 fun b H3=>if b=true then te σ2 H3 fun v H4=>Y σ2 v H4 else R σ2 H3)
  (hd:∀ D H' vs,H D=none->Fx_ H H'->H' D=some (.lst vs)->Pv n vs (noD D H')->Q (.ref D) H'):HC_ J g tt te σ H Q:=by
 intro D hD;refine ⟨fun i m σ' H'=>m=n-i/\i<=n/\Pσ σ'/\Fx_ H H'/\∃ vs,H' D=some (.lst vs)/\Pv i vs (noD D H'),⟨n,by simp,Ay_ _,h0,Fx_.new hD,[],aa_,mono _ _ _ _ (by rw [mo_];exact pL_ (fun _ _ e=>e) hD) p0⟩,?_⟩;rintro i m σ' H' ⟨rfl,hi,hp,hs',vs,hDD,pv⟩;by_cases hlt:i<n
 ·refine .inr ⟨hgo i H' hlt hs',fun σ2 H2=>Pσ σ2/\Fx_ H H2/\∃ vs,H2 D=some (.lst vs)/\Pv (i+1) vs (noD D H2),fun σ2 H2 ⟨a,b,c⟩=>⟨n-(i+1),by lia,rfl,hlt,a,b,c⟩,fun x H'' hy=>?_⟩;refine hs D i x σ' H' H'' vs hD ⟨_,hDD⟩ hs' hlt hy hp pv _ _ (fun v σ2 H3 hp2 s3 pv3=>?_) fun σ2 H3 hp2 s3 pv3=>?_
  ·refine ⟨_,s3 _ _ hDD,?_,hp2,(hs'.trans s3).upd hD,_,aa_,by rw [mo_];exact pv3⟩;have:=len _ _ _ pv;exact Fw_ (by lia)
  ·exact ⟨hp2,hs'.trans s3,vs,s3 _ _ hDD,pv3⟩
 ·have e:i=n:=by lia
  subst e;exact .inl ⟨hst H' hs',hd D H' vs hD hs' hDD pv⟩
end L2
namespace L2
open PySem PySem.Spec PyProof.Rows
def grow (S H H':Hp):Hp:=fun b=>match H b with|some _=>S b|none=>H' b
theorem eI_ {S H H':Hp}{b:Addr}{o:HO}(h:H b=some o):grow S H H' b=S b:=by unfold grow;rw [h]
theorem ix_ {S H H':Hp}{b:Addr}(h:H b=none):grow S H H' b=H' b:=by unfold grow;rw [h]
theorem cC_ {S H H':Hp}(s:Fx_ S H):Fx_ S (grow S H H'):=fun b o h=>by rw [eI_ (s _ _ h)];exact h
theorem iy_ {S H H':Hp}(s:Fx_ S H)(t:Fx_ H H'):Fx_ (grow S H H') H':=fun b o h=>by
 unfold grow at h;cases e:H b with
 | some z=>rw [e] at h;exact t _ _ (s _ _ h)
 | none=>rw [e] at h;exact h
theorem aL_ {S H:Hp}{a:Addr}{o:HO}(s:Fx_ S H)(h:S a=none):Fx_ S (upd H a o):=fun b z e=>by rw [af_ (ae_ e h)];exact s _ _ e
theorem fy_ {S H:Hp}{a:Addr}{o:HO}(s:Fx_ S H)(h:H a=none):Fx_ (upd S a o) (upd H a o):=fun b z e=>by
 by_cases q:b=a
 ·subst q;rw [aa_] at e ⊢;exact e
 ·rw [af_ q] at e ⊢;exact s _ _ e
theorem a2_ {S H:Hp}{a:Addr}{o:HO}(s:Fx_ S H)(h:H a=none):Fx_ S (upd S a o):=Fx_.new (s.free h)
end L2
namespace L2
open PySem PySem.Spec PyProof.Rows
end L2
namespace L2
open PySem PySem.Spec PyProof.Rows
end L2
namespace L2
open PySem PySem.Spec PyProof.Rows
end L2
namespace L2
open PySem PySem.Spec PyProof.Rows
end L2
namespace L2
open PySem PySem.Spec PyProof.Rows
end L2
namespace L2
open PySem PySem.Spec PyProof.Rows
end L2
namespace L2
open PySem PySem.Spec PyProof.Rows
end L2
namespace L2
open PySem PySem.Spec PyProof.Rows
end L2
namespace L2
open PySem PySem.Spec PyProof.Rows
end L2
namespace L2
open PySem PySem.Spec PyProof.Rows
end L2
namespace L2
open PySem PySem.Spec PyProof.Rows
section
variable {κ:Type}[DecidableEq κ]
def F9_ (kvs:List (κ×V))(k:κ):Option V:=(kvs.find? fun kv=>decide (kv.1=k)).map (·.2)
def Ge_ (kvs:List (κ×V))(k:κ)(v:V):List (κ×V) :=
 if (kvs.any fun kv=>decide (kv.1=k))=true then kvs.map (fun kv=>if kv.1=k then (kv.1,v) else kv) else kvs++[(k,v)]
def Kt_ (kvs:List (κ×V))(k:κ):List (κ×V):=kvs.filter fun kv=>decide (kv.1≠k)
theorem bh_ {p:κ×V}{r:List (κ×V)}{k:κ}(e:p.1=k):F9_ (p::r) k=some p.2:=by simp [F9_,BT_,e]
theorem a7_ {p:κ×V}{r:List (κ×V)}{k:κ}(e:¬ p.1=k):F9_ (p::r) k=F9_ r k:=by simp [F9_,BT_,e]
theorem cR_ (k:κ):∀ kvs:List (κ×V),(kvs.any fun kv=>decide (kv.1=k))=(F9_ kvs k).isSome
 | []=>rfl
 | p::r=>by
  rw [Cp_];by_cases e:p.1=k
  ·simp only [bh_ e,A5_ e,Bool.true_or,Option.isSome_some]
  ·rw [a7_ e,AN_ e,Bool.false_or];exact cR_ k r
theorem k4_ (k j:κ)(y:V):∀ kvs:List (κ×V),F9_ (kvs.map fun kv=>if kv.1=k then (kv.1,y) else kv) j=(F9_ kvs j).map fun x=>if j=k then y else x
 | []=>rfl
 | p::r=>by
  have ih:=k4_ k j y r;rw [AG_];by_cases h:p.1=k
  ·rw [if_pos h];by_cases e:p.1=j
   ·rw [bh_ (p:=(p.1,y)) e,bh_ e,Cs_,if_pos (e.symm.trans h)]
   ·rw [a7_ (p:=(p.1,y)) e,a7_ e,ih]
  ·rw [if_neg h];by_cases e:p.1=j
   ·rw [bh_ (p:=p) e,bh_ e,Cs_,if_neg (fun z=>h (e.trans z))]
   ·rw [a7_ (p:=p) e,a7_ e,ih]
theorem jr_ (k j:κ)(y:V):∀ kvs:List (κ×V),F9_ kvs k=none->F9_ (kvs++[(k,y)]) j=if j=k then some y else F9_ kvs j
 | [],_=>by
  by_cases e:k=j
  ·rw [if_pos e.symm];exact bh_ (p:=(k,y)) e
  ·rw [if_neg (fun z=>e z.symm)];exact a7_ (p:=(k,y)) e
 | p::r,hn=>by
  rw [List.cons_append];have hk:¬ p.1=k:=fun z=>by rw [bh_ z] at hn;cases hn
  rw [a7_ hk] at hn;have ih:=jr_ k j y r hn;by_cases e:p.1=j
  ·rw [bh_ e,bh_ e,if_neg (fun z=>hk (e.trans z))]
  ·rw [a7_ e,a7_ e,ih]
theorem aE_ (kvs:List (κ×V))(k j:κ)(y:V):F9_ (Ge_ kvs k y) j=if j=k then some y else F9_ kvs j:=by
 unfold Ge_;by_cases a:(kvs.any fun kv=>decide (kv.1=k))=true
 ·rw [if_pos a,k4_];rw [cR_] at a;by_cases e:j=k
  ·obtain ⟨x,hx⟩:=D5_.mp a;rw [if_pos e,e,hx,Cs_,if_pos rfl]
  ·rw [if_neg e];cases F9_ kvs j with
   | none=>rfl
   | some x=>rw [Cs_,if_neg e]
 ·rw [if_neg a];refine jr_ k j y kvs ?_;rw [cR_] at a;cases q:F9_ kvs k with
  | none=>rfl
  | some x=>rw [q] at a;exact (a rfl).elim
theorem aH_ (kvs:List (κ×V))(k:κ)(v:V):(Ge_ kvs k v).length<=kvs.length+1:=by
 unfold Ge_;split
 ·rw [Ab_];lia
 ·rw [Af_,AZ_,List.length_nil];lia
theorem nB_ {kvs:List (κ×V)}{k:κ}(v:V)(h:F9_ kvs k=none):Ge_ kvs k v=kvs++[(k,v)]:=by unfold Ge_;rw [cR_,h];exact if_neg (by decide)
theorem Ij_.isSome_eq {o:Option V}{u:Option Value}(r:Ij_ o u):o.isSome=u.isSome:=by
 cases o with
 | none=>cases u with
  | none=>rfl
  | some _=>exact (show False from r).elim
 | some _=>cases u with
  | none=>exact (show False from r).elim
  | some _=>rfl
theorem Ij_.getD {o:Option V}{u:Option Value}{d:V}{d':Value}(r:Ij_ o u)(rd:F1_ d d'):F1_ (o.getD d) (u.getD d'):=by
 cases o with
 | none=>cases u with
  | none=>exact rd
  | some _=>exact (show False from r).elim
 | some _=>cases u with
  | none=>exact (show False from r).elim
  | some _=>exact r
theorem KV.val {kvs:List (κ×V)}{vs:List (κ×Value)}(r:KV kvs vs)(k:κ):Ij_ (F9_ kvs k) (valueAt vs k):=by
 unfold KV at r
 induction r with
 | nil=>exact True.intro
 | @cons p q ps qs h t ih =>
  obtain ⟨h1,h2⟩:=h;by_cases e:p.1=k
  ·have e':q.1=k:=h1.symm.trans e;have b:valueAt (q::qs) k=some q.2:=by simp [valueAt,BT_,e']
   rw [bh_ e,b];exact h2
  ·have e':¬ q.1=k:=fun z=>e (h1.trans z);have b:valueAt (q::qs) k=valueAt qs k:=by simp [valueAt,BT_,e']
   rw [a7_ e,b];exact ih
theorem KV.any {kvs:List (κ×V)}{vs:List (κ×Value)}(r:KV kvs vs)(k:κ):(kvs.any fun kv=>decide (kv.1=k))=vs.any fun kv=>decide (kv.1=k):=by
 unfold KV at r
 induction r with
 | nil=>rfl
 | cons h t ih=>rw [Cp_,Cp_,ih,h.1]
theorem KV.repl {kvs:List (κ×V)}{vs:List (κ×Value)}(r:KV kvs vs)(k:κ){y:V}{u:Value}(ry:F1_ y u) :
  KV (kvs.map fun kv=>if kv.1=k then (kv.1,y) else kv) (vs.map fun kv=>if kv.1=k then (kv.1,u) else kv):=by
 unfold KV at r ⊢
 induction r with
 | nil=>exact .nil
 | @cons p q ps qs h t ih =>
  rw [AG_,AG_];refine .cons ?_ ih;obtain ⟨h1,h2⟩:=h;by_cases e:p.1=k
  ·rw [if_pos e,if_pos (h1.symm.trans e)];exact ⟨h1,ry⟩
  ·rw [if_neg e,if_neg (fun z=>e (h1.trans z))];exact ⟨h1,h2⟩
theorem KV.put {kvs:List (κ×V)}{vs:List (κ×Value)}(r:KV kvs vs)(k:κ){y:V}{u:Value}(ry:F1_ y u):KV (Ge_ kvs k y) (stored vs k u):=by
 unfold Ge_ stored;rw [r.any k];by_cases e:(vs.any fun kv=>decide (kv.1=k))=true
 ·rw [if_pos e,if_pos e];exact r.repl k ry
 ·rw [if_neg e,if_neg e];exact Dt_ r ⟨rfl,ry⟩
theorem KV.drop {kvs:List (κ×V)}{vs:List (κ×Value)}(r:KV kvs vs)(k:κ):KV (Kt_ kvs k) (without vs k):=by
 unfold KV at r ⊢;unfold Kt_ without
 induction r with
 | nil=>exact .nil
 | @cons p q ps qs h t ih =>
  obtain ⟨h1,h2⟩:=h;rw [DZ_,DZ_];by_cases e:p.1=k
  ·have a:¬ decide (p.1≠k)=true:=by simp [e]
   have b:¬ decide (q.1≠k)=true:=by simp [h1.symm.trans e]
   rw [if_neg a,if_neg b];exact ih
  ·have e':¬ q.1=k:=fun z=>e (h1.trans z);have a:decide (p.1≠k)=true:=by simp [e]
   have b:decide (q.1≠k)=true:=by simp [e']
   rw [if_pos a,if_pos b];exact .cons ⟨h1,h2⟩ ih
theorem KV.keys {kvs:List (κ×V)}{vs:List (κ×Value)}(r:KV kvs vs):kvs.map (·.1)=vs.map (·.1):=by
 unfold KV at r
 induction r with
 | nil=>rfl
 | cons h t ih=>rw [AG_,AG_,ih,h.1]
theorem KV.length {kvs:List (κ×V)}{vs:List (κ×Value)}(r:KV kvs vs):kvs.length=vs.length:=By_ r
end
theorem HZ_ {P:Program}{w:World}{k:Key}{u:Value}(r:F1_ (kV k) u):(FM_ P w).is k u=true:=by
 cases k with
 | inl i=>obtain ⟨t,e⟩:=(show ∃ t,u=Value.int i t from r);subst e;exact j7_ P w i t
 | inr x=>obtain ⟨t,e⟩:=(show ∃ t,u=Value.str x t from r);subst e;exact j8_ P w x t
theorem js_ {P:Program}{w:World}:∀ {ks:List Key}{us:List Value},FT_ (ks.map kV) us->ItemsAre (FM_ P w) ks us
 | [],_,r=>by rw [CR_] at r;cases r;exact .nil
 | k::ks,_,r=>by
  rw [AG_] at r;cases r with
  | cons h t=>exact .cons (HZ_ h) (js_ t)
abbrev KT (H:Hp):List (List Key×V)->List (List Key×Addr×Value)->Prop:=Paired fun p q=>p.1=q.1/\H q.2.1=some (.tup (p.1.map kV))/\F1_ p.2 q.2.2
theorem KT.val {H:Hp}{kvs:List (List Key×V)}{xs:List (List Key×Addr×Value)}(r:KT H kvs xs)(k:List Key):Ij_ (F9_ kvs k) ((atKey xs k).map (·.2)):=by
 induction r with
 | nil=>exact True.intro
 | @cons p q ps qs h t ih =>
  obtain ⟨h1,_,h2⟩:=h;by_cases e:p.1=k
  ·have e':q.1=k:=h1.symm.trans e;have b:atKey (q::qs) k=some q.2:=by simp [atKey,BT_,e']
   rw [bh_ e,b];exact h2
  ·have e':¬ q.1=k:=fun z=>e (h1.trans z);have b:atKey (q::qs) k=atKey qs k:=by simp [atKey,BT_,e']
   rw [a7_ e,b];exact ih
theorem KT.repl {H:Hp}{kvs:List (List Key×V)}{xs:List (List Key×Addr×Value)}(r:KT H kvs xs)(k:List Key){y:V}{u:Value}(ry:F1_ y u) :
  KT H (kvs.map fun kv=>if kv.1=k then (kv.1,y) else kv) (xs.map (putAt k u)):=by
 induction r with
 | nil=>exact .nil
 | @cons p q ps qs h t ih =>
  rw [AG_,AG_];refine .cons ?_ ih;obtain ⟨h1,h2,h3⟩:=h;unfold putAt;by_cases e:p.1=k
  ·rw [if_pos e,if_pos (h1.symm.trans e)];exact ⟨h1,h2,ry⟩
  ·rw [if_neg e,if_neg (fun z=>e (h1.trans z))];exact ⟨h1,h2,h3⟩
theorem KT.put {H:Hp}{kvs:List (List Key×V)}{xs:List (List Key×Addr×Value)}(r:KT H kvs xs)(k:List Key){b:Addr}{y:V}{u:Value}(hb:H b=some (.tup (k.map kV)))(ry:F1_ y u) :
  KT H (Ge_ kvs k y) (storedH xs k b u):=by
 have e:(kvs.any fun kv=>decide (kv.1=k))=(atKey xs k).isSome:=by rw [cR_,(r.val k).isSome_eq,Cz_]
 unfold Ge_ storedH;rw [e];by_cases q:(atKey xs k).isSome=true
 ·rw [if_pos q,if_pos q];exact r.repl k ry
 ·rw [if_neg q,if_neg q];exact Dt_ r ⟨rfl,hb,ry⟩
theorem KT.keeps {H H':Hp}{kvs:List (List Key×V)}{xs:List (List Key×Addr×Value)}(r:KT H kvs xs)(ht:∀ b ys,H b=some (.tup ys)->H' b=some (.tup ys)):KT H' kvs xs :=
 Paired.mapP r fun _ _ z=>⟨z.1,ht _ _ z.2.1,z.2.2⟩
section
variable {P:Program}{w:World}{H:Hp}{h:Heap}{a:Addr}
theorem KF_ {u:HO}(ok:HOk P w H h)(e:Rd H a u):F2_ P w H h a u:=e.ok ok
theorem I5_ {kvs:List (Key×V)}(ok:HOk P w H h)(e:Rd H a (.dK kvs)):kvs.length<=sizeLine/\(a == sysModules)=false/\∃ vs,KV kvs vs/\h.DictOf (FM_ P w) a vs :=
 show F2_ P w H h a (.dK kvs) from KF_ ok e
theorem Jm_ {kvs:List (Key×V)}(ok:HOk P w H h)(e:H a=some (.dK kvs)):kvs.length<=sizeLine/\(a == sysModules)=false/\∃ vs,KV kvs vs/\h.DictOf (FM_ P w) a vs:=I5_ ok (.inl e)
theorem hn_ {ks:List Key}(ok:HOk P w H h)(e:H a=some (.tup (ks.map kV))):(tupleKind (FM_ P w)).is h ks a:=by obtain ⟨_,its,r,o,h1,h2,n,h3⟩:=(show F2_ P w H h a (.tup (ks.map kV)) from ok a _ e);exact ⟨o,its.toArray,n,h1,h2,h3,by simpa using js_ r⟩
theorem I2_ {kvs:List (List Key×V)}(ok:HOk P w H h)(e:Rd H a (.dT kvs)):kvs.length<=sizeLine/\(a == sysModules)=false /\
  ∃ xs,KT H kvs xs/\h.DictOfH (tupleKind (FM_ P w)) a xs:=by
 obtain ⟨z,y,xs,r,o,es,ep,h1,h2,h3,h4,h5⟩:=(show F2_ P w H h a (.dT kvs) from KF_ ok e);refine ⟨z,y,xs,r,o,es,ep,h1,h2,h3,h4,fun x hx=>?_,h5⟩
 have all:∀ {l:List (List Key×V)}{m:List (List Key×Addr×Value)},KT H l m->∀ x∈m,(tupleKind (FM_ P w)).is h x.1 x.2.1:=by
  intro l m q
  induction q with
  | nil=>intro x hx;exact nomatch hx
  | @cons p q ps qs hq t ih =>
   intro x hx
   rcases Ax_.mp hx with e|hx
   ·subst e;exact hn_ ok (by rw [<-hq.1];exact hq.2.1)
   ·exact ih x hx
 exact all r x hx
theorem Kh_ {kvs:List (List Key×V)}(ok:HOk P w H h)(e:H a=some (.dT kvs)):kvs.length<=sizeLine/\(a == sysModules)=false /\
  ∃ xs,KT H kvs xs/\h.DictOfH (tupleKind (FM_ P w)) a xs:=I2_ ok (.inl e)
end
def GP_ (H:Hp)(a:Addr)(y:V)(r:Option V):Prop :=
 (∃ kvs k,Rd H a (.dK kvs)/\y=kV k/\r=F9_ kvs k)\/∃ kvs k b,Rd H a (.dT kvs)/\y=.ref b/\H b=some (.tup (k.map kV))/\r=F9_ kvs k
def Hq_ (H:Hp)(a:Addr)(y v:V)(H':Hp):Prop :=
 (∃ kvs k,H a=some (.dK kvs)/\y=kV k/\kvs.length<sizeLine/\H'=upd H a (.dK (Ge_ kvs k v))) \/
 ∃ kvs k b,H a=some (.dT kvs)/\y=.ref b/\H b=some (.tup (k.map kV))/\kvs.length<sizeLine/\H'=upd H a (.dT (Ge_ kvs k v))
theorem GP_.k {H:Hp}{a:Addr}{kvs:List (Key×V)}{k:Key}(e:H a=some (.dK kvs)):GP_ H a (kV k) (F9_ kvs k):=.inl ⟨kvs,k,.inl e,rfl,rfl⟩
theorem GP_.t {H:Hp}{a b:Addr}{kvs:List (List Key×V)}{k:List Key}(e:H a=some (.dT kvs))(eb:H b=some (.tup (k.map kV))):GP_ H a (.ref b) (F9_ kvs k):=.inr ⟨kvs,k,b,.inl e,rfl,eb,rfl⟩
theorem Hq_.k {H:Hp}{a:Addr}{kvs:List (Key×V)}{k:Key}{v:V}(e:H a=some (.dK kvs))(hl:kvs.length<sizeLine):Hq_ H a (kV k) v (upd H a (.dK (Ge_ kvs k v))):=.inl ⟨kvs,k,e,rfl,hl,rfl⟩
theorem Hq_.t {H:Hp}{a b:Addr}{kvs:List (List Key×V)}{k:List Key}{v:V}(e:H a=some (.dT kvs))(eb:H b=some (.tup (k.map kV)))(hl:kvs.length<sizeLine) :
  Hq_ H a (.ref b) v (upd H a (.dT (Ge_ kvs k v))):=.inr ⟨kvs,k,b,e,rfl,eb,hl,rfl⟩
section
variable {X:Cx}{pins:List (Addr×Obj)}{σ:St}{H:Hp}{s:Shared}{a:Addr}{y v:V}{u r:Value}{o:Option V}{A:Around}{E:Value->Shared->Prop}
theorem Inv.big (I:Inv X pins σ H s):sysModules<s.heap.objs.size:=by have h:mainGlobals<s.heap.objs.size:=(I.mod.glob.keeps I.bk).lt;exact D9_ (by decide) h
theorem mp_ {Q:Value->Shared->Prop}(hu:A.units+1<cLine)(I:Inv X pins σ H s)(g:GP_ H a y (some v))(ry:F1_ y u)(h:∀ w' s',Inv X pins σ H s'->F1_ v w'->Q w' s') :
  wpAny (model X.prog X.w) A (getItem (.ref a) u) Q E s:=by
 rcases g with ⟨kvs,k,e,ey,l⟩|⟨kvs,k,b,e,ey,eb,l⟩
 ·subst ey;obtain ⟨z,hd,vs,rel,dd⟩:=I5_ I.hok e;obtain ⟨w',hw,rw'⟩:=Ij_.some_of (v:=v) (o:=valueAt vs k) (by rw [l];exact rel.val k);exact wpAny_getItem_of (HZ_ ry) dd.mapOf hw (h w' _ (I.tok _) rw')
 ·subst ey;cases (show u=Value.ref b from ry);obtain ⟨z,hd,xs,rel,dd⟩:=I2_ I.hok e;obtain ⟨w',hw,rw'⟩:=Ij_.some_of (v:=v) (o:=(atKey xs k).map (·.2)) (by rw [l];exact rel.val k);obtain ⟨p,hp,hp2⟩:=AT_.mp hw;refine wpAny_getItem_heap (CS_ hu) (hn_ I.hok eb) dd hp ?_;rw [hp2];exact h w' _ (I.tok _) rw'
theorem d_in {Q:Value->Shared->Prop}(hu:A.units+1<cLine)(I:Inv X pins σ H s)(g:GP_ H a y o)(ry:F1_ y u)(h:∀ s',Inv X pins σ H s'->Q (.bool o.isSome) s') :
  wpAny (model X.prog X.w) A (compareOp .In u (.ref a)) Q E s:=by
 rcases g with ⟨kvs,k,e,ey,l⟩|⟨kvs,k,b,e,ey,eb,l⟩
 ·subst ey;obtain ⟨z,hd,vs,rel,dd⟩:=I5_ I.hok e;refine wpAny_in_of (HZ_ ry) hd dd.mapOf ?_;rw [<-(rel.val k).isSome_eq,<-l];exact h _ (I.tok _)
 ·subst ey;cases (show u=Value.ref b from ry);obtain ⟨z,hd,xs,rel,dd⟩:=I2_ I.hok e;refine wpAny_in_heap (CS_ hu) (hn_ I.hok eb) hd dd ?_;have q:=(rel.val k).isSome_eq;rw [Cz_] at q;rw [<-q,<-l];exact h _ (I.tok _)
theorem oT_ {Q:Value->Shared->Prop}(hu:A.units+1<cLine)(I:Inv X pins σ H s)(g:GP_ H a y o)(ry:F1_ y u)(h:∀ s',Inv X pins σ H s'->Q (.bool (!o.isSome)) s') :
  wpAny (model X.prog X.w) A (compareOp .NotIn u (.ref a)) Q E s:=by
 rcases g with ⟨kvs,k,e,ey,l⟩|⟨kvs,k,b,e,ey,eb,l⟩
 ·subst ey;obtain ⟨z,hd,vs,rel,dd⟩:=I5_ I.hok e;refine wpAny_notIn_of (HZ_ ry) hd dd.mapOf ?_;rw [<-(rel.val k).isSome_eq,<-l];exact h _ (I.tok _)
 ·subst ey;cases (show u=Value.ref b from ry);obtain ⟨z,hd,xs,rel,dd⟩:=I2_ I.hok e;refine wpAny_notIn_heap (CS_ hu) (hn_ I.hok eb) hd dd ?_;have q:=(rel.val k).isSome_eq;rw [Cz_] at q;rw [<-q,<-l];exact h _ (I.tok _)
theorem f3_ {h':Heap}{t':Nat}{ob:HO}(I:Inv X pins σ H s)(mu:Mut (H a))(hs:Heap.SameBut a s.heap h')(he:∃ q,h'.get? a=some q)(new:F2_ X.prog X.w (upd H a ob) h' a ob) :
  Inv X pins σ (upd H a ob) { s with heap:=h',toks:=t' } :=
 I.write (x:=a) (e:=a) mu (.inl rfl) (fun b q hb z=>(hs.2 b hb).trans z) he new
theorem mq_ {P:Program}{w:World}{H':Hp}{h':Heap}{kvs:List (Key×V)}{vs:List (Key×Value)}(z:kvs.length<=sizeLine)(hd:(a == sysModules)=false)(rel:KV kvs vs)(dd:h'.DictOf (FM_ P w) a vs) :
  F2_ P w H' h' a (.dK kvs):=⟨z,hd,vs,rel,dd⟩
theorem mr_ {H':Hp}{Q:Unit->Shared->Prop}(hu:A.units+1<cLine)(I:Inv X pins σ H s)(g:Hq_ H a y v H')(ry:F1_ y u)(rv:F1_ v r)(h:∀ s',Inv X pins σ H' s'->Q () s') :
  wpAny (model X.prog X.w) A (setItem (.ref a) u r) Q E s:=by
 rcases g with ⟨kvs,k,e,ey,l,eH⟩|⟨kvs,k,b,e,ey,eb,l,eH⟩
 ·subst ey eH;obtain ⟨z,hd,vs,rel,dd⟩:=Jm_ I.hok e;have hz:vs.length<=sizeLine:=by rw [<-rel.length];exact z
  have hl:(Ge_ kvs k v).length<=sizeLine:=by have:=aH_ kvs k v;lia
  refine wpAny_setItem_pairs (hsz:=hz) (HZ_ ry) dd fun h' dd' hs=>h _ ?_;have he:∃ q,h'.get? a=some q:=let ⟨q,_,_,hq,_⟩:=dd';⟨q,hq⟩;exact f3_ I (by rw [e];exact True.intro) hs he (mq_ hl hd (rel.put k rv) dd')
 ·subst ey eH;cases (show u=Value.ref b from ry);obtain ⟨z,hd,xs,rel,dd⟩:=Kh_ I.hok e;have hz:xs.length<=sizeLine:=by rw [<-By_ rel];exact z
  have hl:(Ge_ kvs k v).length<=sizeLine:=by have:=aH_ kvs k v;lia
  refine wpAny_setItem_heap (hsz:=hz) (CS_ hu) (hn_ I.hok eb) dd fun h' dd' hs=>h _ ?_;obtain ⟨q,es,ep,hq,h2,h3,h4,_,h5⟩:=dd';refine f3_ I (by rw [e];exact True.intro) hs ⟨q,hq⟩ ⟨hl,hd,_,(rel.put k eb rv).keeps fun c ys ec=>?_,q,es,ep,hq,h2,h3,h4,h5⟩;rw [af_ (HF_ ec e (fun z=>nomatch z))];exact ec
end
section
variable {X:Cx}{pins:List (Addr×Obj)}{σ:St}{H:Hp}{s:Shared}{a:Addr}{kvs:List (Key×V)}{k:Key}{u:Value}{A:Around}{E:Value->Shared->Prop}
end
def K9_ (i:Expr):Prop:=∀ ov iv,subscripted i false ov iv=operate [ov,iv] (getItem ov iv)
theorem ms_ {prog:Program}{w:World}{A:Around}{E:Value->Shared->Prop}{s:Shared}{env:Env}{value slice:Expr}{pos:Pos}{T id:String}{Q:Value->Shared->Prop}
  (hl:typeLookup (.type T) "__getitem__" = pure (some (.builtin id))) (hs:K9_ slice)
  (h:wpAny (model prog w) A (eval value env) (fun o s₁=>wpAny (model prog w) A (eval slice env) (fun i s₂=>s₂.TypeIs o T/\wpAny (model prog w) A (getItem o i) Q E s₂) E s₁) E s) :
  wpAny (model prog w) A (eval (.Subscript value slice pos) env) Q E s:=by
 refine E0_ (Bi_ h (fun o s₁ h₁=>Bi_ h₁ (fun i s₂ h₂=>?_) fun _ _ x=>x) fun _ _ x=>x);obtain ⟨hT,h₂⟩:=h₂;unfold subscriptTail;refine Ac_ ?_;rw [getitemInPython_of_ne hT.not_modules];refine Ac_ (Cu_ hT hl ?_);have fin:wpAny (model prog w) A (subscripted slice false o i) (fun r s₃=>wpAny (model prog w) A (letTemporaryGo value o r >>= fun _=>pure r) Q E s₃) E s₂:=by rw [hs o i];exact wpAny_operating (Bi_ h₂ (fun r s₃ h₃=>Ac_ (wpAny_letTemporaryGo (Ai_ h₃))) fun _ _ x=>x)
 first
  | exact Ai_ (Ac_ fin)
  | exact Ac_ (Ai_ (Ac_ fin))
  | exact Ac_ fin
theorem ke_ {X:Cx}{pins:List (Addr×Obj)}{σ:St}{H:Hp}{s:Shared}{a:Addr}{y:V}{o:Option V}(I:Inv X pins σ H s)(g:GP_ H a y o):s.TypeIs (.ref a) "dict" := by
 rcases g with ⟨kvs,k,e,_,_⟩|⟨kvs,k,b,e,_,_,_⟩
 ·obtain ⟨_,_,vs,_,dd⟩:=I5_ I.hok e;exact dd.typeIs
 ·obtain ⟨_,_,xs,_,dd⟩:=I2_ I.hok e;exact dd.typeIs
def J9_ (td ty:TE):TE:=fun σ H Q=>td σ H fun x H1=>ty σ H1 fun y H2=>∃ a v,x=.ref a/\GP_ H2 a y (some v)/\Q v H2
def KX_ (ty td:TE):TE:=fun σ H Q=>ty σ H fun y H1=>td σ H1 fun x H2=>∃ a o,x=.ref a/\GP_ H2 a y o/\Q (.bl o.isSome) H2
def HR_ (ty td:TE):TE:=fun σ H Q=>ty σ H fun y H1=>td σ H1 fun x H2=>∃ a o,x=.ref a/\GP_ H2 a y o/\Q (.bl (!o.isSome)) H2
def Kc_ (td ty tv:TE):TS:=fun D σ H=>tv σ H fun v H1=>td σ H1 fun x H2=>ty σ H2 fun y H3=>∃ a H4,x=.ref a/\Hq_ H3 a y v H4/\D.nx σ H4
section
variable {X:Cx}{o i e value:Expr}{pos pos' tpos:Pos}{td ty tv:TE}
theorem c3_ (hu:X.A.units+1<cLine)(ho:PE X o td)(hi:PE X i ty)(hs:K9_ i):PE X (.Subscript o i pos) (J9_ td ty):=by intro pins s σ H Q I h;refine ms_ PySem.F.slot_dict_getitem.lookup hs (thn (ho pins s σ H _ I h) fun u s1 ⟨x,H1,I1,rx,q1⟩=>thn (hi pins s1 σ H1 _ I1 q1) fun iv s2 ⟨y,H2,I2,ry,a,v,ex,g,q2⟩=>?_);subst ex;obtain rfl:u=Value.ref a:=rx;exact ⟨ke_ I2 g,mp_ hu I2 g ry fun w' s3 I3 rw'=>⟨v,H2,I3,rw',q2⟩⟩
theorem pM_ (hu:X.A.units+1<cLine)(hi:PE X i ty)(ho:PE X o td):PC X .In i o (KX_ ty td):=by intro pins s σ H Q I h;refine thn (hi pins s σ H _ I h) fun iv s1 ⟨y,H1,I1,ry,q1⟩=>thn (ho pins s1 σ H1 _ I1 q1) fun u s2 ⟨x,H2,I2,rx,a,ov,ex,g,q2⟩=>?_;subst ex;obtain rfl:u=Value.ref a:=rx;exact d_in hu I2 g ry fun s3 I3=>⟨.bl ov.isSome,H2,I3,rfl,q2⟩
theorem ho_ (hu:X.A.units+1<cLine)(hi:PE X i ty)(ho:PE X o td):PC X .NotIn i o (HR_ ty td):=by intro pins s σ H Q I h;refine thn (hi pins s σ H _ I h) fun iv s1 ⟨y,H1,I1,ry,q1⟩=>thn (ho pins s1 σ H1 _ I1 q1) fun u s2 ⟨x,H2,I2,rx,a,ov,ex,g,q2⟩=>?_;subst ex;obtain rfl:u=Value.ref a:=rx;exact oT_ hu I2 g ry fun s3 I3=>⟨.bl (!ov.isSome),H2,I3,rfl,q2⟩
theorem c4_ (hu:X.A.units+1<cLine)(ho:PE X o td)(hi:PE X i ty)(hv:PE X value tv)(hs:swapsWith value (some (.Subscript o i pos')) pos.line X.env=pure false) :
  PS X (.Assign [.Subscript o i pos'] value pos) (Kc_ td ty tv):=by
 intro pins s σ H D I h;refine ED_ (thn (hv pins s σ H _ I h) fun r s1 ⟨v,H1,I1,rv,q1⟩=>thn (ho pins s1 σ H1 _ I1 q1) fun u s2 ⟨x,H2,I2,rx,q2⟩=>thn (hi pins s2 σ H2 _ I2 q2) fun iv s3 ⟨y,H3,I3,ry,a,H4,ex,g,q3⟩=>?_) hs;subst ex;obtain rfl:u=Value.ref a:=rx;exact mr_ hu I3 g ry rv fun s4 I4=>⟨σ,H4,I4,q3⟩
end
theorem nC_ {P:Program}{w:World}{H:Hp}(h:Heap)(hb:sysModules<h.objs.size):F2_ P w H (h.push { cls:=.type "dict",data:=.dict #[] }) h.objs.size (.dK []) :=
 ⟨Ay_ _,B0_.mpr (Ne.symm (AF_ hb)),[],.nil,Heap.DictOf.new h⟩
theorem nD_ {P:Program}{w:World}{H:Hp}(h:Heap)(hb:sysModules<h.objs.size):F2_ P w H (h.push { cls:=.type "dict",data:=.dict #[] }) h.objs.size (.dT []) :=
 ⟨Ay_ _,B0_.mpr (Ne.symm (AF_ hb)),[],.nil,_,#[],0,Av_ _ rfl,⟨rfl,rfl,rfl⟩,rfl,rfl,Bc_⟩
def IF_:TE:=fun _ H Q=>∀ p,H p=none->Q (.ref p) (upd H p (.dK []))
def IY_:TE:=fun _ H Q=>∀ p,H p=none->Q (.ref p) (upd H p (.dT []))
section
variable {X:Cx}{pos:Pos}
theorem iz_:PE X (.Dict [] [] pos) IF_:=fun pins s σ H Q I h =>Ea_ ⟨.ref s.heap.objs.size,_,I.laid (a:=s.heap.objs.size) (o:=.dK []) (t':=s.toks) (fun _ _ q=>Ah_ _ q) (Aj_ _) (nC_ s.heap I.big),rfl,h _ (I.hok.fresh (Aj_ _))⟩
theorem fz_:PE X (.Dict [] [] pos) IY_:=fun pins s σ H Q I h =>Ea_ ⟨.ref s.heap.objs.size,_,I.laid (a:=s.heap.objs.size) (o:=.dT []) (t':=s.toks) (fun _ _ q=>Ah_ _ q) (Aj_ _) (nD_ s.heap I.big),rfl,h _ (I.hok.fresh (Aj_ _))⟩
end
def GR_ (kvs more:List (Key×V)):List (Key×V):=more.foldl (fun acc kv=>Ge_ acc kv.1 kv.2) kvs
theorem KV.merge:∀ {more:List (Key×V)}{rs:List (Key×Value)}{kvs:List (Key×V)}{vs:List (Key×Value)},KV more rs->KV kvs vs->KV (GR_ kvs more) (merged vs rs):=by
 intro more rs kvs vs r;unfold KV at r
 induction r generalizing kvs vs with
 | nil=>intro q;exact q
 | @cons p q ps qs h t ih =>
  intro r0;have e:KV (Ge_ kvs p.1 p.2) (stored vs q.1 q.2):=by have:=r0.put p.1 h.2;rw [<-h.1];exact this
  exact ih e
structure M1 (X:Cx)(o:Expr)(m:Str)(apos:Pos)(e:Expr)(cpos:Pos):Prop where
 base:attributeBase o m X.env (eval o X.env)=eval o X.env
 few:((backTo cpos (starEach [e] X.env)).all (fun x=>!x.1) && (backToKw cpos (keywordEach [] X.env)).all (fun x=>x.1.isSome)
  && decide (([e]:List Expr).length+([]:List Keyword).length+(if ([]:List Keyword).isEmpty then 0 else 1)<30))=true
 line:(apos.endLine == cpos.line)=true
 trees:backTo cpos (starEach [e] X.env)=[(false,eval e X.env)]
structure M2 (X:Cx)(o:Expr)(m:Str)(apos:Pos)(e f:Expr)(cpos:Pos):Prop where
 base:attributeBase o m X.env (eval o X.env)=eval o X.env
 few:((backTo cpos (starEach [e,f] X.env)).all (fun x=>!x.1) && (backToKw cpos (keywordEach [] X.env)).all (fun x=>x.1.isSome)
  && decide (([e,f]:List Expr).length+([]:List Keyword).length+(if ([]:List Keyword).isEmpty then 0 else 1)<30))=true
 line:(apos.endLine == cpos.line)=true
 trees:backTo cpos (starEach [e,f] X.env)=[(false,eval e X.env),(false,eval f X.env)]
section
variable {X:Cx}{pins:List (Addr×Obj)}{σ:St}{H:Hp}{s:Shared}{a:Addr}{y d:V}{u r:Value}{o:Option V}{A:Around}{E:Value->Shared->Prop}
end
section
variable {X:Cx}{o e f:Expr}{apos cpos:Pos}{td ty tx:TE}
end
section
variable {X:Cx}{pins:List (Addr×Obj)}{σ:St}{H:Hp}{s:Shared}{a:Addr}{kvs:List (Key×V)}{A:Around}{E:Value->Shared->Prop}
end
section
variable {X:Cx}{pins:List (Addr×Obj)}{σ:St}{H:Hp}{s:Shared}{a:Addr}{y:V}{u:Value}{A:Around}{E:Value->Shared->Prop}
end
end L2
namespace Att
open PySem PySem.W PySem.Calls PyProof.Rows
end Att
namespace L2
open PySem PySem.Spec PyProof.Rows
end L2
namespace L2
open PySem PySem.Spec PyProof.Rows
end L2
namespace L2
open PySem PySem.Spec PyProof.Rows
section
variable {X:Cx}
end
section
variable {κ:Type}[DecidableEq κ]
theorem mt_ {kvs:List (κ×V)}{k:κ}{v:V}(h:F9_ kvs k=some v):k∈kvs.map (·.1):=by
 have q:(kvs.any fun kv=>decide (kv.1=k))=true:=by
  rw [cR_,h]
  all_goals rfl
 obtain ⟨p,hp,e⟩:=CJ_.mp q;exact Ap_.mpr ⟨p,hp,A8_ e⟩
end
end L2
namespace L2
open PySem PySem.Spec PyProof.Rows
abbrev Sk:=List Key×Bool
section
variable {P:Program}{w:World}{A:Around}{E:Value->Shared->Prop}{s:Shared}
def Ks_ (b:Bool):Int:=if b then 1 else 0
theorem mu_ {b:Bool}{Q:Int->Shared->Prop}(hu:A.units<cLine)(k:Q (Ks_ b) { s with toks:=s.toks+1 }):wpAny (model P w) A (pyHash (.bool b)) Q E s:=by
 show wpAny _ _ (pyHashByItsType (.bool b)) _ _ _;refine Fe_ (T := "bool") rfl F.slot_bool_hash entry_int_hash (args_int_hash _) (beq_builtin_none _) (.inr hu) ?_;cases b
 ·exact (show wpAny _ _ (do ret (<-mkInt 0)) _ _ s from Ac_ (Fs_ (Ai_ ⟨_,_,rfl,k⟩)))
 ·exact (show wpAny _ _ (do ret (<-mkInt 1)) _ _ s from Ac_ (Fs_ (Ai_ ⟨_,_,rfl,k⟩)))
def Is_ (P:Program)(w:World)(h:Heap)(k:Sk)(a:Addr):Prop:=∃ o n p,h.get? a=some o/\o.cls=.type "tuple" /\ o.data=.seq #[.ref p,.bool k.2] n/\(tupleKind (FM_ P w)).is h k.1 p
theorem Is_.ty {k:Sk}{a:Addr}(x:Is_ P w s.heap k a):s.TypeIs (.ref a) "tuple" := let ⟨o,_,_,h,c,_⟩:=x;⟨o,h,c⟩
theorem Is_.inj {h:Heap}{a:Addr}{x y:Sk}(hx:Is_ P w h x a)(hy:Is_ P w h y a):x=y:=by
 obtain ⟨o,n,p,h1,_,h3,h4⟩:=hx;obtain ⟨o',n',p',g1,_,g3,g4⟩:=hy;cases h1.symm.trans g1;rw [h3] at g3;injection g3 with g3 _
 have e:p=p'/\x.2=y.2:=by simpa using g3
 obtain ⟨rfl,e2⟩:=e;have e1:=(tupleKind (FM_ P w)).inj h4 g4;exact A9_ e1 e2
theorem Is_.keeps {h h':Heap}{k:Sk}{a d:Addr}{o:Obj}{es ep} (x:Is_ P w h k a) (ho:h.get? d=some o) (hd:o.data=.dict es ep) (hs:Heap.SameBut d h h'):Is_ P w h' k a:=by
 obtain ⟨o',n,p,h1,h2,h3,h4⟩:=x;have ne:a≠d:=by rintro rfl;cases h1.symm.trans ho;rw [hd] at h3;exact nomatch h3
 exact ⟨o',n,p,(hs.2 a ne).trans h1,h2,h3,(tupleKind (FM_ P w)).keeps h4 ho hd hs⟩
def JH_ (P:Program)(w:World)(k:Sk):Int:=reduceHash (Builtin.Tuple.tupleHashOf [(tupleKind (FM_ P w)).hash k.1,Ks_ k.2])
theorem oU_ {k:Sk}{a:Addr}{Q:Int->Shared->Prop}(hu:A.units+1<cLine)(x:Is_ P w s.heap k a)(h:Q (JH_ P w k) { s with toks:=s.toks+((k.1.length+1)+2) }):wpAny (model P w) A (pyHash (.ref a)) Q E s:=by have ty:=x.ty;obtain ⟨o,n,p,h1,h2,h3,h4⟩:=x;show wpAny _ _ (pyHashByItsType (.ref a)) _ _ _;refine Fe_ (T := "tuple") ty F.slot_tuple_hash F.entry_tuple_hash (F.args_tuple_hash_1 _) (beq_builtin_none _) (.inr (by lia)) ?_;show wpAny _ _ (Builtin.Tuple.tupleItemsOf (.ref a) >>= _) _ _ s;refine Ac_ (DH_ h1 h3 ?_);refine Ac_ ?_;rw [<-DI_];show wpAny _ _ (forIn [Value.ref p,Value.bool k.2] _ _) _ _ _;rw [Cf_];refine Ac_ (Ac_ ((tupleKind (FM_ P w)).pyHash (show A.in1.units<cLine from hu) h4 ?_));refine Ac_ (Ai_ (Ai_ ?_));show wpAny _ _ (forIn [Value.bool k.2] _ _) _ _ _;rw [Cf_];refine Ac_ (Ac_ (mu_ (show A.in1.units<cLine from hu) ?_));refine Ac_ (Ai_ (Ai_ ?_));show wpAny _ _ (forIn ([]:List Value) _ _) _ _ _;rw [EQ_];refine Ai_ ?_;show wpAny _ _ (retInt _) _ _ _;exact Ac_ (Fs_ (Ai_ ⟨_,_,rfl,h⟩))
theorem pN_ {b c:Bool}{Q:Bool->Shared->Prop}(h:Q (decide (b=c)) s):wpAny (model P w) A (eqBool (.bool b) (.bool c)) Q E s:=by
 unfold eqBool;show wpAny _ _ (if (Value.bool b == Value.bool c)=true then _ else _) Q E s;by_cases e:b=c
 ·subst e;rw [if_pos (by simp)];exact Ac_ (CH_ (Ai_ (by simpa using h)))
 ·rw [if_neg (by simp [e])];refine Ac_ (wpAny_richCompare_same (op:=.Eq) (T := "bool") rfl rfl F.slot_bool_eq (B3_ F.slot_bool_eq rfl entry_int_eq (Ai_ ⟨.bool (decide (b=c)),?_,by simp,Br_ h⟩) (args_int_eq _ _)));cases b <;> cases c <;> first|exact absurd rfl e|rfl
theorem Lo_ {x y:Sk}{a b:Addr}{Q:Bool->Shared->Prop}(hu:A.units+1<cLine)(hx:Is_ P w s.heap x a)(hy:Is_ P w s.heap y b)(h:Q (decide (x=y)) s):wpAny (model P w) A (eqBool (.ref a) (.ref b)) Q E s:=by
 unfold eqBool
 try with_reducible refine A6_ ?_
 show wpAny _ _ (if (Value.ref a == Value.ref b)=true then _ else _) Q E s;by_cases hab:a=b
 ·subst hab;rw [if_pos (by simp)];obtain rfl:=hx.inj hy;exact Ac_ (CH_ (Ai_ (by simpa using h)))
 ·rw [if_neg (by simp [hab])];refine Ac_ (wpAny_richCompare_same_room (op:=.Eq) hx.ty hy.ty F.slot_tuple_eq (B3_ F.slot_tuple_eq hx.ty F.entry_tuple_eq ?_ (F.args_tuple_eq_2 _ _)) (by lia));have tb:=hy.ty;obtain ⟨o,n,p,h1,h2,h3,h4⟩:=hx;obtain ⟨o',n',q,g1,g2,g3,g4⟩:=hy;show wpAny _ _ (isInstance (.ref b) (.type "tuple") >>= _) _ _ s;refine Ac_ (CK_ tb C9_ ?_);simp only [Bool.not_true,Bs_,BS_];refine Ac_ (DH_ h1 h3 ?_);refine Ac_ (DH_ g1 g3 ?_);refine Ac_ ?_;show wpAny _ _ (forIn [(Value.ref p,Value.ref q),(Value.bool x.2,Value.bool y.2)] _ _) _ _ _;rw [Cf_];refine Ac_ (Ac_ ((tupleKind (FM_ P w)).eqBool (show A.in1.units<cLine from hu) h4 g4 ?_));by_cases e1:x.1=y.1
  ·rw [A5_ e1,if_neg (by decide)];refine Ai_ ?_;show wpAny _ _ (forIn [(Value.bool x.2,Value.bool y.2)] _ _) _ _ _;rw [Cf_];refine Ac_ (Ac_ (pN_ ?_));by_cases e2:x.2=y.2
   ·rw [A5_ e2,if_neg (by decide)];rw [A5_ (A9_ e1 e2)] at h;refine Ai_ ?_;show wpAny _ _ (forIn ([]:List (Value×Value)) _ _) _ _ _;rw [EQ_];exact Ai_ (Ai_ ⟨_,rfl,(fun e=>nomatch e),Br_ h⟩)
   ·rw [AN_ e2,if_pos (by decide)];rw [AN_ (fun z=>e2 (congrArg Prod.snd z))] at h;exact Ac_ (Ai_ (Ai_ (Ai_ (Ai_ ⟨_,rfl,(fun e=>nomatch e),Br_ h⟩))))
  ·rw [AN_ e1,if_pos (by decide)];rw [AN_ (fun z=>e1 (congrArg Prod.fst z))] at h;exact Ac_ (Ai_ (Ai_ (Ai_ (Ai_ ⟨_,rfl,(fun e=>nomatch e),Br_ h⟩))))
theorem mv_ {ks:List Key}{p:Addr}{n:Nat}{Q:Bool->Shared->Prop}(x:(tupleKind (FM_ P w)).is s.heap ks p)(h:Q true s):wpAny (model P w) A (eqIsQuiet (n+1) (.ref p)) Q E s:=by
 have ty:=IsTupleKey.typeIs x;obtain ⟨o,items,m,ho,_,hd,hi⟩:=x;unfold eqIsQuiet;refine Ac_ (Cu_ ty F.slot_tuple_eq.lookup ?_);show wpAny _ _ (isInstance (.ref p) (.type "tuple") >>= _) _ _ s;refine Ac_ (CK_ ty C9_ ?_);rw [if_neg (by decide)];refine Ac_ (BQ_ ho hd (Ac_ ?_));show wpAny _ _ (forIn items _ _) _ _ s;rw [<-DI_];refine wpAny_forIn_list _ (fun rest r s'=>r.1=none/\s'=s/\∀ v∈rest,carriedByValue v=true) _ ?_ ?_ _ _ ⟨rfl,rfl,hi.byValue⟩
 ·rintro v rest r s' ⟨hr,rfl,all⟩;rw [eqIsQuiet_byValue _ (all v At_)];refine Ac_ (Ai_ ?_);rw [if_neg (by decide)];exact Ai_ ⟨rfl,rfl,fun u hu=>all u (Ar_ _ hu)⟩
 ·rintro ⟨r1,r2⟩ s' ⟨hr,rfl,_⟩;cases (show r1=none from hr);exact Ai_ h
theorem nE_ {k:Sk}{a:Addr}{Q:Bool->Shared->Prop}(x:Is_ P w s.heap k a)(h:Q true s):wpAny (model P w) A (eqIsQuiet 8 (.ref a)) Q E s:=by have ty:=x.ty;obtain ⟨o,n,p,h1,h2,h3,h4⟩:=x;unfold eqIsQuiet;refine Ac_ (Cu_ ty F.slot_tuple_eq.lookup ?_);show wpAny _ _ (isInstance (.ref a) (.type "tuple") >>= _) _ _ s;refine Ac_ (CK_ ty C9_ ?_);rw [if_neg (by decide)];refine Ac_ (BQ_ h1 h3 (Ac_ ?_));show wpAny _ _ (forIn #[Value.ref p,Value.bool k.2] _ _) _ _ s;rw [<-DI_];show wpAny _ _ (forIn [Value.ref p,Value.bool k.2] _ _) _ _ _;rw [Cf_];refine Ac_ (Ac_ (mv_ (n:=6) h4 ?_));rw [if_neg (by decide)];refine Ai_ ?_;show wpAny _ _ (forIn [Value.bool k.2] _ _) _ _ _;rw [Cf_,eqIsQuiet_byValue _ (by rfl)];refine Ac_ (Ac_ (Ai_ ?_));rw [if_neg (by decide)];refine Ai_ ?_;show wpAny _ _ (forIn ([]:List Value) _ _) _ _ _;rw [EQ_];exact Ai_ (Ai_ h)
end
def GM_ (P:Program)(w:World):HeapKind P w Sk where
 is:=Is_ P w
 hash:=JH_ P w
 draws:=fun k=>(k.1.length+1)+2
 room:=fun A=>A.units+1<cLine
 inj:=fun hx hy=>hx.inj hy
 keeps:=fun x ho hd hs=>x.keeps ho hd hs
 pyHash:=fun hu hk h=>oU_ hu hk h
 eqBool:=fun hu hx hy h=>Lo_ hu hx hy h
 quiet:=fun hk h=>nE_ hk h
end L2
namespace L2
open PySem PySem.Spec PyProof.Rows
def G5_ (n:Nat):List V:=(List.range n).map fun i:Nat=>V.int (i:Int)
def HN_ (ta:TA):TE:=fun σ H Q=>ta σ H fun vs H1=>∃ n:Nat,vs=[.int (n:Int)]/\n<=1000/\∀ l,H1 l=none->Q (.ref l) (upd H1 l (.lst (G5_ n)))
theorem gY_:∀ {xs:List V}{us:List Value},xs.length=us.length->(∀ (j:Nat) x u,xs[j]?=some x->us[j]?=some u->F1_ x u)->FT_ xs us
 | [],[],_,_=>.nil
 | [],_::_,h,_=>by simp at h
 | _::_,[],h,_=>by simp at h
 | x::xs,u::us,h,k=>.cons (k 0 x u rfl rfl) (gY_ (by simpa using h) fun j y v e e'=>k (j+1) y v (by simpa using e) (by simpa using e'))
theorem jt_ {X:Cx}{a:Expr}{ta:TA}{p p' pos pos':Pos}(hc:X.calm=true)(hg:Gl X "list") (hm:X.mg "list" = none) (hg':Gl X "range") (hm':X.mg "range" = none) (ha:PA X [a] ta) (hs:FJ_ [a]=true:=by rfl) :
  PE X (.Call (.Name "list" p) [.Call (.Name "range" p') [a] [] pos'] [] pos) (HN_ ta):=by
 have h':Go_ a=true:=by simpa [FJ_] using hs
 intro pins s σ H Q I h;refine BP_ (d5_ I hg hm dC_ ?_ (by decide) (by decide));refine Bj_ ?_ (an_ rfl) rfl;rw [an_ (e:=.Call (.Name "range" p') [a] [] pos') (es:=[]) rfl];show wpAny _ _ (spliced ((false,eval (.Call (.Name "range" p') [a] [] pos') X.env)::backTo pos (starEach [] X.env))) _ _ s;refine DC_ ?_;refine Call_ (d5_ I hg' hm' boot_range (Bj_ (thn (ha pos' pins s σ H _ I h) fun us s1 ⟨vs,H1,I1,r1,q1⟩=>?_) (an_ h') rfl));obtain ⟨n,e,n1,q⟩:=q1;subst e;cases r1 with
 | cons r rr =>
  cases rr;obtain ⟨t,rfl⟩:=r;refine call_range_1 ?_;refine DP_ ?_;have I2:Inv X pins σ H1 { s1 with heap:=s1.heap.push { cls:=.type "range",data:=.fields #[.int 0 s1.toks,.int (n:Int) t,.int 1 (s1.toks+1)] },toks:=s1.toks+1+1 }:=I1.kept fun b o e=>Ah_ _ e;refine call_list_range (n:=n) (I2.ok.hd hc) (IsRange.new ..) (small_one (by lia) (by lia) (by lia) (by lia)) (by rw [rangeSize_one];split <;> lia) (by lia) fun h2 tk acc c hk hS hacc=>?_;refine ⟨.ref _,_,I2.laid (t':=tk) hk (Aj_ _) (show F2_ X.prog X.w _ h2 _ (.lst (G5_ n)) from ⟨?_,acc.toList,c,gY_ ?_ ?_,by simpa using hS⟩),rfl,q _ (I2.hok.fresh (Aj_ _))⟩
  ·exact AJ_ (Fw_ (by simp [G5_];lia))
  ·simp [G5_,hacc.1]
  ·intro j x u hx hu;have hj:j<n:=by have:=(Ae_.mp hx).1;simpa [G5_] using this
   have hx':x=V.int (j:Int):=by rw [G5_,Ag_,B2_ hj] at hx;exact (Aw_ hx).symm
   obtain ⟨tk',rfl⟩:=hacc.2 j u (by simpa using hu);rw [hx'];exact ⟨tk',by rw [Cn_,Int.mul_one]⟩
def LN_ (te:TE)(ts:TO):TE:=fun σ H Q=>te σ H fun x H1=>ts σ H1 fun o H2=>o=some (-1)/\∃ a xs,x=.ref a/\H2 a=some (.lst xs)/\∀ p,H2 p=none->Q (.ref p) (upd H2 p (.lst xs.reverse))
theorem nF_ {xs:List V}{us:List Value}(r:FT_ xs us):FT_ xs.reverse us.reverse:=by
 have hl:=r.length;refine gY_ (by simp [hl]) fun j x u hx hu=>?_;have hj:j<xs.length:=by have:=(Ae_.mp hx).1;simpa using this
 rw [Cd_ hj] at hx;rw [Cd_ (by lia),<-hl] at hu;obtain ⟨u',hu',ru⟩:=r.get hx;rw [hu] at hu';cases hu';exact ru
theorem pO_ {X:Cx}{e:Expr}{st:Expr}{te:TE}{ts:TO}{pos p2:Pos}(he:PE X e te)(hk:PO X (some st) ts):PE X (.Subscript e (.Slice none none (some st) p2) pos) (LN_ te ts):=by intro pins s σ H Q I h;refine E0_ (thn (he pins s σ H _ I h) fun v s1 ⟨x,H1,I1,r1,q1⟩=>?_);refine wpAny_Slice ?_;rw [E7_];refine Ai_ (Ai_ ?_);refine thn (hk pins s1 σ H1 _ I1 q1) fun vk s2 ⟨o,H2,I2,pk,q2⟩=>?_;obtain ⟨rfl,a,xs,rfl,hx,q⟩:=q2;cases r1;have I4:Inv X pins σ H2 { s2 with heap:=s2.heap.push { cls:=.type "slice",data:=.fields #[.none,.none,vk] } }:=I2.kept (t':=s2.toks) fun b ob q=>Ah_ _ q;obtain ⟨its,r,ht,hz⟩:=I4.list (.inl (.inl hx));have hlen:=r.length;show wpAny (model X.prog X.w) X.A (subscriptTail e (.Slice none none (some st) p2) (.ref a) (.ref s2.heap.objs.size)) (EP X pins σ Q) X.xe { s2 with heap:=s2.heap.push { cls:=.type "slice",data:=.fields #[.none,.none,vk] } };refine tail_any (ops:=[.ref a,.ref s2.heap.objs.size]) ht.isList.typeIs slot_list_getitem.lookup ?_ (by with_unfolding_all rfl);refine D7_ ht.isList (Heap.IsSliceOf.new ..) .none .none pk (by decide) ?_ (by rw [As_] <;> lia);rw [PySem.W.krv_pick];refine ⟨.ref _,_,I4.laid (t':=s2.toks) (o:=.lst xs.reverse) (fun b ob q=>Ah_ _ q) (Aj_ _) ?_,rfl,q _ (I4.hok.fresh (Aj_ _))⟩;exact ⟨by rw [Ba_];exact hz,its.reverse,0,nF_ r,Av_ _ rfl⟩
end L2
namespace L2
open PySem PySem.Spec PyProof.Rows PySem.W
def GC_ {α:Type}(lt:Nat->Nat->Bool)(n:Nat):KasT α->Option α
 | .ret a=>some a
 | .ask i j k=>if i<n/\j<n then GC_ lt n (k (lt i j)) else none
theorem k5_ {α:Type}{ask:Nat->Nat->(Bool->Shared->Prop)->Shared->Prop}{lt:Nat->Nat->Bool}{n:Nat}{Q:α->Shared->Prop}{s:Shared}(hc:∀ i j (C:Bool->Shared->Prop),i<n->j<n->C (lt i j) s->ask i j C s) :
  ∀ (t:KasT α){p:α},GC_ lt n t=some p->Q p s->t.kasWp ask Q s
 | .ret a,p,e,q=>by
  cases e;exact q
 | .ask i j k,p,e,q=>by
  unfold GC_ at e;split at e
  ·rename_i h;exact hc i j _ h.1 h.2 (k5_ hc (k (lt i j)) e q)
  ·cases e
section
variable {X:Cx}{pins:List (Addr×Obj)}{σ:St}{H:Hp}{s:Shared}
theorem oi_ {h:Heap}{a:Addr}{m m':Str->Option Value}(x:h.Ns a m)(y:h.Ns a m'):m=m':=by obtain ⟨o,es,ep,ho,hd,_,hf⟩:=x;obtain ⟨o',es',ep',ho',hd',_,hf'⟩:=y;rw [ho] at ho';cases ho';rw [hd] at hd';cases hd';funext z;rw [<-hf z,hf' z]
theorem Inv.keeps (I:Inv X pins σ H s){m:Str->Option Value}{h':Heap}(F:Fr X.base X.env.locals h' m)(N:News X.base X.env.locals h' (F8_ X.base s.heap X.env.locals)) :
  ∀ b o,b≠X.env.locals->s.heap.get? b=some o->h'.get? b=some o:=fun b o hb e=>by
 cases q:X.base.get? b with
 | some u =>
  have z:=I.bk b u q;rw [e] at z;cases z;exact F.keep b _ q
 | none=>exact (N (b,o) (bF_ hb q e)).1
theorem Inv.led {H':Hp}{t':Nat}(I:Inv X pins σ H s){m:Str->Option Value}(hn:s.heap.Ns X.env.locals m){h':Heap}(F:Fr X.base X.env.locals h' m)(N:News X.base X.env.locals h' (F8_ X.base s.heap X.env.locals))
  (free:∀ b o,s.heap.get? b=some o->H b=none->H' b=none) (old:∀ b o,H b=some o->H' b=some o) (new:∀ b o,H' b=some o->H b=none->F2_ X.prog X.w H' h' b o):Inv X pins σ H' { s with heap:=h',toks:=t' }:=by
 have kp:=I.keeps F N;refine I.step (g':=s.gens) (d':=s.drawn) (ch:=[]) (fun _ z=>nomatch z) (fun b o hb _ _ e _=>kp b o hb e) (fun b o hb _ _ e _=>⟨o.slots,kp b o hb e⟩) (fun b o _ e n=>free b o e n) (fun b o _ e=>?_) (fun b xs q=>old b _ q) (fun b o u q=>old b _ q) (fun b ps q=>⟨#[],by simpa using old b _ q⟩) (fun m' hm=>?_) ?_ I.bare
 ·by_cases hb:b=X.env.locals
  ·subst hb;obtain ⟨o',_,_,ho',_⟩:=F.ns;exact ⟨o',ho'⟩
  ·exact ⟨o,kp b o hb e⟩
 ·rw [oi_ hm hn];exact F.ns
 ·intro b o e;cases q:H b with
  | none=>exact new b o e q
  | some u =>
   have z:=old b u q;rw [e] at z;cases z;refine (I.hok b o q).stay (fun c v hc r=>kp c v (fun w=>?_) r) (fun c r=>old c _ r) fun c xs r=>old c _ r
   rcases hc with rfl|hc
   ·rw [w,I.free] at q;cases q
   ·rw [w,I.free] at hc;cases hc
theorem hp_ {ys:List V}{its:List Value}(r:FT_ ys its)(is:List Nat):FT_ (is.map fun i=>ys.getD i .non) (is.map fun i=>its.getD i Value.none):=by
 induction is with
 | nil=>exact .nil
 | cons i is ih =>
  refine .cons ?_ ih;show F1_ (ys.getD i .non) (its.getD i Value.none);rw [Ad_,Ad_];have hl:=r.length;cases e:ys[i]? with
  | none =>
   have:ys.length<=i:=DU_.mp e;rw [DU_.mpr (by lia)];exact rfl
  | some x =>obtain ⟨u,hu,ru⟩:=r.get e;rw [hu];exact ru
theorem Jp_ {P:Program}{w:World}{H:Hp}{h:Heap}{a:Addr}{o:HO}(x:F2_ P w H h a o):∃ ob,h.get? a=some ob:=by
 cases o with
 | lst xs=>obtain ⟨_,_,_,_,e⟩:=x;exact ⟨_,e⟩
 | tup xs=>obtain ⟨_,_,_,ob,e,_⟩:=x;exact ⟨_,e⟩
 | dK kvs=>obtain ⟨_,_,_,_,ob,_,_,e,_⟩:=x;exact ⟨_,e⟩
 | dT kvs=>obtain ⟨_,_,_,_,ob,_,_,e,_⟩:=x;exact ⟨_,e⟩
 | set S n=>obtain ⟨ob,_,_,_,e,_⟩:=x;exact ⟨_,e⟩
 | ins C dx fs=>obtain ⟨_,_,_,e,_⟩:=x;exact ⟨_,e⟩
 | own y=>exact x
 | xd fs=>obtain ⟨_,⟨ob,_,_,e,_⟩,_⟩:=x;exact ⟨_,e⟩
 | rng lo hi=>obtain ⟨_,_,_,e⟩:=x;exact ⟨_,e⟩
 | frz ob u=>exact ⟨_,x.1⟩
 | tbl ps=>exact ⟨_,show h.get? a=some _ from x⟩
 | met f y=>exact ⟨_,show h.get? a=some _ from x⟩
 | ext φ=>exact x.2.1
theorem ju_ {Q:VK}{p:Addr}{ys:List V}{lt:Nat->Nat->Bool}{κ:SortKind}{pm:Array Nat}(I:Inv X pins σ H s)(hq:SqL X.K H p ys)(h2:2<=ys.length)(h64:ys.length<64)
  (kind:∀ (its:List Value)(s':Shared),FT_ ys its->Inv X pins σ H s'->∀ C:SortKind->Shared->Prop,C κ s'->wpAny (model X.prog X.w) X.A.in1.in1 (keyKind' its.toArray) C (fun _ _=>False) s')
  (less:∀ (its:List Value)(s':Shared)(i j:Nat),FT_ ys its->Inv X pins σ H s'->i<ys.length->j<ys.length->∀ C:Bool->Shared->Prop,C (lt i j) s'->wpAny (model X.prog X.w) X.A.in1.in1 (keyLt' κ (its.getD i Value.none) (its.getD j Value.none)) C (fun _ _=>False) s')
  (run:GC_ lt ys.length (kas_sort ys.length)=some pm) (hz:pm.size<=1000) (q:∀ l,H l=none->Q (.ref l) (upd H l (.lst (pm.toList.map fun i=>ys.getD i .non)))) :
  wpAny (model X.prog X.w) X.A (call (.builtin "sorted") [.ref p]) (EP X pins σ Q) X.xe s:=by
 obtain ⟨its,rv,pl,_⟩:=I.list hq;have hl:=rv.length;obtain ⟨m,hn,_⟩:=id I.loc;have F0:Fr X.base X.env.locals s.heap m:=⟨hn,I.bk,AM_ I.ok.bsz I.ok.above⟩;refine kat_sorted F0 eD_ pl.isList (by lia) (by lia) fun D e1 h1 F1 N1 lt1=>?_;have N1':News X.base X.env.locals h1 (F8_ X.base s.heap X.env.locals):=fun z hz'=>N1 z (Ar_ _ hz');have ND:=N1 (D,_) At_;have fr:∀ b o,s.heap.get? b=some o->b≠D:=fun b o e w=>by subst w;exact absurd (lt1 (b,o) (bF_ ND.2.1 ND.2.2 e)) (Bb_ _)
 have HD:H D=none:=by
  cases w:H D with
  | none=>rfl
  | some u =>obtain ⟨o,g⟩:=Jp_ (I.hok D u w);exact absurd rfl (fr D o g)
 have I1:Inv X pins σ H { s with heap:=h1,toks:=s.toks }:=I.led hn F1 N1' (fun _ _ _ n=>n) (fun _ _ w=>w) (fun b o w n=>by rw [w] at n;cases n);refine kind its _ rv I1 _ ?_;rw [<-hl];refine k5_ (lt:=lt) (n:=ys.length) (fun i j C hi hj hC=>less its _ i j rv I1 hi hj C hC) _ run ?_;refine Fl_ F1 N1 (.head fun z hz' w=>?_) fun h2' c F2 N2=>?_
 ·exact absurd (lt1 z hz') (by rw [w];exact Bb_ _)
 ·have N2':News X.base X.env.locals h2' (F8_ X.base s.heap X.env.locals):=fun z hz'=>N2 z (Ar_ _ hz');have hD:=(N2 (D,_) At_).1;refine ⟨.ref D,upd H D (.lst (pm.toList.map fun i=>ys.getD i .non)),I.led (t':=s.toks) hn F2 N2' (fun b o e n=>by rw [af_ (fr b o e)];exact n) (fun b o e=>by rw [af_ (ae_ e HD)];exact e) (fun b o e n=>?_),rfl,q D HD⟩;by_cases hb:b=D
  ·subst hb;rw [aa_] at e;cases e;exact ⟨AJ_ (Fw_ (by simp;lia)),_,c,hp_ rv _,hD⟩
  ·rw [af_ hb,n] at e;cases e
end
end L2
namespace L2
open PySem PySem.Spec PyProof.Rows PySem.W HT
section
open PySem.SeqAt
open PySem.AutoSeq1 (wpAny_loadPart')
open PySem.MeetsSeq PySem.MeetsSeq2 PySem.MeetsSeq3
end
section
variable {prog:Program}{w:World}{A:Around}{E:Value->Shared->Prop}{s:Shared}
end
end L2
namespace L2
open PySem PySem.Spec PyProof.Rows PySem.W HT
section
variable {X:Cx}{pins:List (Addr×Obj)}{σ:St}{H:Hp}{s:Shared}
end
end L2
namespace L2
open PySem PyProof.Rows PySem.W
theorem br_ {α β:Type}{lt:Nat->Nat->Bool}{N:Nat}{f:α->KasT β}:∀ (t:KasT α){a:α},GC_ lt N t=some a->GC_ lt N (t.bind f)=GC_ lt N (f a)
 | .ret b,a,e=>by cases e;rfl
 | .ask i j k,a,e=>by
  unfold GC_ at e;show (if i<N/\j<N then GC_ lt N ((k (lt i j)).bind f) else none)=_;split at e
  ·rename_i h;rw [if_pos h];exact br_ (k (lt i j)) e
  ·cases e
section
variable {lt:Nat->Nat->Bool}{N:Nat}
def Pm (N:Nat)(p:Array Nat):Prop:=p.Perm (List.toArray (List.range N))
theorem Pm.below {p:Array Nat}(h:Pm N p)(h0:0<N)(i:Nat):p.getD i 0<N:=by
 by_cases hi:i<p.size
 ·have e:p.getD i 0=p[i]:=by simp [Array.getD,hi]
  have m:p[i]∈(List.range N):=by
   have:p[i]∈p.toList:=by simp
   exact (A7_.mp h).mem_iff.mp this
  rw [e];exact AX_.mp m
 ·have e:p.getD i 0=0:=by simp [Array.getD,hi]
  rw [e];exact h0
theorem kf_ {p:Array Nat}(h:Pm N p)(h0:0<N):∀ (f n:Nat),∃ m,GC_ lt N (kas_asc p f n)=some m
 | 0,n=>⟨n,rfl⟩
 | f+1,n=>by
  unfold kas_asc GC_;rw [if_pos ⟨h.below h0 _,h.below h0 _⟩];cases lt (p.getD n 0) (p.getD (n-1) 0) with
  | true=>exact ⟨n,rfl⟩
  | false=>exact kf_ h h0 f (n+1)
theorem Pm.rev {p:Array Nat}(h:Pm N p)(i j:Nat):Pm N (kas_rev p i j):=(mirror_perm _ _ _ _).trans h
theorem gZ_ (h0:0<N):∀ (f:Nat)(p:Array Nat)(n q:Nat),Pm N p->∃ r,GC_ lt N (kas_desc f p n q)=some r/\Pm N r.1
 | 0,p,n,q,h=>⟨_,rfl,h⟩
 | f+1,p,n,q,h=>by
  unfold kas_desc GC_;rw [if_pos ⟨h.below h0 _,h.below h0 _⟩];cases lt (p.getD n 0) (p.getD (n-1) 0) with
  | true =>
   simp only [if_true];split
   ·exact gZ_ h0 f _ _ _ (h.rev _ _)
   ·exact gZ_ h0 f _ _ _ h
  | false =>
   simp only [Bs_,BS_];unfold GC_;rw [if_pos ⟨h.below h0 _,h.below h0 _⟩];cases lt (p.getD (n-1) 0) (p.getD n 0) with
   | true=>exact ⟨_,rfl,h⟩
   | false=>exact gZ_ h0 f _ _ _ h
theorem jv_ (h0:0<N){n r:Nat}{p:Array Nat}(h:Pm N p):∃ z,GC_ lt N (kas_tail3 n r p)=some z/\Pm N z.2:=by obtain ⟨m,hm⟩:=kf_ (lt:=lt) (h.rev 0 n) h0 (r-n) n;unfold kas_tail3;exact ⟨_,(br_ _ hm).trans rfl,h.rev 0 n⟩
theorem gm_ (h0:0<N){n r:Nat}{p:Array Nat}(h:Pm N p):∃ z,GC_ lt N (kas_descPart n r p)=some z/\Pm N z.2:=by
 obtain ⟨d,hd,hp⟩:=gZ_ (lt:=lt) h0 (r-(n+1)) p (n+1) 0 h;unfold kas_descPart;rw [br_ _ hd];split
 ·exact jv_ h0 (hp.rev _ _)
 ·exact jv_ h0 hp
theorem mw_ (h0:0<N){r:Nat}{p:Array Nat}(h:Pm N p):∃ z,GC_ lt N (kas_count r p)=some z/\Pm N z.2:=by
 obtain ⟨m,hm⟩:=kf_ (lt:=lt) h h0 (r-1) 1;unfold kas_count;rw [br_ _ hm];split
 ·exact ⟨_,rfl,h⟩
 ·split
  ·unfold GC_;rw [if_pos ⟨h.below h0 _,h.below h0 _⟩];cases lt (p.getD 0 0) (p.getD (m-1) 0) with
   | true=>exact ⟨_,rfl,h⟩
   | false=>exact gm_ h0 (h.rev _ _)
  ·exact gm_ h0 h
theorem hq_ (h0:0<N){p:Array Nat}(h:Pm N p)(k:Nat):∀ (f l r:Nat),∃ m,GC_ lt N (kas_place p k f l r)=some m
 | 0,l,r=>⟨l,rfl⟩
 | f+1,l,r=>by
  unfold kas_place;split
  ·exact ⟨l,rfl⟩
  ·unfold GC_;rw [if_pos ⟨h.below h0 _,h.below h0 _⟩];cases lt (p.getD k 0) (p.getD ((l+r)/2) 0) with
   | true=>exact hq_ h0 h k f l _
   | false=>exact hq_ h0 h k f _ r
theorem mx_ (h0:0<N):∀ (f:Nat)(p:Array Nat)(k:Nat),Pm N p->∃ z,GC_ lt N (kas_bin f p k)=some z/\Pm N z
 | 0,p,k,h=>⟨p,rfl,h⟩
 | f+1,p,k,h=>by obtain ⟨l,hl⟩:=hq_ (lt:=lt) h0 h k k 0 k;unfold kas_bin;rw [br_ _ hl];exact mx_ h0 f _ _ ((bubble_perm _ _ _).trans h)
theorem nG_ (h0:0<N):∃ z,GC_ lt N (kas_sort N)=some z/\Pm N z:=by
 obtain ⟨r,hr,hp⟩:=mw_ (lt:=lt) h0 (r:=N) (p:=List.toArray (List.range N)) (Array.Perm.refl _);unfold kas_sort;rw [br_ _ hr];split
 ·exact mx_ h0 _ _ _ hp
 ·exact ⟨_,rfl,hp⟩
end
end L2
namespace L2
open PySem PySem.Spec PyProof.Rows PySem.W
theorem Inv.frm {X:Cx}{pins:List (Addr×Obj)}{σ:St}{H:Hp}{s:Shared}(I:Inv X pins σ H s):∃ m,s.heap.Ns X.env.locals m/\Fr X.base X.env.locals s.heap m:=by obtain ⟨m,hn,_⟩:=id I.loc;exact ⟨m,hn,hn,I.bk,AM_ I.ok.bsz I.ok.above⟩
theorem Inv.led_new {X:Cx}{pins:List (Addr×Obj)}{σ:St}{H:Hp}{s:Shared}{t':Nat}{m:Str->Option Value}{h':Heap}{D:Addr}{o:HO}{ob:Obj}(I:Inv X pins σ H s)(hn:s.heap.Ns X.env.locals m)(F:Fr X.base X.env.locals h' m)
  (N:News X.base X.env.locals h' ((D,ob)::F8_ X.base s.heap X.env.locals)) (lt1:∀ q∈F8_ X.base s.heap X.env.locals,q.1<D) (new:F2_ X.prog X.w (upd H D o) h' D o):H D=none/\Inv X pins σ (upd H D o) { s with heap:=h',toks:=t' }:=by
 have ND:=N (D,ob) At_;have fr:∀ b o,s.heap.get? b=some o->b≠D:=fun b o e w=>by subst w;exact absurd (lt1 (b,o) (bF_ ND.2.1 ND.2.2 e)) (Bb_ _)
 have HD:H D=none:=by
  cases w:H D with
  | none=>rfl
  | some u =>obtain ⟨o',g⟩:=Jp_ (I.hok D u w);exact absurd rfl (fr D o' g)
 refine ⟨HD,I.led hn F (fun z hz'=>N z (Ar_ _ hz')) (fun b o' e n=>by rw [af_ (fr b o' e)];exact n) (fun b o' e=>by rw [af_ (ae_ e HD)];exact e) (fun b o' e n=>?_)⟩;by_cases hb:b=D
 ·subst hb;rw [aa_] at e;cases e;exact new
 ·rw [af_ hb,n] at e;cases e
def Ky_:List V->Hp->VK->Prop:=fun vs H Q=>∃ (p:Addr)(ns:List Int),vs=[.ref p]/\H p=some (.lst (ns.map V.int))/\ns.length<64/\∀ (l:Addr)(zs:List Int),H l=none->zs.Perm ns->zs.Pairwise (· <= ·)->Q (.ref l) (upd H l (.lst (zs.map V.int)))
theorem gn_:∀ {us:List Value}{ns:List Int},IntsAre us ns->FT_ (ns.map V.int) us
 | _,_,.nil=>.nil
 | _,_,.cons n t h=>.cons ⟨t,rfl⟩ (gn_ h)
theorem h3_ {X:Cx}:GE_ X (.builtin "sorted") Ky_:=by intro pins s σ H xs us Q I r h;obtain ⟨p,ns,rfl,hp,h64,q⟩:=h;obtain ⟨u,rfl,e⟩:=GF_ r;cases e;obtain ⟨its,rv,pl,_⟩:=I.list (.inl (.inl hp));obtain ⟨m,hn,F0⟩:=I.frm;refine kso_sorted F0 eD_ pl.isList (lr_ rv) h64 fun D vs' zs c h' F N lt1 hz hlz hpm hpw _=>?_;have hD:=(N (D,_) At_).1;obtain ⟨HD,I2⟩:=I.led_new (t':=s.toks) (o:=.lst (zs.map V.int)) hn F N lt1 ⟨AJ_ (Fw_ (by rw [Ab_];lia)),vs',c,gn_ hz,hD⟩;exact ⟨.ref D,_,I2,rfl,q D zs HD hpm hpw⟩
end L2
namespace L2
open PySem PySem.Spec PyProof.Rows PySem.W
section
variable {prog:Program}{w:World}{A:Around}{E:Value->Shared->Prop}{s:Shared}
theorem Lx_ {a:Addr}{v:Value}{n:Nat}{P:PySem.Fin->Shared->Prop}(ho:s.heap.get? a=some (seqObj "list" #[v] n))
  (h:∀ h' c,(∀ b o,b≠a->s.heap.get? b=some o->h'.get? b=some o)->h'.get? a=some (seqObj "list" #[v] c)->P (.done (.ret .none)) { s with heap:=h' }):wpAny (model prog w) A (Builtin.«list.sort» ⟨[.ref a],[]⟩) P E s:=by
 have s1:=Co_ s.heap a (Obj.mapSeq fun _=>(#[]:Array Value));obtain ⟨e1,o1⟩:∃ e1,(s.heap.update a (Obj.mapSeq fun _=>(#[]:Array Value))).get? a=some (seqObj "list" #[] e1):=⟨_,Cg_ ho fun _=>#[]⟩;rw [list_sort_plain];refine Ac_ (Dh_ ho rfl (Ac_ (Cq_ ho rfl (Ac_ (Du_ o1 rfl (Ac_ (Dq_ (Ac_ (CM_ (A6_ ?_) (Ay_ _))) ?_)))) ?_ (Ay_ _))))
 ·dsimp only
  have lt2:(#[v]:Array Value).size<2:=by show 1<2;decide
  rw [if_pos lt2];refine Ac_ (Ai_ ?_);rw [if_pos lt2];have k3:∀ b o,(s.heap.update a (Obj.mapSeq fun _=>(#[]:Array Value))).get? b=some o->(((s.heap.update a (Obj.mapSeq fun _=>(#[]:Array Value))).push (seqObj "tuple" #[v] 0)).push (seqObj "list" #[] 0)).get? b=some o:=fun b o e=>Ah_ _ (Ah_ _ e);have o3:=k3 _ _ o1;have st:failedOf (SortSt.mk' general' ((#[v]:Array Value).zip #[v]) #[] 7 none)=none:=rfl;have ar:(arrOf (SortSt.mk' general' ((#[v]:Array Value).zip #[v]) #[] 7 none)).map (fun x=>x.snd) = #[v]:=by rw [show arrOf (SortSt.mk' general' ((#[v]:Array Value).zip #[v]) #[] 7 none)=(#[v]:Array Value).zip #[v] from rfl];simp
  refine Ac_ (Ai_ (a:=((),SortSt.mk' general' ((#[v]:Array Value).zip #[v]) #[] 7 none)) ?_);refine Ac_ (Du_ o3 rfl (Ac_ (Cq_ o3 rfl ?_ (Ay_ _) ?_)))
  ·dsimp only
   rw [ar,if_neg (by simp)];obtain ⟨c2,o4⟩:∃ c2,((((s.heap.update a (Obj.mapSeq fun _=>(#[]:Array Value))).push (seqObj "tuple" #[v] 0)).push (seqObj "list" #[] 0)).update a (Obj.mapSeq fun _=>(#[v]:Array Value))).get? a=some (seqObj "list" #[v] c2):=⟨_,Cg_ o3 fun _=>#[v]⟩;refine Ai_ (h _ c2 (fun b o hb e=>?_) o4);rw [A0_ _ _ (Ne.symm hb)];refine k3 b o ?_;rw [A0_ _ _ (Ne.symm hb)];exact e
  ·rw [ar];exact (show 1<=sizeLine+1 from Nat.le_add_left 1 _)
 ·exact (show 1<=sizeLine from AJ_ (Fw_ (by decide)))
 ·exact (show 1<=sizeLine from AJ_ (Fw_ (by decide)))
theorem Kl_ {l:Addr}{v:Value}{Q:Value->Shared->Prop}(hl:s.heap.IsList l #[v])
  (h:∀ D h' c,s.heap.objs.size<=D->(∀ b o,s.heap.get? b=some o->h'.get? b=some o)->h'.get? D=some (seqObj "list" #[v] c)->Q (.ref D) { s with heap:=h' }):wpAny (model prog w) A (call (.builtin "sorted") [.ref l]) Q E s:=by
 refine Calls.call_function_entry Ft_ Fm_ Fn_ (args_sorted1 _) ?_;unfold Builtin.«sorted»;have z1:(#[v]:Array Value).size<=sizeLine:=(show 1<=sizeLine from AJ_ (Fw_ (by decide)));refine Ac_ (m:=checkCount "sorted" 1 1 _) (Ai_ (Ac_ (Fo_ hl (Ac_ (CM_ ?_ z1)) z1)));have hz:((s.heap.push (seqObj "list" #[] 0)).update s.heap.objs.size (Obj.mapSeq fun x=>x ++ #[v])).objs.size=s.heap.objs.size+1:=by rw [Eb_,DV_]
 have kp:∀ b o,s.heap.get? b=some o->(((s.heap.push (seqObj "list" #[] 0)).update s.heap.objs.size (Obj.mapSeq fun x=>x ++ #[v])).push (seqObj "list" #[v] 0)).get? b=some o:=fun b o q=>by have hlt:=Au_ q;refine Ah_ _ ?_;rw [A0_ _ _ (CB_ hlt)];exact Ah_ _ q
 have ho:=Av_ ((s.heap.push (seqObj "list" #[] 0)).update s.heap.objs.size (Obj.mapSeq fun x=>x ++ #[v])) (o:=seqObj "list" #[v] 0) rfl;refine Ac_ (A6_ (B3_ ER_ ⟨_,ho,rfl⟩ Ev_ (Lx_ (n:=0) ho fun h' c k2 hD=>⟨_,rfl,Ai_ ⟨_,rfl,h _ h' c ?_ (fun b o e=>k2 b o ?_ (kp b o e)) hD⟩⟩) (args_list_sort _)))
 ·show s.heap.objs.size<=((s.heap.push (seqObj "list" #[] 0)).update s.heap.objs.size (Obj.mapSeq fun x=>x ++ #[v])).objs.size;rw [hz];exact C0_ _
 ·have:=Au_ e;show b≠((s.heap.push (seqObj "list" #[] 0)).update s.heap.objs.size (Obj.mapSeq fun x=>x ++ #[v])).objs.size;rw [hz];exact AF_ (Bd_ this)
end
def Kv_:List V->Hp->VK->Prop:=fun vs H Q=>∃ (p:Addr)(y:V),vs=[.ref p]/\H p=some (.lst [y])/\∀ l,H l=none->Q (.ref l) (upd H l (.lst [y]))
theorem h4_ {X:Cx}:GE_ X (.builtin "sorted") Kv_:=by intro pins s σ H xs us Q I r h;obtain ⟨p,y,rfl,hp,q⟩:=h;obtain ⟨u,rfl,e⟩:=GF_ r;cases e;obtain ⟨its,rv,pl,_⟩:=I.list (.inl (.inl hp));obtain ⟨v,rfl,ry⟩:=GF_ rv;refine Kl_ pl.isList fun D h' c hD kp ho=>?_;exact ⟨.ref D,_,I.laid (t':=s.toks) kp hD (show F2_ X.prog X.w _ h' _ (.lst [y]) from ⟨(show 1<=sizeLine from AJ_ (Fw_ (by decide))),[v],c,rv,ho⟩),rfl,q _ (I.hok.fresh hD)⟩
end L2
namespace L2
open PySem PySem.Spec PyProof.Rows PySem.W
theorem my_:typeLookup (.type "list_reverseiterator") "__len__" = pure none:=by rw [typeLookup_type,ES_];kernel_rfl
theorem nH_:typeLookup (.type "list_reverseiterator") "__length_hint__" = pure (some (.builtin "list_reverseiterator.__length_hint__")):=by rw [typeLookup_type,ES_];kernel_rfl
section
variable {prog:Program}{w:World}{A:Around}{E:Value->Shared->Prop}{s:Shared}
abbrev GJ_ (acc:Array Value)(c:Nat):Obj:={ cls:=.type "list",dict:=none,data:=.seq acc c,slots:=#[] }
theorem kg_ {it l:Addr}{items:Array Value}{Q:Value->Shared->Prop}(hh:A.handled=none)(hit:s.heap.IsRevIter it l ((items.size:Int)-1))(hl:s.heap.IsList l items)(hne:l≠it)(hz:items.size<=sizeLine)
  (hQ:∀ h' tk acc c,(∀ b o,b≠it->s.heap.get? b=some o->h'.get? b=some o)->h'.get? s.heap.objs.size=some (GJ_ acc c)->ItemsOf (fun i v=>items[items.size-1-i]?=some v) acc items.size->Q (.ref s.heap.objs.size) { s with heap:=h',toks:=tk }) :
  wpAny (model prog w) A (call (.type "list") [.ref it]) Q E s:=by
 obtain ⟨oi,hoi,_⟩:=id hit;obtain ⟨ol,hol,_⟩:=id hl;have itl:=Au_ hoi;have ll:=Au_ hol;refine callType_codes (Q₁:=fun obj s₁=>obj=.ref s.heap.objs.size/\s₁={ s with heap:=s.heap.push (GJ_ #[] 0) }) F.called_list (F.typeCall_list_1 _) F.entry_list_init (code_list_new _ ⟨rfl,rfl⟩) fun obj s₁ h₁=>?_;obtain ⟨rfl,rfl⟩:=h₁;have hS:(s.heap.push (GJ_ #[] 0)).get? s.heap.objs.size=some (GJ_ #[] 0):=Av_ _ rfl;have k1:∀ b o,s.heap.get? b=some o->(s.heap.push (GJ_ #[] 0)).get? b=some o:=fun b o e=>Ah_ _ e;have nS:∀ b o,s.heap.get? b=some o->b≠s.heap.objs.size:=fun b o e=>AF_ (Au_ e);refine ⟨⟨_,hS,rfl⟩,F.args_list_init_2 _ _,?_⟩;show wpAny _ _ (do let old <-Builtin.List.listItems (.ref s.heap.objs.size);Builtin.List.listUpdate (.ref s.heap.objs.size) (fun _=>#[]);letGo old.toList.reverse;Builtin.List.listExtendWith (.ref s.heap.objs.size) (.ref it) .none) _ _ _;refine Ac_ (Dh_ hS rfl (Ac_ (Cq_ hS rfl (Ac_ (CO_ ?_)) (Ay_ _) (Ay_ _))));have k2:∀ b o,s.heap.get? b=some o->((s.heap.push (GJ_ #[] 0)).update s.heap.objs.size (Obj.mapSeq fun _=>(#[]:Array Value))).get? b=some o:=fun b o e=>by rw [A0_ _ _ (nS b o e).symm];exact k1 b o e
 obtain ⟨c0,hS2⟩:∃ c0,((s.heap.push (GJ_ #[] 0)).update s.heap.objs.size (Obj.mapSeq fun _=>(#[]:Array Value))).get? s.heap.objs.size=some (GJ_ #[] c0):=⟨_,Cg_ hS fun _=>#[]⟩;show wpAny _ _ _ _ _ { s with heap:=(s.heap.push (GJ_ #[] 0)).update s.heap.objs.size (Obj.mapSeq fun _=>(#[]:Array Value)) };generalize (s.heap.push (GJ_ #[] 0)).update s.heap.objs.size (Obj.mapSeq fun _=>(#[]:Array Value))=h2 at *;have hit2:h2.IsRevIter it l ((items.size:Int)-1):=hit.at fun o e=>k2 _ _ e;have hl2:h2.IsList l items:=hl.at fun o e=>k2 _ _ e;have ty:Shared.TypeIs { s with heap:=h2 } (.ref it) "list_reverseiterator" := Heap.IsRevIter.typeIs (s:={ s with heap:=h2 }) hit2;have W:=(Walks.listRev (prog:=prog) (w:=w) (A:=A.in1.in1) hh it l hne items).toS
 have nf:s.heap.objs.size∉[it,l]:=fun hm=>by
  rcases Ax_.mp hm with e|hm
  ·exact absurd itl (by rw [<-e];exact Bb_ _)
  ·exact absurd ll (by rw [<-Ak_.mp hm];exact Bb_ _)
 have ne1:Builtin.List.listSameRef (.ref s.heap.objs.size) (.ref it)=false:=by have:s.heap.objs.size≠it:=fun e=>nf (by rw [e];exact At_);simp [Builtin.List.listSameRef,this]
 unfold Builtin.List.listExtendWith;refine Ac_ (CD_ ty ?_);rw [if_neg (by rw [ne1];decide)];refine Ac_ (wpAny_pyIter_revIter (s:={ s with heap:=h2 }) hit2 (Ac_ (A6_ ?_)));unfold Builtin.List.listLengthHint;refine Ac_ (Cu_ ty my_ ?_);show wpAny _ _ (specialOf (Value.ref it) (Str.ofString "__length_hint__") >>= _) _ _ _;refine Ac_ (Cu_ ty nH_ ?_);generalize hid:("list_reverseiterator.__length_hint__" : String)=id0
 wp_delta
 rw [show splitId id0=some ("list_reverseiterator", "__length_hint__") from by subst hid;decide +kernel];subst hid;refine Ac_ (CK_ (b:=true) ty (by rw [isSubtype_type];kernel_rfl) (Ai_ ?_));rw [if_neg (by decide)];have st0:(0:Nat)<=items.size/\h2.IsRevIter it l ((items.size:Int)-1-((0:Nat):Int))/\h2.IsList l items:=⟨Ay_ _,by rw [show (items.size:Int)-1-((0:Nat):Int)=(items.size:Int)-1 by lia];exact hit2,hl2⟩;refine Ai_ ⟨BH_ F.plain_extend_loop _,codeAny_extend_loopS (s:={ s with heap:=h2 }) W hz s.heap.objs.size nf .none items.size 0 #[] c0 rfl (Ay_ _) st0 hS2 (ItemsOf.nil _) fun s' acc c hm hS' hacc=>?_⟩;rw [Moved.eq_with hm];refine ⟨rfl,hQ s'.heap s'.toks acc c (fun b o hb e=>hm.heap b o (fun hmem=>?_) (k2 b o e)) hS' hacc⟩
 rcases Ax_.mp hmem with e'|hmem
 ·exact nS b o e e'
 ·exact hb (Ak_.mp hmem)
end
theorem kh_:bootBuiltins "reversed" = some (.type "reversed"):=by rfl'
def J4_ (ta:TA):TE:=fun σ H Q=>ta σ H fun vs H1=>∃ a xs,vs=[.ref a]/\H1 a=some (.lst xs)/\∀ p,H1 p=none->Q (.ref p) (upd H1 p (.lst xs.reverse))
theorem hr_ {X:Cx}{a:Expr}{ta:TA}{p p' pos pos':Pos}(hc:X.calm=true)(hg:Gl X "list") (hm:X.mg "list" = none) (hg':Gl X "reversed") (hm':X.mg "reversed" = none) (ha:PA X [a] ta) (hs:FJ_ [a]=true:=by rfl) :
  PE X (.Call (.Name "list" p) [.Call (.Name "reversed" p') [a] [] pos'] [] pos) (J4_ ta):=by
 have h':Go_ a=true:=by simpa [FJ_] using hs
 intro pins s σ H Q I h;refine BP_ (d5_ I hg hm dC_ ?_ (by decide) (by decide));refine Bj_ ?_ (an_ rfl) rfl;rw [an_ (e:=.Call (.Name "reversed" p') [a] [] pos') (es:=[]) rfl];show wpAny _ _ (spliced ((false,eval (.Call (.Name "reversed" p') [a] [] pos') X.env)::backTo pos (starEach [] X.env))) _ _ s;refine DC_ ?_;refine Call_ (d5_ I hg' hm' kh_ (Bj_ (thn (ha pos' pins s σ H _ I h) fun us s1 ⟨vs,H1,I1,r1,q1⟩=>?_) (an_ h') rfl));obtain ⟨b,xs,rfl,hb,q⟩:=q1;obtain ⟨u,rfl,e⟩:=GF_ r1;cases e;obtain ⟨its,rv,pl,hz⟩:=I1.list (.inl (.inl hb));have hlen:=rv.length;refine call_reversed_list pl.isList (DP_ ?_);obtain ⟨ob,hob,_⟩:=id pl.isList;have bl:=Au_ hob;have e1:((its.toArray.size:Nat):Int)-1=((its.toArray.size:Nat):Int)-1:=rfl;have hit:(s1.heap.push (revObj b ((its.toArray.size:Int)-1))).IsRevIter s1.heap.objs.size b ((its.toArray.size:Int)-1):=⟨_,Av_ _ rfl,rfl,rfl⟩;refine kg_ (s:={ s1 with heap:=s1.heap.push (revObj b ((its.toArray.size:Int)-1)) }) (I1.ok.hd hc) hit (pl.isList.at fun o e=>Ah_ _ e) (AF_ bl) (by rw [As_];lia) fun h2 tk acc c kp hS hacc=>?_;have k1:∀ b o,s1.heap.get? b=some o->h2.get? b=some o:=fun b o e=>kp b o (AF_ (Au_ e)) (Ah_ _ e);have sz:s1.heap.objs.size<=(s1.heap.push (revObj b ((its.toArray.size:Int)-1))).objs.size:=by rw [DV_];exact C0_ _
 refine ⟨.ref _,_,I1.laid (t':=tk) k1 sz (show F2_ X.prog X.w _ h2 _ (.lst xs.reverse) from ⟨by rw [Ba_];exact hz,acc.toList,c,gY_ ?_ ?_,by simpa using hS⟩),rfl,q _ (I1.hok.fresh sz)⟩
 ·have z:acc.size=its.length:=by have:=hacc.1;simpa using this
  have z2:acc.toList.length=acc.size:=B1_;rw [Ba_];lia
 ·intro j x u hx hu;have hj:j<xs.length:=by have:=(Ae_.mp hx).1;simpa using this
  rw [Cd_ hj] at hx;have z:=hacc.2 j u (by simpa using hu);obtain ⟨u',hu',ru⟩:=rv.get hx;have z':its[its.length-1-j]?=some u:=by simpa using z
  rw [<-hlen,hu'] at z';cases z';exact ru
end L2
namespace L2
open PySem PySem.Spec PyProof.Rows
def HV_:V->List V->Hp->VK->Prop:=fun x vs H Q=>∃ (l:Addr)(xs:List V)(i:Int)(y:V),x=.ref l/\vs=[.int i,y]/\H l=some (.lst xs)/\0<=i/\i.toNat<=xs.length/\xs.length<1000/\Q .non (upd H l (.lst (xs.take i.toNat++y::xs.drop i.toNat)))
theorem jw_ {X:Cx}:MtM X "list.insert" HV_:=by
 intro pins s σ H x vs v us Q I rx rv h;obtain ⟨l,xs,i,y,rfl,rfl,hH,h0,h1,h2,q⟩:=h;cases rx;obtain ⟨u,w,rfl,ru,rw'⟩:=rv.two;obtain ⟨t,rfl⟩:=ru;obtain ⟨z,its,n,r,hl,e⟩:=I.lstM hH;refine CT_ F.slot_list_insert ⟨_,e,rfl⟩ F.entry_list_insert (F.args_list_insert_3 _ _ _) (AutoSeq1.list_insert_list_int_val_1 l its.toArray n i t w (by rw [fitsIndex_both (k:=i) (by lia) (by lia)];decide) (by rw [As_];lia)) ⟨e,?_⟩;refine ⟨.non,_,I.lset (its':=its.take i.toNat++w::its.drop i.toNat) hH e ?_ ((r.take _).append (.cons rw' (r.drop _))) ?_,rfl,q⟩
 ·dsimp only
  rw [if_neg (by lia),As_,Eu_ (by lia)];simp;exact BD_ (by simp)
 ·have:=Fw_ h2;simp;lia
def Ite (K:PySem.W.Frag)(a:Addr):It :=
  ⟨fun i H=>∃ xs x,SqL K H a xs/\xs[i]?=some x,
   fun i H v H'=>∃ T x,v=.ref T/\H T=none/\H'=upd H T (.tup [.int i,x])/\(∀ xs,SqL K H a xs->xs[i]?=some x),
   fun i H=>∃ xs,SqL K H a xs/\xs.length<=i⟩
def Kx_ (e it l:Addr)(i:Nat)(h:Heap):Prop:=(∃ old,IsEnum h e it i old)/\h.IsListIter it l i
theorem mz_ {P:Program}{w:World}{K:PySem.W.Frag}{elts:List Expr}{kt:Nat}{tpos:Pos}{e it l:Addr}(hei:e≠it) :
  JV_ P w K (.Tuple elts kt tpos) (Ite K l) [e,it] e (Kx_ e it l) where
 mem:=by simp
 obj:=fun i h st b hb=>by
  obtain ⟨⟨old,s1⟩,⟨o4,s4,c4,d4⟩⟩:=st;simp only [Ax_,AO_,Dp_] at hb
  rcases hb with rfl|rfl
  ·exact ⟨_,s1,fun v e=>by cases (show Data.fields _=Data.cell v from e)⟩
  ·exact ⟨o4,s4,fun v e=>by rw [d4] at e;cases e⟩
 keep:=fun i h h' st k=>by obtain ⟨⟨old,s1⟩,s4⟩:=st;exact ⟨⟨old,k e (by simp) _ s1⟩,s4.at fun o q=>k it (by simp) o q⟩
 item:=by
  intro X hP hw hK hc i pins s σ H E I hf st hg;subst hP hw hK;obtain ⟨xs,x,hq,hx⟩:=hg;obtain ⟨its,rv,p1,z1⟩:=I.list hq;obtain ⟨u,hu,ru⟩:=rv.get hx;obtain ⟨⟨old,s1⟩,s4⟩:=id st;refine wpAny_pyNext_enum_item s1 s4 p1.isList (x:=u) (by simpa using hu) hei fun h' g1 g2 g3 g4 g5=>?_;refine ⟨_,rfl,wpAny_letOwnedTupleGo_enum g1 fun h'' k1 k2=>?_⟩
  have lt:∀ b∈[e,it],b<s.heap.objs.size:=fun b hb=>by
   simp only [Ax_,AO_,Dp_] at hb
   rcases hb with rfl|rfl
   ·exact Au_ s1
   ·obtain ⟨o,e,_⟩:=s4;exact Au_ e
  have hT:H s.heap.objs.size=none:=I.hok.fresh (Aj_ _)
  have I1:Inv X pins σ (upd H s.heap.objs.size (.tup [.int i,x])) { s with heap:=s.heap.push { cls:=.type "tuple",data:=.seq #[.int i s.toks,u] } } :=
   I.laid (t':=s.toks) (fun b u e=>Ah_ _ e) (Aj_ _) ⟨by show 2<=sizeLine;decide,[.int i s.toks,u],.cons ⟨_,rfl⟩ (.cons ru .nil),⟨_,Av_ _ rfl,rfl,_,rfl⟩⟩
  have f1:∀ b∈[e,it],HM_ X pins (upd H s.heap.objs.size (.tup [.int i,x])) b:=fun b hb=>⟨by rw [af_ (AF_ (lt b hb))];exact (hf b hb).1,(hf b hb).2⟩
  have I2:Inv X pins σ (upd H s.heap.objs.size (.tup [.int i,x])) { s with heap:=h'',toks:=s.toks+1 }:=by
   refine Inv.turnedL (s:={ s with heap:=s.heap.push { cls:=.type "tuple",data:=.seq #[.int i s.toks,u] } }) (ch:=[e,it]) (t':=s.toks+1) I1 (fun b o hb q=>?_) f1;simp only [Ax_,AO_,Dp_,not_or] at hb;refine (k2.2 b hb.1).trans ?_;by_cases hbT:b=s.heap.objs.size
   ·subst hbT;have e':(s.heap.push { cls:=.type "tuple",data:=.seq #[.int i s.toks,u] }).get? s.heap.objs.size=some o:=q;rw [Av_ _ rfl] at e';cases e';exact g3
   ·have hb2:s.heap.get? b=some o:=by have e':(s.heap.push { cls:=.type "tuple",data:=.seq #[.int i s.toks,u] }).get? b=some o:=q;exact (Ci_ _ _ _ hbT).symm.trans e'
    exact g5 b o hb.1 hb.2 hb2
  refine ⟨.ref s.heap.objs.size,_,I2,rfl,⟨_,x,rfl,hT,rfl,fun xs' h'=>by rw [I.list_inj h' hq];exact hx⟩,?_,fun b hb=>(f1 b hb).1⟩;exact ⟨⟨u,k1⟩,g2.at fun o q=>(k2.2 it hei.symm).trans q⟩
 done:=by intro X hP hw hK hc i pins s σ H E I hf st hg;subst hP hw hK;obtain ⟨xs,hq,he⟩:=hg;obtain ⟨its,rv,p1,z1⟩:=I.list hq;obtain ⟨⟨old,s1⟩,s4⟩:=id st;have l1:=rv.length;refine wpAny_pyNext_enum_end (I.ok.hd hc) s1 s4 p1.isList (by simp;lia) fun h' k=>⟨rfl,?_⟩;refine Inv.turnedL (ch:=[e,it]) (t':=s.toks) I (fun b o hb q=>?_) hf;simp only [Ax_,AO_,Dp_,not_or] at hb;exact k b o hb.2 q
 self:=fun _ _ _ _ _ st h=>by obtain ⟨⟨old,s1⟩,_⟩:=st;exact wpAny_pyIter_enum s1 h
def JT_ (K:PySem.W.Frag)(ta:TA):TI:=fun σ H R=>ta σ H fun vs H1=>∃ a,vs=[.ref a]/\(∃ xs,SqL K H1 a xs)/\R (Ite K a) H1
theorem mA_ {X:Cx}{K:PySem.W.Frag}{elts:List Expr}{kt:Nat}{tpos:Pos}{a:Expr}{ta:TA}{p pos:Pos}(hK:X.K=K)(hg:Gl X "enumerate") (hm:X.mg "enumerate" = none) (ha:PA X [a] ta) (hs:FJ_ [a]=true:=by rfl):PI X (.Tuple elts kt tpos) (.Call (.Name "enumerate" p) [a] [] pos) (JT_ K ta):=by
 subst hK;intro pins s σ H R I h;have h':Go_ a=true/\FJ_ []=true:=by simpa [FJ_] using hs
 refine Call_ (d5_ I hg hm jj_ (Bj_ (thn (ha pos pins s σ H _ I h) fun us s1 ⟨vs,H1,I1,r1,q1⟩=>?_) (an_ h'.1) (cc_ h'.2)));obtain ⟨l,e,⟨xs,hx⟩,q⟩:=q1;subst e;obtain ⟨u1,rfl,e1⟩:=GF_ r1;cases e1;obtain ⟨its1,rv1,p1,z1⟩:=I1.list hx;refine call_enumerate_list p1.isList fun h' g1 g2 g3 g4=>?_;have I2:Inv X pins σ H1 { s1 with heap:=h' }:=I1.kept (t':=s1.toks) g4;refine wpAny_pyIter_enum g1 ⟨_,[s1.heap.objs.size+1,s1.heap.objs.size],_,Ite X.K l,H1,rfl,I2,mz_ (Nat.succ_ne_self _),⟨⟨_,g1⟩,g2⟩,fun b hb=>?_,q⟩
 have hb':s1.heap.objs.size<=b:=by
  simp only [Ax_,AO_,Dp_] at hb
  rcases hb with rfl|rfl <;> first|exact Bh_ _ _|exact Aj_ _
 exact I1.fpOk hb' (I1.hok.fresh hb')
end L2
namespace L2
open PySem PySem.Spec PyProof.Rows PySem.W
section
variable {prog:Program}{w:World}{A:Around}{E:Value->Shared->Prop}{s:Shared}{h₀:Heap}{L a:Addr}{m:Str->Option Value}{news:List (Addr×Obj)}{vs:List Value}
abbrev HB_:List (Str×Value):=[(Str.ofString "reverse",.bool true)]
def JK_ (a:Addr)(before:Nat)(st:SortSt):Sem PySem.Fin:=do
 let out:=(arrOf st).map (·.2)
 let moved:=(<-seqEpoch a) != before
 Builtin.List.listUpdate (.ref a) fun _=>out.reverse
 if let some x:=failedOf st then rule "list.sort.comparison-raised";throw x
 if moved then rule "list.sort.modified";raiseError "ValueError" "list modified during sort"
 ret .none
def IJ_ (a:Addr)(xs:Array Value)(before:Nat):Sem PySem.Fin:=do
 let two:=xs.zip xs
 rule "list.sort.reverse"
 let kd <-if xs.size<2 then pure general' else keyKind' xs
 let ((),st) <-(if xs.size<2 then pure () else sortRuns').run (SortSt.mk' kd two.reverse #[] 7 none)
 JK_ a before st
theorem iA_ (a:Addr):Builtin.«list.sort» ⟨[.ref a],HB_⟩=(Builtin.List.listItems (.ref a) >>= fun xs=>Builtin.List.listUpdate (.ref a) (fun _=>#[]) >>= fun _=>seqEpoch a >>= fun before=>newTuple xs.toList >>= fun held=>newList [] >>= fun store=>holding [held,store] (IJ_ a xs before)):=rfl
theorem oV_ (xs:List Value):((List.toArray xs).zip (List.toArray xs)).reverse=(List.toArray xs.reverse).zip (List.toArray xs.reverse):=by have e:=kat_pairs (ks:=xs) (vs:=xs) true rfl;rw [if_pos rfl] at e;exact e
theorem nI_ {n:Nat}{P:PySem.Fin->Shared->Prop}(F0:Fr h₀ L s.heap m)(N0:News h₀ L s.heap news)(got:s.heap.get? a=some (seqObj "list" vs.toArray n)) (aL:a≠L) (a0:h₀.get? a=none) (na:∀ q∈news,q.1≠a) (two:2<=vs.length) (few:vs.length<64)
  (ask:∀ c h',Fr h₀ L h' m->News h₀ L h' ((a,seqObj "list" #[] c)::news)->wpAny (model prog w) A (keyKind' vs.toArray) (fun κ s1=>(kas_sort vs.length).kasWp (kas_ask prog w A κ vs.reverse) (fun p s2=>KasFin h₀ L m a c ((p.toList.map fun i=>vs.reverse.getD i Value.none).reverse) (fun s3=>P (.done (.ret .none)) s3) s2) s1) (fun _ _=>False) { s with heap:=h' }) :
  wpAny (model prog w) A (Builtin.«list.sort» ⟨[.ref a],HB_⟩) P E s:=by
 have lt:=Au_ got;have b1:=Co_ s.heap a (Obj.mapSeq fun _=>(#[]:Array Value));obtain ⟨c,got1⟩:∃ c,(s.heap.update a (Obj.mapSeq fun _=>(#[]:Array Value))).get? a=some (seqObj "list" #[] c):=⟨_,Cg_ got fun _=>#[]⟩;have F1:=((kas_fr F0 b1 aL a0).push (seqObj "tuple" vs.toArray 0)).push (seqObj "list" #[] 0);have N1:=(kas_news N0 b1 na).grown (h':=((s.heap.update a (Obj.mapSeq fun _=>(#[]:Array Value))).push (seqObj "tuple" vs.toArray 0)).push (seqObj "list" #[] 0)) fun b x e=>Ah_ _ (Ah_ _ e)
 have N2:News h₀ L (((s.heap.update a (Obj.mapSeq fun _=>(#[]:Array Value))).push (seqObj "tuple" vs.toArray 0)).push (seqObj "list" #[] 0)) ((a,seqObj "list" #[] c)::news):=fun q hq=>by
  rcases Ax_.mp hq with rfl|hq
  ·exact ⟨Ah_ _ (Ah_ _ got1),aL,a0⟩
  ·exact N1 q hq
 have asked:=ask c _ F1 N2;have big:64<=sizeLine:=by rw [B8_];decide
 rw [iA_];refine Ac_ (Dh_ got rfl (Ac_ (Cq_ got rfl (Ac_ (Du_ got1 rfl (Ac_ (Dq_ (Ac_ (CM_ (A6_ ?_) (Ay_ _))) (by show vs.length<=_;lia))))) (by rw [As_];lia) (Ay_ _))));show wpAny (model prog w) A (IJ_ a vs.toArray c) P E { s with heap:=((s.heap.update a (Obj.mapSeq fun _=>(#[]:Array Value))).push (seqObj "tuple" vs.toArray 0)).push (seqObj "list" #[] 0) };unfold IJ_
 dsimp only
 have n2:¬ vs.toArray.size<2:=by rw [As_];lia
 rw [if_neg n2,if_neg n2,oV_];refine Ac_ (CH_ (Ac_ (Bi_ asked (fun κ s0 hk=>?_) fun _ _ x=>x.elim)));have rl:vs.reverse.length=vs.length:=Ba_
 refine Ac_ (Bi_ (kat_run (ks:=vs.reverse) (vs:=vs.reverse) (Q:=fun st s1=>∃ p:Array Nat,p.size=vs.length/\arrOf st=p.map (kas_item (vs.reverse.toArray.zip vs.reverse.toArray))/\failedOf st=none/\KasFin h₀ L m a c ((p.toList.map fun i=>vs.reverse.getD i Value.none).reverse) (fun s2=>P (.done (.ret .none)) s2) s1)
  rfl (by lia) (by lia) (fun p st s1 x1 x2 x3 x4=>⟨p,by rw [x1,rl],x2,x3,x4⟩) (by rw [rl];exact hk)) ?_ fun _ _ e=>e)
 rintro ⟨⟨⟩,st⟩ s1 ⟨p,hp,har,hf,news1,g,F2,N3,U,k⟩;obtain ⟨pre,post,e0,hg,x1,x2⟩:=U.split;rw [e0] at N3;have now:=N3 (a,seqObj "list" #[] c) (AH_ _ (.head _));have out:=kat_snds (ks:=vs.reverse) (vs:=vs.reverse) rfl har;have outr:((arrOf st).map (·.2)).reverse=List.toArray ((p.toList.map fun i=>vs.reverse.getD i Value.none).reverse):=by rw [out];simp
 unfold JK_
 dsimp only
 rw [outr];have sz:(List.toArray ((p.toList.map fun i=>vs.reverse.getD i Value.none).reverse)).size=vs.length:=by rw [As_,Ba_,Ab_,B1_,hp]
 have b2:=Co_ s1.heap a (Obj.mapSeq fun _=>List.toArray ((p.toList.map fun i=>vs.reverse.getD i Value.none).reverse));obtain ⟨c2,got2⟩:∃ c2,(s1.heap.update a (Obj.mapSeq fun _=>List.toArray ((p.toList.map fun i=>vs.reverse.getD i Value.none).reverse))).get? a=some (seqObj "list" (List.toArray ((p.toList.map fun i=>vs.reverse.getD i Value.none).reverse)) c2):=⟨_,Cg_ now.1 fun _=>List.toArray ((p.toList.map fun i=>vs.reverse.getD i Value.none).reverse)⟩;refine Ac_ (Du_ now.1 rfl (Ac_ (Cq_ now.1 rfl ?_ (Ay_ _) (by rw [sz];lia))));rw [hf];simp only [bne_self_eq_false,Bs_,BS_];refine Ai_ (k _ c2 (kas_fr F2 b2 now.2.1 now.2.2) ?_);rw [hg];exact news_set N3 x1 x2 b2 got2
theorem jx_ (x:Value):argsOk "sorted" ⟨[x],HB_⟩:=by unfold argsOk;kernel_rfl
theorem lv_ (x:Value):argsOk "list.sort" ⟨[x],HB_⟩:=by unfold argsOk;kernel_rfl
theorem lw_ {l:Addr}{Q:Value->Shared->Prop}(F0:Fr h₀ L s.heap m)(N0:News h₀ L s.heap news)(isl:s.heap.IsList l vs.toArray)(two:2<=vs.length)(few:vs.length<64)
  (ask:∀ D c h',Fr h₀ L h' m->News h₀ L h' ((D,seqObj "list" #[] c)::news)->(∀ q∈news,q.1<D)->wpAny (model prog w) A.in1.in1 (keyKind' vs.toArray) (fun κ s1=>(kas_sort vs.length).kasWp (kas_ask prog w A.in1.in1 κ vs.reverse) (fun p s2=>KasFin h₀ L m D c ((p.toList.map fun i=>vs.reverse.getD i Value.none).reverse) (fun s3=>Q (.ref D) s3) s2) s1) (fun _ _=>False) { s with heap:=h' }) :
  wpAny (model prog w) A (call (.builtin "sorted") [.ref l] HB_) Q E s:=by
 have big:64<=sizeLine:=by rw [B8_];decide
 refine EE_ Ft_ Fm_ Fn_ (jx_ _) ?_;unfold Builtin.«sorted»;refine Ac_ (m:=checkCount "sorted" 1 1 _) (Ai_ (Ac_ (Fo_ isl (Ac_ (CM_ ?_ (by lia))) (by lia))));have sz:((s.heap.push (seqObj "list" #[] 0)).update s.heap.objs.size (Obj.mapSeq (· ++ vs.toArray))).objs.size=s.heap.objs.size+1:=(Eb_ ..).trans (DV_ ..);obtain ⟨hx,ex⟩:∃ hx,hx=(s.heap.push (seqObj "list" #[] 0)).update s.heap.objs.size (Obj.mapSeq (· ++ vs.toArray)):=⟨_,rfl⟩;rw [<-ex] at sz;have got:(hx.push (seqObj "list" vs.toArray 0)).get? (s.heap.objs.size+1)=some (seqObj "list" vs.toArray 0):=by rw [<-sz];exact Av_ _ rfl
 have kp:∀ b o,s.heap.get? b=some o->(hx.push (seqObj "list" vs.toArray 0)).get? b=some o:=fun b o q=>by have hb:=Au_ q;rw [Ci_ _ _ _ (by rw [sz];exact AF_ (Bd_ hb)),ex,Ff_ _ _ _ _ (AF_ hb),Ci_ _ _ _ (AF_ hb)];exact q
 have hL:=F0.ns.lt;show wpAny _ _ _ _ _ { s with heap:=((s.heap.push (seqObj "list" #[] 0)).update s.heap.objs.size (Obj.mapSeq (· ++ vs.toArray))).push (seqObj "list" vs.toArray 0) };rw [<-ex,sz];refine Ac_ (A6_ (Fg_ ER_ ⟨_,got,rfl⟩ Ev_ ?body (lv_ _)))
 case body =>show wpAny (model prog w) A.in1.in1 (Builtin.«list.sort» ⟨[.ref (s.heap.objs.size+1)],HB_⟩) _ _ _;refine nI_ (s:={ s with heap:=hx.push (seqObj "list" vs.toArray 0) }) (F0.kept kp) (N0.grown kp) got (CB_ (Bd_ hL)) (Cj_ (AM_ F0.above (Nat.le_succ_of_le (AJ_ hL)))) (fun q hq=>AF_ (Bd_ (Au_ (N0 q hq).1))) two few fun c h' F' N'=>?_;refine Bi_ (ask _ c h' F' N' fun q hq=>Bd_ (Au_ (N0 q hq).1)) (fun κ s1 hk=>?_) fun _ _ x=>x;rw [kat_ask_eq (vs:=vs.reverse) rfl] at hk ⊢;exact kas_wp_mono hk fun p s2 hk2=>hk2.mono fun s3 hq=>⟨_,rfl,Ai_ ⟨_,rfl,hq⟩⟩
end
section
variable {X:Cx}{pins:List (Addr×Obj)}{σ:St}{H:Hp}{s:Shared}
theorem lx_ {Q:VK}{p:Addr}{ys:List V}{lt:Nat->Nat->Bool}{κ:SortKind}{pm:Array Nat}(I:Inv X pins σ H s)(hq:SqL X.K H p ys)(h2:2<=ys.length)(h64:ys.length<64)
  (kind:∀ (its:List Value)(s':Shared),FT_ ys its->Inv X pins σ H s'->∀ C:SortKind->Shared->Prop,C κ s'->wpAny (model X.prog X.w) X.A.in1.in1 (keyKind' its.toArray) C (fun _ _=>False) s')
  (less:∀ (its:List Value)(s':Shared)(i j:Nat),FT_ ys.reverse its->Inv X pins σ H s'->i<ys.length->j<ys.length->∀ C:Bool->Shared->Prop,C (lt i j) s'->wpAny (model X.prog X.w) X.A.in1.in1 (keyLt' κ (its.getD i Value.none) (its.getD j Value.none)) C (fun _ _=>False) s')
  (run:GC_ lt ys.length (kas_sort ys.length)=some pm) (hz:pm.size<=1000) (q:∀ l,H l=none->Q (.ref l) (upd H l (.lst (pm.toList.map fun i=>ys.reverse.getD i .non).reverse))) :
  wpAny (model X.prog X.w) X.A (call (.builtin "sorted") [.ref p] HB_) (EP X pins σ Q) X.xe s:=by
 obtain ⟨its,rv,pl,_⟩:=I.list hq;have hl:=rv.length;obtain ⟨m,hn,F0⟩:=I.frm;refine lw_ F0 eD_ pl.isList (by lia) (by lia) fun D e1 h1 F1 N1 lt1=>?_;have N1':News X.base X.env.locals h1 (F8_ X.base s.heap X.env.locals):=fun z hz'=>N1 z (Ar_ _ hz');have ND:=N1 (D,_) At_;have fr:∀ b o,s.heap.get? b=some o->b≠D:=fun b o e w=>by subst w;exact absurd (lt1 (b,o) (bF_ ND.2.1 ND.2.2 e)) (Bb_ _)
 have HD:H D=none:=by
  cases w:H D with
  | none=>rfl
  | some u =>obtain ⟨o,g⟩:=Jp_ (I.hok D u w);exact absurd rfl (fr D o g)
 have I1:Inv X pins σ H { s with heap:=h1,toks:=s.toks }:=I.led hn F1 N1' (fun _ _ _ n=>n) (fun _ _ w=>w) (fun b o w n=>by rw [w] at n;cases n);have rvr:FT_ ys.reverse its.reverse:=rv.reverse;refine kind its _ rv I1 _ ?_;rw [<-hl];refine k5_ (lt:=lt) (n:=ys.length) (fun i j C hi hj hC=>less its.reverse _ i j rvr I1 hi hj C hC) _ run ?_;refine Fl_ F1 N1 (.head fun z hz' w=>?_) fun h2' c F2 N2=>?_
 ·exact absurd (lt1 z hz') (by rw [w];exact Bb_ _)
 ·have N2':News X.base X.env.locals h2' (F8_ X.base s.heap X.env.locals):=fun z hz'=>N2 z (Ar_ _ hz');have hD:=(N2 (D,_) At_).1;refine ⟨.ref D,upd H D (.lst (pm.toList.map fun i=>ys.reverse.getD i .non).reverse),I.led (t':=s.toks) hn F2 N2' (fun b o e n=>by rw [af_ (fr b o e)];exact n) (fun b o e=>by rw [af_ (ae_ e HD)];exact e) (fun b o e n=>?_),rfl,q D HD⟩;by_cases hb:b=D
  ·subst hb;rw [aa_] at e;cases e;exact ⟨AJ_ (Fw_ (by simp;lia)),_,c,(hp_ rvr _).reverse,hD⟩
  ·rw [af_ hb,n] at e;cases e
end
end L2
namespace L2
open PySem PySem.Spec PyProof.Rows PySem.W
section
variable {X:Cx}{pins:List (Addr×Obj)}{σ:St}{H:Hp}{s:Shared}
def LJ_ (T:String):V->Prop
 | .int _=>T = "int"
 | .str _=>T = "str"
 | _=>False
theorem hs_ (T:String)(I:Inv X pins σ H s):∀ {ys:List V}{its:List Value},FT_ ys its->(∀ y∈ys,∃ a x z,y=.ref a/\H a=some (.tup [x,z])/\LJ_ T x) ->
  ∃ fs,KatTups s.heap its fs/\fs.length=its.length/\∀ v∈fs,Looks (model X.prog X.w) s.heap (typeOf v) (.type T)
 | [],_,.nil,_=>⟨[],.nil,rfl,fun v hv=>nomatch hv⟩
 | y::ys,_,.cons r1 r2,h=>by
  obtain ⟨fs,t,hl,hf⟩:=hs_ T I r2 fun y hy=>h y (Ar_ _ hy);obtain ⟨a,x,z,rfl,ha,fx⟩:=h _ At_;cases r1;obtain ⟨zs,rz,⟨ob,ho,hcl,n,hd⟩,_⟩:=I.tuple (.inl (.inl ha));obtain ⟨u,w',rfl,ru,rw'⟩:=HE_ rz;refine ⟨u::fs,.cons ho hcl hd rfl t,by simp [hl],fun v hv=>?_⟩
  rcases Ax_.mp hv with rfl|hv
  ·cases x with
   | int i=>obtain ⟨t,rfl⟩:=ru;cases fx;exact .now
   | str i=>obtain ⟨t,rfl⟩:=ru;cases fx;exact .now
   | _=>exact absurd fx (by simp [LJ_])
  ·exact hf v hv
theorem jy_ (I:Inv X pins σ H s){a b:Addr}{x1 x2 y1 y2:V}{d1 d2 e1 e2:Dt}{b1 b2:Bool}{C:Bool->Shared->Prop}{A:Around}{E:Value->Shared->Prop}(hu:A.units+60<cLine)
  (ha:H a=some (.tup [x1,x2])) (hb:H b=some (.tup [y1,y2])) (r1:Rep H x1 d1) (r2:Rep H x2 d2) (q1:Rep H y1 e1) (q2:Rep H y2 e2) (h1:deq d1 e1=some b1) (h2:deq d2 e2=some b2) (z1:dep d1<=50) (z2:dep d2<=50)
  (c1:b1=false->∀ u v,F1_ x1 u->F1_ y1 v->wpAny (model X.prog X.w) A (oneLt' true u v) C (fun _ _=>False) s)
  (c2:b1=true->b2=false->∀ u v,F1_ x2 u->F1_ y2 v->wpAny (model X.prog X.w) A (oneLt' false u v) C (fun _ _=>False) s)
  (c3:b1=true->b2=true->C false s):wpAny (model X.prog X.w) A (keyLt' (tuples' true) (.ref a) (.ref b)) C E s:=by
 obtain ⟨zs,rz,⟨ob,ho,hcl,n,hd⟩,_⟩:=I.tuple (.inl (.inl ha));obtain ⟨u1,u2,rfl,ru1,ru2⟩:=HE_ rz;obtain ⟨ws,rw,⟨ob',ho',hcl',n',hd'⟩,_⟩:=I.tuple (.inl (.inl hb));obtain ⟨v1,v2,rfl,rv1,rv2⟩:=HE_ rw;refine kat_lt ho hd ho' hd' ?_;refine kat_cons (kZ_ I Vw.refl d1 e1 r1 q1 ru1 rv1 h1 (by lia) _ _ _ _ ?_);cases b1 with
 | false=>exact kat_no (c1 rfl _ _ ru1 rv1)
 | true =>
  refine kat_yes (kat_cons (kZ_ I Vw.refl d2 e2 r2 q2 ru2 rv2 h2 (by lia) _ _ _ _ ?_));cases b2 with
  | false=>exact kat_no (c2 rfl rfl _ _ ru2 rv2)
  | true=>exact kat_yes (kat_nil (c3 rfl rfl))
end
def Hd_ (ta:TA):TE:=fun σ H Q=>ta σ H fun vs H1=>∃ (p x y:Addr)(c d:Int×Int),vs=[.ref p]/\H1 p=some (.lst [.ref x,.ref y])/\H1 x=some (.tup [.int c.1,.int c.2])/\H1 y=some (.tup [.int d.1,.int d.2])/\∀ l zs,H1 l=none->(zs=[V.ref x,V.ref y]\/zs=[V.ref y,V.ref x])->Q (.ref l) (upd H1 l (.lst zs))
theorem nJ_ {p:Array Nat}(h:Pm 2 p):p.toList=[0,1]\/p.toList=[1,0]:=by
 have e:=A7_.mp h;have hl:p.toList.length=2:=by simpa using e.length_eq
 match hp:p.toList,hl with
 | [a,b],_ =>
  rw [hp] at e;have m0:=e.mem_iff (a:=0);have m1:=e.mem_iff (a:=1);have ma:=e.mem_iff (a:=a);have mb:=e.mem_iff (a:=b);simp [List.range,List.range.loop] at m0 m1 ma mb
  rcases ma with rfl|rfl <;> rcases mb with rfl|rfl <;> simp_all
theorem jz_ {X:Cx}(hu:X.A.units+64<cLine){pins:List (Addr×Obj)}{s:Shared}{σ:St}{H:Hp}{p x y:Addr}{c d:Int×Int}{Q:VK}(I:Inv X pins σ H s)(hp:H p=some (.lst [.ref x,.ref y]))(hx:H x=some (.tup [.int c.1,.int c.2]))(hy:H y=some (.tup [.int d.1,.int d.2]))
  (q:∀ l zs,H l=none->(zs=[V.ref x,V.ref y]\/zs=[V.ref y,V.ref x])->Q (.ref l) (upd H l (.lst zs))):wpAny (model X.prog X.w) X.A (call (.builtin "sorted") [.ref p] HB_) (EP X pins σ Q) X.xe s:=by
 have all:∀ z∈[V.ref x,V.ref y],∃ (a:Addr)(e:Int×Int),z=.ref a/\H a=some (.tup [.int e.1,.int e.2]):=fun z hz=>by
  rcases Ax_.mp hz with rfl|hz
  ·exact ⟨x,c,rfl,hx⟩
  ·rw [Ak_.mp hz];exact ⟨y,d,rfl,hy⟩
 let lt:Nat->Nat->Bool:=fun i j=>let e:=if i=0 then d else c;let f:=if j=0 then d else c;if e.1=f.1 then (if e.2=f.2 then false else decide (e.2<f.2)) else decide (e.1<f.1)
 obtain ⟨pm,hr,hpm⟩:=nG_ (lt:=lt) (N:=2) (by decide);have pz:pm.size=2:=by simpa using (A7_.mp hpm).length_eq
 refine lx_ (lt:=lt) (κ:=tuples' true) (pm:=pm) I (.inl (.inl hp)) (Aj_ _) (by show 2<64;decide) ?kind ?less hr (by lia) fun l nl=>q l _ nl ?_
 case kind =>
  intro its s' rv I' C hC;obtain ⟨fs,t,hf,lk⟩:=hs_ "int" I' rv fun z hz=>by obtain ⟨a,e,rfl,ha⟩:=all z hz;exact ⟨a,_,_,rfl,ha,rfl⟩
  have hl:=rv.length;have hl2:fs.length=2:=by rw [hf,<-hl];rfl
  exact kat_kind t (by lia) lk (by decide) hC
 case less =>
  intro its s' i j rv I' hi hj C hC;have u2:X.A.in1.in1.units+60<cLine:=by rw [AV_,AV_];lia
  have pick:∀ i,i<2->∃ a,its.getD i Value.none=.ref a/\H a=some (.tup [.int (if i=0 then d else c).1,.int (if i=0 then d else c).2]):=fun i hi=>by
   obtain ⟨u,w',rfl,ru,rw'⟩:=HE_ (show FT_ [V.ref y,V.ref x] its from rv);cases ru;cases rw'
   match i,hi with
   | 0,_=>exact ⟨y,rfl,hy⟩
   | 1,_=>exact ⟨x,rfl,hx⟩
  obtain ⟨a,ea,ha⟩:=pick i hi;obtain ⟨b,eb,hb⟩:=pick j hj;rw [ea,eb];have hlt:lt i j=if (if i=0 then d else c).1=(if j=0 then d else c).1 then (if (if i=0 then d else c).2=(if j=0 then d else c).2 then false else decide ((if i=0 then d else c).2<(if j=0 then d else c).2)) else decide ((if i=0 then d else c).1<(if j=0 then d else c).1):=rfl;rw [hlt] at hC;generalize (if i=0 then d else c)=e at *;generalize (if j=0 then d else c)=f at *;refine jy_ I' u2 ha hb (d1:=.int e.1) (d2:=.int e.2) (e1:=.int f.1) (e2:=.int f.2) (b1:=decide (e.1=f.1)) (b2:=decide (e.2=f.2)) rfl rfl rfl rfl (by rw [deq];rfl) (by rw [deq];rfl) (by simp [dep]) (by simp [dep]) (fun h u v ru rv=>?_) (fun h1 h2 u v ru rv=>?_) (fun h1 h2=>?_)
  ·obtain ⟨t,rfl⟩:=ru;obtain ⟨t',rfl⟩:=rv;rw [if_neg (Cc_ h)] at hC;exact oneLt_int hC
  ·obtain ⟨t,rfl⟩:=ru;obtain ⟨t',rfl⟩:=rv;rw [if_pos (A8_ h1),if_neg (Cc_ h2)] at hC;exact kat_one _ _ (lt_int hC)
  ·rw [if_pos (A8_ h1),if_pos (A8_ h2)] at hC;exact hC
 ·rcases nJ_ hpm with e|e <;> rw [e]
  ·exact .inl rfl
  ·exact .inr rfl
theorem ly_ {X:Cx}{a:Expr}{ta:TA}{p pos cp kp:Pos}{k:Nat}(hu:X.A.units+64<cLine)(hg:Gl X "sorted") (hm:X.mg "sorted" = none) (ha:PA X [a] ta) (hs:FJ_ [a]=true:=by rfl) :
  PE X (.Call (.Name "sorted" p) [a] [⟨some "reverse",.Constant (.bool true) k cp,kp⟩] pos) (Hd_ ta):=by
 have h':Go_ a=true:=by simpa [FJ_] using hs
 intro pins s σ H Q I h;refine BP_ (d5_ I hg hm fw_ ?_ (by decide) (by decide));refine callWith_kw (thn (ha pos pins s σ H _ I h) fun us s1 ⟨vs,H1,I1,r1,q1⟩=>?_) (by rw [an_ h'];rfl) (by rw [an_ h'];rfl) rfl rfl;obtain ⟨p,x,y,c,d,rfl,hp,hx,hy,q⟩:=q1;obtain ⟨u,rfl,e⟩:=GF_ r1;cases e;refine kws_cons (thn (GI_ pins s1 σ H1 (fun v H2=>v=.bl true/\H2=H1) I1 ⟨rfl,rfl⟩) fun v s2 ⟨z,H2,I2,r2,e1,e2⟩=>?_);subst e1 e2;cases r2;exact kws_nil (jz_ hu I2 hp hx hy q)
end L2
namespace L2
open PySem PySem.Spec PyProof.Rows PySem.W
def JQ_:R2:=fun x y H Q=>∃ i n,x=.str i/\y=.int n/\MulOk i n/\Q (.str (Txt.mul i n)) H
theorem h5_ {X:Cx}:OpR X (binaryOp .Mult) JQ_:=by intro pins s σ H x y v u Q I rx ry h;obtain ⟨i,n,rfl,rfl,ok,q⟩:=h;obtain ⟨t,rfl⟩:=rx;obtain ⟨t',rfl⟩:=ry;exact SB.mul ok fun t' k=>⟨.str (Txt.mul i n),H,I.tok _,⟨_,rfl⟩,q⟩
section
variable {prog:Program}{w:World}{A:Around}{E:Value->Shared->Prop}{s:Shared}
end
theorem mB_ (i j:Str):(i++j).length=i.length+j.length:=by show (i.cps++j.cps).size=_;rw [DQ_];rfl
end L2
namespace L2
open PySem PySem.Spec PyProof.Rows PySem.W
def HQ_:V->List V->Hp->VK->Prop:=fun x vs H Q=>∃ (a:Addr)(kvs:List (Key×V))(k:Key)(z:V),x=.ref a/\vs=[kV k,z]/\H a=some (.dK kvs)/\kvs.length<1000/\(∀ v,F9_ kvs k=some v->Q v H)/\(F9_ kvs k=none->Q z (upd H a (.dK (Ge_ kvs k z))))
theorem iB_ {X:Cx}:MtR X "dict.setdefault" HQ_:=by
 intro pins s σ H x xs v us Q I rx r h;obtain ⟨a,kvs,k,z,rfl,rfl,e,hz,h1,h2⟩:=h;cases rx;obtain ⟨u,w',rfl,ru,rw'⟩:=HE_ r;obtain ⟨_,hd,vs,rel,dd⟩:=Jm_ I.hok e;have hl:vs.length<=sizeLine:=by rw [<-rel.length];exact AJ_ (Fw_ (AJ_ hz))
 refine Fp_ Dr_ dd.typeIs PySem.F.entry_dict_setdefault (PySem.F.args_dict_setdefault_3 _ _ _) (kt_meets_setdefault (FM_ X.prog X.w) a (HZ_ ru) hd w') ⟨vs,dd,hl,fun v hv=>?_,fun hn h' dd' hs=>?_⟩
 ·have rv:=rel.val k;rw [hv] at rv;cases e2:F9_ kvs k with
  | none=>rw [e2] at rv;cases rv
  | some y =>rw [e2] at rv;exact ⟨y,H,I.tok _,rv,h1 y e2⟩
 ·have rv:=rel.val k;rw [hn] at rv;cases e2:F9_ kvs k with
  | some y=>rw [e2] at rv;cases rv
  | none =>
   have he:∃ q,h'.get? a=some q:=let ⟨q,_,_,hq,_⟩:=dd';⟨q,hq⟩;have pl:(Ge_ kvs k z).length<=sizeLine:=by have:=aH_ kvs k z;have:=Fw_ (n:=1000) (Aj_ _);lia
   exact ⟨z,_,f3_ (t':=s.toks+1) I (by rw [e];exact True.intro) hs he (mq_ pl hd (rel.put k rw') dd'),rw',h2 e2⟩
def Idv (d:Addr)(ob:Obj)(kvs:List (Key×V)):It :=
 ⟨fun i H=>H d=some (.frz ob (.dK kvs))/\i<kvs.length,fun i H x H'=>H'=H/\∃ k,kvs[i]?=some (k,x),fun i H=>H d=some (.frz ob (.dK kvs))/\kvs.length<=i⟩
theorem f4_ {α β:Type}{F:α->β->Prop}:∀ {l:List α}{m:List β}{i:Nat}{a:α}{b:β},Paired F l m->l[i]?=some a->m[i]?=some b->F a b
 | _,_,_,_,_,.nil,h,_=>by cases h
 | _,_,0,_,_,.cons x _,h1,h2=>by cases h1;cases h2;exact x
 | _,_,i+1,_,_,.cons _ r,h1,h2=>f4_ (i:=i) r h1 h2
theorem mC_ {P:Program}{w:World}{H:Hp}{h:Heap}{d:Addr}{ob:Obj}{kvs:List (Key×V)}{es0:Array DictEntry}{ep:Nat}(ok:HOk P w H h)(e:H d=some (.frz ob (.dK kvs)))(hd:ob.data=.dict es0 ep):∃ vs,KV kvs vs/\h.DictAt (FM_ P w) d vs ep:=by obtain ⟨g,_,_,vs,rel,o,es,ep',ho,r1,r2,r3⟩:=(show F2_ P w H h d (.frz ob (.dK kvs)) from ok d _ e);rw [g] at ho;cases ho;rw [hd] at r2;cases r2;exact ⟨vs,rel,ob,es0,g,r1,hd,r3⟩
theorem mD_ {P:Program}{w:World}{K:PySem.W.Frag}{tg:Expr}{d it:Addr}{ob:Obj}{kvs:List (Key×V)}{es0:Array DictEntry}{ep:Nat}(hob:ob.data=.dict es0 ep) :
  JV_ P w K tg (Idv d ob kvs) [it] it (fun i h=>h.IsValIter it d i kvs.length ep) where
 mem:=by simp
 obj:=fun i h st b hb=>by
  have e:b=it:=by simpa using hb
  subst e;obtain ⟨o,e,c,dd⟩:=st;exact ⟨o,e,fun v z=>by rw [dd] at z;cases z⟩
 keep:=fun i h h' st k=>let ⟨o,e,r⟩:=st;⟨o,k it (by simp) o e,r⟩
 item:=by intro X hP hw hK hc i pins s σ H E I hf st hg;subst hP hw hK;obtain ⟨e,hi⟩:=hg;obtain ⟨vs,rel,da⟩:=mC_ I.hok e hob;have hl:kvs.length=vs.length:=rel.length;obtain ⟨f0,f1,f2,f3,f4,f5⟩:=hf it (by simp);have hx:vs[i]?=some (vs[i]'(by lia)):=Aa_ _;have hk:kvs[i]?=some (kvs[i]):=Aa_ _;obtain ⟨e1,e2⟩:=f4_ rel hk hx;rw [hl] at st;refine wpAny_pyNext_values_item st da (k:=(vs[i]'(by lia)).1) (v:=(vs[i]'(by lia)).2) hx fun h' st' sb=>?_;have I1:Inv X pins σ H { s with heap:=h' }:=I.turned (t':=s.toks) (fun b o hb e=>(sb.2 b hb).trans e) f0 f1 f3 f4 f5;rw [<-hl] at st';obtain ⟨o,e,c,dd⟩:=id st';exact ⟨_,rfl,Jl_ (s:={ s with heap:=h' }) e c dd (by decide) ⟨(kvs[i]).2,H,I1,e2,⟨rfl,(kvs[i]).1,hk⟩,st',fun b hb=>(hf b hb).1⟩⟩
 done:=by intro X hP hw hK hc i pins s σ H E I hf st hg;subst hP hw hK;obtain ⟨e,hi⟩:=hg;obtain ⟨vs,rel,da⟩:=mC_ I.hok e hob;have hl:kvs.length=vs.length:=rel.length;obtain ⟨f0,f1,f2,f3,f4,f5⟩:=hf it (by simp);rw [hl] at st;exact wpAny_pyNext_values_end (I.ok.hd hc) st da (Be_ (by lia)) fun h' eb=>⟨rfl,I.turned (t':=s.toks) (fun b o hb e=>eb b o hb e) f0 f1 f3 f4 f5⟩
 self:=fun _ _ _ _ _ st h=>wpAny_pyIter_valiter st h
theorem Inv.freeze {X:Cx}{pins:List (Addr×Obj)}{σ:St}{H:Hp}{s:Shared}{d:Addr}{kvs:List (Key×V)}(I:Inv X pins σ H s)(e:H d=some (.dK kvs)):∃ ob es0 ep,ob.data=.dict es0 ep/\s.heap.get? d=some ob/\Inv X pins σ (upd H d (.frz ob (.dK kvs))) s:=by obtain ⟨z,hd,vs,rel,dd⟩:=Jm_ I.hok e;obtain ⟨ob,es,ep,ho,r1,r2,r3⟩:=id dd;refine ⟨ob,es,ep,r2,ho,?_⟩;have:=f3_ (h':=s.heap) (t':=s.toks) (ob:=.frz ob (.dK kvs)) I (by rw [e];exact True.intro) ⟨rfl,fun _ _=>rfl⟩ ⟨ob,ho⟩ ⟨ho,z,hd,vs,rel,dd⟩;exact this
def iDV (td:TE):TI:=fun σ H R=>td σ H fun x H1=>∃ (d:Addr)(kvs:List (Key×V)),x=.ref d/\H1 d=some (.dK kvs)/\∀ ob,R (Idv d ob kvs) (upd H1 d (.frz ob (.dK kvs)))
theorem nK_ {X:Cx}{tg o:Expr}{td:TE}{apos cpos:Pos}(ho:PE X o td)(hbase:attributeBase o "values" X.env (eval o X.env)=eval o X.env:=by rfl) (hline:(apos.endLine == cpos.line)=true:=by rfl):PI X tg (.Call (.Attribute o "values" apos) [] [] cpos) (iDV td):=by
 intro pins s σ H R I h;refine Eo_ hbase hline (thn (ho pins s σ H _ I h) fun v s1 ⟨x,H1,I1,r1,d,kvs,e,hd,q⟩=>?_);subst e;cases r1;obtain ⟨ob,es0,ep,hob,hoo,I2⟩:=I1.freeze hd;obtain ⟨_,hsys,vs0,_,dd⟩:=Jm_ I1.hok hd;refine ⟨"dict", "dict.values",BZ_,Ec_,PySem.F.type_dict_values,dd.typeIs,fun b q=>?_,CZ_ rfl (Fh_ ?_)⟩
 ·cases q;obtain ⟨o2,_,_,h1,h2,_⟩:=id dd;exact ⟨o2,h1,h2.2.1⟩
 refine Fp_ Ec_ dd.typeIs PySem.F.entry_dict_values (PySem.F.args_dict_values_1 _) (meets_dict_values (FM_ X.prog X.w) d hsys) ⟨⟨vs0,dd⟩,?_⟩;have I3:Inv X pins σ (upd H1 d (.frz ob (.dK kvs))) { s1 with heap:=s1.heap.push { cls:=.type "dict_values",data:=.fields #[.ref d] } }:=I2.kept (t':=s1.toks) fun b o e=>Ah_ _ e;obtain ⟨vs,rel,da⟩:=mC_ (kvs:=kvs) I3.hok aa_ hob;refine wpAny_pyIter_values (s:={ s1 with heap:=s1.heap.push { cls:=.type "dict_values",data:=.fields #[.ref d] } }) ⟨_,Av_ _ rfl,rfl,rfl⟩ da ?_;rw [<-show kvs.length=vs.length from rel.length];refine ⟨(s1.heap.push { cls:=.type "dict_values",data:=.fields #[.ref d] }).objs.size,[_],_,_,upd H1 d (.frz ob (.dK kvs)),rfl,I3.kept (t':=s1.toks) fun b o e=>Ah_ _ e,mD_ hob,⟨_,Av_ _ rfl,rfl,rfl⟩,fun b hb=>?_,q ob⟩;have e:b=_:=Ak_.mp hb;subst e;exact I3.fpOk (Aj_ _) (I3.hok.fresh (Aj_ _))
theorem Ly_ {d:Addr}{ob:Obj}{kvs:List (Key×V)}{g:TG}{tb:TS}{D:HU_}{σ:St}{H:Hp}(Pv:Nat->St->Hp->Prop)(h0:Pv 0 σ H)(hl:∀ i σ H,i<=kvs.length->Pv i σ H->H d=some (.frz ob (.dK kvs)))
  (hs:∀ i k x σ H,kvs[i]?=some (k,x)->Pv i σ H->g x σ H fun σ2 H2=>tb { D with nx:=Pv (i+1),ct:=Pv (i+1),bk:=D.nx } σ2 H2) (hd:∀ σ H,Pv kvs.length σ H->D.nx σ H):G6_ (Idv d ob kvs) g tb D σ H:=by
 refine ⟨fun i m σ H=>m=kvs.length-i/\i<=kvs.length/\Pv i σ H,⟨kvs.length,by simp,Ay_ _,h0⟩,?_⟩;rintro i m σ H ⟨rfl,hi,p⟩;have q:=hl i σ H hi p;by_cases hlt:i<kvs.length
 ·refine .inr ⟨⟨q,hlt⟩,Pv (i+1),fun σ' H' p'=>⟨kvs.length-(i+1),by lia,rfl,hlt,p'⟩,fun x H' y=>?_⟩;obtain ⟨rfl,k,hk⟩:=y;exact hs i k x σ H' hk p
 ·have e:i=kvs.length:=by lia
  subst e;exact .inl ⟨⟨q,Aj_ _⟩,hd σ H p⟩
theorem mE_ {K:PySem.W.Frag}{a:Addr}{xs:List V}{g:TG}{tb:TS}{D:HU_}{σ:St}{H:Hp}(Pv:Nat->St->Hp->Prop)(h0:Pv 0 σ H)(hl:∀ i σ H,i<=xs.length->Pv i σ H->SqL K H a xs)
  (hs:∀ i x T σ H,xs[i]?=some x->Pv i σ H->H T=none->g (.ref T) σ (upd H T (.tup [.int i,x])) fun σ2 H2=>tb { D with nx:=Pv (i+1),ct:=Pv (i+1),bk:=D.nx } σ2 H2) (hd:∀ σ H,Pv xs.length σ H->D.nx σ H):G6_ (Ite K a) g tb D σ H:=by
 refine ⟨fun i m σ H=>m=xs.length-i/\i<=xs.length/\Pv i σ H,⟨xs.length,by simp,Ay_ _,h0⟩,?_⟩;rintro i m σ H ⟨rfl,hi,p⟩;have q:=hl i σ H hi p;by_cases hlt:i<xs.length
 ·refine .inr ⟨⟨xs,xs[i],q,by simp [hlt]⟩,Pv (i+1),fun σ' H' p'=>⟨xs.length-(i+1),by lia,rfl,hlt,p'⟩,fun x H' y=>?_⟩;obtain ⟨T,y,rfl,hT,rfl,hy⟩:=y;exact hs i y T σ H (hy xs q) p hT
 ·have e:i=xs.length:=by lia
  subst e;exact .inl ⟨⟨xs,q,Aj_ _⟩,hd σ H p⟩
end L2
namespace L2
open PySem PySem.Spec PyProof.Rows PySem.W
def Kw_ (t u:TS):TS:=fun D σ H=>∀ kk:St->Hp->Prop,(∀ σ' H',u D σ' H'->kk σ' H')->t { D with nx:=kk } σ H
theorem ac_ {X:Cx}{st:Stmt}{rest:List Stmt}{t u:TS}(h1:PS X st t)(h2:PSs X rest u):PSs X (st::rest) (Kw_ t u):=fun pins s σ H D I h=>ai_ h1 h2 pins s σ H D I (h (u D) fun _ _ q=>q)
theorem oW_ {t u:TS}{D:HU_}{σ:St}{H:Hp}(h:∀ kk:St->Hp->Prop,(∀ σ' H',u D σ' H'->kk σ' H')->t { D with nx:=kk } σ H):Kw_ t u D σ H:=h
theorem pP_ {kk u:St->Hp->Prop}(h:∀ σ' H',u σ' H'->kk σ' H'){σ:St}{H:Hp}(q:u σ H):kk σ H:=h _ _ q
theorem Lv_ {A G:Prop}(h:A->G)(a:A):G:=h a
abbrev SHP:=St->Hp->Prop
theorem a3_ {lo:Int}{n:Nat}{g:TG}{tb:TS}{nx bk ct:SHP}{rt:VK}{σ:St}{H:Hp}(Pv:Nat->St->Hp->Prop)(h0:Pv 0 σ H)
  (hs:∀ (i:Nat) σ H,i<n->∀ (kk kb:SHP),(∀ σ' H',Pv (i+1) σ' H'->kk σ' H')->(∀ σ' H',nx σ' H'->kb σ' H')->∀ G:Prop,((g (.int (lo+i)) σ H fun σ2 H2=>tb ⟨kk,rt,kb,kk⟩ σ2 H2)->G)->Pv i σ H->G) (hd:∀ σ H,Pv n σ H->nx σ H):G6_ (Itr lo n) g tb ⟨nx,rt,bk,ct⟩ σ H :=
 ip_ Pv h0 (fun i σ H hi p=>hs i σ H hi _ _ (fun _ _ q=>q) (fun _ _ q=>q) _ id p) hd
theorem eJ_ {K:PySem.W.Frag}{a:Addr}{xs:List V}{g:TG}{tb:TS}{nx bk ct:SHP}{rt:VK}{σ:St}{H:Hp}(Pv:Nat->St->Hp->Prop)(h0:Pv 0 σ H)(hl:∀ i σ H,i<=xs.length->Pv i σ H->SqL K H a xs)
  (hs:∀ (i:Nat) x σ H,xs[i]?=some x->∀ (kk kb:SHP),(∀ σ' H',Pv (i+1) σ' H'->kk σ' H')->(∀ σ' H',nx σ' H'->kb σ' H')->∀ G:Prop,((g x σ H fun σ2 H2=>tb ⟨kk,rt,kb,kk⟩ σ2 H2)->G)->Pv i σ H->G) (hd:∀ σ H,Pv xs.length σ H->nx σ H):G6_ (Itl K a) g tb ⟨nx,rt,bk,ct⟩ σ H :=
 iq_ Pv h0 hl (fun i x σ H hx p=>hs i x σ H hx _ _ (fun _ _ q=>q) (fun _ _ q=>q) _ id p) hd
theorem nL_ {K:PySem.W.Frag}{a:Addr}{xs:List V}{g:TG}{tb:TS}{nx bk ct:SHP}{rt:VK}{σ:St}{H:Hp}(Pv:Nat->St->Hp->Prop)(h0:Pv 0 σ H)(hl:∀ i σ H,i<=xs.length->Pv i σ H->SqL K H a xs)
  (hs:∀ (i:Nat) x T σ H,xs[i]?=some x->∀ (kk kb:SHP),(∀ σ' H',Pv (i+1) σ' H'->kk σ' H')->(∀ σ' H',nx σ' H'->kb σ' H')->∀ G:Prop,((g (.ref T) σ (upd H T (.tup [.int i,x])) fun σ2 H2=>tb ⟨kk,rt,kb,kk⟩ σ2 H2)->G)->Pv i σ H->H T=none->G) (hd:∀ σ H,Pv xs.length σ H->nx σ H):G6_ (Ite K a) g tb ⟨nx,rt,bk,ct⟩ σ H :=
 mE_ Pv h0 hl (fun i x T σ H hx p hT=>hs i x T σ H hx _ _ (fun _ _ q=>q) (fun _ _ q=>q) _ id p hT) hd
theorem g0_ {c:TT}{tb:TS}{nx bk ct:SHP}{rt:VK}{σ:St}{H:Hp}(Pv:St->Hp->Prop)(μ:St->Hp->Nat)(h0:Pv σ H)
  (hs:∀ σ H,∀ kb:SHP,(∀ σ' H',nx σ' H'->kb σ' H')->∀ G:Prop,((c σ H fun b H1=>if b=true then ∃ N:St->Hp->Prop,(∀ σ' H',N σ' H'->∃ m',m'<μ σ H/\m'=μ σ' H'/\Pv σ' H')/\tb ⟨N,rt,kb,N⟩ σ H1 else kb σ H1)->G)->Pv σ H->G):IP_ c tb ⟨nx,rt,bk,ct⟩ σ H :=
 kc_ Pv μ h0 fun σ H p=>hs σ H nx (fun _ _ q=>q) _ id p
theorem boxN {tb:TS}{N kb:SHP}{rt:VK}{σ:St}{H:Hp}(h:∀ kk:SHP,(∀ σ' H',N σ' H'->kk σ' H')->tb ⟨kk,rt,kb,kk⟩ σ H):tb ⟨N,rt,kb,N⟩ σ H:=h N fun _ _ q=>q
end L2
namespace L2
open PySem PySem.Spec PyProof.Rows
def J8_ (P:Program)(w:World)(a:Addr)(xs:List (Sk×Addr×Value))(h:Heap):Prop :=
 (a == sysModules)=false/\∃ o es ep,h.get? a=some o/\o.ExactDict/\o.data=.dict es ep/\es.toList=xs.map (entryOfKey (GM_ P w))/\(xs.map (·.1)).Nodup
def Gw_ (H:Hp)(b:Addr)(k:Sk):Prop:=∃ p,H b=some (.tup [.ref p,.bl k.2])/\H p=some (.tup (k.1.map kV))
def KP (H:Hp):List (Sk×V)->List (Sk×Addr×Value)->Prop:=Paired fun (p:Sk×V)(q:Sk×Addr×Value)=>p.1=q.1/\Gw_ H q.2.1 p.1/\F1_ p.2 q.2.2
def DP (P:Program)(w:World)(H:Hp)(a:Addr)(kvs:List (Sk×V)):Prop:=kvs.length<=sizeLine/\∃ xs,H a=some (.ext (J8_ P w a xs))/\KP H kvs xs
theorem Gw_.mono {H H':Hp}{b:Addr}{k:Sk}(h:Gw_ H b k)(s:Fx_ H H'):Gw_ H' b k:=let ⟨p,h1,h2⟩:=h;⟨p,s _ _ h1,s _ _ h2⟩
theorem KP.mono {H H':Hp}{kvs:List (Sk×V)}{xs:List (Sk×Addr×Value)}(h:KP H kvs xs)(s:∀ b k,Gw_ H b k->Gw_ H' b k):KP H' kvs xs:=Paired.mapP h fun _ _ z=>⟨z.1,s _ _ z.2.1,z.2.2⟩
theorem DP.mono {P:Program}{w:World}{H H':Hp}{a:Addr}{kvs:List (Sk×V)}(h:DP P w H a kvs)(s:Fx_ H H'):DP P w H' a kvs:=let ⟨h0,xs,h1,h2⟩:=h;⟨h0,xs,s _ _ h1,h2.mono fun _ _ z=>z.mono s⟩
theorem KP.val {H:Hp}{kvs:List (Sk×V)}{xs:List (Sk×Addr×Value)}(r:KP H kvs xs)(k:Sk):Ij_ (F9_ kvs k) ((atKey xs k).map (·.2)):=by
 induction r with
 | nil=>exact True.intro
 | @cons p q ps qs h t ih =>
  by_cases e:p.1=k
  ·rw [bh_ e];have:atKey (q::qs) k=some q.2:=by simp [atKey,BT_,show q.1=k from h.1 ▸ e]
   rw [this];exact h.2.2
  ·rw [a7_ e];have:atKey (q::qs) k=atKey qs k:=by simp [atKey,BT_,show ¬ q.1=k from h.1 ▸ e]
   rw [this];exact ih
theorem KP.repl {H:Hp}{kvs:List (Sk×V)}{xs:List (Sk×Addr×Value)}(r:KP H kvs xs)(k:Sk){y:V}{u:Value}(ry:F1_ y u):KP H (kvs.map fun kv=>if kv.1=k then (kv.1,y) else kv) (xs.map (putAt k u)):=by
 induction r with
 | nil=>exact .nil
 | @cons p q ps qs h t ih =>
  refine .cons ?_ ih;show (if p.1=k then (p.1,y) else p).1=(putAt k u q).1/\Gw_ H (putAt k u q).2.1 (if p.1=k then (p.1,y) else p).1/\F1_ (if p.1=k then (p.1,y) else p).2 (putAt k u q).2.2;unfold putAt;by_cases e:p.1=k
  ·rw [if_pos e,if_pos (h.1 ▸ e)];exact ⟨h.1,h.2.1,ry⟩
  ·rw [if_neg e,if_neg (h.1 ▸ e)];exact h
theorem KP.put {H:Hp}{kvs:List (Sk×V)}{xs:List (Sk×Addr×Value)}(r:KP H kvs xs)(k:Sk){b:Addr}{y:V}{u:Value}(hb:Gw_ H b k)(ry:F1_ y u):KP H (Ge_ kvs k y) (storedH xs k b u):=by
 have e:(kvs.any fun kv=>decide (kv.1=k))=(atKey xs k).isSome:=by rw [cR_,(r.val k).isSome_eq,Cz_]
 unfold Ge_ storedH;rw [e];split
 ·exact r.repl k ry
 ·exact Dt_ r ⟨rfl,hb,ry⟩
section
variable {P:Program}{w:World}{H:Hp}{h:Heap}{a:Addr}
theorem iC_ {k:Sk}(ok:HOk P w H h)(e:Gw_ H a k):(GM_ P w).is h k a:=by
 obtain ⟨p,h1,h2⟩:=e;obtain ⟨_,its,r,o,g1,g2,n,g3⟩:=(show F2_ P w H h a (.tup [.ref p,.bl k.2]) from ok a _ h1);cases r with
 | cons r1 r =>
  cases r with
  | cons r2 r =>
   cases r;cases (show _=Value.ref p from r1);cases (show _=Value.bool k.2 from r2);exact ⟨o,n,p,g1,g2,g3,hn_ ok h2⟩
theorem Kj_ {kvs:List (Sk×V)}(ok:HOk P w H h)(e:DP P w H a kvs):(a == sysModules)=false/\∃ xs,H a=some (.ext (J8_ P w a xs))/\KP H kvs xs/\h.DictOfH (GM_ P w) a xs:=by
 obtain ⟨z,xs,h1,h2⟩:=e;obtain ⟨⟨hs,o,es,ep,g1,g2,g3,g4,g5⟩,_⟩:=(show F2_ P w H h a (.ext (J8_ P w a xs)) from ok a _ h1);refine ⟨hs,xs,h1,h2,o,es,ep,g1,g2,g3,g4,fun x hx=>?_,g5⟩
 have all:∀ {l:List (Sk×V)}{m:List (Sk×Addr×Value)},KP H l m->∀ x∈m,(GM_ P w).is h x.1 x.2.1:=by
  intro l m q
  induction q with
  | nil=>intro x hx;exact nomatch hx
  | @cons p q ps qs hq t ih =>
   intro x hx
   rcases Ax_.mp hx with e|hx
   ·subst e;exact iC_ ok (by rw [<-hq.1];exact hq.2.1)
   ·exact ih x hx
 exact all h2 x hx
theorem oj_ {xs:List (Sk×Addr×Value)}{H':Hp}(hs:(a == sysModules)=false)(d:h.DictOfH (GM_ P w) a xs):F2_ P w H' h a (.ext (J8_ P w a xs)):=by obtain ⟨o,es,ep,g1,g2,g3,g4,_,g5⟩:=d;exact ⟨⟨hs,o,es,ep,g1,g2,g3,g4,g5⟩,⟨o,g1⟩,fun h1 h2 ⟨z0,o',es',ep',z1,z2⟩ k=>⟨z0,o',es',ep',k _ z1,z2⟩⟩
end
def J7_ (P:Program)(w:World):TE:=fun _ H Q=>∀ p,H p=none->∀ H',Fx_ H H'->DP P w H' p []->(∀ b,b≠p->H' b=H b)->Q (.ref p) H'
def JW_ (P:Program)(w:World)(td ty:TE):TE:=fun σ H Q=>td σ H fun x H1=>ty σ H1 fun y H2=>∃ a b kvs k v,x=.ref a/\y=.ref b/\DP P w H2 a kvs/\Gw_ H2 b k/\F9_ kvs k=some v/\Q v H2
def KZ_ (P:Program)(w:World)(ty td:TE):TE:=fun σ H Q=>ty σ H fun y H1=>td σ H1 fun x H2=>∃ a b kvs k,x=.ref a/\y=.ref b/\DP P w H2 a kvs/\Gw_ H2 b k/\Q (.bl (F9_ kvs k).isSome) H2
def JX_ (P:Program)(w:World)(td ty tv:TE):TS:=fun D σ H=>tv σ H fun v H1=>td σ H1 fun x H2=>ty σ H2 fun y H3=>∃ a b kvs k,x=.ref a/\y=.ref b/\DP P w H3 a kvs/\Gw_ H3 b k/\kvs.length<sizeLine /\
 ∀ H4,(∀ c,c≠a->H4 c=H3 c)->DP P w H4 a (Ge_ kvs k v)->D.nx σ H4
section
variable {X:Cx}{P:Program}{w:World}{o i value:Expr}{pos pos':Pos}{td ty tv:TE}
theorem oX_ (hP:X.prog=P)(hw:X.w=w):PE X (.Dict [] [] pos) (J7_ P w):=by
 subst hP hw;intro pins s σ H Q I h;have hd:(s.heap.objs.size == sysModules)=false:=by have:=I.big;exact B0_.mpr (CB_ this)
 have ob:∀ H',F2_ X.prog X.w H' (s.heap.push { cls:=.type "dict",data:=.dict #[] }) s.heap.objs.size (.ext (J8_ X.prog X.w s.heap.objs.size [])):=fun H'=>oj_ hd ⟨_,#[],0,Av_ _ rfl,⟨rfl,rfl,rfl⟩,rfl,rfl,fun x hx=>(by cases hx),Bc_⟩;have nn:=I.hok.fresh (Aj_ s.heap.objs.size);refine Ea_ ⟨.ref s.heap.objs.size,_,I.laid (a:=s.heap.objs.size) (o:=.ext (J8_ X.prog X.w s.heap.objs.size [])) (t':=s.toks) (fun _ _ q=>Ah_ _ q) (Aj_ _) (ob _),rfl,h _ nn _ (Fx_.new nn) ⟨Ay_ _,[],aa_,.nil⟩ fun b hb=>af_ hb⟩
theorem mF_ (hP:X.prog=P)(hw:X.w=w)(hu:X.A.units+2<cLine)(ho:PE X o td)(hi:PE X i ty)(hs:K9_ i):PE X (.Subscript o i pos) (JW_ P w td ty):=by subst hP hw;intro pins s σ H Q I h;refine ms_ PySem.F.slot_dict_getitem.lookup hs (thn (ho pins s σ H _ I h) fun u s1 ⟨x,H1,I1,rx,q1⟩=>thn (hi pins s1 σ H1 _ I1 q1) fun iv s2 ⟨y,H2,I2,ry,a,b,kvs,k,v,ex,ey,g,kb,hv,q2⟩=>?_);subst ex ey;obtain rfl:u=Value.ref a:=rx;obtain rfl:iv=Value.ref b:=ry;obtain ⟨hd,xs,e,rel,dd⟩:=Kj_ I2.hok g;obtain ⟨w',hw,rw'⟩:=Ij_.some_of (v:=v) (o:=(atKey xs k).map (·.2)) (by rw [<-hv];exact rel.val k);obtain ⟨p,hp,hp2⟩:=AT_.mp hw;refine ⟨dd.typeIs,wpAny_getItem_heap (show X.A.in1.units+1<cLine from hu) (iC_ I2.hok kb) dd hp ?_⟩;rw [hp2];exact ⟨v,H2,I2.tok _,rw',q2⟩
theorem pQ_ (hP:X.prog=P)(hw:X.w=w)(hu:X.A.units+2<cLine)(hi:PE X i ty)(ho:PE X o td):PC X .In i o (KZ_ P w ty td):=by subst hP hw;intro pins s σ H Q I h;refine thn (hi pins s σ H _ I h) fun iv s1 ⟨y,H1,I1,ry,q1⟩=>thn (ho pins s1 σ H1 _ I1 q1) fun u s2 ⟨x,H2,I2,rx,a,b,kvs,k,ex,ey,g,kb,q2⟩=>?_;subst ex ey;obtain rfl:u=Value.ref a:=rx;obtain rfl:iv=Value.ref b:=ry;obtain ⟨hd,xs,e,rel,dd⟩:=Kj_ I2.hok g;refine wpAny_in_heap (show X.A.in1.units+1<cLine from hu) (iC_ I2.hok kb) hd dd ?_;have q:=(rel.val k).isSome_eq;rw [Cz_] at q;rw [<-q];exact ⟨.bl _,H2,I2.tok _,rfl,q2⟩
theorem mG_ (hP:X.prog=P)(hw:X.w=w)(hu:X.A.units+2<cLine)(ho:PE X o td)(hi:PE X i ty)(hv:PE X value tv)(hs:swapsWith value (some (.Subscript o i pos')) pos.line X.env=pure false):PS X (.Assign [.Subscript o i pos'] value pos) (JX_ P w td ty tv):=by
 subst hP hw;intro pins s σ H D I h;refine ED_ (thn (hv pins s σ H _ I h) fun r s1 ⟨v,H1,I1,rv,q1⟩=>thn (ho pins s1 σ H1 _ I1 q1) fun u s2 ⟨x,H2,I2,rx,q2⟩=>thn (hi pins s2 σ H2 _ I2 q2) fun iv s3 ⟨y,H3,I3,ry,a,b,kvs,k,ex,ey,g,kb,hl,q3⟩=>?_) hs;subst ex ey;obtain rfl:u=Value.ref a:=rx;obtain rfl:iv=Value.ref b:=ry;obtain ⟨hd,xs,e,rel,dd⟩:=Kj_ I3.hok g;have hz:xs.length<=sizeLine:=by rw [<-By_ rel];exact g.1
 have hl':(Ge_ kvs k v).length<=sizeLine:=by have:=aH_ kvs k v;lia
 refine wpAny_setItem_heap (hsz:=hz) (show X.A.in1.units+1<cLine from hu) (iC_ I3.hok kb) dd fun h' dd' hs'=>?_;have he:∃ q,h'.get? a=some q:=let ⟨q,_,_,hq,_⟩:=dd';⟨q,hq⟩;have kk:∀ c k',Gw_ H3 c k'->Gw_ (upd H3 a (.ext (J8_ X.prog X.w a (storedH xs k b r)))) c k':=fun c k' ⟨p,z1,z2⟩=>⟨p,by rw [af_ (HF_ z1 e (fun z=>nomatch z))];exact z1,by rw [af_ (HF_ z2 e (fun z=>nomatch z))];exact z2⟩;exact ⟨σ,_,f3_ I3 (by rw [e];exact True.intro) hs' he (oj_ hd dd'),q3 _ (fun c hc=>af_ hc) ⟨hl',_,aa_,(rel.put k kb rv).mono kk⟩⟩
end
end L2
namespace L2
open PySem PySem.Spec PyProof.Rows PySem.W
abbrev LE_:=St->Hp->Prop
end L2
namespace L2
open PySem PySem.Spec PyProof.Rows
theorem iD_:entryFor table "proto.unchain" = some Builtin.«proto.unchain»:=entryFor_of_fast (by kernel_rfl)
def QuA (A:Around)(h:Heap):Prop:=A.handled=none\/∃ ea,A.handled=some (.ref ea)/\Pl2 h ea
section
variable {prog:Program}{w:World}{A:Around}{E:Value->Shared->Prop}{s:Shared}
theorem oY_ {α:Type}{Q:α->Shared->Prop}{x:Addr}{o:Obj}{vs:Array Value}(hq:QuA A s.heap)(hx:s.heap.get? x=some o)(hd:o.data=.fields vs)(sz:2<vs.size)(hne:∀ ea,A.handled=some (.ref ea)->ea≠x)
  (k:∀ g,(∀ b,b≠x->g.get? b=s.heap.get? b)->(∃ u,g.get? x=some u/\u.cls=o.cls)->E (.ref x) { s with heap:=g }):wpAny (model prog w) A (raiseNew (.ref x):Sem α) Q E s:=by
 unfold raiseNew;refine Ac_ (wpAny_handled ?_)
 rcases hq with hq|⟨ea,hq,oe,us,he,de,h2⟩
 ·rw [hq];exact Ac_ (Ai_ (wpAny_throw (k _ (fun _ _=>rfl) ⟨o,hx,rfl⟩)))
 ·rw [hq];have ne:=hne ea hq
  dsimp only
  rw [if_pos (show (Value.ref ea != Value.ref x)=true by simp [ne])];refine Ac_ (A6_ (runValue_entry iD_ ?_));unfold Builtin.«proto.unchain»
  dsimp only
  refine Ac_ (Cx_ he de h2 ?_);rw [if_pos (show (Value.none == Value.none)=true by rfl)];refine Ai_ ⟨_,rfl,Ac_ (wpAny_setField hx hd sz (wpAny_throw (k _ (fun b hb=>A0_ _ _ (Ne.symm hb)) ⟨_,CC_ _ hx (Obj.isFreed_of_fields (Obj.data_mapFields hd _)),Obj.cls_mapFields _ _⟩)))⟩
theorem pR_ {α:Type}{Q:α->Shared->Prop}(hq:QuA A s.heap)(k:∀ g x,(∀ b o,s.heap.get? b=some o->g.get? b=some o)->(∃ u,g.get? x=some u/\u.cls=.type "StopIteration")->E (.ref x) { s with heap:=g }) :
  wpAny (model prog w) A (newExc (.type "StopIteration") [] >>= fun e=>(raiseNew e:Sem α)) Q E s:=by
 refine Ac_ ?_;simp only [newExc,newTuple];refine Ac_ (BX_ ?_ (by size_fits));refine Ac_ (m:=firstArgMember _ _) (Fr_ (a:=Value.none) (by first|rfl|(simp only [firstArgMember];rfl)) ?_);refine BX_ ?_ (by size_fits);have kp:∀ {o1 o2:Obj}(b:Addr)(o:Obj),s.heap.get? b=some o->((s.heap.push o1).push o2).get? b=some o:=fun b o e=>Ah_ _ (Ah_ _ e);refine oY_ (hq.imp id fun ⟨ea,z,oe,us,he,z2⟩=>⟨ea,z,oe,us,kp ea oe he,z2⟩) (Av_ _ rfl) rfl (by rw [DQ_];exact AI_ (show 2<6 by decide) (Bh_ 6 _)) (fun ea z=>?_) fun g g1 g2=>k g _ (fun b o e=>(g1 b ?_).trans (kp b o e)) g2
 ·rcases hq with q|⟨ea',q,oe,us,he,_⟩
  ·rw [q] at z;cases z
  ·rw [q] at z;cases z;exact AF_ (AI_ (Au_ he) (by simp))
 ·exact AF_ (AI_ (Au_ e) (by simp))
end
end L2
namespace L2
open PySem PySem.Spec PyProof.Rows PySem.W
def JI_ (h:Heap)(d:Addr)(es:Array DictEntry)(ep:Nat):Prop:=∃ o,h.get? d=some o/\o.ExactDict/\o.data=.dict es ep
theorem JI_.ty {s:Shared}{d:Addr}{es:Array DictEntry}{ep:Nat}(x:JI_ s.heap d es ep):s.TypeIs (.ref d) "dict" := let ⟨o,h,c,_⟩:=x;⟨o,h,c.1⟩
section
variable {prog:Program}{w:World}{A:Around}{E:Value->Shared->Prop}{s:Shared}
theorem mH_ (d:Addr)(hd:(d == sysModules)=false):MeetsIn prog w (Builtin.«dict.items» ⟨[.ref d],[]⟩) (fun _ R s=>(∃ es ep,JI_ s.heap d es ep)/\R (.ok (.ret (.ref s.heap.objs.size))) { s with heap:=s.heap.push { cls:=.type "dict_items",data:=.fields #[.ref d] } }) :=
 .of_wp fun A R s ⟨⟨es,ep,x⟩,h⟩=>by unfold Builtin.«dict.items»;refine Ac_ ?_;unfold Builtin.Dict.noArgs;refine Ac_ (Da_ x.ty ?_);refine (show wpAny _ _ (pure d) _ _ s from Ai_ ?_);refine (show wpAny _ _ (Builtin.Dict.showsAll d >>= _) _ _ s from ?_);unfold Builtin.Dict.showsAll;rw [hd,if_neg (by decide)];exact Ac_ (Ai_ (Ac_ (BX_ (Ai_ ⟨_,rfl,h⟩))))
theorem nM_ {v d:Addr}{es:Array DictEntry}{ep:Nat}{Q:Value->Shared->Prop}(hv:s.heap.IsItemsView v d)(x:JI_ s.heap d es ep)
  (k:Q (.ref s.heap.objs.size) { s with heap:=s.heap.push { cls:=.type "dict_itemiterator",data:=.fields #[.none,.bool false,.ref d,.int 0 0,.int es.size 0,.int ep 0,.none,.none] } }):wpAny (model prog w) A (pyIter (.ref v)) Q E s:=by
 obtain ⟨ov,g1,g2,g3⟩:=id hv;obtain ⟨o,h1,h2,h3⟩:=x;refine wpAny_pyIter_slot hv.typeIs EF_ (B3_ EF_ hv.typeIs F.entry_dict_items_iter ?_ (F.args_dict_items_iter_1 _));unfold Builtin.«dict_items.__iter__»;refine Ac_ (Ai_ (Ac_ ?_));unfold Builtin.Dict_items.dictOf;refine Ac_ (Cx_ g1 g3 (x:=.ref d) rfl (Ai_ (Ac_ ?_)));unfold Builtin.Dict_items.newIterator;refine Ac_ (DR_ h1 h3 (Ac_ (Ew_ h1 h3 ?_)));simp only [show Builtin.Dict_items.ownsTuple "dict_itemiterator" = true by decide,if_true];refine BX_ (Ai_ ⟨_,rfl, "dict_itemiterator",_,⟨_,Av_ _ rfl,rfl⟩,F.slot_dict_itemiterator_next.lookup,?_⟩) (by simp only [sizeOk,Builtin.Dict_items.ownedTupleFields,As_,Af_,AZ_,List.length_nil,B8_];lia);simpa [rawInt,Builtin.Dict_items.ownedTupleFields] using k
theorem oZ_ {it d:Addr}{i ep:Nat}{es:Array DictEntry}{ok ov:Value}{Q:Option Value->Shared->Prop}(hh:A.handled=none)(st:IsItemIter s.heap it d i es.size ep ok ov)(x:JI_ s.heap d es ep)(hi:es.size<=i)
  (k:∀ g,Heap.ExtBut it s.heap g->Q none { s with heap:=g }):wpAny (model prog w) A (pyNext (.ref it)) Q E s:=by
 obtain ⟨o,h1,h2,h3⟩:=x;have ty:s.TypeIs (.ref it) "dict_itemiterator" := ⟨_,st,rfl⟩;unfold pyNext;refine Ac_ (E9_ (CU_ (name:=Str.ofString "__next__") ty BY_ (B3_ BY_ ty Di_ ?_ (Db_ _))));refine Ac_ (Ai_ (Ac_ (Ac_ ?_)))
 first|refine Ac_ (BU_ ty (Ai_ ?_))|refine Ac_ (Ck_ ty (Ai_ ?_))
 refine Ac_ (wpAny_fieldsOf st rfl ?_);simp only [show Builtin.Dict_items.ownsTuple "dict_itemiterator" = true by decide,if_true];refine (show wpAny _ _ (if (Value.ref d == Value.none)=true then _ else _) _ _ s from ?_);rw [if_neg (by simp)];refine Ac_ (Ai_ (Ac_ (DR_ h1 h3 ?_)));rw [if_neg (by simp)];refine Ac_ (Ai_ (Ac_ (Ew_ h1 h3 ?_)));rw [if_neg (by simp)];refine Ai_ ?_;simp only [show ¬ ((i:Int)<0) from by lia,BS_,AE_,C1_ hi];refine Ac_ ?_
 first|refine Ac_ (BU_ ty (Ai_ ?_))|refine Ac_ (Ck_ ty (Ai_ ?_))
 refine (show wpAny _ _ (setField (.ref it) 2 .none >>= _) _ _ s from Ac_ (wpAny_setField st rfl (by simp) ?_));refine pR_ (A:=A.in1) (.inl hh) fun g y g1 ⟨u,hu,cu⟩=>?_;refine Ac_ (CK_ (T := "StopIteration") (b:=true) ⟨u,hu,cu⟩ isSubtype_stop (Ai_ (k g fun b o hb e=>g1 b o ((A0_ _ _ (Ne.symm hb)).trans e))))
theorem nN_ {it d:Addr}{i ep:Nat}{es:Array DictEntry}{ok ov:Value}{Q:Option Value->Shared->Prop}(st:IsItemIter s.heap it d i es.size ep ok ov)(x:JI_ s.heap d es ep)(hi:i<es.size)
  (k:∀ g,IsItemIterOut g it d (i+1) es.size ep es[i].key es[i].val s.heap.objs.size->g.get? s.heap.objs.size=some { cls:=.type "tuple",data:=.seq #[es[i].key,es[i].val] }->(∀ b o,b≠it->s.heap.get? b=some o->g.get? b=some o)->Q (some (.ref s.heap.objs.size)) { s with heap:=g }) :
  wpAny (model prog w) A (pyNext (.ref it)) Q E s:=by
 obtain ⟨o,h1,h2,h3⟩:=x;have ty:s.TypeIs (.ref it) "dict_itemiterator" := ⟨_,st,rfl⟩;have il:it<s.heap.objs.size:=Au_ st;unfold pyNext;refine Ac_ (E9_ (CU_ (name:=Str.ofString "__next__") ty BY_ (B3_ BY_ ty Di_ ?_ (Db_ _))));refine Ac_ (Ai_ (Ac_ (Ac_ ?_)))
 first|refine Ac_ (BU_ ty (Ai_ ?_))|refine Ac_ (Ck_ ty (Ai_ ?_))
 refine Ac_ (wpAny_fieldsOf st rfl ?_);simp only [show Builtin.Dict_items.ownsTuple "dict_itemiterator" = true by decide,if_true];refine (show wpAny _ _ (if (Value.ref d == Value.none)=true then _ else _) _ _ s from ?_);rw [if_neg (by simp)];refine Ac_ (Ai_ (Ac_ (DR_ h1 h3 ?_)));rw [if_neg (by simp)];refine Ac_ (Ai_ (Ac_ (Ew_ h1 h3 ?_)));rw [if_neg (by simp)];refine Ai_ ?_;simp only [show ¬ ((i:Int)<0) from by lia,BS_,AE_,DW_ hi];refine Ac_ ?_
 first|refine Ac_ (BU_ ty (Ai_ ?_))|refine Ac_ (Ck_ ty (Ai_ ?_))
 refine Ac_ (C2_ ty ?_);refine (show wpAny _ _ (setField (.ref it) 3 (rawInt ((i:Int)+1)) >>= _) _ _ s from ?_);refine Ac_ (Cv_ st (by simp) fun g1 e1 s1=>?_);have e1':IsItemIter g1 it d (i+1) es.size ep ok ov:=by unfold IsItemIter;rw [show ((i+1:Nat):Int)=(i:Int)+1 by lia];simpa [rawInt] using e1
 have ty1:Shared.TypeIs { s with heap:=g1 } (.ref it) "dict_itemiterator" := ⟨_,e1',rfl⟩;refine Ac_ (A6_ (Ac_ (C2_ (s:={ s with heap:=g1 }) ty1 (Ac_ (C2_ (s:={ s with heap:=g1 }) ty1 ?_)))));refine (show wpAny _ _ (Builtin.Dict_items.pairFromOwner (.ref it) 6 es[i].key es[i].val) _ _ { s with heap:=g1 } from ?_);unfold Builtin.Dict_items.pairFromOwner;refine Ac_ (Dq_ ?_);generalize hob:({ cls:=.type "tuple",data:=.seq #[es[i].key,es[i].val] }:Obj)=ob at k ⊢;have fo:ob.isFreed=false:=by rw [<-hob];rfl
 have z1:g1.objs.size=s.heap.objs.size:=s1.1;have e2:IsItemIter (g1.push ob) it d (i+1) es.size ep ok ov:=Ah_ _ e1';have t2:(g1.push ob).get? s.heap.objs.size=some ob:=by rw [<-z1];exact Av_ _ fo
 have k2:∀ b o,b≠it->s.heap.get? b=some o->(g1.push ob).get? b=some o:=fun b o hb e=>Ah_ _ (s1.extBut b o hb e);refine (show wpAny _ _ (Builtin.Dict_items.ownedTupleIsFree (.ref it) >>= _) _ _ { s with heap:=g1.push ob } from ?_);have ge:({ s with heap:=g1 }:Shared).heap.objs.size=s.heap.objs.size:=z1;rw [ge];refine Ac_ ?_;unfold Builtin.Dict_items.ownedTupleIsFree;refine Ac_ (Cx_ e2 rfl (x:=.none) rfl (Ai_ ?_));simp only [if_true];refine Ac_ (Cx_ e2 rfl (x:=ok) rfl (Ac_ (Cx_ e2 rfl (x:=ov) rfl ?_)));refine Ac_ (Cv_ e2 (by simp) fun g3 e3 s3=>?_);have e3':IsItemIter g3 it d (i+1) es.size ep es[i].key ov:=e3;refine Ac_ (Cv_ e3' (by simp) fun g4 e4 s4=>?_);have e4':IsItemIter g4 it d (i+1) es.size ep es[i].key es[i].val:=e4;refine Ac_ (Cv_ e4' (by simp) fun g5 e5 s5=>?_);have e5':IsItemIterOut g5 it d (i+1) es.size ep es[i].key es[i].val s.heap.objs.size:=e5;refine Ac_ (Cv_ e5' (by simp) fun g6 e6 s6=>?_);have e6':IsItemIterOut g6 it d (i+1) es.size ep es[i].key es[i].val s.heap.objs.size:=e6;have all:∀ b o,b≠it->(g1.push ob).get? b=some o->g6.get? b=some o:=fun b o hb e=>s6.extBut b o hb (s5.extBut b o hb (s4.extBut b o hb (s3.extBut b o hb e)));exact Ac_ (CO_ (Ai_ (Ai_ ⟨_,rfl,Ai_ (k g6 e6' (all _ _ (CB_ il) t2) fun b o hb e=>all b o hb (k2 b o hb e))⟩)))
end
theorem Inv.freezeT {X:Cx}{pins:List (Addr×Obj)}{σ:St}{H:Hp}{s:Shared}{d:Addr}{kvs:List (List Key×V)}(I:Inv X pins σ H s)(e:H d=some (.dT kvs)):∃ ob es0 ep,ob.data=.dict es0 ep/\s.heap.get? d=some ob/\Inv X pins σ (upd H d (.frz ob (.dT kvs))) s:=by obtain ⟨z,hd,xs,r,o,es,ep,g1,g2,g3,g4,g5⟩:=(show F2_ X.prog X.w H s.heap d (.dT kvs) from I.hok d _ e);refine ⟨o,es,ep,g3,g1,?_⟩;have r':Paired (fun (p:List Key×V)(q:List Key×Addr×Value)=>p.1=q.1/\upd H d (.frz o (.dT kvs)) q.2.1=some (.tup (p.1.map kV))/\F1_ p.2 q.2.2) kvs xs:=Paired.mapP r fun p q z=>⟨z.1,by rw [af_ (HF_ z.2.1 e (fun z=>nomatch z))];exact z.2.1,z.2.2⟩;exact f3_ (h':=s.heap) (t':=s.toks) (ob:=.frz o (.dT kvs)) I (by rw [e];exact True.intro) ⟨rfl,fun _ _=>rfl⟩ ⟨o,g1⟩ ⟨g1,z,hd,xs,r',o,es,ep,g1,g2,g3,g4,g5⟩
theorem ki_ {P:Program}{w:World}{H:Hp}{h:Heap}{d:Addr}{ob:Obj}{kvs:List (List Key×V)}{es0:Array DictEntry}{ep:Nat}(ok:HOk P w H h)(e:H d=some (.frz ob (.dT kvs)))(hd:ob.data=.dict es0 ep) :
  ∃ xs,KT H kvs xs/\JI_ h d es0 ep/\es0.toList=xs.map (entryOfKey (tupleKind (FM_ P w))):=by
 obtain ⟨g,_,_,xs,rel,o,es,ep',ho,r1,r2,r3,_⟩:=(show F2_ P w H h d (.frz ob (.dT kvs)) from ok d _ e);rw [g] at ho;cases ho;rw [hd] at r2;cases r2;exact ⟨xs,rel,⟨ob,g,r1,hd⟩,r3⟩
def Idt (d:Addr)(ob:Obj)(kvs:List (List Key×V)):It :=
 ⟨fun i H=>H d=some (.frz ob (.dT kvs))/\i<kvs.length,fun i H x H'=>∃ T k v q,x=.ref T/\H T=none/\kvs[i]?=some (k,v)/\H q=some (.tup (k.map kV))/\H'=upd H T (.tup [.ref q,v]),fun i H=>H d=some (.frz ob (.dT kvs))/\kvs.length<=i⟩
theorem kj_ {P:Program}{w:World}{K:PySem.W.Frag}{elts:List Expr}{kt:Nat}{tpos:Pos}{d it:Addr}{ob:Obj}{kvs:List (List Key×V)}{es0:Array DictEntry}{ep:Nat}(hob:ob.data=.dict es0 ep) :
  JV_ P w K (.Tuple elts kt tpos) (Idt d ob kvs) [it] it (fun i h=>∃ ok ov,IsItemIter h it d i es0.size ep ok ov) where
 mem:=by simp
 obj:=fun i h st b hb=>by
  cases Ak_.mp hb;obtain ⟨ok,ov,e⟩:=st;exact ⟨_,e,fun v z=>by cases (show Data.fields _=Data.cell v from z)⟩
 keep:=fun i h h' st k=>let ⟨ok,ov,e⟩:=st;⟨ok,ov,k it (by simp) _ e⟩
 item:=by
  intro X hP hw hK hc i pins s σ H E I hf st ⟨e,hi⟩;subst hP hw hK;obtain ⟨xs,rel,da,he⟩:=ki_ I.hok e hob;have hl:kvs.length=xs.length:=By_ rel;have hz:es0.size=xs.length:=by rw [<-B1_,he,Ab_]
  have hx:xs[i]?=some (xs[i]'(by lia)):=Aa_ _;have hk:kvs[i]?=some (kvs[i]):=Aa_ _;obtain ⟨e1,e2,e3⟩:=f4_ rel hk hx;obtain ⟨ok,ov,st⟩:=st
  have ee:es0[i]'(by lia)=entryOfKey (tupleKind (FM_ X.prog X.w)) (xs[i]'(by lia)):=by
   have:es0.toList[i]?=some (entryOfKey (tupleKind (FM_ X.prog X.w)) (xs[i]'(by lia))):=by rw [he,Ag_,hx];rfl
   rw [EO_,DW_ (by lia)] at this;exact Aw_ this
  refine nN_ st da (by lia) fun h' g1 g3 g5=>⟨_,rfl,wpAny_letOwnedTupleGo_items (s:={ s with heap:=h' }) g1 fun h'' k1 k2=>?_⟩;rw [ee] at g3;generalize hq:(xs[i]'(by lia))=y at e1 e2 e3 g3;have lt:it<s.heap.objs.size:=Au_ st;have hT:H s.heap.objs.size=none:=I.hok.fresh (Aj_ _)
  have I1:Inv X pins σ (upd H s.heap.objs.size (.tup [.ref y.2.1,(kvs[i]).2])) { s with heap:=s.heap.push { cls:=.type "tuple",data:=.seq #[.ref y.2.1,y.2.2] } } :=
   I.laid (t':=s.toks) (fun b u e=>Ah_ _ e) (Aj_ _) ⟨by show 2<=sizeLine;decide,[.ref y.2.1,y.2.2],.cons rfl (.cons e3 .nil),⟨_,Av_ _ rfl,rfl,_,rfl⟩⟩
  have f1:∀ b∈[it],HM_ X pins (upd H s.heap.objs.size (.tup [.ref y.2.1,(kvs[i]).2])) b:=fun b hb=>by
   cases Ak_.mp hb;exact ⟨by rw [af_ (AF_ lt)];exact (hf it hb).1,(hf it hb).2⟩
  have I2:Inv X pins σ (upd H s.heap.objs.size (.tup [.ref y.2.1,(kvs[i]).2])) { s with heap:=h'' }:=by
   refine Inv.turnedL (s:={ s with heap:=s.heap.push { cls:=.type "tuple",data:=.seq #[.ref y.2.1,y.2.2] } }) (ch:=[it]) (t':=s.toks) I1 (fun b o hb q=>?_) f1;simp only [Ak_] at hb;refine (k2.2 b hb).trans ?_;by_cases hbT:b=s.heap.objs.size
   ·subst hbT;have e':(s.heap.push { cls:=.type "tuple",data:=.seq #[.ref y.2.1,y.2.2] }).get? s.heap.objs.size=some o:=q;rw [Av_ _ rfl] at e';cases e';exact g3
   ·exact g5 b o hb ((Ci_ _ _ _ hbT).symm.trans (show (s.heap.push { cls:=.type "tuple",data:=.seq #[.ref y.2.1,y.2.2] }).get? b=some o from q))
  exact ⟨.ref s.heap.objs.size,_,I2,rfl,⟨_,_,_,y.2.1,rfl,hT,hk,e2,rfl⟩,⟨_,_,k1⟩,fun b hb=>(f1 b hb).1⟩
 done:=by
  intro X hP hw hK hc i pins s σ H E I hf st ⟨e,hi⟩;subst hP hw hK;obtain ⟨xs,rel,da,he⟩:=ki_ I.hok e hob;have hl:kvs.length=xs.length:=By_ rel;have hz:es0.size=xs.length:=by rw [<-B1_,he,Ab_]
  obtain ⟨f0,f1,f2,f3,f4,f5⟩:=hf it (by simp);obtain ⟨ok,ov,st⟩:=st;exact oZ_ (I.ok.hd hc) st da (by lia) fun h' eb=>⟨rfl,I.turned (t':=s.toks) (fun b o hb e=>eb b o hb e) f0 f1 f3 f4 f5⟩
 self:=fun _ _ _ _ _ st h=>let ⟨_,_,e⟩:=st;kcp_self e h
def iDT (td:TE):TI:=fun σ H R=>td σ H fun x H1=>∃ (d:Addr)(kvs:List (List Key×V)),x=.ref d/\H1 d=some (.dT kvs)/\∀ ob,R (Idt d ob kvs) (upd H1 d (.frz ob (.dT kvs)))
theorem lz_ {X:Cx}{elts:List Expr}{kt:Nat}{tpos:Pos}{o:Expr}{td:TE}{apos cpos:Pos}(ho:PE X o td)(hbase:attributeBase o "items" X.env (eval o X.env)=eval o X.env:=by rfl) (hline:(apos.endLine == cpos.line)=true:=by rfl):PI X (.Tuple elts kt tpos) (.Call (.Attribute o "items" apos) [] [] cpos) (iDT td):=by
 intro pins s σ H R I h;refine Eo_ hbase hline (thn (ho pins s σ H _ I h) fun v s1 ⟨x,H1,I1,r1,d,kvs,e,hd,q⟩=>?_);subst e;cases r1;obtain ⟨ob,es0,ep,hob,hoo,I2⟩:=I1.freezeT hd;obtain ⟨_,hsys,xs0,_,dd⟩:=Kh_ I1.hok hd;have raw:JI_ s1.heap d es0 ep:=by obtain ⟨o,es,ep',z1,z2,_⟩:=id dd;rw [hoo] at z1;cases z1;exact ⟨ob,hoo,z2,hob⟩
 refine ⟨"dict", "dict.items",BZ_,Ep_,PySem.F.type_dict_items,dd.typeIs,fun b q=>?_,CZ_ rfl (Fh_ ?_)⟩
 ·cases q;obtain ⟨o2,h1,h2,_⟩:=id raw;exact ⟨o2,h1,h2.2.1⟩
 refine Fp_ Ep_ dd.typeIs PySem.F.entry_dict_items (PySem.F.args_dict_items_1 _) (mH_ d hsys) ⟨⟨es0,ep,raw⟩,?_⟩;have I3:Inv X pins σ (upd H1 d (.frz ob (.dT kvs))) { s1 with heap:=s1.heap.push { cls:=.type "dict_items",data:=.fields #[.ref d] } }:=I2.kept (t':=s1.toks) fun b o e=>Ah_ _ e;obtain ⟨xs,rel,da,_⟩:=ki_ (kvs:=kvs) I3.hok aa_ hob;refine nM_ (s:={ s1 with heap:=s1.heap.push { cls:=.type "dict_items",data:=.fields #[.ref d] } }) ⟨_,Av_ _ rfl,rfl,rfl⟩ da ?_;refine ⟨(s1.heap.push { cls:=.type "dict_items",data:=.fields #[.ref d] }).objs.size,[_],_,_,upd H1 d (.frz ob (.dT kvs)),rfl,I3.kept (t':=s1.toks) fun b o e=>Ah_ _ e,kj_ hob,⟨_,_,Av_ _ rfl⟩,fun b hb=>?_,q ob⟩;cases Ak_.mp hb;exact I3.fpOk (Aj_ _) (I3.hok.fresh (Aj_ _))
theorem o0_ {d:Addr}{ob:Obj}{kvs:List (List Key×V)}{g:TG}{tb:TS}{nx bk ct:LE_}{rt:VK}{σ:St}{H:Hp}(Pv:Nat->St->Hp->Prop)(h0:Pv 0 σ H)(hl:∀ i σ H,i<=kvs.length->Pv i σ H->H d=some (.frz ob (.dT kvs)))
  (hs:∀ (i:Nat) k x T q σ H,kvs[i]?=some (k,x)->H T=none->H q=some (.tup (k.map kV))->∀ (kk kb:LE_),(∀ σ' H',Pv (i+1) σ' H'->kk σ' H')->(∀ σ' H',nx σ' H'->kb σ' H')->∀ G:Prop,((g (.ref T) σ (upd H T (.tup [.ref q,x])) fun σ2 H2=>tb ⟨kk,rt,kb,kk⟩ σ2 H2)->G)->Pv i σ H->G) (hd:∀ σ H,Pv kvs.length σ H->nx σ H):G6_ (Idt d ob kvs) g tb ⟨nx,rt,bk,ct⟩ σ H:=by
 refine ⟨fun i m σ H=>m=kvs.length-i/\i<=kvs.length/\Pv i σ H,⟨kvs.length,by simp,Ay_ _,h0⟩,?_⟩;rintro i m σ H ⟨rfl,hi,p⟩;have q:=hl i σ H hi p;by_cases hlt:i<kvs.length
 ·refine .inr ⟨⟨q,hlt⟩,Pv (i+1),fun σ' H' p'=>⟨kvs.length-(i+1),by lia,rfl,hlt,p'⟩,fun x H' y=>?_⟩;obtain ⟨T,k,v,qa,rfl,hT,hk,hqa,rfl⟩:=y;exact hs i k v T qa σ H hk hT hqa _ _ (fun _ _ q=>q) (fun _ _ q=>q) _ id p
 ·have e:i=kvs.length:=by lia
  subst e;exact .inl ⟨⟨q,Aj_ _⟩,hd σ H p⟩
end L2
namespace L2
open PySem PyProof.Rows PySem.W
structure Lto (lt:Nat->Nat->Bool)(N:Nat):Prop where
 as:∀ x y,lt x y=true->lt y x=false
 tr:∀ x y z,lt y x=false->lt z y=false->lt z x=false
def So (lt:Nat->Nat->Bool)(p:Array Nat)(b:Nat):Prop:=∀ i j,i<j->j<b->lt (p.getD j 0) (p.getD i 0)=false
def Fa (lt:Nat->Nat->Bool)(p:Array Nat)(b:Nat):Prop:=∀ i j,i<j->j<b->lt (p.getD i 0) (p.getD j 0)=false
section
variable {lt:Nat->Nat->Bool}{N:Nat}
theorem Pm.size {p:Array Nat}(h:Pm N p):p.size=N:=by have:=(A7_.mp h).length_eq;simpa using this
theorem Pm.inj {p:Array Nat}(h:Pm N p){i j:Nat}(hi:i<N)(hj:j<N)(hij:i≠j):p.getD i 0≠p.getD j 0:=by
 have nd:p.toList.Nodup:=(A7_.mp h).nodup_iff.mpr (by simpa using D3_);have sz:=h.size;have ei:p.getD i 0=p.toList[i]'(by simp;lia):=by simp [Array.getD,sz,hi]
 have ej:p.getD j 0=p.toList[j]'(by simp;lia):=by simp [Array.getD,sz,hj]
 rw [ei,ej];intro e
 rcases Nat.lt_or_gt_of_ne hij with c|c
 ·exact Bv_.mp nd i j (by simp;lia) (by simp;lia) c e
 ·exact Bv_.mp nd j i (by simp;lia) (by simp;lia) c e.symm
theorem So.more {p:Array Nat}{n:Nat}(O:Lto lt N)(h:So lt p n)(h1:1<=n)(e:lt (p.getD n 0) (p.getD (n-1) 0)=false):So lt p (n+1):=fun i j hij hj=>by
 by_cases c:j<n
 ·exact h i j hij c
 ·have:j=n:=by lia
  subst this;by_cases d:i=j-1
  ·subst d;exact e
  ·exact O.tr _ _ _ (h i (j-1) (by lia) (by lia)) e
theorem Fa.more {p:Array Nat}{n:Nat}(O:Lto lt N)(h:Fa lt p n)(h1:1<=n)(e:lt (p.getD (n-1) 0) (p.getD n 0)=false):Fa lt p (n+1):=fun i j hij hj=>by
 by_cases c:j<n
 ·exact h i j hij c
 ·have:j=n:=by lia
  subst this;by_cases d:i=j-1
  ·subst d;exact e
  ·exact O.tr _ _ _ e (h i (j-1) (by lia) (by lia))
theorem mI_ (O:Lto lt N){p:Array Nat}(h:Pm N p)(h0:0<N):∀ (f n:Nat),1<=n->So lt p n->∃ m,GC_ lt N (kas_asc p f n)=some m/\So lt p m/\n<=m/\m<=n+f/\(m<n+f->lt (p.getD m 0) (p.getD (m-1) 0)=true)
 | 0,n,h1,hs=>⟨n,rfl,hs,Aj_ _,Aj_ _,fun x=>absurd x (by lia)⟩
 | f+1,n,h1,hs=>by
  unfold kas_asc GC_;rw [if_pos ⟨h.below h0 _,h.below h0 _⟩];cases e:lt (p.getD n 0) (p.getD (n-1) 0) with
  | true=>exact ⟨n,rfl,hs,Aj_ _,by lia,fun _=>e⟩
  | false =>obtain ⟨m,a,b,c,d,g⟩:=mI_ O h h0 f (n+1) (by lia) (hs.more O h1 e);exact ⟨m,a,b,by lia,by lia,fun x=>g (by lia)⟩
def Es (lt:Nat->Nat->Bool)(p:Array Nat)(a b:Nat):Prop:=∀ i j,a<=i->i<b->a<=j->j<b->lt (p.getD i 0) (p.getD j 0)=false
theorem Lto.rf (O:Lto lt N)(x:Nat):lt x x=false:=by
 cases e:lt x x with
 | false=>rfl
 | true=>exact e.symm.trans (O.as x x e)
theorem Es.one (O:Lto lt N){p:Array Nat}{n:Nat}:Es lt p n (n+1):=fun i j a b c d=>by rw [show i=j by lia];exact O.rf _
theorem f5_ {p:Array Nat}{a n:Nat}(hn:n<=p.size)(k:Nat):(kas_rev p a n).getD k 0=if a<=k/\k<n then p.getD (a+n-1-k) 0 else p.getD k 0:=by have q:=Fi_ (xs:=p) (i:=a) (j:=n) hn k;show (mirror p a n ((n-a)/2)).getD k 0=_;rw [Bk_,q];split <;> rw [Bk_]
theorem Fa.seg {p:Array Nat}{a n:Nat}(hn:n<=p.size)(h:Fa lt p n)(e:Es lt p a n):Fa lt (kas_rev p a n) n:=fun i j hij hj=>by
 rw [f5_ hn,f5_ hn];by_cases ci:a<=i/\i<n
 ·rw [if_pos ci,if_pos ⟨by lia,hj⟩];exact e _ _ (by lia) (by lia) (by lia) (by lia)
 ·rw [if_neg ci];split <;> exact h _ _ (by lia) (by lia)
theorem iE_ (O:Lto lt N)(h0:0<N):∀ (f:Nat)(p:Array Nat)(n q:Nat),Pm N p->q+1<=n->n+f<=N->Fa lt p n->Es lt p (n-(q+1)) n->∃ z,GC_ lt N (kas_desc f p n q)=some z/\Pm N z.1/\Fa lt z.1 z.2.1/\Es lt z.1 (z.2.1-(z.2.2+1)) z.2.1/\n<=z.2.1/\z.2.1<=n+f
 | 0,p,n,q,h,h1,_,hs,he=>⟨(p,n,q),rfl,h,hs,he,Aj_ _,Aj_ _⟩
 | f+1,p,n,q,h,h1,hN,hs,he=>by
  have sz:=h.size;unfold kas_desc GC_;rw [if_pos ⟨h.below h0 _,h.below h0 _⟩];cases e:lt (p.getD n 0) (p.getD (n-1) 0) with
  | true =>
   simp only [if_true];split
   ·have er:∀ k,¬ (n-(q+1)<=k/\k<n)->(kas_rev p (n-(q+1)) n).getD k 0=p.getD k 0:=fun k hk=>by rw [f5_ (by lia),if_neg hk]
    obtain ⟨z,a,b,c,d,g⟩:=iE_ O h0 f (kas_rev p (n-(q+1)) n) (n+1) 0 (h.rev _ _) (by lia) (by lia) ((hs.seg (by lia) he).more O (by lia) (by rw [er n (by lia),f5_ (by lia),if_pos ⟨by lia,by lia⟩];exact O.tr _ _ _ (O.as _ _ e) (he _ _ (by lia) (by lia) (by lia) (by lia)))) (Es.one O);exact ⟨z,a,b,c,d,by lia,by lia⟩
   ·obtain ⟨z,a,b,c,d,g⟩:=iE_ O h0 f p (n+1) 0 h (by lia) (by lia) (hs.more O (by lia) (O.as _ _ e)) (Es.one O);exact ⟨z,a,b,c,d,by lia,by lia⟩
  | false =>
   simp only [Bs_,BS_];unfold GC_;rw [if_pos ⟨h.below h0 _,h.below h0 _⟩];cases e2:lt (p.getD (n-1) 0) (p.getD n 0) with
   | true=>exact ⟨(p,n,q),rfl,h,hs,he,Nat.le_refl _,by dsimp only;lia⟩
   | false =>
    simp only [Bs_,BS_]
    obtain ⟨z,a,b,c,d,g⟩:=iE_ O h0 f p (n+1) (q+1) h (by lia) (by lia) (hs.more O (by lia) e2) (fun i j hi hi' hj hj'=>by
     have le:∀ k,n+1-(q+1+1)<=k->k<n+1->lt (p.getD k 0) (p.getD (n-1) 0)=false/\lt (p.getD (n-1) 0) (p.getD k 0)=false:=fun k k1 k2=>by
      by_cases kn:k=n
      ·rw [kn];exact ⟨e,e2⟩
      ·exact ⟨he _ _ (by lia) (by lia) (by lia) (by lia),he _ _ (by lia) (by lia) (by lia) (by lia)⟩
     exact O.tr _ _ _ (le j hj hj').2 (le i hi hi').1)
    exact ⟨z,a,b,c,d,by lia,by lia⟩
theorem ok_ {p:Array Nat}{n:Nat}(hn:n<=p.size){k:Nat}(hk:k<n):(kas_rev p 0 n).getD k 0=p.getD (n-1-k) 0:=by have q:=Fi_ (xs:=p) (i:=0) (j:=n) hn k;rw [if_pos ⟨Ay_ _,hk⟩] at q;show (mirror p 0 n ((n-0)/2)).getD k 0=_;rw [Bk_,Bk_,q];congr 2;lia
theorem Fa.rev {p:Array Nat}{n:Nat}(hn:n<=p.size)(h:Fa lt p n):So lt (kas_rev p 0 n) n:=fun i j hij hj=>by rw [ok_ hn hj,ok_ hn (by lia)];exact h _ _ (by lia) (by lia)
theorem ht_ (O:Lto lt N)(h0:0<N){p:Array Nat}(h:Pm N p){n:Nat}(h1:1<=n)(hN:n<N)(hf:Fa lt p (n+1)):∃ z,GC_ lt N (kas_descPart n N p)=some z/\Pm N z.2/\So lt z.2 z.1/\1<=z.1/\z.1<=N:=by
 obtain ⟨z,hz,b,c,d,g1,g2⟩:=iE_ O h0 (N-(n+1)) p (n+1) 0 h (by lia) (by lia) hf (Es.one O);have sz:=b.size;have tl:∀ {p:Array Nat},Pm N p->Fa lt p z.2.1->∃ y,GC_ lt N (kas_tail3 z.2.1 N p)=some y/\Pm N y.2/\So lt y.2 y.1/\1<=y.1/\y.1<=N:=fun {p} hp fp=>by obtain ⟨m',hm',hs',h1',hN',_⟩:=mI_ O (hp.rev 0 z.2.1) h0 (N-z.2.1) z.2.1 (by lia) (fp.rev (by rw [hp.size];lia));refine ⟨(m',kas_rev p 0 z.2.1),?_,hp.rev 0 _,hs',by dsimp only;lia,by dsimp only;lia⟩;unfold kas_tail3;rw [br_ _ hm'];rfl
 unfold kas_descPart;rw [br_ _ hz];split
 ·exact tl (b.rev _ _) (c.seg (by lia) d)
 ·exact tl b c
theorem nO_ (O:Lto lt N)(h0:0<N){p:Array Nat}(h:Pm N p):∃ z,GC_ lt N (kas_count N p)=some z/\Pm N z.2/\So lt z.2 z.1/\1<=z.1/\z.1<=N:=by
 obtain ⟨m,hm,hs,h1,hN,hx⟩:=mI_ O h h0 (N-1) 1 (Aj_ _) fun i j a b=>absurd a (by lia);have sz:=h.size;unfold kas_count;rw [br_ _ hm];split
 ·exact ⟨_,rfl,h,hs,h1,by dsimp only;lia⟩
 ·rename_i c;have cm:m≠N:=fun e=>c (by rw [e];exact C5_ N);have e:=hx (by lia);split
  ·unfold GC_;rw [if_pos ⟨h.below h0 _,h.below h0 _⟩];cases t:lt (p.getD 0 0) (p.getD (m-1) 0) with
   | true=>exact ⟨_,rfl,h,hs,h1,by dsimp only;lia⟩
   | false =>
    have ff:Fa lt p m:=fun i j hij hj=>by
     have a1:lt (p.getD (m-1) 0) (p.getD j 0)=false:=by
      by_cases c:j=m-1
      ·rw [c];exact O.rf _
      ·exact hs _ _ (by lia) (by lia)
     have a2:lt (p.getD i 0) (p.getD 0 0)=false:=by
      by_cases c:i=0
      ·rw [c];exact O.rf _
      ·exact hs _ _ (by lia) (by lia)
     exact O.tr _ _ _ (O.tr _ _ _ a1 t) a2
    have es:Es lt p 0 m:=fun i j _ hi _ hj=>by
     rcases Nat.lt_trichotomy i j with c|c|c
     ·exact ff i j c hj
     ·rw [c];exact O.rf _
     ·exact hs j i c hi
    refine ht_ O h0 (h.rev 0 m) h1 (by lia) ((ff.seg (by lia) es).more O h1 ?_);rw [f5_ (by lia),f5_ (by lia),if_pos ⟨by lia,by lia⟩,if_neg (by lia),show 0+m-1-(m-1)=0 by lia];exact O.tr _ _ _ (O.as _ _ e) t
  ·have m1:m=1:=by lia
   subst m1;exact ht_ O h0 h (Aj_ _) (by lia) (Fa.more O (n:=1) (fun i j a b=>absurd a (by lia)) (Aj_ _) (O.as _ _ e))
theorem iF_ (O:Lto lt N)(h0:0<N){p:Array Nat}(h:Pm N p){k:Nat}(hs:So lt p k):∀ (f l r:Nat),l<=r->r<=k->r<=l+f->(∀ i,i<l->lt (p.getD k 0) (p.getD i 0)=false)->(∀ i,r<=i->i<k->lt (p.getD i 0) (p.getD k 0)=false) ->
  ∃ m,GC_ lt N (kas_place p k f l r)=some m/\m<=k/\(∀ i,i<m->lt (p.getD k 0) (p.getD i 0)=false)/\∀ i,m<=i->i<k->lt (p.getD i 0) (p.getD k 0)=false
 | 0,l,r,a,b,c,u,v=>⟨l,rfl,by lia,u,fun i hi hk=>v i (by lia) hk⟩
 | f+1,l,r,a,b,c,u,v=>by
  unfold kas_place;split
  ·exact ⟨l,rfl,by lia,u,fun i hi hk=>v i (by lia) hk⟩
  ·unfold GC_;rw [if_pos ⟨h.below h0 _,h.below h0 _⟩];cases e:lt (p.getD k 0) (p.getD ((l+r)/2) 0) with
   | true =>
    refine iF_ O h0 h hs f l _ (by lia) (by lia) (by lia) u fun i hi hk=>?_;by_cases q:i=(l+r)/2
    ·subst q;exact O.as _ _ e
    ·exact O.tr _ _ _ (O.as _ _ e) (hs _ _ (by lia) hk)
   | false =>
    refine iF_ O h0 h hs f _ r (by lia) b (by lia) (fun i hi=>?_) v;by_cases q:i=(l+r)/2
    ·subst q;exact e
    ·exact O.tr _ _ _ (hs _ _ (by lia) (by lia)) e
theorem ol_ {p:Array Nat}{k l:Nat}(hk:k<p.size)(hl:l<=k)(i:Nat):(bubble p k (k-l)).getD i 0=if i=l then p.getD k 0 else if l<i/\i<=k then p.getD (i-1) 0 else p.getD i 0:=by
 have q:=getElem?_bubble (xs:=p) hk (k-l) (by lia) i;rw [show k-(k-l)=l by lia] at q;rw [Bk_,q];by_cases a:i=l
 ·rw [if_pos a,if_pos a,Bk_]
 ·rw [if_neg a,if_neg a];by_cases b:l<i/\i<=k
  ·rw [if_pos b,if_pos b,Bk_]
  ·rw [if_neg b,if_neg b,Bk_]
theorem om_ (O:Lto lt N)(h0:0<N):∀ (f:Nat)(p:Array Nat)(k:Nat),Pm N p->So lt p k->k+f=N->∃ z,GC_ lt N (kas_bin f p k)=some z/\Pm N z/\So lt z N
 | 0,p,k,h,hs,e=>by
  have q:k=N:=by lia
  rw [q] at hs;exact ⟨p,rfl,h,hs⟩
 | f+1,p,k,h,hs,e=>by
  obtain ⟨l,hl,hk,u,v⟩:=iF_ O h0 h hs k 0 k (by lia) (by lia) (by lia) (fun i hi=>absurd hi (by lia)) fun i hi hk=>absurd hi (by lia);unfold kas_bin;rw [br_ _ hl];refine om_ O h0 f _ _ ((bubble_perm _ _ _).trans h) (fun i j hij hj=>?_) (by lia);have sz:=h.size;rw [ol_ (by lia) hk,ol_ (by lia) hk];by_cases a:j=l
  ·rw [if_pos a,if_neg (by lia),if_neg (by lia)];exact u i (by lia)
  ·rw [if_neg a];by_cases b:i=l
   ·rw [if_pos b,if_pos ⟨by lia,by lia⟩];exact v _ (by lia) (by lia)
   ·rw [if_neg b];by_cases c:l<j
    ·rw [if_pos ⟨c,by lia⟩];by_cases d:l<i
     ·rw [if_pos ⟨d,by lia⟩];exact hs _ _ (by lia) (by lia)
     ·rw [if_neg (by lia)];exact hs _ _ (by lia) (by lia)
    ·rw [if_neg (by lia),if_neg (by lia)];exact hs _ _ (by lia) (by lia)
theorem kk_ (O:Lto lt N)(h0:0<N):∃ z,GC_ lt N (kas_sort N)=some z/\Pm N z/\So lt z N:=by
 obtain ⟨r,hr,hp,hs,h1,hN⟩:=nO_ O h0 (p:=List.toArray (List.range N)) (Array.Perm.refl _);unfold kas_sort;rw [br_ _ hr];split
 ·rename_i c;rw [show max r.1 1=r.1 by lia];exact om_ O h0 _ _ _ hp hs (by lia)
 ·have e:r.1=N:=by lia
  rw [e] at hs;exact ⟨_,rfl,hp,hs⟩
theorem So.list {z:Array Nat}(hp:Pm N z)(hs:So lt z N):z.toList.Pairwise fun i j=>lt j i=false:=by
 rw [Bv_];intro i j hi hj hij;have sz:=hp.size;have hi':i<z.size:=by simpa using hi
 have hj':j<z.size:=by simpa using hj
 have q:=hs i j hij (by lia);have ei:z.getD i 0=z.toList[i]:=by simp [Array.getD,hi']
 have ej:z.getD j 0=z.toList[j]:=by simp [Array.getD,hj']
 rw [ei,ej] at q;exact q
end
end L2
namespace L2
open PySem PySem.Spec PyProof.Rows PySem.W
def sLe (a b:Str):Prop:=¬ b.cps.toList<a.cps.toList
theorem sLe.trans {a b c:Str}(h:sLe a b)(h2:sLe b c):sLe a c:=Dv_.mpr (List.le_trans (Dv_.mp h) (Dv_.mp h2))
theorem o1_ {a b:Str}(h:a.cps.toList=b.cps.toList):a=b:=by
 cases a;cases b;simpa using h
theorem sLe.antisymm {a b:Str}(h:sLe a b)(h2:sLe b a):a=b:=o1_ (List.le_antisymm (Dv_.mp h) (Dv_.mp h2))
end L2
namespace PySem
open Sem (wp)
theorem hu_:typeLookup (.type "list") "keys" = pure none:=am_miss_of_fast (by rfl')
theorem fA_ {prog:Program}{w:World}{A:Around}{E:Value->Shared->Prop}{s:Shared}{a:Addr}{o:Obj}{xs:Array Value}{k:Nat}{name:Str}{Q:Option Value->Shared->Prop}
  (hx:s.heap.get? a=some o) (hc:o.cls=.type "list") (hdat:o.data=.seq xs k) (hd:o.dict=none) (hmiss:typeLookup (.type "list") name=pure none) (hname:(["__module__", "__name__", "__qualname__", "__doc__", "__annotations__"]:List Str).contains name=false) (hA:A.handled=none)
  (h:∀ h' tk,(∀ b ob,s.heap.get? b=some ob->h'.get? b=some ob)->Q none { s with heap:=h',toks:=tk }) (hsz:name.length+100<=sizeLine:=by size_fits) :
  wpAny (model prog w) A (getAttr? (.ref a) name) Q E s:=by
 obtain ⟨c,dct,dat,sl⟩:=o;simp only at hc hdat hd;subst hc hdat hd;obtain ⟨hp,g,d,tk,os⟩:=s;have hT:∀ tk',(⟨hp,g,d,tk',os⟩:Shared).TypeIs (.ref a) "list" := fun _=>⟨_,hx,rfl⟩;have f1:=sub_AttributeError;have f3:=F.slot_list_getattribute.lookup;have f4:=F.slot_list_getattribute.bind (.ref a);have f5:=am_list_getattr_none;unfold getAttr? getAttrBy? getAttrBy
 repeat (any_goals (first|assumption|exact hT _|((with_reducible show wpAny _ _ (call (Value.builtin "list.__getattribute__") _ _) _ _ _);refine CT_ F.slot_list_getattribute (hT _) am_entry_list_getattribute (F.args_list_getattribute_2 _ _) (meets_getattribute_miss_list a xs k sl name _ hmiss hname hsz) ⟨hx,hA,fun h' tk' e hx'=>?_⟩)|wp_step))
 obtain ⟨t',u',he⟩:=hx'.there;show wpAny _ _ (getattributeRaised _ _ _ _ _ _ _) _ _ _;unfold getattributeRaised
 repeat (any_goals (first|assumption|wp_step))
 exact h _ _ hx'.keeps
namespace F
theorem rim_entry_dict_update_loop:entryFor table "dict.update.loop" = some Builtin.«dict.update.loop»:=entryFor_of_tree (by kernel_rfl)
theorem rim_plain_dict_update_loop:plainId "dict.update.loop" = true:=by rfl'
end F
section
variable {prog:Program}{w:World}{K:Type}[DecidableEq K]{knd:KeyKind prog w K}{A:Around}{R:Result->Shared->Prop}
theorem ej_ {d it p:Addr}{its:Array Value}{h0:Heap}(hh:A.handled=none)(hdi:d≠it)(hp:h0.IsList p its)(hpi:p≠it)(hpd:p≠d) :
  ∀ (ps:List (K×Value))(i:Nat)(j:Int)(D:List (K×Value))(s:Shared),its.size=i+ps.length->D.length+ps.length<=1000->s.heap.IsListIter it p i->s.heap.DictOf knd d D ->
   (∀ b o,b≠it->b≠d->h0.get? b=some o->s.heap.get? b=some o) ->
   (∀ m q,ps[m]?=some q->∃ (a:Addr)(kv:Value)(o:Obj)(n:Nat),its[i+m]?=some (.ref a)/\a≠it/\a≠d/\h0.get? a=some o/\o.cls=.type "tuple" /\ o.data=.seq #[kv,q.2] n/\knd.is q.1 kv=true) ->
   (∀ h' tk,(∀ b o,b≠it->b≠d->h0.get? b=some o->h'.get? b=some o)->h'.DictOf knd d (merged D ps)->R (.ok (.ret .none)) { s with heap:=h',toks:=tk }) ->
   codeAny (model prog w) A (.builtin "dict.update.loop" ⟨[.ref d,.ref it,rawInt j,.none],[]⟩) R s
 | [],i,j,D,s,hz,hl,hi,hD,hk,hit,hR=>by
  obtain ⟨op,hop,hpr⟩:=id hp;have hp':s.heap.IsList p its:=⟨op,hk p op hpi hpd hop,hpr⟩;refine BL_ F.rim_entry_dict_update_loop ?_;rw [Bt_ F.rim_plain_dict_update_loop _];show wpAny _ A.in1 (pyNext (.ref it) >>= _) _ _ s;refine Ac_ (C6_ hh hi hp' (C1_ (by simp at hz;lia)) fun h' eb=>?_);show wpAny _ A.in1 (Builtin.Dict.addKeywords d [] >>= _) _ _ _;exact Ac_ (Ai_ (Ai_ (hR h' s.toks (fun b o h1 h2 e=>eb b o h1 (hk b o h1 h2 e)) (hD.extBut eb hdi))))
 | q::ps,i,j,D,s,hz,hl,hi,hD,hk,hit,hR=>by
  obtain ⟨op,hop,hpr⟩:=id hp;have hp':s.heap.IsList p its:=⟨op,hk p op hpi hpd hop,hpr⟩;obtain ⟨a,kv,o,n,e1,a1,a2,ho,hc,hd,kis⟩:=hit 0 q rfl;refine BL_ F.rim_entry_dict_update_loop ?_;rw [Bt_ F.rim_plain_dict_update_loop _];show wpAny _ A.in1 (pyNext (.ref it) >>= _) _ _ s;refine Ac_ (CX_ hi hp' e1 fun h1 hi1 sb=>?_);have ho1:h1.get? a=some o:=(sb.2 a a1).trans (hk a o a1 a2 ho);have hT:({ s with heap:=h1 }:Shared).TypeIs (.ref a) "tuple" := ⟨_,ho1,hc⟩;show wpAny _ A.in1 (holding [Value.ref a] _ >>= _) _ _ _;refine Ac_ (A6_ ?_);refine Ac_ ?_;refine CE_ ?_;unfold Builtin.Dict.pairItems;refine Ac_ (CD_ hT ?_);rw [if_pos (by decide)];refine Ac_ (BQ_ ho1 hd ?_);refine Ai_ ?_;show wpAny _ A.in1 (holding [kv,q.2] (dictSet d kv q.2)) _ _ _;refine A6_ ?_;have hD1:({ s with heap:=h1 }:Shared).heap.DictOf knd d D:=hD.sameBut sb hdi;refine wpAny_dictSet_pairs kis hD1 (fun h2 hD2 sb2=>?_) (by simp at hl;rw [B8_];lia);refine Ai_ ⟨BH_ F.rim_plain_dict_update_loop _,?_⟩;have sl:=stored_length_le D q.1 q.2;refine ej_ hh hdi hp hpi hpd ps (i+1) (j+1) (stored D q.1 q.2) { s with heap:=h2,toks:=s.toks+1 } (by simp at hz;lia) (by simp at hl;lia) ?_ hD2 (fun b o h1' h2' e=>?_) (fun m r e=>?_) fun h' tk k3 hD3=>?_
  ·obtain ⟨oi,hoi,hir⟩:=hi1;exact ⟨oi,(sb2.2 it (Ne.symm hdi)).trans hoi,hir⟩
  ·exact (sb2.2 b h2').trans ((sb.2 b h1').trans (hk b o h1' h2' e))
  ·obtain ⟨a',kv',o',n',z1,z2⟩:=hit (m+1) r e;exact ⟨a',kv',o',n',by rw [show i+1+m=i+(m+1) by lia];exact z1,z2⟩
  ·exact hR h' tk k3 hD3
end
end PySem
namespace L2
open PySem PySem.Spec PyProof.Rows PySem.W
section
variable {X:Cx}{pins:List (Addr×Obj)}{σ:St}{H:Hp}{s:Shared}
theorem k6_ (I:Inv X pins σ H s):∀ {kvs:List (Key×V)}{ys:List V}{its:List Value},FT_ ys its->ys.length=kvs.length->(∀ (i:Nat)(q:Key×V),kvs[i]?=some q->∃ a,ys[i]?=some (.ref a)/\H a=some (.tup [kV q.1,q.2])) ->
  ∃ ps:List (Key×Value),KV kvs ps/\ps.length=its.length/\∀ (m:Nat)(q:Key×Value),ps[m]?=some q->∃ (a:Addr)(kv:Value)(o:Obj)(n:Nat),its[m]?=some (.ref a)/\H a≠none/\s.heap.get? a=some o/\o.cls=.type "tuple" /\ o.data=.seq #[kv,q.2] n/\(FM_ X.prog X.w).is q.1 kv=true
 | [],[],_,.nil,_,_=>⟨[],.nil,rfl,fun m q e=>by simp at e⟩
 | [],_::_,_,_,e,_=>nomatch e
 | _::_,[],_,_,e,_=>nomatch e
 | kv::kvs,y::ys,_,.cons r1 r2,e,h=>by
  obtain ⟨ps,rel,hl,hp⟩:=k6_ I r2 (by simpa using e) fun i q hq=>h (i+1) q hq;obtain ⟨a,ea,ha⟩:=h 0 kv rfl;cases ea;cases r1;obtain ⟨zs,rz,⟨ob,ho,hcl,n,hd⟩,_⟩:=I.tuple (.inl (.inl ha));obtain ⟨u1,u2,rfl,ru1,ru2⟩:=HE_ rz;refine ⟨(kv.1,u2)::ps,.cons ⟨rfl,ru2⟩ rel,by simp [hl],fun m q hq=>?_⟩;cases m with
  | zero =>
   cases hq;exact ⟨a,u1,ob,n,rfl,(by rw [ha];exact Option.some_ne_none _),ho,hcl,hd,HZ_ ru1⟩
  | succ m=>exact hp m q hq
def IR_:List V->Hp->VK->Prop:=fun vs H Q=>∃ (p:Addr)(ys:List V)(kvs:List (Key×V)),vs=[.ref p]/\H p=some (.lst ys)/\ys.length=kvs.length/\kvs.length<=900/\(∀ (i:Nat)(q:Key×V),kvs[i]?=some q->∃ a,ys[i]?=some (.ref a)/\H a=some (.tup [kV q.1,q.2])) /\
 ∀ l,H l=none->Q (.ref l) (upd H l (.dK (GR_ [] kvs)))
theorem jA_ {K:Type}[DecidableEq K]:∀ (ps D:List (K×Value)),(merged D ps).length<=D.length+ps.length
 | [],D=>Aj_ _
 | q::ps,D=>by have a:=jA_ ps (stored D q.1 q.2);have b:=stored_length_le D q.1 q.2;show (merged (stored D q.1 q.2) ps).length<=_;rw [AZ_];lia
theorem h6_ (hc:X.calm=true):GE_ X (.type "dict") IR_:=by
 intro pins s σ H xs us Q I r h;obtain ⟨p,ys,kvs,rfl,hp,hl,hz,hk,q⟩:=h;obtain ⟨u,rfl,e⟩:=GF_ r;cases e;obtain ⟨_,its,c,rv,hop⟩:=(show F2_ X.prog X.w H s.heap p (.lst ys) from I.hok p _ hp);obtain ⟨ps,rel,pl,hit⟩:=k6_ I rv hl hk;have hh:=I.ok.hd hc;have hlt:∀ {b:Addr}{o:Obj},s.heap.get? b=some o->b<s.heap.objs.size:=fun e=>Au_ e;refine callType_codes (Q₁:=fun obj s₁=>obj=.ref s.heap.objs.size/\s₁={ s with heap:=s.heap.push { cls:=.type "dict",data:=.dict #[] } }) F.kt_called_dict (F.kt_typeCall_dict_1 _) F.entry_dict_init (kt_code_dict_new _ ⟨rfl,rfl⟩) ?_;rintro obj s₁ ⟨rfl,rfl⟩;have hnew:(s.heap.push { cls:=.type "dict",data:=.dict #[] }).DictOf (FM_ X.prog X.w) s.heap.objs.size []:=Heap.DictOf.new s.heap;refine ⟨hnew.typeIs,F.args_dict_init_2 _ _,?_⟩;unfold Builtin.«dict.__init__»;refine Ac_ ?_;unfold Builtin.Dict.selfAndRest;refine Ac_ (Da_ hnew.typeIs ?_);show wpAny _ _ (pure (s.heap.objs.size,[Value.ref p])) _ _ _;refine Ai_ ?_;show wpAny _ _ (Builtin.Dict.updateFrom "dict.__init__" s.heap.objs.size (.ref p) [] .none) _ _ _;unfold Builtin.Dict.updateFrom;have hop1:(s.heap.push { cls:=.type "dict",data:=.dict #[] }).get? p=some (seqObj "list" its.toArray c):=Ah_ _ hop;have hT:({ s with heap:=s.heap.push { cls:=.type "dict",data:=.dict #[] } }:Shared).TypeIs (.ref p) "list" := ⟨_,hop1,rfl⟩;refine Ac_ (CD_ hT ?_);rw [if_pos (by decide)];refine Ac_ (fA_ hop1 rfl rfl rfl hu_ (by rfl') hh fun h1 tk k1=>?_);rw [if_pos DE_];refine Ac_ (CH_ ?_);have hop2:=k1 _ _ hop1;have dsz:s.heap.objs.size<h1.objs.size:=by obtain ⟨od,_,_,hod,_⟩:=hnew;exact Au_ (k1 _ _ hod)
 refine Ac_ (CV_ (items:=its.toArray) ⟨_,hop2,rfl,c,rfl⟩ ?_);refine Ai_ ⟨BH_ F.rim_plain_dict_update_loop _,?_⟩;have below:∀ {b:Addr}{o:Obj},s.heap.get? b=some o->b≠h1.objs.size/\b≠s.heap.objs.size:=fun e=>⟨AF_ (D9_ (hlt e) dsz),AF_ (hlt e)⟩;have rl:kvs.length=ps.length:=rel.length;refine ej_ (A:=X.A.in1) (knd:=FM_ X.prog X.w) (its:=its.toArray) (h0:=s.heap) (p:=p) hh (AF_ dsz) ⟨_,hop,rfl,c,rfl⟩ (below hop).1 (below hop).2 ps 0 0 [] _ (by simp;lia) (by simp;lia) ?_ ?_ (fun b o b1 b2 e=>?_) (fun m q hq=>?_) fun h' tk' k3 hD3=>?_
 ·exact ⟨_,Av_ h1 rfl,rfl,rfl⟩
 ·obtain ⟨od,es,ep,hod,dr⟩:=hnew;exact ⟨od,es,ep,Ah_ _ (k1 _ _ hod),dr⟩
 ·exact Ah_ _ (k1 _ _ (Ah_ _ e))
 ·obtain ⟨a,kv,o,n,e1,_,ho,z⟩:=hit m q hq;exact ⟨a,kv,o,n,by simpa using e1,(below ho).1,(below ho).2,ho,z⟩
 ·have rm:KV (GR_ [] kvs) (merged [] ps):=KV.merge rel .nil;have ml:=jA_ ps [];have mz:(GR_ [] kvs).length<=sizeLine:=by rw [show (GR_ [] kvs).length=(merged [] ps).length from rm.length];exact AJ_ (Fw_ (by simp at ml;lia))
  exact ⟨rfl,.ref _,_,I.laid (a:=s.heap.objs.size) (o:=.dK (GR_ [] kvs)) (t':=tk') (fun b o e=>k3 b o (below e).1 (below e).2 e) (Aj_ _) (mq_ mz (B0_.mpr (Ne.symm (AF_ I.big))) rm hD3),rfl,q _ (I.hok.fresh (Aj_ _))⟩
end
end L2
namespace L2
open PySem PySem.Spec PyProof.Rows PySem.W
abbrev TK (P:Program)(w:World):=tupleKind (FM_ P w)
def Kr_ (P:Program)(w:World)(h:Heap)(d:Addr)(xs:List (List Key×Addr×Value)):Prop :=
 ∃ o es ep,h.get? d=some o/\o.ExactDict/\o.data=.dict es ep/\es.toList=xs.map (entryOfKey (TK P w))/\(xs.map (·.1)).Nodup
def HX_ (D ps:List (List Key×Addr×Value)):List (List Key×Addr×Value):=ps.foldl (fun acc q=>storedH acc q.1 q.2.1 q.2.2) D
theorem kl_ {D:List (List Key×Addr×Value)}{k:List Key}{b:Addr}{v:Value}{x:List Key×Addr×Value}(h:x∈storedH D k b v):(∃ y∈D,y.1=x.1/\y.2.1=x.2.1)\/(x.1=k/\x.2.1=b):=by
 cases e:atKey D k with
 | none =>
  rw [storedH_new e] at h
  rcases An_.mp h with h|h
  ·exact .inl ⟨x,h,rfl,rfl⟩
  ·rw [Ak_.mp h];exact .inr ⟨rfl,rfl⟩
 | some p =>rw [storedH_old e] at h;obtain ⟨y,hy,rfl⟩:=Ap_.mp h;refine .inl ⟨y,hy,?_⟩;unfold putAt;split <;> exact ⟨rfl,rfl⟩
theorem lA_ (D:List (List Key×Addr×Value))(k:List Key)(b:Addr)(v:Value):(storedH D k b v).length<=D.length+1:=by
 cases e:atKey D k with
 | none=>rw [storedH_new e,Af_];exact Aj_ _
 | some p=>rw [storedH_old e,Ab_];exact C0_ _
section
variable {prog:Program}{w:World}{A:Around}{R:Result->Shared->Prop}
theorem k7_ {h h':Heap}{k:List Key}{b:Addr}(e:(TK prog w).is h k b)(m:∀ o,h.get? b=some o->h'.get? b=some o):(TK prog w).is h' k b:=by obtain ⟨o,its,n,h1,h2⟩:=e;exact ⟨o,its,n,m _ h1,h2⟩
theorem d7_ {d it p:Addr}{its:Array Value}{h0:Heap}(hu:A.units+1<cLine)(hh:A.handled=none)(hdi:d≠it)(hp:h0.IsList p its)(hpi:p≠it)(hpd:p≠d) :
  ∀ (ps:List (List Key×Addr×Value))(i:Nat)(j:Int)(D:List (List Key×Addr×Value))(s:Shared),its.size=i+ps.length->D.length+ps.length<=1000->s.heap.IsListIter it p i->Kr_ prog w s.heap d D ->
   (∀ x∈D,x.2.1≠it/\x.2.1≠d/\(TK prog w).is h0 x.1 x.2.1) ->
   (∀ b o,b≠it->b≠d->h0.get? b=some o->s.heap.get? b=some o) ->
   (∀ m q,ps[m]?=some q->∃ (a:Addr)(o:Obj)(n:Nat),its[i+m]?=some (.ref a)/\a≠it/\a≠d/\h0.get? a=some o/\o.cls=.type "tuple" /\ o.data=.seq #[.ref q.2.1,q.2.2] n/\q.2.1≠it/\q.2.1≠d/\(TK prog w).is h0 q.1 q.2.1) ->
   (∀ h' tk,(∀ b o,b≠it->b≠d->h0.get? b=some o->h'.get? b=some o)->Kr_ prog w h' d (HX_ D ps)->R (.ok (.ret .none)) { s with heap:=h',toks:=tk }) ->
   codeAny (model prog w) A (.builtin "dict.update.loop" ⟨[.ref d,.ref it,rawInt j,.none],[]⟩) R s
 | [],i,j,D,s,hz,hl,hi,hD,hDk,hk,hit,hR=>by
  obtain ⟨op,hop,hpr⟩:=id hp;have hp':s.heap.IsList p its:=⟨op,hk p op hpi hpd hop,hpr⟩;refine BL_ F.rim_entry_dict_update_loop ?_;rw [Bt_ F.rim_plain_dict_update_loop _];show wpAny _ A.in1 (pyNext (.ref it) >>= _) _ _ s;refine Ac_ (C6_ hh hi hp' (C1_ (by simp at hz;lia)) fun h' eb=>?_);show wpAny _ A.in1 (Builtin.Dict.addKeywords d [] >>= _) _ _ _;obtain ⟨od,es,ep,g1,g2⟩:=hD;exact Ac_ (Ai_ (Ai_ (hR h' s.toks (fun b o h1 h2 e=>eb b o h1 (hk b o h1 h2 e)) ⟨od,es,ep,eb d od hdi g1,g2⟩)))
 | q::ps,i,j,D,s,hz,hl,hi,hD,hDk,hk,hit,hR=>by
  obtain ⟨op,hop,hpr⟩:=id hp;have hp':s.heap.IsList p its:=⟨op,hk p op hpi hpd hop,hpr⟩;obtain ⟨a,o,n,e1,a1,a2,ho,hc,hd,b1,b2,kis⟩:=hit 0 q rfl;refine BL_ F.rim_entry_dict_update_loop ?_;rw [Bt_ F.rim_plain_dict_update_loop _];show wpAny _ A.in1 (pyNext (.ref it) >>= _) _ _ s;refine Ac_ (CX_ hi hp' e1 fun h1 hi1 sb=>?_);have ho1:h1.get? a=some o:=(sb.2 a a1).trans (hk a o a1 a2 ho);have hT:({ s with heap:=h1 }:Shared).TypeIs (.ref a) "tuple" := ⟨_,ho1,hc⟩;show wpAny _ A.in1 (holding [Value.ref a] _ >>= _) _ _ _;refine Ac_ (A6_ ?_);refine Ac_ ?_;refine CE_ ?_;unfold Builtin.Dict.pairItems;refine Ac_ (CD_ hT ?_);rw [if_pos (by decide)];refine Ac_ (BQ_ ho1 hd ?_);refine Ai_ ?_;show wpAny _ A.in1 (holding [Value.ref q.2.1,q.2.2] (dictSet d (.ref q.2.1) q.2.2)) _ _ _;refine A6_ ?_;have mv:∀ b,b≠it->b≠d->∀ o,h0.get? b=some o->h1.get? b=some o:=fun b h1' h2' o e=>(sb.2 b h1').trans (hk b o h1' h2' e);have hD1:({ s with heap:=h1 }:Shared).heap.DictOfH (TK prog w) d D:=by obtain ⟨od,es,ep,g1,g2,g3,g4,g5⟩:=hD;exact ⟨od,es,ep,(sb.2 d hdi).trans g1,g2,g3,g4,fun x hx=>k7_ (hDk x hx).2.2 (mv _ (hDk x hx).1 (hDk x hx).2.1),g5⟩
  refine wpAny_dictSet_heap (knd:=TK prog w) (show A.in1.units<cLine from hu) (k7_ kis (mv _ b1 b2)) hD1 (fun h2 hD2 sb2=>?_) (by simp at hl;rw [B8_];lia);refine Ai_ ⟨BH_ F.rim_plain_dict_update_loop _,?_⟩;have sl:=lA_ D q.1 q.2.1 q.2.2;refine d7_ hu hh hdi hp hpi hpd ps (i+1) (j+1) (storedH D q.1 q.2.1 q.2.2) { s with heap:=h2,toks:=s.toks+(TK prog w).draws q.1 } (by simp at hz;lia) (by simp at hl;lia) ?_ ?_ (fun x hx=>?_) (fun b o h1' h2' e=>?_) (fun m r e=>?_) fun h' tk k3 hD3=>?_
  ·obtain ⟨oi,hoi,hir⟩:=hi1;exact ⟨oi,(sb2.2 it (Ne.symm hdi)).trans hoi,hir⟩
  ·obtain ⟨od,es,ep,g1,g2,g3,g4,_,g5⟩:=hD2;exact ⟨od,es,ep,g1,g2,g3,g4,g5⟩
  ·rcases kl_ hx with ⟨y,hy,y1,y2⟩|⟨y1,y2⟩
   ·rw [<-y1,<-y2];exact hDk y hy
   ·rw [y1,y2];exact ⟨b1,b2,kis⟩
  ·exact (sb2.2 b h2').trans (mv b h1' h2' o e)
  ·obtain ⟨a',o',n',z1,z2⟩:=hit (m+1) r e;exact ⟨a',o',n',by rw [show i+1+m=i+(m+1) by lia];exact z1,z2⟩
  ·exact hR h' tk k3 hD3
end
def Gj_ (kvs more:List (List Key×V)):List (List Key×V):=more.foldl (fun acc kv=>Ge_ acc kv.1 kv.2) kvs
theorem KT.merge {H:Hp}:∀ {more:List (List Key×V)}{rs:List (List Key×Addr×Value)}{kvs:List (List Key×V)}{xs:List (List Key×Addr×Value)},KT H more rs->KT H kvs xs->KT H (Gj_ kvs more) (HX_ xs rs):=by
 intro more rs kvs xs r;unfold KT at r
 induction r generalizing kvs xs with
 | nil=>intro q;exact q
 | @cons p q ps qs h t ih =>intro r0;have e:=KT.put r0 p.1 h.2.1 h.2.2;refine ih (kvs:=Ge_ kvs p.1 p.2) (xs:=storedH xs q.1 q.2.1 q.2.2) ?_;rw [<-h.1];exact e
theorem jB_:∀ (more kvs:List (List Key×V)),(Gj_ kvs more).length<=kvs.length+more.length
 | [],kvs=>Aj_ _
 | p::r,kvs=>by have h1:=jB_ r (Ge_ kvs p.1 p.2);have h2:=aH_ kvs p.1 p.2;show (Gj_ (Ge_ kvs p.1 p.2) r).length<=_;rw [AZ_];lia
section
variable {X:Cx}{pins:List (Addr×Obj)}{σ:St}{H:Hp}{s:Shared}
theorem jC_ (I:Inv X pins σ H s):∀ {kvs:List (List Key×V)}{ys:List V}{its:List Value},FT_ ys its->ys.length=kvs.length->(∀ (i:Nat)(q:List Key×V),kvs[i]?=some q->∃ a b,ys[i]?=some (.ref a)/\H a=some (.tup [.ref b,q.2])/\H b=some (.tup (q.1.map kV))) ->
  ∃ ps:List (List Key×Addr×Value),KT H kvs ps/\ps.length=its.length/\∀ (m:Nat)(q:List Key×Addr×Value),ps[m]?=some q->∃ (a:Addr)(o:Obj)(n:Nat),its[m]?=some (.ref a)/\s.heap.get? a=some o/\o.cls=.type "tuple" /\ o.data=.seq #[.ref q.2.1,q.2.2] n/\(TK X.prog X.w).is s.heap q.1 q.2.1
 | [],[],_,.nil,_,_=>⟨[],.nil,rfl,fun m q e=>by simp at e⟩
 | [],_::_,_,_,e,_=>nomatch e
 | _::_,[],_,_,e,_=>nomatch e
 | kv::kvs,y::ys,_,.cons r1 r2,e,h=>by
  obtain ⟨ps,rel,hl,hp⟩:=jC_ I r2 (by simpa using e) fun i q hq=>h (i+1) q hq;obtain ⟨a,b,ea,ha,hb⟩:=h 0 kv rfl;cases ea;cases r1;obtain ⟨zs,rz,⟨ob,ho,hcl,n,hd⟩,_⟩:=I.tuple (.inl (.inl ha));obtain ⟨u1,u2,rfl,ru1,ru2⟩:=HE_ rz;cases ru1;refine ⟨(kv.1,b,u2)::ps,.cons ⟨rfl,hb,ru2⟩ rel,by simp [hl],fun m q hq=>?_⟩;cases m with
  | zero =>
   cases hq;exact ⟨a,ob,n,rfl,ho,hcl,hd,hn_ I.hok hb⟩
  | succ m=>exact hp m q hq
def IM_ (H:Hp)(p:Addr)(kvs:List (List Key×V)):Prop:=∃ ys,H p=some (.lst ys)/\ys.length=kvs.length/\∀ (i:Nat)(q:List Key×V),kvs[i]?=some q->∃ a b,ys[i]?=some (.ref a)/\H a=some (.tup [.ref b,q.2])/\H b=some (.tup (q.1.map kV))
def JP_:V->List V->Hp->VK->Prop:=fun x vs H Q=>∃ (a p:Addr)(kvs0 kvs:List (List Key×V)),x=.ref a/\vs=[.ref p]/\H a=some (.dT kvs0)/\IM_ H p kvs/\kvs0.length+kvs.length<=900/\Q .non (upd H a (.dT (Gj_ kvs0 kvs)))
theorem h7_ (hu:X.A.units+64<cLine)(hc:X.calm=true):MtR X "dict.update" JP_:=by
 intro pins s σ H x xs v us Q I rx r h;obtain ⟨a,p,kvs0,kvs,rfl,rfl,ha,⟨ys,hp,hl,hk⟩,hz,q⟩:=h;cases rx;obtain ⟨u,rfl,e⟩:=GF_ r;cases e;obtain ⟨_,its,c,rv,hop⟩:=(show F2_ X.prog X.w H s.heap p (.lst ys) from I.hok p _ hp);obtain ⟨ps,rel,pl,hit⟩:=jC_ I rv hl hk;obtain ⟨z0,hsys,xs0,rel0,dd⟩:=Kh_ I.hok ha;have hh:=I.ok.hd hc;have hlt:∀ {b:Addr}{o:Obj},s.heap.get? b=some o->b<s.heap.objs.size:=fun e=>Au_ e;have hTn:s.TypeIs (.ref a) "dict" := Heap.DictOfH.typeIs dd;have apne:∀ b ys,H b=some (.tup ys)->b≠a:=fun b ys e z=>by rw [z,ha] at e;cases e
 have ppa:p≠a:=fun z=>by rw [z,ha] at hp;cases hp
 refine wpAny_call (codeAny_call_builtin F.slot_dict_update.plain F.entry_dict_update (F.slot_dict_update.check _ _ _ _ _ _ _ _ hTn (F.args_dict_update_2 _ _) ?_));unfold Builtin.«dict.update»;refine Ac_ ?_;unfold Builtin.Dict.selfAndRest;refine Ac_ (Da_ hTn ?_);show wpAny _ _ (pure (a,[Value.ref p])) _ _ _;refine Ai_ ?_;show wpAny _ _ (Builtin.Dict.updateFrom "dict.update" a (.ref p) [] .none) _ _ _;unfold Builtin.Dict.updateFrom;have hT:s.TypeIs (.ref p) "list" := ⟨_,hop,rfl⟩;refine Ac_ (CD_ hT ?_);rw [if_pos (by decide)];refine Ac_ (fA_ hop rfl rfl rfl hu_ (by rfl') hh fun h1 tk k1=>?_);rw [if_pos DE_];refine Ac_ (CH_ ?_);have hop2:=k1 _ _ hop;refine Ac_ (CV_ (items:=its.toArray) ⟨_,hop2,rfl,c,rfl⟩ ?_);refine Ai_ ⟨BH_ F.rim_plain_dict_update_loop _,?_⟩;have below:∀ {b:Addr}{o:Obj},s.heap.get? b=some o->b≠h1.objs.size:=fun e=>AF_ (Au_ (k1 _ _ e));have rl:kvs.length=ps.length:=By_ rel;have rl0:kvs0.length=xs0.length:=By_ rel0;obtain ⟨od,es,ep,hod,g2,g3,g4,g6,g5⟩:=id dd;have nseq:∀ {k:List Key}{b:Addr},(TK X.prog X.w).is s.heap k b->b≠a:=fun {k b} e z=>by obtain ⟨ob,its',n,g,_,dat,_⟩:=e;rw [z,hod] at g;cases g;rw [g3] at dat;cases dat
 refine d7_ (A:=X.A) (its:=its.toArray) (h0:=s.heap) (p:=p) (show X.A.units+1<cLine by lia) hh (below hod) ⟨_,hop,rfl,c,rfl⟩ (below hop) ppa ps 0 0 xs0 _ (by simp;lia) (by lia) ?_ ?_ (fun x hx=>?_) (fun b o b1 b2 e=>?_) (fun m q hq=>?_) fun h' tk' k3 hD3=>?_
 ·exact ⟨_,Av_ h1 rfl,rfl,rfl⟩
 ·exact ⟨od,es,ep,Ah_ _ (k1 _ _ hod),g2,g3,g4,g5⟩
 ·have kx:=g6 x hx;obtain ⟨ob,_,_,g,_⟩:=id kx;exact ⟨below g,nseq kx,kx⟩
 ·exact Ah_ _ (k1 _ _ e)
 ·obtain ⟨a',o,n,e1,ho,z1,z2,z3⟩:=hit m q hq;obtain ⟨ob,_,_,g,_⟩:=id z3;exact ⟨a',o,n,by simpa using e1,below ho,(fun z=>by rw [z,hod] at ho;cases ho;rw [g3] at z2;cases z2),ho,z1,z2,below g,nseq z3,z3⟩
 ·have ml:=jB_ kvs kvs0;have mz:(Gj_ kvs0 kvs).length<=sizeLine:=AJ_ (Fw_ (by lia));obtain ⟨od',es',ep',f1,f2,f3,f4,f5⟩:=hD3;refine ⟨.non,_,I.write (x:=a) (e:=a) (o:=.dT (Gj_ kvs0 kvs)) (t':=tk') (by rw [ha];exact True.intro) (.inl rfl) (fun b o hb e=>k3 b o (below e) hb e) ⟨od',f1⟩ ⟨mz,hsys,HX_ xs0 ps,(KT.merge rel rel0).keeps fun b ys e=>?_,od',es',ep',f1,f2,f3,f4,f5⟩,rfl,q⟩;rw [af_ (apne b ys e)];exact e
end
end L2
namespace L2
open PySem PySem.Spec PyProof.Rows PySem.W
variable {X:Cx}
end L2
namespace L2
open PySem PySem.Spec PyProof.Rows PySem.W
variable {X:Cx}
def HO_:V->List V->Hp->VK->Prop:=fun x vs H Q=>∃ (l:Addr)(xs:List V)(ds:List Dt)(v:V)(d:Dt)(bs:Nat->Bool)(j:Nat),x=.ref l/\vs=[v]/\H l=some (.lst xs)/\F0_ H xs ds/\Rep H v d/\xs.length<=1000/\(∀ y∈xs,∃ q,y=.ref q) /\
 (∀ m dm,ds[m]?=some dm->deq dm d=some (bs m)/\dep dm<=60)/\j<ds.length/\bs j=true/\(∀ m,m<j->bs m=false)/\Q (.int j) H
theorem mJ_ (hu:X.A.units+64<cLine):MtM X "list.index" HO_:=by
 intro pins s σ H x vs v us Q I rx rv h;obtain ⟨l,xs,ds,v0,d,bs,j,rfl,rfl,hH,hr,hv,hz,refs,hd,jl,hj,hno,q⟩:=h;cases rx;obtain ⟨u,rfl,ru⟩:=rv.one;obtain ⟨z,its,n,r,hl,e⟩:=I.lstM hH;have xl:xs.length=ds.length:=hr.length;have ji:j<its.toArray.size:=by rw [As_];lia
 have at_:∀ m (hm:m<its.length),∃ a dm,its[m]=.ref a/\xs[m]?=some (.ref a)/\ds[m]?=some dm/\Rep H (.ref a) dm:=fun m hm=>by have hx:xs[m]?=some (xs[m]'(by lia)):=Aa_ _;obtain ⟨a,ea⟩:=refs (xs[m]'(by lia)) (A3_ _);obtain ⟨w',hw,rw'⟩:=r.get hx;rw [Aa_ hm] at hw;obtain ⟨dm,hdm,rep⟩:=hr.of_get hx;rw [ea] at rw' rep hx;cases rw';exact ⟨a,dm,Aw_ hw,hx,hdm,rep⟩
 let f:Value->Bool:=fun y=>its.zipIdx.any fun p=>decide (p.1=y) && bs p.2
 have f_at:∀ m (hm:m<its.length),f its[m]=bs m:=fun m hm=>by
  obtain ⟨a,dm,e1,e2,e3,e4⟩:=at_ m hm;rw [Ct_];show (its.zipIdx.any _)=true ↔ _;rw [CJ_];constructor
  ·rintro ⟨⟨y,i⟩,hy,hb⟩;rw [CI_] at hb;have ey:y=its[m]:=A8_ hb.1;have hi:=Ds_.mp hy;obtain ⟨hi1,hi2⟩:=Ae_.mp hi;obtain ⟨a',dm',g1,g2,g3,g4⟩:=at_ i hi1
   have ea:a'=a:=by
    have:Value.ref a'=Value.ref a:=by rw [<-g1,<-e1,<-ey];exact hi2
    injection this
   subst ea;have:=Rep.inj _ _ e4 g4;subst this;have h1:=(hd m dm e3).1;have h2:=(hd i dm g3).1;rw [h1] at h2;rw [Aw_ h2];exact hb.2
  ·intro hb;exact ⟨(its[m],m),Ds_.mpr (Aa_ hm),by rw [A5_ rfl,Bool.true_and];exact hb⟩
 refine CT_ F.slot_list_index ⟨_,e,rfl⟩ F.entry_list_index (F.args_list_index_2 _ _)
  (SeqAt.list_indexAt l its.toArray n none #[] u f j ji (by lia) (by rw [E3_,f_at j (by lia)];exact hj) fun m hm hlt=>by rw [E3_,f_at m (by rw [As_] at hm;exact hm)];exact hno m hlt) ⟨e,fun y hy=>?_,?_⟩
 ·have hy':y∈its:=by simpa using hy
  obtain ⟨m,hm,rfl⟩:=AB_.mp hy';obtain ⟨a,dm,e1,e2,e3,e4⟩:=at_ m hm;rw [f_at m hm];refine kZ_ I Vw.refl dm d e4 hv (by rw [e1];rfl) ru (hd m dm e3).1 ?_;have:=(hd m dm e3).2;simp only [Around.in1_units];lia
 exact ⟨.int j,H,I.tok _,⟨_,rfl⟩,q⟩
end L2
namespace L2
open PySem PySem.Spec PyProof.Rows PySem.W
def sLt (a b:Str):Bool:=decide (a.cps.toList<b.cps.toList)
section
variable {prog:Program}{w:World}{A:Around}{E:Value->Shared->Prop}{s:Shared}{l:Addr}{a b:Str}{t u:Tok}{Q:Value->Shared->Prop}
theorem pS_ {I:Addr}{h h':Heap}{o':Obj}(e1:I=h.objs.size)(hk:∀ b o,b∉[I]->(h.push o').get? b=some o->h'.get? b=some o):∀ b o,h.get? b=some o->h'.get? b=some o:=fun b o e=>by refine hk b o (fun hm=>?_) (Ah_ _ e);have:=Ak_.mp hm;rw [this,e1] at e;exact absurd (Au_ e) (Bb_ _)
end
section
variable {X:Cx}
end
end L2
namespace L2
open PySem PySem.Spec PyProof.Rows PySem.W HT
def Gx_:List Str->List Str->Bool
 | [],[]=>false
 | [],_::_=>true
 | _::_,[]=>false
 | x::xs,y::ys=>if x=y then Gx_ xs ys else sLt x y
theorem fB_ (x y:Str)(xs ys:List Str):Gx_ (x::xs) (y::ys)=if x=y then Gx_ xs ys else sLt x y:=rfl
theorem jD_:Gx_ [] []=false:=rfl
theorem iG_ (y:Str)(ys:List Str):Gx_ [] (y::ys)=true:=rfl
theorem iH_ (x:Str)(xs:List Str):Gx_ (x::xs) []=false:=rfl
theorem mK_ (A:Around)(s:Shared)(a:Str)(t:Tok)(c:Str)(u:Tok):∃ e,SeqAt.EqAt A s (.str a t) (.str c u) e/\(e=true ↔ a=c):=⟨(a == c),DD_ a t c u,by simp⟩
theorem mL_ (A:Around)(s:Shared)(a:Str)(t:Tok)(c:Str)(u:Tok)(prog:Program)(w:World)(E:Value->Shared->Prop)(Q:Value->Shared->Prop)(h:Q (.bool (sLt a c)) s):wpAny (model prog w) A (richCompare .Lt (.str a t) (.str c u)) Q E s :=
 richCompare_gives (op:=.Lt) (DT_ s _ t) (DT_ s _ u) PySem.F.slot_str_lt PySem.F.entry_str_lt (PySem.F.args_str_lt_2 _ _) (gives_str_lt _ _ t u) (fun x=>nomatch x) h
section
open PySem.SeqAt
open PySem.AutoSeq1 (wpAny_loadPart')
open PySem.MeetsSeq PySem.MeetsSeq2 PySem.MeetsSeq3
theorem nP_ (l b:Addr)(its us:Array Value)(n n2:Nat)(dd dd2:Option Addr)(sl sl2:Array (Option Value))(ns ms:List Str)(hi:StrsAre its.toList ns)(hj:StrsAre us.toList ms)(k:Nat) :
  ∀ i:Nat,its.size-i=k->i<=its.size->i<=us.size->Meets (Builtin.«list.__eq__.loop» ⟨[.ref l,.ref b,rawInt i,rawInt 0],[]⟩)
   (fun _ R s=>s.heap.get? l=some { cls:=.type "list",dict:=dd,data:=.seq its n,slots:=sl }/\s.heap.get? b=some { cls:=.type "list",dict:=dd2,data:=.seq us n2,slots:=sl2 } /\
    R (.ok (.ret (.bool (Gx_ (ns.drop i) (ms.drop i))))) s):=by
 have z1:its.size=ns.length:=by rw [<-hi.length];simp
 have z2:us.size=ms.length:=by rw [<-hj.length];simp
 induction k with
 | zero =>
  intro i hk h1 h2 prog w A R s h;obtain ⟨hp,g,d,tk,os⟩:=s;obtain ⟨hl,hb,h⟩:=h
  wp_walk using Bu_ hl,Bu_ hb
  have e1:its[((i:Nat):Int).toNat]?=none:=by simp;lia
  have e3:Gx_ (ns.drop i) (ms.drop i)=decide (its.size<us.size):=by
   rw [EG_ (show ns.length<=i by lia)];cases e:ms.drop i with
   | nil =>
    have:=List.drop_eq_nil_iff.mp e;rw [jD_];exact (AN_ (by lia)).symm
   | cons c cs =>
    have:(ms.drop i).length=cs.length+1:=by rw [e];rfl
    rw [BM_] at this;rw [iG_];exact (A5_ (by lia)).symm
  rw [e3] at h;rw [e1]
  wp_walk using Bu_ hl,Bu_ hb
  exact h
 | succ k ih =>
  intro i hk h1 h2 prog w A R s h;obtain ⟨hp,g,d,tk,os⟩:=s;obtain ⟨hl,hb,h⟩:=h
  wp_walk using Bu_ hl,Bu_ hb
  have lt1:i<its.size:=by lia
  have e1:its[((i:Nat):Int).toNat]?=some its[i]:=by simp [lt1]
  rw [e1];by_cases lt2:i<us.size
  ·have e2:us[((i:Nat):Int).toNat]?=some us[i]:=by simp [lt2]
   have l1:i<ns.length:=by lia
   have l2:i<ms.length:=by lia
   obtain ⟨t,ht⟩:=hi.get i ns[i] (Aa_ l1);obtain ⟨u,hu⟩:=hj.get i ms[i] (Aa_ l2);have f1:its[i]=.str ns[i] t:=by rw [Aa_ (by simpa using lt1)] at ht;exact Aw_ ht
   have f2:us[i]=.str ms[i] u:=by rw [Aa_ (by simpa using lt2)] at hu;exact Aw_ hu
   rw [f1] at e1;rw [f2] at e2;rw [f1,e2];rw [BR_ l1,BR_ l2,fB_] at h;have hc:((i:Int)+1)=((i+1:Nat):Int):=by lia
   obtain ⟨e,he,hiff⟩:=mK_ A.in1 ⟨hp,g,d,tk,os⟩ ns[i] t ms[i] u;refine Ac_ (he prog w _ _ ?_);cases e with
   | true =>
    rw [if_pos (hiff.mp rfl)] at h
    wp_walk
    rw [hc];have go:=ih (i+1) (by lia) (by lia) (by lia) prog w A R _ ⟨hl,hb,h⟩;exact ⟨BH_ plain_eq_loop _,BL_ entry_eq_loop (by rw [Bt_ plain_eq_loop _];exact go)⟩
   | false =>
    rw [if_neg fun q=>absurd (hiff.mpr q) AR_] at h;have hri:=mL_ A.in1 ⟨hp,g,d,tk,os⟩ ns[i] t ms[i] u prog w
    wp_walk using Bu_ hl,Bu_ hb
    rw [e1,e2]
    wp_walk using hri
    exact h
  ·have e2:us[((i:Nat):Int).toNat]?=none:=by simp;lia
   rw [e2]
   wp_walk using Bu_ hl,Bu_ hb
   have e4:Gx_ (ns.drop i) (ms.drop i)=decide (its.size<us.size):=by rw [EG_ (show ms.length<=i by lia),BR_ (show i<ns.length by lia),iH_];exact (AN_ (by lia)).symm
   rw [e4] at h;exact h
theorem k8_ (l b:Addr)(its us:Array Value)(n n2:Nat)(dd dd2:Option Addr)(sl sl2:Array (Option Value))(ns ms:List Str)(hi:StrsAre its.toList ns)(hj:StrsAre us.toList ms) :
  Meets (Builtin.«list.__lt__» ⟨[.ref l,.ref b],[]⟩)
   (fun _ R s=>s.heap.get? l=some { cls:=.type "list",dict:=dd,data:=.seq its n,slots:=sl }/\s.heap.get? b=some { cls:=.type "list",dict:=dd2,data:=.seq us n2,slots:=sl2 } /\
    R (.ok (.ret (.bool (Gx_ ns ms)))) s):=by
 intro prog w A R s h;obtain ⟨hp,g,d,tk,os⟩:=s;obtain ⟨hl,hb,h⟩:=h;have f3:=AutoSeq1.sub_list_list
 wp_walk using Bu_ hl,Bu_ hb
 have go:=nP_ l b its us n n2 dd dd2 sl sl2 ns ms hi hj _ 0 rfl (Ay_ _) (Ay_ _) prog w A R _ ⟨hl,hb,h⟩;exact ⟨BH_ plain_eq_loop _,BL_ entry_eq_loop (by rw [Bt_ plain_eq_loop _];exact go)⟩
end
section
variable {prog:Program}{w:World}{A:Around}{E:Value->Shared->Prop}{s:Shared}
theorem hv_ {l b:Addr}{its us:Array Value}{ns ms:List Str}{Q:Value->Shared->Prop}(hl:s.heap.IsList l its)(hb:s.heap.IsList b us)(hi:StrsAre its.toList ns)(hj:StrsAre us.toList ms)
  (hu:A.units<cLine) (h:Q (.bool (Gx_ ns ms)) s):wpAny (model prog w) A (compareOp .Lt (.ref l) (.ref b)) Q E s:=by
 obtain ⟨⟨c1,dd,da,sl⟩,ho,hc,n,hd⟩:=id hl;obtain ⟨⟨c2,dd2,da2,sl2⟩,ho2,hc2,n2,hd2⟩:=id hb;simp only at hc hd hc2 hd2;subst hc hd hc2 hd2
 exact richCompare_meets_room (op:=.Lt) ⟨_,ho,rfl⟩ ⟨_,ho2,rfl⟩ Dj_ ET_ (EH_ _ _) (k8_ l b its us n n2 dd dd2 sl sl2 ns ms hi hj)
  ⟨ho,ho2,show Value.bool (Gx_ ns ms)≠Value.notImplemented/\Q (.bool (Gx_ ns ms)) s from ⟨(fun x=>nomatch x),h⟩⟩ hu
theorem go_ {l b:Addr}{its us:Array Value}{ns ms:List Str}{Q:Bool->Shared->Prop}(one:Bool)(hl:s.heap.IsList l its)(hb:s.heap.IsList b us)(hi:StrsAre its.toList ns)(hj:StrsAre us.toList ms)
  (hu:A.units<cLine) (h:Q (Gx_ ns ms) s):wpAny (model prog w) A (oneLt' one (.ref l) (.ref b)) Q E s:=by
 cases one with
 | false=>exact kat_one _ _ (hv_ hl hb hi hj hu h)
 | true =>rw [oneLt'_eq];simp only [if_true];refine Ac_ (wpAny_cRoomFor hu ?_);obtain ⟨⟨c1,dd,da,sl⟩,ho,hc,n,hd⟩:=id hl;obtain ⟨⟨c2,dd2,da2,sl2⟩,ho2,hc2,n2,hd2⟩:=id hb;simp only at hc hd hc2 hd2;subst hc hd hc2 hd2;refine Ac_ (wpAny_callSpecialIfBound?_slot ⟨_,ho,rfl⟩ Dj_ (CT_ Dj_ ⟨_,ho,rfl⟩ ET_ (EH_ _ _) (k8_ l b its us n n2 dd dd2 sl sl2 ns ms hi hj) ⟨ho,ho2,?_⟩));exact Br_ h
end
end L2
namespace L2
open PySem PySem.Spec PyProof.Rows PySem.W
def eLe (a b:Str×Nat):Prop:=if a.1=b.1 then a.2<=b.2 else sLe a.1 b.1
def eLt (e f:Str×Nat):Bool:=if e.1=f.1 then (if e.2=f.2 then false else decide (e.2<f.2)) else decide (e.1.cps.toList<f.1.cps.toList)
theorem jE_ {e f:Str×Nat}:eLt f e=false ↔ eLe e f:=by
 unfold eLt eLe;by_cases h:e.1=f.1
 ·rw [if_pos h,if_pos h.symm];by_cases k:f.2=e.2
  ·rw [if_pos k];exact ⟨fun _=>by lia,fun _=>rfl⟩
  ·rw [if_neg k,Eq_];lia
 ·rw [if_neg h,if_neg fun z=>h z.symm,Eq_];rfl
theorem eLe.antisymm {a b:Str×Nat}(h:eLe a b)(h2:eLe b a):a=b:=by
 unfold eLe at h h2;by_cases e:a.1=b.1
 ·rw [if_pos e] at h;rw [if_pos e.symm] at h2;exact A9_ e (by lia)
 ·rw [if_neg e] at h;rw [if_neg fun z=>e z.symm] at h2;exact absurd (sLe.antisymm h h2) e
theorem eLe.trans {a b c:Str×Nat}(h:eLe a b)(h2:eLe b c):eLe a c:=by
 unfold eLe at h h2 ⊢;by_cases e:a.1=b.1
 ·rw [if_pos e] at h;by_cases f:b.1=c.1
  ·rw [if_pos f] at h2;rw [if_pos (e.trans f)];lia
  ·rw [if_neg f] at h2;rw [if_neg fun z=>f (e ▸ z),e];exact h2
 ·rw [if_neg e] at h;by_cases f:b.1=c.1
  ·rw [if_neg fun z=>e (z.trans f.symm),<-f];exact h
  ·rw [if_neg f] at h2;by_cases g:a.1=c.1
   ·rw [<-g] at h2;exact absurd (sLe.antisymm h h2) e
   ·rw [if_neg g];exact h.trans h2
theorem pT_ {e f:Str×Nat}(h:eLt e f=true):eLt f e=false:=by
 rw [jE_];unfold eLt at h;unfold eLe;by_cases k:e.1=f.1
 ·rw [if_pos k] at h ⊢;by_cases q:e.2=f.2
  ·rw [if_pos q] at h;cases h
  ·rw [if_neg q] at h;have:=A8_ h;lia
 ·rw [if_neg k] at h ⊢;exact List.lt_asymm (A8_ h)
theorem k9_ {H:Hp}{f:Nat->V}{g:Nat->Dt}:∀ {is:List Nat},(∀ i∈is,Rep H (f i) (g i))->F0_ H (is.map f) (is.map g)
 | [],_=>rfl
 | i::is,h=>⟨_,_,rfl,h i At_,k9_ fun j hj=>h j (Ar_ _ hj)⟩
end L2
namespace L2
open PySem PySem.Spec PyProof.Rows PySem.W
abbrev Sf:=Str×(Int×Int)
def fLt (e f:Sf):Bool:=if e.1=f.1 then false else decide (e.1.cps.toList<f.1.cps.toList)
def dTf (e:Sf):Dt:=.tup [.str e.1,.tup [.int e.2.1,.int e.2.2]]
theorem Kn_ (e f:Sf):fLt e f=eLt (e.1,0) (f.1,0):=by
 unfold fLt eLt;split
 ·simp
 ·rfl
def IO_:List V->Hp->VK->Prop:=fun vs H Q=>∃ (p:Addr)(ys:List V)(es:List Sf),vs=[.ref p]/\H p=some (.lst ys)/\F0_ H ys (es.map dTf)/\es.length<64/\(es.map (·.1)).Nodup /\
 ∀ (l:Addr)(zs:List V)(fs:List Sf),H l=none->F0_ H zs (fs.map dTf)->fs.Perm es->fs.Pairwise (fun a b=>eLe (a.1,0) (b.1,0))->Q (.ref l) (upd H l (.lst zs))
theorem lB_ {X:Cx}(hu:X.A.units+64<cLine):GE_ X (.builtin "sorted") IO_:=by
 intro pins s σ H xs us Q I r h;obtain ⟨p,ys,es,rfl,hp,hys,h64,nd,q⟩:=h;have yl:ys.length=es.length:=by rw [hys.length,Ab_]
 have it:∀ i (hi:i<es.length),∃ a w,ys[i]?=some (.ref a)/\H a=some (.tup [.str es[i].1,.ref w])/\H w=some (.tup [.int es[i].2.1,.int es[i].2.2]):=fun i hi=>by obtain ⟨dd,hdd,hrep⟩:=hys.of_get (i:=i) (x:=ys[i]'(by lia)) (Aa_ (by lia));rw [Ag_,Aa_ hi] at hdd;cases hdd;obtain ⟨a,zs,ea,ha,_,_,e1,h1,_,_,e2,⟨w,ws,ew,hw,_,_,f1,g1,_,_,f2,g2,f3⟩,e3⟩:=hrep;subst e2 e1 f2 f1;rw [h1,ew,e3] at ha;rw [g1,g2,f3] at hw;exact ⟨a,w,by rw [Aa_ (by lia),ea],ha,hw⟩
 by_cases h0:ys.length=0
 ·have e0:ys=[]:=AY_ h0;have e1:es=[]:=AY_ (by lia);subst e0 e1;exact h3_ pins s σ H _ us Q I r ⟨p,[],rfl,hp,by decide,fun l zs nl pm _=>by rw [pm.eq_nil];exact q l [] [] nl rfl (.refl _) .nil⟩
 by_cases h1:ys.length=1
 ·obtain ⟨y,rfl⟩:=B9_.mp h1;obtain ⟨e,rfl⟩:=B9_.mp (yl.symm.trans h1);exact h4_ pins s σ H _ us Q I r ⟨p,y,rfl,hp,fun l nl=>q l [y] [e] nl hys (.refl _) (Er_ _ _)⟩
 obtain ⟨u,rfl,e⟩:=GF_ r;cases e
 let d:Sf:=(Str.empty,(0,0))
 let lt:Nat->Nat->Bool:=fun i j=>fLt (es.getD i d) (es.getD j d)
 have O:Lto lt ys.length:=by
  refine ⟨fun x y h=>?_,fun x y z h1 h2=>?_⟩
  ·have h':fLt (es.getD x d) (es.getD y d)=true:=h;show fLt (es.getD y d) (es.getD x d)=false;rw [Kn_] at h' ⊢;exact pT_ h'
  ·have h1':fLt (es.getD _ d) (es.getD _ d)=false:=h1;have h2':fLt (es.getD _ d) (es.getD _ d)=false:=h2;show fLt (es.getD _ d) (es.getD _ d)=false;rw [Kn_] at h1' h2' ⊢;exact jE_.mpr ((jE_.mp h1').trans (jE_.mp h2'))
 obtain ⟨pm,hr,hpm,hso⟩:=kk_ O (by lia);have pz:pm.size=ys.length:=by simpa using (A7_.mp hpm).length_eq
 have pl:pm.toList.Perm (List.range ys.length):=by simpa using A7_.mp hpm
 have fe:(pm.toList.map fun i=>es.getD i d).Perm es:=by
  have e2:(List.range ys.length).map (fun i=>es.getD i d)=es:=by
   apply CG_
   ·simp [yl]
   ·intro i h1 h2;simp [h2]
  have e3:=pl.map fun i=>es.getD i d;rw [e2] at e3;exact e3
 refine ju_ (lt:=lt) (κ:=tuples' true) (pm:=pm) I (.inl (.inl hp)) (by lia) (by lia) ?kind ?less hr (by lia) fun l nl=>q l (pm.toList.map fun i=>ys.getD i .non) (pm.toList.map fun i=>es.getD i d) nl ?_ fe (Bq_.mpr ((So.list hpm hso).imp fun {i j} h=>?_))
 case kind =>
  intro its s' rv I' C hC;obtain ⟨fs,t,hf,lk⟩:=hs_ "str" I' rv fun z hz=>by obtain ⟨i,hi,rfl⟩:=AB_.mp hz;obtain ⟨a,w,ea,ha,_⟩:=it i (by lia);rw [Aa_ hi] at ea;exact ⟨a,_,_,Aw_ ea,ha,rfl⟩
  have hl:=rv.length;exact kat_kind t (by lia) lk (by decide) hC
 case less =>
  intro its s' i j rv I' hi hj C hC;have u2:X.A.in1.in1.units+60<cLine:=by rw [AV_,AV_];lia
  have pick:∀ i,i<ys.length->∃ (a w:Addr),its.getD i Value.none=.ref a/\H a=some (.tup [.str (es.getD i d).1,.ref w])/\H w=some (.tup [.int (es.getD i d).2.1,.int (es.getD i d).2.2]):=fun i hi=>by obtain ⟨a,w,ea,ha,hw⟩:=it i (by lia);obtain ⟨u,hu',ru⟩:=rv.get ea;cases ru;refine ⟨a,w,by rw [Ad_,hu'];rfl,?_⟩;rw [Ad_,Aa_ (by lia)];exact ⟨ha,hw⟩
  have inj:(es.getD i d).1=(es.getD j d).1->i=j:=fun e=>by rw [Ad_,Ad_,Aa_ (show i<es.length by lia),Aa_ (show j<es.length by lia)] at e;exact (A2_ (l:=es.map (·.1)) (by rw [Ab_];lia) nd).mp (by rw [Ag_,Ag_,Aa_ (show i<es.length by lia),Aa_ (show j<es.length by lia)];exact congrArg some e)
  obtain ⟨a,w1,ea,ha,hw1⟩:=pick i hi;obtain ⟨b,w2,eb,hb,hw2⟩:=pick j hj;rw [ea,eb];have hlt:lt i j=fLt (es.getD i d) (es.getD j d):=rfl;rw [hlt] at hC;have same:(es.getD i d).1=(es.getD j d).1->es.getD i d=es.getD j d:=fun hn=>by rw [inj hn]
  generalize es.getD i d=e at *;generalize es.getD j d=f at *;have rw1:Rep H (.ref w1) (.tup [.int e.2.1,.int e.2.2]):=⟨w1,_,rfl,hw1,_,_,rfl,rfl,_,_,rfl,rfl,rfl⟩;have rw2:Rep H (.ref w2) (.tup [.int f.2.1,.int f.2.2]):=⟨w2,_,rfl,hw2,_,_,rfl,rfl,_,_,rfl,rfl,rfl⟩;unfold fLt at hC;refine jy_ I' u2 ha hb (d1:=.str e.1) (d2:=.tup [.int e.2.1,.int e.2.2]) (e1:=.str f.1) (e2:=.tup [.int f.2.1,.int f.2.2]) (b1:=decide (e.1=f.1)) (b2:=decide (e.2.1=f.2.1) && decide (e.2.2=f.2.2)) rfl rw1 rfl rw2 (by rw [deq];rfl) ?eq2 (by simp [dep]) (by simp [dep,deps]) (fun h u v ru rv=>?_) (fun h1 h2 u v ru rv=>?_) (fun h1 h2=>?_)
  case eq2=>simp [deq,deqs];rfl
  ·obtain ⟨t,rfl⟩:=ru;obtain ⟨t',rfl⟩:=rv;rw [if_neg (Cc_ h)] at hC;exact oneLt_str hC
  ·have:=same (A8_ h1);subst this;simp at h2
  ·rw [if_pos (A8_ h1)] at hC;exact hC
 ·rw [Bf_];refine k9_ fun i hi=>?_;have hi':i<ys.length:=AX_.mp (pl.mem_iff.mp hi);obtain ⟨a,w,ea,ha,hw⟩:=it i (by lia);show Rep H (ys.getD i .non) (dTf (es.getD i d));rw [Ad_,ea,Ad_,Aa_ (show i<es.length by lia)];exact ⟨a,_,rfl,ha,_,_,rfl,rfl,_,_,rfl,⟨w,_,rfl,hw,_,_,rfl,rfl,_,_,rfl,rfl,rfl⟩,rfl⟩
 ·have h':fLt (es.getD j d) (es.getD i d)=false:=h;rw [Kn_] at h';exact jE_.mp h'
end L2
namespace L2
open PySem PySem.Spec PyProof.Rows PySem.W
theorem hw_ {a b:Str}:sLt a b=false ↔ sLe b a:=⟨fun h=>Cc_ h,fun h=>AN_ h⟩
theorem mM_:∀ {a b:List Str},Gx_ a b=true->Gx_ b a=false
 | [],[],_=>rfl
 | [],_::_,_=>rfl
 | _::_,[],h=>by cases h
 | x::xs,y::ys,h=>by
  rw [fB_] at h ⊢;by_cases e:x=y
  ·rw [if_pos e] at h;rw [if_pos e.symm];exact mM_ h
  ·rw [if_neg e] at h;rw [if_neg fun z=>e z.symm];exact AN_ (List.lt_asymm (A8_ h))
theorem km_:∀ {a b:List Str},Gx_ a b=false->Gx_ b a=false->a=b
 | [],[],_,_=>rfl
 | [],_::_,h,_=>by cases h
 | _::_,[],_,h=>by cases h
 | x::xs,y::ys,h,k=>by
  rw [fB_] at h k;by_cases e:x=y
  ·rw [if_pos e] at h;rw [if_pos e.symm] at k;rw [e,km_ h k]
  ·rw [if_neg e] at h;rw [if_neg fun z=>e z.symm] at k;exact absurd ((hw_.mp k).antisymm (hw_.mp h)) e
theorem mN_:∀ {a b c:List Str},Gx_ b a=false->Gx_ c b=false->Gx_ c a=false
 | _,_,[],h,k=>by
  rename_i a b;cases b with
  | nil=>exact h
  | cons y ys=>cases k
 | [],_,_::_,_,_=>rfl
 | x::xs,[],z::zs,h,_=>by cases h
 | x::xs,y::ys,z::zs,h,k=>by
  rw [fB_] at h k ⊢;by_cases e:y=x
  ·subst e;rw [if_pos rfl] at h;by_cases e2:z=y
   ·rw [if_pos e2] at k ⊢;exact mN_ h k
   ·rw [if_neg e2] at k ⊢;exact k
  ·rw [if_neg e] at h;by_cases e2:z=y
   ·subst e2;rw [if_neg e];exact h
   ·rw [if_neg e2] at k;have t:=(hw_.mp h).trans (hw_.mp k);by_cases e3:z=x
    ·subst e3;exact absurd ((hw_.mp k).antisymm (hw_.mp h)) fun z=>e z
    ·rw [if_neg e3];exact hw_.mpr t
theorem lexO (tss:List (List Str))(N:Nat):Lto (fun i j=>Gx_ (tss.getD i []) (tss.getD j [])) N:=⟨fun _ _ h=>mM_ h,fun _ _ _ h k=>mN_ h k⟩
theorem f6_ {bt:Nat->Nat->Bool}{N:Nat}(O:Lto bt N):∀ (j i:Nat),i<=j->bt i (argBest bt j)=false
 | 0,i,h=>by
  rw [show i=0 by lia];exact O.rf 0
 | j+1,i,h=>by
  unfold argBest;cases e:bt (j+1) (argBest bt j) with
  | true =>
   simp only [if_true];by_cases c:i=j+1
   ·rw [c];exact O.rf _
   ·exact O.tr _ _ _ (O.as _ _ e) (f6_ O j i (by lia))
  | false =>
   simp only [Bs_,BS_];by_cases c:i=j+1
   ·rw [c];exact e
   ·exact f6_ O j i (by lia)
end L2
namespace RimT
open PySem L2
def Lst (ws u:List Str):Prop:=Rd ws u/\∀ v,Rd ws v->Gx_ v u=false
theorem Lst.one {a b u v:List Str}(h:Lst a u)(k:Lst b v)(r:Rd a b):u=v:=km_ (k.2 u (r.symm.trans h.1)) (h.2 v (r.trans k.1))
noncomputable def lw (ws:List Str):List Str:=@dite _ (∃ u,Lst ws u) (Classical.propDecidable _) (fun h=>h.choose) fun _=>[]
theorem I1_ {ws u:List Str}(h:Lst ws u):lw ws=u:=by have e:∃ u,Lst ws u:=⟨u,h⟩;unfold lw;rw [dif_pos e];exact e.choose_spec.one h (.inl (.refl _))
theorem Lt_ {a b:List Str}(ha:∃ u,Lst a u)(r:Rd a b):lw a=lw b:=by obtain ⟨u,h⟩:=ha;rw [I1_ h,I1_ (u:=u) ⟨r.symm.trans h.1,fun v hv=>h.2 v (r.trans hv)⟩]
theorem Jn_ {α:Type}(ws:List α)(i:Nat):Rt ws (ws.drop i++ws.take i):=⟨ws.take i,ws.drop i,(Bz_ i ws).symm,rfl⟩
theorem KG_ {α:Type}{ws v:List α}(h:Rt ws v)(ne:ws≠[]):∃ i,i<ws.length/\v=ws.drop i++ws.take i:=by
 obtain ⟨x,y,rfl,rfl⟩:=h;cases y with
 | nil=>exact ⟨0,Bx_.mpr ne,by simp⟩
 | cons b y=>exact ⟨x.length,by simp,by simp⟩
theorem on_ {ws u:List Str}{tss:List (List Str)}(ne:ws≠[])(hu:u∈tss)(h1:∀ t∈tss,Rd ws t)(h2:∀ i,i<ws.length->ws.drop i++ws.take i∈tss/\ws.reverse.drop i++ws.reverse.take i∈tss)(h3:∀ t∈tss,Gx_ t u=false):Lst ws u:=by
 refine ⟨h1 u hu,fun v hv=>h3 v ?_⟩
 rcases hv with hv|hv
 ·obtain ⟨i,hi,rfl⟩:=KG_ hv ne;exact (h2 i hi).1
 ·obtain ⟨i,hi,rfl⟩:=KG_ hv (by simpa using ne);rw [Ba_] at hi;exact (h2 i hi).2
theorem o2_ {a b:List (List Str)}(h:a.Perm b)(ha:a.Pairwise fun x y=>Gx_ y x=false)(hb:b.Pairwise fun x y=>Gx_ y x=false):a=b:=List.Perm.eq_of_pairwise (fun x y _ _ h1 h2=>km_ h2 h1) ha hb h
end RimT
namespace L2
open PySem PySem.Spec PyProof.Rows PySem.W
section
variable {prog:Program}{w:World}{A:Around}{R:Result->Shared->Prop}{I:Addr}{fp wr:List Addr}{G:Array GenState->Array GenState->Prop}{n:Nat}{P:Nat->Value->Prop}{St:Nat->Shared->Prop}
theorem lC_ (W:WalksS prog w A I fp wr G n P St)(ad:List Addr)(hd:∀ b∈ad,b∉wr)(J:Heap->Prop)(hJ:∀ h h':Heap,J h->(∀ b∈ad,∀ o,h.get? b=some o->h'.get? b=some o)->J h'):WalksS prog w A I (fp++ad) wr G n P (fun i s=>St i s/\J s.heap) where
 sub:=fun b hb=>An_.mpr (.inl (W.sub b hb))
 grefl:=W.grefl
 gtrans:=W.gtrans
 frame:=fun i s h' tk st ht hk=>⟨W.frame i s h' tk st.1 ht fun b hb=>hk b (An_.mpr (.inl hb)),hJ _ _ st.2 fun b hb=>hk b (An_.mpr (.inr hb))⟩
 item:=fun i s Q E hi st hQ=>W.item i s Q E hi st.1 fun v s' hP st' hm=>hQ v s' hP ⟨st',hJ _ _ st.2 fun b hb o e=>hm.heap b o (hd b hb) e⟩ hm
 done:=fun s Q E st hQ=>W.done s Q E st.1 hQ
 self:=fun i s Q E st hQ=>W.self i s Q E st.1 hQ
def JO_ (prog:Program)(w:World)(A:Around)(P:Nat->Value->Prop)(St:Nat->Shared->Prop)(bt:Nat->Nat->Bool):Prop:=∀ k i j vi vj (s:Shared) (Q:Value->Shared->Prop) (E:Value->Shared->Prop),St k s->P i vi->P j vj->Q (.bool (bt i j)) s->wpAny (model prog w) A (richCompare .Lt vi vj) Q E s
theorem nQ_ (W:WalksS prog w A.in1 I fp wr G n P St)(bt:Nat->Nat->Bool)(hcmp:JO_ prog w A.in1 P St bt)(S:Addr)(hSf:S∉fp) :
  ∀ (k j:Nat)(s:Shared)(vb:Value)(c:Nat),n-(j+1)=k->j+1<=n->St (j+1) s->P (argBest bt j) vb->s.heap.get? S=some { cls:=.type "list",dict:=none,data:=.seq #[vb,vb] c,slots:=#[] } ->
  (∀ v s',P (argBest bt (n-1)) v->Moved (S::wr) G s s'->R (.ok (.ret v)) s')->codeAny (model prog w) A (.builtin "min.loop" ⟨[.ref I,.none,.ref S],[]⟩) R s:=by
 have hSw:S∉wr:=fun h=>hSf (W.sub _ h);have hsub:∀ b∈wr,b∈S::wr:=fun b hb=>Ar_ _ hb;have hname:(toString "min" ++ toString ".loop" : String) = "min.loop" := by decide
 have other:∀ {b:Addr},b∉S::wr->S≠b:=fun hb h=>hb (by rw [h];exact At_);intro k
 induction k with
 | zero =>
  intro j s vb c hk hj hst hPb hS hR;have hin:j+1=n:=by lia
  refine BL_ Ed_ ?_;rw [Bt_ B5_ _];show wpAny _ A.in1 (seqItems? (.ref S) >>= _) _ _ s;refine Ac_ (BQ_ hS rfl ?_);show wpAny _ A.in1 (tryCatch (pyNext (.ref I)) _ >>= _) _ _ s;refine Ac_ (CE_ (W.done s _ _ (hin ▸ hst) fun s' hm=>?_));have hS':=hm.heap S _ hSw hS;show wpAny _ A.in1 (updateSeq S (fun _=>#[]) >>= _) _ _ _;refine Ac_ ?_;refine Df_ hS' rfl (Ac_ (CO_ (Ai_ ?_)));exact hR vb _ (by rw [<-hin];exact hPb) ((hm.mono hsub).then_heap (tk:=s'.toks) (Aj_ _) fun b o hb e=>(A0_ _ _ (other hb)).trans e)
 | succ k ih =>
  intro j s vb c hk hj hst hPb hS hR;have hlt:j+1<n:=by lia
  refine BL_ Ed_ ?_;rw [Bt_ B5_ _];show wpAny _ A.in1 (seqItems? (.ref S) >>= _) _ _ s;refine Ac_ (BQ_ hS rfl ?_);show wpAny _ A.in1 (tryCatch (pyNext (.ref I)) _ >>= _) _ _ s;refine Ac_ (CE_ (W.item (j+1) s _ _ hlt hst fun v s' hP hst' hm=>?_));have hS':=hm.heap S _ hSw hS;show wpAny _ A.in1 (tryCatch (holding [v,v] (richCompare .Lt v vb >>= _)) _ >>= _) _ _ _;refine Ac_ (CE_ (A6_ (Ac_ (hcmp _ (j+1) (argBest bt j) v vb _ _ _ hst' hP hPb ?_))));refine Ac_ (A6_ (Br_ ?_));refine Ac_ (CO_ (Ai_ ?_));cases hb:bt (j+1) (argBest bt j) with
  | true =>
   simp only [if_true];refine Ac_ ?_;refine Df_ hS' rfl (Ac_ (CO_ ?_));rw [hname];refine Ai_ ⟨BH_ B5_ _,ih (j+1) _ v _ (by lia) hlt (W.frame _ s' _ s'.toks hst' (Aj_ _) fun b hbf o e=>?_) (by simp only [argBest,hb,if_true];exact hP) (CC_ _ hS' rfl) fun v' s'' hP' hm''=>?_⟩
   ·exact (A0_ _ _ (fun h:S=b=>hSf (by rw [h];exact hbf))).trans e
   ·exact hR v' s'' hP' (Moved.trans W.gtrans ((hm.mono hsub).then_heap (Aj_ _) fun b o hb e=>(A0_ _ _ (other hb)).trans e) hm'')
  | false =>simp only [Bs_,BS_];refine Ac_ (CO_ ?_);rw [hname];refine Ai_ ⟨BH_ B5_ _,ih (j+1) _ vb c (by lia) hlt hst' (by simp only [argBest,hb,Bs_,BS_];exact hPb) hS' fun v' s'' hP' hm''=>?_⟩;exact hR v' s'' hP' (Moved.trans W.gtrans (hm.mono hsub) hm'')
theorem mO_ (W:WalksS prog w A.in1 I fp wr G n P St)(bt:Nat->Nat->Bool)(hcmp:JO_ prog w A.in1 P St bt)(S:Addr)(hSf:S∉fp)(hn:0<n){s:Shared}{c:Nat}(hst:St 0 s)
  (hS:s.heap.get? S=some { cls:=.type "list",dict:=none,data:=.seq #[] c,slots:=#[] })
  (hR:∀ v s',P (argBest bt (n-1)) v->Moved (S::wr) G s s'->R (.ok (.ret v)) s'):codeAny (model prog w) A (.builtin "min.loop" ⟨[.ref I,.none,.ref S],[]⟩) R s:=by
 have hSw:S∉wr:=fun h=>hSf (W.sub _ h);have hsub:∀ b∈wr,b∈S::wr:=fun b hb=>Ar_ _ hb;have hname:(toString "min" ++ toString ".loop" : String) = "min.loop" := by decide
 have other:∀ {b:Addr},b∉S::wr->S≠b:=fun hb h=>hb (by rw [h];exact At_);refine BL_ Ed_ ?_;rw [Bt_ B5_ _];show wpAny _ A.in1 (seqItems? (.ref S) >>= _) _ _ s;refine Ac_ (BQ_ hS rfl ?_);show wpAny _ A.in1 (tryCatch (pyNext (.ref I)) _ >>= _) _ _ s;refine Ac_ (CE_ (W.item 0 s _ _ hn hst fun v s' hP hst' hm=>?_));have hS':=hm.heap S _ hSw hS;show wpAny _ A.in1 (updateSeq S (fun _=>#[v,v]) >>= _) _ _ _;refine Ac_ ?_;refine Df_ hS' rfl ?_;rw [hname];refine Ai_ ⟨BH_ B5_ _,nQ_ W bt hcmp S hSf _ 0 _ v _ rfl hn (W.frame _ s' _ s'.toks hst' (Aj_ _) fun b hbf o e=>?_) hP (CC_ _ hS' rfl) fun v' s'' hP' hm''=>?_⟩
 ·exact (A0_ _ _ (fun h:S=b=>hSf (by rw [h];exact hbf))).trans e
 ·exact hR v' s'' hP' (Moved.trans W.gtrans ((hm.mono hsub).then_heap (Aj_ _) fun b o hb e=>(A0_ _ _ (other hb)).trans e) hm'')
end
section
variable {prog:Program}{w:World}{A:Around}{E:Value->Shared->Prop}{s:Shared}
theorem lD_ {x:Value}{Q:Value->Shared->Prop}
  (h:wpAny (model prog w) A.in1 (pyIter x) (fun it s₂=>∃ I fp wr G n P St bt,it=.ref I/\WalksS prog w A.in1 I fp wr G n P St/\St 0 s₂/\(∀ b∈fp,b<s₂.heap.objs.size)/\0<n/\JO_ prog w A.in1 P St bt /\
   ∀ v s',P (argBest bt (n-1)) v->Moved wr G s₂ s'->Q v s') E s):wpAny (model prog w) A (call (.builtin "min") [x]) Q E s:=by
 have hname:(toString "min" ++ toString ".loop" : String) = "min.loop" := by decide
 refine call_function_tree F.kind_min F.plain_min F.entry_min (F.args_min1 _) ?_;show wpAny _ A.in1 (Builtin.Builtins.bindParams "min" ["key", "default"] 0 ⟨[],[]⟩ >>= _) _ _ s;refine Ac_ (Fr_ (show Builtin.Builtins.bindParams "min" ["key", "default"] 0 ⟨[],[]⟩=pure [none,none] from rfl) ?_);refine Ac_ (Ai_ ?_);refine Ac_ (Bi_ h (fun it s₂ h₂=>?_) fun _ _ e=>e);obtain ⟨I,fp,wr,G,n,P,St,bt,rfl,W,hst,hfp,hn,hcmp,hQ⟩:=h₂;refine Ac_ (BX_ ?_);have hSf:s₂.heap.objs.size∉fp:=fun hm=>Bb_ _ (hfp _ hm);rw [hname];refine Ai_ ⟨BH_ B5_ _,mO_ W bt hcmp s₂.heap.objs.size hSf hn (W.frame 0 s₂ _ s₂.toks hst (Aj_ _) fun b _ o e=>Ah_ _ e) (Av_ _ rfl) fun v s' hP hm=>?_⟩;exact hQ v s' hP (Moved.drop_new (tk:=s₂.toks) hm (Aj_ _))
end
section
variable {X:Cx}
def JE_ (H:Hp)(ls:List Addr)(tss:List (List Str)):Prop:=∀ (i:Nat) l,ls[i]?=some l->H l=some (.lst ((tss.getD i []).map V.str))
def IV_:List V->Hp->VK->Prop:=fun vs H Q=>∃ (p:Addr)(ls:List Addr)(tss:List (List Str)),vs=[.ref p]/\H p=some (.lst (ls.map V.ref))/\ls≠[]/\JE_ H ls tss/\∀ (i:Nat) l,ls[i]?=some l->(∀ j,j<ls.length->Gx_ (tss.getD j []) (tss.getD i [])=false)->Q (.ref l) H
theorem do_:∀ {ls:List Addr}{us:List Value},FT_ (ls.map V.ref) us->us=ls.map Value.ref
 | [],_,.nil=>rfl
 | l::ls,_,.cons h t=>by rw [do_ t];cases h;rfl
theorem jF_:∀ {ts:List Str}{us:List Value},FT_ (ts.map V.str) us->StrsAre us ts
 | [],_,.nil=>.nil
 | x::ts,_,.cons h t=>by obtain ⟨k,rfl⟩:=h;exact .cons _ _ (jF_ t)
def JLs (ls:List Addr)(tss:List (List Str))(h:Heap):Prop:=∀ (i:Nat) l,ls[i]?=some l->∃ its:Array Value,h.IsList l its/\StrsAre its.toList (tss.getD i [])
theorem JLs.keep {ls:List Addr}{tss:List (List Str)}(h h':Heap)(J:JLs ls tss h)(k:∀ b∈ls,∀ o,h.get? b=some o->h'.get? b=some o):JLs ls tss h':=fun i l hl=>by obtain ⟨its,z1,z2⟩:=J i l hl;exact ⟨its,z1.at fun o e=>k l (Am_ hl) o e,z2⟩
theorem Inv.lists {pins:List (Addr×Obj)}{s:Shared}{σ:St}{H:Hp}{ls:List Addr}{tss:List (List Str)}(I:Inv X pins σ H s)(h:JE_ H ls tss):JLs ls tss s.heap:=fun i l hl=>by obtain ⟨its,rv,pl,_⟩:=I.list (.inl (.inl (h i l hl)));exact ⟨_,pl.isList,jF_ rv⟩
theorem h8_ (hc:X.calm=true)(hu:X.A.units+64<cLine):GE_ X (.builtin "min") IV_:=by
 intro pins s σ H xs us Q I r h;obtain ⟨p,ls,tss,rfl,hp,ne,hls,q⟩:=h;obtain ⟨u,rfl,e⟩:=GF_ r;cases e;obtain ⟨its,rv,pl,_⟩:=I.list (.inl (.inl hp));have ei:=do_ rv;subst ei;have hl:=pl.isList;have hlt:p<s.heap.objs.size:=by obtain ⟨_,e,_⟩:=hl;exact Au_ e
 have J:=I.lists hls;have lt:∀ b∈ls,b<s.heap.objs.size:=fun b hb=>by obtain ⟨i,hi⟩:=AS_.mp hb;obtain ⟨_,⟨_,e,_⟩,_⟩:=J i b hi;exact Au_ e
 refine lD_ (CV_ hl ?_);refine ⟨_,[_,p]++ls,[_],_,_,_,_,fun i j=>Gx_ (tss.getD i []) (tss.getD j []),rfl,lC_ (Walks.toS (Walks.list (A:=X.A.in1) (I.ok.hd hc) _ p (AF_ hlt) (ls.map Value.ref).toArray)) ls (fun b hb z=>?_) (JLs ls tss) JLs.keep,⟨⟨⟨_,Av_ _ rfl,rfl,rfl⟩,hl.push _⟩,?_⟩,fun c hc=>?_,?_,?_,fun v s' hP hm=>?_⟩
 ·rw [Ak_.mp z] at hb;exact absurd (lt _ hb) (Bb_ _)
 ·exact JLs.keep _ _ J fun b _ o e=>Ah_ _ e
 ·show c<(s.heap.push _).objs.size;rw [Cl_]
  rcases An_.mp hc with hc|hc
  ·rcases Ax_.mp hc with rfl|hc
   ·exact C4_ _
   ·rw [Ak_.mp hc];exact Bd_ hlt
  ·exact Bd_ (lt _ hc)
 ·rw [As_,Ab_];exact Bx_.mpr ne
 ·intro k i j vi vj s' Q' E' st hi hj h';have at_:∀ {i:Nat}{v:Value},(ls.map Value.ref).toArray[i]?=some v->∃ l,ls[i]?=some l/\v=.ref l:=fun {i v} h=>by rw [EU_,Ag_] at h;obtain ⟨l,h1,h2⟩:=AT_.mp h;exact ⟨l,h1,h2.symm⟩
  obtain ⟨l1,z1,rfl⟩:=at_ hi;obtain ⟨l2,z2,rfl⟩:=at_ hj;obtain ⟨i1,y1,y2⟩:=st.2 i l1 z1;obtain ⟨i2,y3,y4⟩:=st.2 j l2 z2;have hu':X.A.in1.units<cLine:=by simp only [Around.in1_units];lia
  exact (hv_ y1 y3 y2 y4 hu' h':wpAny (model X.prog X.w) X.A.in1 (compareOp .Lt (.ref l1) (.ref l2)) Q' E' s')
 ·have e:=hm.eq_with;rw [e];rw [EU_,Ag_] at hP;obtain ⟨l,h1,h2⟩:=AT_.mp hP;subst h2;obtain ⟨m,hn,F0⟩:=I.frm;have hk:=pS_ rfl hm.heap;exact ⟨.ref l,H,I.led (t':=s'.toks) hn (F0.grownK hk) ((eD_).grown hk) (fun _ _ _ n=>n) (fun _ _ w=>w) (fun b o w n=>by rw [w] at n;cases n),rfl,q _ l h1 fun j hj=>f6_ (lexO tss 0) _ j (by rw [As_,Ab_];lia)⟩
end
end L2
namespace L2
open PySem PySem.Spec PyProof.Rows PySem.W
theorem h9_ {α:Type}(d:α){l:List α}{n:Nat}(hn:l.length=n){p:List Nat}(h:p.Perm (List.range n)):(p.map fun i=>l.getD i d).Perm l:=by
 have e2:(List.range n).map (fun i=>l.getD i d)=l:=by
  apply CG_
  ·simp [hn]
  ·intro i h1 h2;simp [h2]
 have e3:=h.map fun i=>l.getD i d;rw [e2] at e3;exact e3
def IS_:List V->Hp->VK->Prop:=fun vs H Q=>∃ (p:Addr)(ls:List Addr)(tss:List (List Str)),vs=[.ref p]/\H p=some (.lst (ls.map V.ref))/\ls.length=tss.length/\ls.length<64/\JE_ H ls tss /\
 ∀ (l:Addr)(zs:List Addr)(uss:List (List Str)),H l=none->zs.length=uss.length->(∀ z∈zs,z∈ls)->JE_ H zs uss->uss.Perm tss->uss.Pairwise (fun x y=>Gx_ y x=false)->Q (.ref l) (upd H l (.lst (zs.map V.ref)))
theorem lE_ {X:Cx}(hu:X.A.units+64<cLine):GE_ X (.builtin "sorted") IS_:=by
 intro pins s σ H xs us Q I r h;obtain ⟨p,ls,tss,rfl,hp,hl,h64,la,q⟩:=h;by_cases h0:ls.length=0
 ·have e0:ls=[]:=AY_ h0;subst e0;have e1:tss=[]:=AY_ hl.symm;subst e1;exact h3_ pins s σ H _ us Q I r ⟨p,[],rfl,hp,by decide,fun l zs nl pm _=>by rw [pm.eq_nil];exact q l [] [] nl rfl (fun _ h=>h) (fun i l h=>by cases h) (.refl _) .nil⟩
 by_cases h1:ls.length=1
 ·obtain ⟨y,rfl⟩:=B9_.mp h1;exact h4_ pins s σ H _ us Q I r ⟨p,.ref y,rfl,hp,fun l nl=>q l [y] tss nl hl (fun _ h=>h) la (.refl _) (by obtain ⟨t,rfl⟩:=B9_.mp hl.symm;exact Er_ _ _)⟩
 obtain ⟨u,rfl,e⟩:=GF_ r;cases e
 let lt:Nat->Nat->Bool:=fun i j=>Gx_ (tss.getD i []) (tss.getD j [])
 have yl:(ls.map V.ref).length=ls.length:=Ab_ _;obtain ⟨pm,hr,hpm,hso⟩:=kk_ (lexO tss (ls.map V.ref).length) (by lia);have pz:pm.size=(ls.map V.ref).length:=by simpa using (A7_.mp hpm).length_eq
 have pl:pm.toList.Perm (List.range ls.length):=by rw [<-yl];simpa using A7_.mp hpm
 have pi:∀ i∈pm.toList,i<ls.length:=fun i hi=>AX_.mp (pl.mem_iff.mp hi);have at_:∀ {i:Nat},i<ls.length->ls[i]?=some (ls.getD i p):=fun {i} hi=>by rw [Ad_,Aa_ hi];rfl
 have eq:(pm.toList.map fun i=>(ls.map V.ref).getD i .non)=(pm.toList.map fun i=>ls.getD i p).map V.ref:=by rw [Bf_];refine Bw_ fun i hi=>?_;show (ls.map V.ref).getD i .non=V.ref (ls.getD i p);rw [Ad_,Ag_,at_ (pi i hi)];rfl
 refine ju_ (lt:=lt) (κ:=oneType') (pm:=pm) I (.inl (.inl hp)) (by lia) (by lia) ?kind ?less hr (by lia) fun l nl=>?_
 case kind =>intro its s' rv I' C hC;have ei:=do_ rv;subst ei;refine kas_kind (T:=.type "list") (by rw [Ab_];lia) (fun v hv=>?_) (by decide) (by decide) hC;obtain ⟨b,hb,rfl⟩:=Ap_.mp hv;obtain ⟨i,hi⟩:=AS_.mp hb;obtain ⟨its,⟨o,ho,hc,_⟩,_⟩:=I'.lists la i b hi;exact hc ▸ (Looks.ld ho).andThen .now
 case less =>
  intro its s' i j rv I' hi hj C hC;have ei:=do_ rv;subst ei;rw [yl] at hi hj;have g:∀ {i:Nat},i<ls.length->(ls.map Value.ref).getD i Value.none=.ref (ls.getD i p):=fun {i} hi=>by rw [Ad_,Ag_,at_ hi];rfl
  rw [g hi,g hj,keyLt'_oneType];obtain ⟨i1,y1,y2⟩:=I'.lists la i _ (at_ hi);obtain ⟨i2,y3,y4⟩:=I'.lists la j _ (at_ hj);exact go_ _ y1 y3 y2 y4 (by rw [AV_,AV_];lia) hC
 ·rw [eq];refine q l _ (pm.toList.map fun i=>tss.getD i []) nl (by rw [Ab_,Ab_]) (fun z hz=>by obtain ⟨i,hi,rfl⟩:=Ap_.mp hz;exact Am_ (at_ (pi i hi))) (fun i b hb=>?_) (h9_ [] hl.symm pl) (Bq_.mpr ((So.list hpm hso).imp fun {i j} h=>h));rw [Ag_] at hb;obtain ⟨k,hk,rfl⟩:=AT_.mp hb;have e:(pm.toList.map fun i=>tss.getD i []).getD i []=tss.getD k []:=by rw [Ad_,Ag_,hk];rfl
  rw [e];exact la k _ (at_ (pi k (Am_ hk)))
end L2
namespace RimD
def su:Nat->(Nat->Int)->Int
 | 0,_=>0
 | n+1,f=>su n f+f n
def sg (k:Nat):Int:=if k%2=0 then 1 else -1
def sk (k j:Nat):Nat:=if j<k then j else j+1
abbrev Mat:=Nat->Nat->Int
def mi (A:Mat)(k:Nat):Mat:=fun i j=>A (i+1) (sk k j)
def D:Nat->Mat->Int
 | 0,_=>1
 | n+1,A=>su (n+1) fun k=>sg k*A 0 k*D n (mi A k)
def pr:Nat->(Nat->Int)->Int
 | 0,_=>1
 | n+1,e=>pr n e*e n
end RimD
namespace RimD
def gi (r:List Int)(j:Nat):Int:=r.getD j 0
def ma (rows:List (List Int)):Mat:=fun i j=>gi (rows.getD i []) j
structure LL_ (w:Nat)(rows:List (List Int)):Prop where
 w:∀ r∈rows,r.length=w
theorem LL_.at {w:Nat}{rows:List (List Int)}(h:LL_ w rows){i:Nat}(hi:i<rows.length):(rows.getD i []).length=w:=by rw [Ad_,Aa_ hi];exact h.w _ (A3_ _)
end RimD
namespace RimM
def nf (t b:Int):Int×Int:=if b<0 then (t / -(Int.gcd t b:Int),b / -(Int.gcd t b:Int)) else (t/(Int.gcd t b:Int),b/(Int.gcd t b:Int))
theorem gpos {t b:Int}(hb:b≠0):0<(Int.gcd t b:Int):=by have:=Int.gcd_pos_of_ne_zero_right t hb;lia
theorem oo_ {t b:Int}(h:b<0):nf t b=nf (-t) (-b):=by
 have e:Int.gcd (-t) (-b)=Int.gcd t b:=by rw [Int.gcd_neg,Fu_]
 unfold nf;rw [if_pos h,if_neg (by lia),e,Int.ediv_neg,Int.ediv_neg,Fj_ (Int.gcd_dvd_left ..),Fj_ (CW_ ..)]
theorem la_ {t b:Int}(h:0<b):nf t b=(t/(Int.gcd t b:Int),b/(Int.gcd t b:Int)):=by unfold nf;rw [if_neg (by lia)]
structure Low (p:Int×Int):Prop where
 pos:0<p.2
 co:Int.gcd p.1 p.2=1
theorem lb_ {t b:Int}(hb:b≠0):Low (nf t b)/\t*(nf t b).2=(nf t b).1*b:=by
 have key:∀ {t b:Int},0<b->Low (nf t b)/\t*(nf t b).2=(nf t b).1*b:=fun {t b} h=>by
  have g:=gpos (t:=t) (b:=b) (by lia);rw [la_ h];refine ⟨⟨Int.ediv_pos_of_pos_of_dvd h (Ee_ g) (CW_ ..),Int.gcd_ediv_gcd_ediv_gcd (by lia)⟩,?_⟩;show t*(b/(Int.gcd t b:Int))=t/(Int.gcd t b:Int)*b;obtain ⟨x,hx⟩:=Int.gcd_dvd_left (a:=t) (b:=b);obtain ⟨y,hy⟩:=CW_ (a:=t) (b:=b)
  have e1:t/(Int.gcd t b:Int)=x:=by
   conv=>lhs;arg 1;rw [hx]
   exact Ef_ _ (by lia)
  have e2:b/(Int.gcd t b:Int)=y:=by
   conv=>lhs;arg 1;rw [hy]
   exact Ef_ _ (by lia)
  rw [e1,e2]
  conv=>lhs;arg 1;rw [hx]
  conv=>rhs;arg 2;rw [hy]
  rw [Int.mul_assoc,Int.mul_left_comm]
 rcases Int.lt_or_lt_of_ne hb with h|h
 ·rw [oo_ h];obtain ⟨a,e⟩:=key (t:=-t) (b:=-b) (by lia);refine ⟨a,?_⟩;rw [Fv_,Int.mul_neg] at e;lia
 ·exact key h
theorem op_ {k n m:Int}(h:k ∣ n*m)(g:Int.gcd k n=1):k ∣ m:=by have:=Int.dvd_gcd_mul_iff_dvd_mul.mpr h;rw [g] at this;simpa using this
theorem pU_ {p q:Int×Int}(hp:Low p)(hq:Low q)(h:p.1*q.2=q.1*p.2):p=q:=by
 have d1:p.2 ∣ q.2:=by have:p.2 ∣ p.1*q.2:=⟨q.1,by rw [h,Int.mul_comm]⟩;exact op_ this (by rw [Int.gcd_comm];exact hp.co)
 have d2:q.2 ∣ p.2:=by have:q.2 ∣ q.1*p.2:=⟨p.1,by rw [<-h,Int.mul_comm]⟩;exact op_ this (by rw [Int.gcd_comm];exact hq.co)
 have e:p.2=q.2:=Int.dvd_antisymm (Ee_ hp.pos) (Ee_ hq.pos) d1 d2;have e1:p.1=q.1:=by rw [e] at h;exact DM_ (by have:=hq.pos;lia) h
 exact A9_ e1 e
theorem Kk_ {t b t' b':Int}(hb:b≠0)(hb':b'≠0)(h:t*b'=t'*b):nf t b=nf t' b':=by
 obtain ⟨l,e⟩:=lb_ (t:=t) hb;obtain ⟨l',e'⟩:=lb_ (t:=t') hb';refine pU_ l l' ?_
 have:((nf t b).1*(nf t' b').2)*(b*b')=((nf t' b').1*(nf t b).2)*(b*b'):=by
  calc ((nf t b).1*(nf t' b').2)*(b*b')=((nf t b).1*b)*((nf t' b').2*b'):=by ac_rfl
   _=(t*(nf t b).2)*((nf t' b').2*b'):=by rw [e]
   _=(t*b')*((nf t b).2*(nf t' b').2):=by ac_rfl
   _=(t'*b)*((nf t b).2*(nf t' b').2):=by rw [h]
   _=(t'*(nf t' b').2)*((nf t b).2*b):=by ac_rfl
   _=((nf t' b').1*b')*((nf t b).2*b):=by rw [e']
   _=((nf t' b').1*(nf t b).2)*(b*b'):=by ac_rfl
 exact DM_ (Ch_ hb hb') this
theorem mP_ {p:Int×Int}(h:Low p):nf p.1 p.2=p:=by rw [la_ h.pos,h.co];simp
end RimM
namespace RimD
open RimM
end RimD
namespace L2
open PySem PySem.Spec PyProof.Rows PySem.W
def K6_:V->Option Int->Option Int->Hp->VK->Prop:=fun x lo hi H Q=>∃ z:Str,x=.str z/\z.length<=sizeLine/\∀ y:Str,y.length<=z.length->(∀ c∈y.cps.toList,c∈z.cps.toList)->Q (.str y) H
theorem mQ_ {v:Value}{o:Option Int}(h:IsPart v o):∃ l:Option (Int×Tok),v=partValue l/\l.map (·.1)=o:=by
 cases h with
 | none=>exact ⟨none,rfl,rfl⟩
 | int i t=>exact ⟨some (i,t),rfl,rfl⟩
theorem oq_ {X:Cx}:SlR X K6_:=by
 intro pins s σ H x v vl vu lo hi sl Q I rx hs pl pu h;obtain ⟨z,rfl,hz,q⟩:=h;obtain ⟨t,rfl⟩:=rx;obtain ⟨l,rfl,el⟩:=mQ_ pl;obtain ⟨u,rfl,eu⟩:=mQ_ pu;refine ⟨"str",_,F.slot_str_getitem.lookup,DT_ _ _ _,?_⟩;refine wpAny_getItem_str_slice (l:=l) (u:=u) (st:=none) hs rfl ?_;have le:=sliceIndices_le (l.map (·.1)) (u.map (·.1)) z.length;unfold sliceMade;by_cases hc:(((none:Option (Int×Tok)).map (·.1)).getD 1 == 1 && (slicePicked z l u none).length == z.length)=true
 ·rw [if_pos hc];exact ⟨.str z,H,I,⟨_,rfl⟩,q z (Aj_ _) fun _ h=>h⟩
 ·rw [if_neg hc];have hl:(⟨((slicePicked z l u none).filterMap (z.cps[·]?)).toArray⟩:Str).length<=z.length:=by show (((slicePicked z l u none).filterMap (z.cps[·]?)).toArray).size<=_;rw [As_];exact AM_ (BA_ _ _) le
  refine ⟨AM_ hl hz,.str _,H,I.tok _,⟨_,rfl⟩,q _ hl fun c hc=>?_⟩;have hc2:c∈(slicePicked z l u none).filterMap (z.cps[·]?):=by simpa using hc
  obtain ⟨i,_,hi⟩:=Cb_.mp hc2;exact EZ_.mpr (Array.mem_of_getElem? hi)
end L2
namespace L2
open PySem PySem.Spec PyProof.Rows PySem.W
section
variable {prog:Program}{w:World}{A:Around}{E:Value->Shared->Prop}{s:Shared}
end
end L2
namespace L2
open PySem PySem.Spec PyProof.Rows PySem.W
structure Lam (mg:Str->Option Value)(base:Heap)(c P:Addr):Prop where
 hd:CodeHd base c P
 blt:base.BuiltinsAt mg P
section
variable {P:Program}{w:World}{K:PySem.W.Frag}{mg:Str->Option Value}{base:Heap}
theorem o3_ {k:Nat}{f c':Addr}{name qual:Str}{params:Arguments}{body:Expr}{scope:Scope}{pm ctv:Value}{A:Around}{outer:List Env}{s:Shared}{H:Hp}{us:List Value}{vs:List V}{N ps:List Str}{Q:VK}{te:TE}
  (hf:s.heap.get? f=some (kla_obj name qual params body scope [] pm c' ctv)) (hcd:s.heap.CodeRec (.ref c') qual) (S:FF_ N ps scope) (hr:GK_ (k+1) A) (e0:Jh_ P w K mg base A outer s H)
  (hb:bindArgs (kla_fn name qual params body scope [] pm (.ref c') ctv) ⟨us,[]⟩=pure (ps.zip us)) (r:FT_ vs us) (hl:vs.length=ps.length) (ht:PE (Ir_ CX0 P w K mg base N qual scope f (.ref c') A outer s H E0) body te) (hq:te (start N vs) H Q) :
  codeAny (model P w) A (.call (.ref f) ⟨us,[]⟩) (CR CX0 outer P w H s Q E0) s:=by
 have lim:s.heap.NoLimit:=e0.mod.nolimit.keeps fun b o e=>(e0.bs b o e).1
 have hkind:∀ y∈ps.zip us,scope.names.lookup y.1=some .local\/(scope.names.lookup y.1=some .cell/\((cellsFrom (s.heap.objs.size+1) scope.names []).lookup y.1).isSome=true):=fun ⟨n,v⟩ hy=>by
  rcases S.par n (Dd_ hy).1 with q|q
  ·exact .inl q
  ·exact .inr ⟨q,CY_ _ _ _ (.inl q)⟩
 refine kla_callFunE hr.depth hf rfl S.co S.gen rfl hcd ?_;rw [hb];refine Ai_ (DL_ S.kind hkind fun env he s1 x=>?_);subst he;refine ⟨lim.keeps x.toInCall.keep,kla_codeExpr ?_⟩;have I:Inv (Ir_ CX0 P w K mg base N qual scope f (.ref c') A outer s H E0) [] (start N vs) H s1:=jd_ S hr.hd e0 hl r x;exact Bi_ (ht [] s1 (start N vs) H _ I hq) (fun u s' ⟨v,H',J,rv,q⟩=>⟨v,H',J.os,J.bare,J.base,J.hok,rv,q⟩) fun e s' hs=>hs
end
section
variable {X:Cx}{pins:List (Addr×Obj)}{σ:St}{H:Hp}{s:Shared}
theorem pV_ {P c:Addr}{params:Arguments}{body:Expr}{scope:Scope}{lpos:Pos}{Q:Value->Shared->Prop}{E:Value->Shared->Prop}(I:Inv X pins σ H s)(hP:H P=some (.tbl #[]))(hc:X.env.code=.ref c)(L:Lam X.mg X.base c P)(hcl:closureFor scope X.env=pure [])(hdf:defaultsOf params X.env=([],[]))
  (k:∀ (f c':Addr)(pm ctv:Value)(ps:Array Value)(h':Heap)(tk:Nat),Inv X pins σ (upd H P (.tbl ps)) { s with heap:=h',toks:=tk }->h'.get? f=some (kla_obj (Str.ofString "<lambda>") (X.env.qual++Str.ofString "<lambda>") params body scope [] pm c' ctv)->upd H P (.tbl ps) f=none->s.heap.objs.size<=f->f≠X.env.locals->h'.CodeRec (.ref c') (X.env.qual++Str.ofString "<lambda>")->c'≠X.env.locals->upd H P (.tbl ps) c'=none->s.heap.objs.size<=c'->Q (.ref f) { s with heap:=h',toks:=tk }) :
  wpAny (model X.prog X.w) X.A (eval (.Lambda params body scope lpos) X.env) Q E s:=by
 have hPs:s.heap.get? P=some (tabObj #[]):=I.hok P _ hP;obtain ⟨o,vs,file,tf,flags,tg,inF,text,tt,ho,r⟩:=L.hd;obtain ⟨bm,ob,b1,b2,b3,b4,b5,b6⟩:=L.blt
 have bP:X.base.get? P=none:=by
  cases e:X.base.get? P with
  | none=>rfl
  | some u=>have:=(I.bs P u e).2;rw [hP] at this;cases this
 have gP:mainGlobals≠P:=fun e=>by obtain ⟨og,_,_,h1,_⟩:=I.ok.mod.glob;rw [e,bP] at h1;cases h1
 obtain ⟨m,hn,hl⟩:=id I.loc;obtain ⟨oL,esL,epL,hoL,rL⟩:=id hn;refine kla_eval hdf (kla_makeFunction (mg:=X.mg) hcl I.ok.glob (I.ok.mod.glob.keeps I.bk) hc ⟨o,vs,file,tf,flags,tg,inF,text,tt,I.bk _ _ ho,r⟩ hPs trivial rfl gP ⟨bm,ob,b1,b2,b3,b4,I.bk _ _ b5,b6⟩ fun c' ctv h' tk ext c1 c2 cr hT=>?_);have PL:P≠X.env.locals:=fun e=>by have:=I.free;rw [<-e,hP] at this;cases this
 have neP:∀ b,H b=none->b≠P:=fun b e z=>by rw [z,hP] at e;cases e
 have ltP:=Au_ hPs;have sf:s.heap.objs.size<=h'.objs.size:=AM_ c1 (AJ_ c2);have kp:∀ b o',b≠P->s.heap.get? b=some o'->(h'.push (kla_obj (Str.ofString "<lambda>") (X.env.qual++Str.ofString "<lambda>") params body scope [] ((X.mg (Str.ofString "__name__")).getD Value.none) c' ctv)).get? b=some o':=fun b o' h1 h2=>Ah_ _ (ext b o' h1 h2);have ltn:∀ {a b:Addr},a<s.heap.objs.size->s.heap.objs.size<=b->b≠a:=fun h1 h2 z=>absurd (AI_ (z ▸ h1) h2) (Bb_ _);have fresh:∀ b,s.heap.objs.size<=b->upd H P (.tbl (#[] ++ #[rawInt ↑lpos.line,rawInt ↑lpos.col,Value.ref c'])) b=none:=fun b hb=>by rw [af_ (ltn ltP hb)];exact I.hok.fresh hb
 have ltL:X.env.locals<s.heap.objs.size:=Au_ hoL;refine k _ c' _ ctv (#[] ++ #[rawInt ↑lpos.line,rawInt ↑lpos.col,Value.ref c']) _ tk ?_ (Av_ _ rfl) (fresh _ sf) sf (ltn ltL sf) ?_ (ltn ltL c1) (fresh _ c1) c1
 ·refine I.step (g':=s.gens) (t':=tk) (d':=s.drawn) (ch:=[]) (fun _ z=>nomatch z) (fun b o' _ _ _ e n=>kp b o' (neP b n) e) (fun b o' _ _ _ e n=>⟨o'.slots,kp b o' (neP b n) e⟩) (fun b o' _ e n=>by rw [af_ (neP b n)];exact n) (fun b o' _ e=>?_) (fun b xs e=>by rw [af_ (fun z=>by rw [z,hP] at e;cases e)];exact e) (fun b o' u e=>by rw [af_ (fun z=>by rw [z,hP] at e;cases e)];exact e) (fun b ps e=>?_) (fun m' hm=>?_) (fun b o' e=>?_) I.bare
  ·by_cases z:b=P
   ·exact ⟨_,z ▸ Ah_ _ hT⟩
   ·exact ⟨o',kp b o' z e⟩
  ·by_cases z:b=P
   ·subst z;rw [hP] at e;cases e;exact ⟨_,aa_⟩
   ·exact ⟨#[],by rw [af_ z,e];simp⟩
  ·obtain ⟨o1,e1,e2,h1,h2⟩:=hm;exact ⟨o1,e1,e2,kp _ _ PL.symm h1,h2⟩
  ·by_cases z:b=P
   ·subst z;rw [aa_] at e;cases e;exact Ah_ _ hT
   ·rw [af_ z] at e;refine (I.hok b o' e).stay (fun c v hc r=>kp c v (fun y=>?_) r) (fun c r=>by rw [af_ (fun y=>by rw [y,hP] at r;cases r)];exact r) fun c xs r=>by rw [af_ (fun y=>by rw [y,hP] at r;cases r)];exact r
    rcases hc with rfl|hc
    ·exact z y
    ·rw [y,hP] at hc;cases hc
 ·obtain ⟨c0,o0,v0,t0,y1,y2,y3⟩:=cr;exact ⟨c0,o0,v0,t0,y1,Ah_ _ y2,y3⟩
structure Hz_ (X:Cx)(pins:List (Addr×Obj))(H:Hp)(b:Addr):Prop where
 hn:H b=none
 hL:b≠X.env.locals
 s0:X.s₀.heap.objs.size<=b
 cl:∀ x c,X.env.cells.lookup x=some c->c≠b
 pn:∀ p∈X.pn++pins,p.1≠b
 fs:b∉frs X.stack
 bs:X.base.get? b=none
theorem Inv.late {b:Addr}(I:Inv X pins σ H s)(h:s.heap.get? b=none)(hs:X.s₀.heap.objs.size<=b):Hz_ X pins H b:=by
 refine ⟨?_,fun z=>?_,hs,fun x c e z=>?_,fun p hp z=>?_,fun z=>?_,?_⟩
 ·cases e:H b with
  | none=>rfl
  | some u =>obtain ⟨o,g⟩:=Jp_ (I.hok b u e);rw [h] at g;cases g
 ·obtain ⟨m,⟨o,_,_,g,_⟩,_⟩:=I.loc;rw [<-z,h] at g;cases g
 ·obtain ⟨v,o,g,_⟩:=I.cell x c e;rw [z,h] at g;cases g
 ·have g:=(I.pin p hp).1;rw [z,h] at g;cases g
 ·obtain ⟨_,o,g,_⟩:=I.stack.mem z;rw [h] at g;cases g
 ·cases e:X.base.get? b with
  | none=>rfl
  | some u=>have g:=I.bk b u e;rw [h] at g;cases g
theorem Inv.turnL {t':Nat}{it:Addr}{h':Heap}{H':Hp}{m:Str->Option Value}(I:Inv X pins σ H s)(hm:s.heap.Ns X.env.locals m)(hm':h'.Ns X.env.locals m)(L:Hz_ X pins H it)(k:∀ b o,b≠it->b≠X.env.locals->s.heap.get? b=some o->h'.get? b=some o)(hH:∀ b,b≠it->H' b=H b)(hi:∀ u,H' it=some u->F2_ X.prog X.w H' h' it u):Inv X pins σ H' { s with heap:=h',toks:=t' }:=by
 have nit:∀ b u,H b=some u->b≠it:=fun b u e z=>by rw [z,L.hn] at e;cases e
 have nL:∀ b u,H b=some u->b≠X.env.locals:=fun b u e z=>by rw [z,I.free] at e;cases e
 have up:∀ b u,H b=some u->H' b=some u:=fun b u e=>by rw [hH b (nit b u e)];exact e
 refine I.step (g':=s.gens) (d':=s.drawn) (ch:=[it]) (fun b hb=>?_) (fun b o hb _ hc e _=>k b o (fun z=>hc (by simp [z])) hb e) (fun b o hb _ hc e _=>⟨o.slots,k b o (fun z=>hc (by simp [z])) hb e⟩) (fun b o hc _ n=>by rw [hH b (fun z=>hc (by simp [z]))];exact n)
  (fun b o hc e=>?_) (fun b _ e=>up b _ e) (fun b _ _ e=>up b _ e) (fun b ps e=>⟨#[],by rw [up b _ e];simp⟩) (fun m' hm2=>by rw [oi_ hm2 hm];exact hm') (fun b u e=>?_) I.bare
 ·have e:b=it:=by simpa using hb
  subst e;exact ⟨.inr L.s0,L.hL,L.cl,L.pn⟩
 ·by_cases z:b=X.env.locals
  ·subst z;obtain ⟨o',_,_,g,_⟩:=hm';exact ⟨o',g⟩
  ·exact ⟨o,k b o (fun y=>hc (by simp [y])) z e⟩
 ·by_cases z:b=it
  ·subst z;exact hi u e
  ·rw [hH b z] at e;refine (I.hok b u e).stay (fun c v hc q=>?_) (fun c q=>up c _ q) fun c xs q=>up c _ q
   rcases hc with rfl|hc
   ·exact k _ v z (nL _ _ e) q
   ·exact k c v (nit _ _ hc) (nL _ _ hc) q
def ldg (X:Cx)(h:Heap)(a:Addr):List (Addr×Obj):=(F8_ X.base h X.env.locals).filter fun p=>p.1 != a
theorem iI_ {h h2:Heap}{a:Addr}{o2:Obj}(h1:h2.get? a=some o2)(h3:a≠X.env.locals)(h4:X.base.get? a=none)(k:∀ b u,b≠a->b≠X.env.locals->h.get? b=some u->h2.get? b=some u):News X.base X.env.locals h2 ((a,o2)::ldg X h a):=fun p hp=>by
 rcases Ax_.mp hp with rfl|hp
 ·exact ⟨h1,h3,h4⟩
 ·obtain ⟨hp,ne⟩:=BB_.mp hp;obtain ⟨y1,y2,y3⟩:=eQ_ hp;exact ⟨k _ _ (by simpa using ne) y1 y3,y1,y2⟩
theorem iJ_ {h h2:Heap}{a:Addr}{o2:Obj}(F:∀ b u,X.base.get? b=some u->h.get? b=some u/\h2.get? b=some u)(N:News X.base X.env.locals h2 ((a,o2)::ldg X h a)):∀ b u,b≠a->b≠X.env.locals->h.get? b=some u->h2.get? b=some u:=fun b u h1 h3 h4=>by
 cases q:X.base.get? b with
 | some v =>
  have:=F b v q;rw [h4] at this;exact this.1 ▸ this.2
 | none=>exact (N (b,u) (Ar_ _ (BB_.mpr ⟨bF_ h3 q h4,by simpa using h1⟩))).1
theorem kn_ {h:Heap}{a:Addr}{o:Obj}:UpdF a o ((a,o)::ldg X h a) fun o'=>(a,o')::ldg X h a:=.head fun z hz w=>by have:=(BB_.mp hz).2;rw [w] at this;simp at this
theorem o4_ {f c' kS D:Addr}{nm qual:Str}{params:Arguments}{body:Expr}{scope:Scope}{pm ctv:Value}{x:Str}{e1 k:Nat}{m:Str->Option Value}{Fin:List Value->Nat->Shared->Prop}(hr:GK_ (k+3) X.A)(S:FF_ [x] [x] scope)
  (hb:∀ u:Value,bindArgs (kla_fn nm qual params body scope [] pm (.ref c') ctv) ⟨[u],[]⟩=pure [(x,u)]) (ht:∀ A outer s H,PE (Ir_ CX0 X.prog X.w X.K X.mg X.base [x] qual scope f (.ref c') A outer s H E0) body (tOp Iu_ (Je_ 0) (tC (.int 2))))
  (lf:Hz_ X pins H f) (lc:Hz_ X pins H c') (lk:Hz_ X pins H kS) (lD:Hz_ X pins H D) (kD:D≠kS) (kf:f≠kS) (kc:c'≠kS) :
  ∀ (ts Ws:List Addr)(ks:List Value)(e:Nat)(s:Shared),Ws.length=ts.length->(∀ (i:Nat) t W,ts[i]?=some t->Ws[i]?=some W->∃ a b,H t=some (.tup [a,b,.ref W]))->Inv X pins σ H s->s.heap.Ns X.env.locals m->s.heap.get? kS=some (seqObj "list" ks.toArray e)->s.heap.get? D=some (seqObj "list" #[] e1)->s.heap.get? f=some (kla_obj nm qual params body scope [] pm c' ctv)->s.heap.CodeRec (.ref c') qual ->
   (∀ e' s',Inv X pins σ H s'->s'.heap.Ns X.env.locals m->s'.heap.get? kS=some (seqObj "list" (ks++Ws.map Value.ref).toArray e')->s'.heap.get? D=some (seqObj "list" #[] e1)->Fin (ks++Ws.map Value.ref) e' s')->KatKeys X.prog X.w X.A.in1.in1 X.base X.env.locals m kS (.ref f) Fin (ts.map Value.ref) ks e s:=by
 intro ts
 induction ts with
 | nil =>
  intro Ws ks e s hl _ I hm hk hD _ _ q;obtain rfl:Ws=[]:=AY_ hl;rw [CR_,KatKeys.eq_1];have:=q e s I hm (by simpa using hk) hD;simpa using this
 | cons t ts ih =>
  intro Ws ks e s hl hT I hm hk hD hf hcd q
  obtain ⟨W,Ws,rfl⟩:∃ W Ws',Ws=W::Ws':=by
   cases Ws with
   | nil=>cases hl
   | cons W Ws=>exact ⟨W,Ws,rfl⟩
  rw [AG_,KatKeys.eq_2];obtain ⟨a,b,hHt⟩:=hT 0 t W rfl rfl;refine wpAny_call (D4_ (o3_ (vs:=[V.ref t]) (Q:=fun v H'=>v=.ref W/\H'=H) hf hcd S (hr.in1.in1:GK_ (k+1) _) I.env0.in1.in1 (hb _) (.cons rfl .nil) rfl (ht _ _ _ _) ?_) fun r s' hq=>?_)
  ·exact ⟨V.ref t,rfl,t,_,2,.ref W,rfl,rfl,hHt,H0_,rfl,rfl⟩
  ·cases r with
   | error e=>exact hq.elim
   | ok fl =>
    cases fl with
    | next=>exact hq.elim
    | brk=>exact hq.elim
    | cont=>exact hq.elim
    | ret u =>
     obtain ⟨v,H',os,bare,un,hok,rv,e1,e2⟩:=hq;subst e1;rw [e2] at un hok;obtain rfl:u=Value.ref W:=rv;obtain ⟨h',g,d,t',os'⟩:=s';obtain rfl:os'=s.os:=os;have I':=I.call (g':=g) (d':=d) (t':=t') (ch:=[]) un hok bare fun b z=>absurd z (by simp);have kp:∀ {b o},Hz_ X pins H b->s.heap.get? b=some o->h'.get? b=some o:=fun {b o} L z=>un.keep b o z L.hn L.fs (by simp);have hm':h'.Ns X.env.locals m:=by obtain ⟨o,es,ep,ho,r⟩:=hm;obtain ⟨sl,hL⟩:=un.any ho I.free (by simp);exact ⟨_,es,ep,hL,r⟩
     have ab:X.base.objs.size<=X.env.locals:=AM_ I.ok.bsz I.ok.above;refine ⟨(kS,seqObj "list" ks.toArray e)::ldg X h' kS,fun o'=>(kS,o')::ldg X h' kS,⟨hm',I'.bk,ab⟩,iI_ (kp lk hk) lk.hL lk.bs fun b u _ _ z=>z,kn_,fun h2 c F2 N2=>?_⟩;have k2:=iJ_ (fun b u z=>⟨I'.bk b u z,F2.keep b u z⟩) N2;refine ih Ws (ks++[.ref W]) c _ (by simpa using hl) (fun i t W h1 h2=>hT (i+1) t W h1 h2) (I'.turnL (t':=t') hm' F2.ns lk k2 (fun _ _=>rfl) fun u z=>by rw [lk.hn] at z;cases z) F2.ns (N2 _ At_).1 (k2 _ _ kD lD.hL (kp lD hD)) (k2 _ _ kf lf.hL (kp lf hf)) ?_ fun e' s' I2 hm2 hk2 hD2=>?_
     ·obtain ⟨c0,o0,v0,t0,y1,y2,y3⟩:=hcd;cases y1;exact ⟨c',o0,v0,t0,rfl,k2 _ _ kc lc.hL (kp lc y2),y3⟩
     ·rw [Bp_] at hk2 ⊢;exact q e' s' I2 hm2 hk2 hD2
end
end L2
namespace L2
open PySem PySem.Spec PyProof.Rows PySem.W
section
variable {prog:Program}{w:World}{A:Around}{E:Value->Shared->Prop}{s:Shared}{h₀:Heap}{L a kS l:Addr}{m:Str->Option Value}{f:Value}{vs:List Value}{e1:Nat}
theorem lF_ {P:PySem.Fin->Shared->Prop}(hk:s.heap.get? kS=some (seqObj "list" #[] 0)) (few:vs.length<2) (h:KatKeys prog w A h₀ L m kS f (fun ks e s'=>KatFin h₀ L m kS a ks e e1 vs (fun s4=>P (.done (.ret .none)) s4) s') vs [] 0 s) :
  wpAny (model prog w) A (ksk_rest a f false vs.toArray e1 (.ref kS)) P E s:=by
 have big:64<=sizeLine:=by rw [B8_];decide
 unfold ksk_rest;refine Ac_ (CH_ (Ac_ ?_));rw [List.forIn_toArray];refine Bi_ (kat_fold (n:=vs.length) (by lia) (fun x ks e s C hl h=>?_) vs [] 0 s (by simp) hk h) (fun _ s' ⟨ks,e,h1,h2,h3⟩=>?_) fun _ _ e=>e
 ·refine Ac_ (E9_ (Bi_ h (fun k s1 ⟨news,g,F1,N1,U,hC⟩=>?_) (fun _ _ x=>x.elim)));obtain ⟨pre,post,e0,hg,x1,x2⟩:=U.split;rw [e0] at N1;have now:=N1 (kS,seqObj "list" ks.toArray e) (AH_ _ (.head _));have b2:=Co_ s1.heap kS (Obj.mapSeq fun x=>x.push k);have ek:ks.toArray.push k=(ks++[k]).toArray:=by simp
  obtain ⟨c2,got2⟩:∃ c2,(s1.heap.update kS (Obj.mapSeq fun x=>x.push k)).get? kS=some (seqObj "list" (ks.toArray.push k) c2):=⟨_,Cg_ now.1 fun x=>x.push k⟩;rw [ek] at got2;refine Ac_ (Cq_ now.1 rfl (Ai_ ⟨rfl,k,c2,got2,hC _ c2 (kas_fr F1 b2 now.2.1 now.2.2) (by rw [hg];exact news_set N1 x1 x2 b2 got2)⟩) ?_ ?_)
  ·simp;lia
  ·simp;lia
 ·refine Ac_ (Dh_ h1 rfl ?_);unfold ksk_end
  dsimp only
  have lt2:vs.toArray.size<2:=by simpa using few
  rw [if_neg (by decide),if_pos lt2];refine Ac_ (Ai_ ?_);rw [if_pos lt2,if_neg (by decide)];refine Ac_ (Ai_ (a:=((),SortSt.mk' general' (ks.toArray.zip vs.toArray) #[] 7 none)) ?_);refine kat_tail (out:=vs) ?_ (by lia) (by lia) rfl h3;rw [show arrOf (SortSt.mk' general' (ks.toArray.zip vs.toArray) #[] 7 none)=ks.toArray.zip vs.toArray from rfl,List.zip_toArray,List.map_toArray,List.map_snd_zip (by lia)]
theorem iK_ {news:List (Addr×Obj)}{kw:List (Str×Value)}{Q:Value->Shared->Prop}(F0:Fr h₀ L s.heap m)(N0:News h₀ L s.heap news)(isl:s.heap.IsList l vs.toArray)(few:vs.length<2)(a1:argsOk "sorted" ⟨[.ref l],kw⟩) (a2:∀ x:Addr,argsOk "list.sort" ⟨[.ref x],kw⟩) (tr:∀ x:Addr,Builtin.«list.sort» ⟨[.ref x],kw⟩=ksk_tree x f false)
  (ask:∀ (D kS:Addr)(e1:Nat)(h':Heap),Fr h₀ L h' m->News h₀ L h' ((kS,seqObj "list" #[] 0)::(D,seqObj "list" #[] e1)::news)->D<kS->(∀ q∈news,q.1<D)->KatKeys prog w A.in1.in1 h₀ L m kS f (fun ks e s'=>KatFin h₀ L m kS D ks e e1 vs (fun s4=>Q (.ref D) s4) s') vs [] 0 { s with heap:=h' }) :
  wpAny (model prog w) A (call (.builtin "sorted") [.ref l] kw) Q E s:=by
 have big:64<=sizeLine:=by rw [B8_];decide
 refine EE_ Ft_ Fm_ Fn_ a1 ?_;unfold Builtin.«sorted»;refine Ac_ (m:=checkCount "sorted" 1 1 _) (Ai_ (Ac_ (Fo_ isl (Ac_ (CM_ ?_ (by lia))) (by lia))));have sz:((s.heap.push (seqObj "list" #[] 0)).update s.heap.objs.size (Obj.mapSeq (· ++ vs.toArray))).objs.size=s.heap.objs.size+1:=(Eb_ ..).trans (DV_ ..);obtain ⟨hx,ex⟩:∃ hx,hx=(s.heap.push (seqObj "list" #[] 0)).update s.heap.objs.size (Obj.mapSeq (· ++ vs.toArray)):=⟨_,rfl⟩;rw [<-ex] at sz;have got:(hx.push (seqObj "list" vs.toArray 0)).get? (s.heap.objs.size+1)=some (seqObj "list" vs.toArray 0):=by rw [<-sz];exact Av_ _ rfl
 have kp:∀ b o,s.heap.get? b=some o->(hx.push (seqObj "list" vs.toArray 0)).get? b=some o:=fun b o q=>by have hb:=Au_ q;rw [Ci_ _ _ _ (by rw [sz];exact AF_ (Bd_ hb)),ex,Ff_ _ _ _ _ (AF_ hb),Ci_ _ _ _ (AF_ hb)];exact q
 have hL:=F0.ns.lt;show wpAny _ _ _ _ _ { s with heap:=((s.heap.push (seqObj "list" #[] 0)).update s.heap.objs.size (Obj.mapSeq (· ++ vs.toArray))).push (seqObj "list" vs.toArray 0) };rw [<-ex,sz];refine Ac_ (A6_ (Fg_ ER_ ⟨_,got,rfl⟩ Ev_ ?body (a2 _)))
 case body =>
  show wpAny (model prog w) A.in1.in1 (Builtin.«list.sort» ⟨[.ref (s.heap.objs.size+1)],kw⟩) _ _ _;rw [tr];unfold ksk_tree;have aL:s.heap.objs.size+1≠L:=CB_ (Bd_ hL);have a0:h₀.get? (s.heap.objs.size+1)=none:=Cj_ (AM_ F0.above (Nat.le_succ_of_le (AJ_ hL)));have na:∀ q∈news,q.1<s.heap.objs.size+1:=fun q hq=>Bd_ (Au_ (N0 q hq).1);generalize hD:s.heap.objs.size+1=D at *;have b1:=Co_ (hx.push (seqObj "list" vs.toArray 0)) D (Obj.mapSeq fun _=>(#[]:Array Value));obtain ⟨c,got1⟩:∃ c,((hx.push (seqObj "list" vs.toArray 0)).update D (Obj.mapSeq fun _=>(#[]:Array Value))).get? D=some (seqObj "list" #[] c):=⟨_,Cg_ got fun _=>#[]⟩;have F1:=((kas_fr (F0.kept kp) b1 aL a0).push (seqObj "tuple" vs.toArray 0)).push (seqObj "list" #[] 0);have N1:=(kas_news (N0.grown kp) b1 fun q hq=>AF_ (na q hq));have lt1:=Au_ got1;refine Ac_ (Dh_ got rfl (Ac_ (Cq_ got rfl (Ac_ (Du_ got1 rfl (Ac_ (Dq_ (Ac_ (CM_ (A6_ ?_) (Ay_ _))) (by show vs.length<=_;lia))))) (by rw [As_];lia) (Ay_ _))));refine lF_ (h₀:=h₀) (L:=L) (m:=m) (Av_ _ rfl) few ?_;have hk:D<(((hx.push (seqObj "list" vs.toArray 0)).update D (Obj.mapSeq fun _=>(#[]:Array Value))).push (seqObj "tuple" vs.toArray 0)).objs.size:=by rw [DV_];exact Bd_ lt1
  have LD:L<D:=by rw [<-hD];exact Bd_ hL
  have N2:News h₀ L ((((hx.push (seqObj "list" vs.toArray 0)).update D (Obj.mapSeq fun _=>(#[]:Array Value))).push (seqObj "tuple" vs.toArray 0)).push (seqObj "list" #[] 0)) ((_,seqObj "list" #[] 0)::(D,seqObj "list" #[] c)::news):=fun q hq=>by
   rcases Ax_.mp hq with rfl|hq
   ·refine ⟨Av_ _ rfl,?_,?_⟩
    ·exact CB_ (D9_ LD hk)
    ·exact Cj_ (AM_ F0.above (AJ_ (D9_ LD hk)))
   rcases Ax_.mp hq with rfl|hq
   ·exact ⟨Ah_ _ (Ah_ _ got1),aL,a0⟩
   ·exact ⟨Ah_ _ (Ah_ _ (N1 q hq).1),(N1 q hq).2⟩
  refine kat_keys_mono (ask D _ c _ F1 N2 ?_ na) fun ks' e' s' _ hF=>?_
  ·exact hk
  ·obtain ⟨n2,g2,y1,y2,y3,y4⟩:=hF;exact ⟨n2,g2,y1,y2,y3,fun h2 c2 z1 z2=>(y4 h2 c2 z1 z2).mono fun s3 hq=>⟨_,rfl,Ai_ ⟨_,rfl,hq⟩⟩⟩
end
end L2
namespace L2
open PySem PySem.Spec PyProof.Rows PySem.W
def Jg_ (H:Hp)(ts:List Addr)(tss:List (List Str)):Prop:=∀ (i:Nat) t,ts[i]?=some t->∃ W,H t=some (.tup [.non,.non,.ref W])/\H W=some (.lst ((tss.getD i []).map V.str))
def IG_ (P:Addr)(ta:TA):TE:=fun σ H Q=>ta σ H fun vs H1=>∃ (p:Addr)(ts:List Addr)(tss:List (List Str)),vs=[.ref p]/\H1 P=some (.tbl #[])/\H1 p=some (.lst (ts.map V.ref))/\ts.length=tss.length/\ts.length<64/\Jg_ H1 ts tss /\
 ∀ (ps:Array Value)(D:Addr)(zs:List Addr)(uss:List (List Str)),H1 D=none->zs.length=uss.length->Jg_ H1 zs uss->uss.Perm tss->uss.Pairwise (fun x y=>Gx_ y x=false)->Q (.ref D) (upd (upd H1 P (.tbl ps)) D (.lst (zs.map V.ref)))
abbrev JZ_ (f:Addr):List (Str×Value):=[(Str.ofString "key",.ref f)]
theorem gp_ (x:Value)(f:Addr):argsOk "sorted" ⟨[x],JZ_ f⟩:=by unfold argsOk;kernel_rfl
theorem ia_ (x:Value)(f:Addr):argsOk "list.sort" ⟨[x],JZ_ f⟩:=by unfold argsOk;kernel_rfl
theorem Hz_.to {X:Cx}{pins:List (Addr×Obj)}{H H':Hp}{b:Addr}(L:Hz_ X pins H b)(h:H' b=none):Hz_ X pins H' b:=⟨h,L.hL,L.s0,L.cl,L.pn,L.fs,L.bs⟩
section
variable {X:Cx}{pins:List (Addr×Obj)}{σ:St}{H:Hp}{s:Shared}
theorem lG_ {f c' p:Addr}{nm qual:Str}{params:Arguments}{body:Expr}{scope:Scope}{pm ctv:Value}{x:Str}{k:Nat}{ts:List Addr}{tss:List (List Str)}{Q:VK}(I:Inv X pins σ H s)(hr:GK_ (k+3) X.A)(S:FF_ [x] [x] scope)
  (hb:∀ u:Value,bindArgs (kla_fn nm qual params body scope [] pm (.ref c') ctv) ⟨[u],[]⟩=pure [(x,u)]) (ht:∀ A outer s H,PE (Ir_ CX0 X.prog X.w X.K X.mg X.base [x] qual scope f (.ref c') A outer s H E0) body (tOp Iu_ (Je_ 0) (tC (.int 2))))
  (lf:Hz_ X pins H f) (lc:Hz_ X pins H c') (hf:s.heap.get? f=some (kla_obj nm qual params body scope [] pm c' ctv)) (hcd:s.heap.CodeRec (.ref c') qual) (hp:H p=some (.lst (ts.map V.ref))) (hl:ts.length=tss.length) (h64:ts.length<64) (tl:Jg_ H ts tss)
  (q:∀ (D:Addr)(zs:List Addr)(uss:List (List Str)),H D=none->zs.length=uss.length->Jg_ H zs uss->uss.Perm tss->uss.Pairwise (fun x y=>Gx_ y x=false)->Q (.ref D) (upd H D (.lst (zs.map V.ref)))) :
  wpAny (model X.prog X.w) X.A (call (.builtin "sorted") [.ref p] (JZ_ f)) (EP X pins σ Q) X.xe s:=by
 obtain ⟨its,rv,pl,_⟩:=I.list (.inl (.inl hp));have ei:=do_ rv;subst ei;obtain ⟨m,hn,F0⟩:=I.frm;have ab:=F0.above
 obtain ⟨Ws,wl,wh⟩:∃ Ws:List Addr,Ws.length=ts.length/\∀ (i:Nat) t W,ts[i]?=some t->Ws[i]?=some W->H t=some (.tup [.non,.non,.ref W])/\H W=some (.lst ((tss.getD i []).map V.str)):=by
  have ex:∀ i:Nat,∃ W:Addr,∀ t,ts[i]?=some t->H t=some (.tup [.non,.non,.ref W])/\H W=some (.lst ((tss.getD i []).map V.str)):=fun i=>by
   cases e:ts[i]? with
   | none=>exact ⟨p,fun t h=>by cases h⟩
   | some t =>obtain ⟨W,h⟩:=tl i t e;exact ⟨W,fun t' h'=>by cases h';exact h⟩
  refine ⟨(List.range ts.length).map fun i=>(ex i).choose,by simp,fun i t W h1 h2=>?_⟩;have hi:=(Ae_.mp h1).1;rw [Ag_,B2_ hi] at h2;cases h2;exact (ex i).choose_spec t h1
 have wh1:∀ (i:Nat) t W,ts[i]?=some t->Ws[i]?=some W->∃ a b,H t=some (.tup [a,b,.ref W]):=fun i t W h1 h2=>⟨_,_,(wh i t W h1 h2).1⟩;have la:JE_ H Ws tss:=fun i W h=>by have hi:=(Ae_.mp h).1;exact (wh i _ W (Aa_ (by lia)) h).2
 have slt:X.s₀.heap.objs.size<=f:=lf.s0
 have fin:∀ (D kS:Addr)(e1:Nat)(h':Heap)(Fin:List Value->Nat->Shared->Prop),Fr X.base X.env.locals h' m->News X.base X.env.locals h' ((kS,seqObj "list" #[] 0)::(D,seqObj "list" #[] e1)::F8_ X.base s.heap X.env.locals)->D<kS->(∀ q∈F8_ X.base s.heap X.env.locals,q.1<D) ->
   (∀ e' s',Hz_ X pins H kS->Hz_ X pins H D->D≠kS->Inv X pins σ H s'->s'.heap.Ns X.env.locals m->s'.heap.get? kS=some (seqObj "list" (Ws.map Value.ref).toArray e')->s'.heap.get? D=some (seqObj "list" #[] e1)->Fin (Ws.map Value.ref) e' s') ->
   KatKeys X.prog X.w X.A.in1.in1 X.base X.env.locals m kS (.ref f) Fin (ts.map Value.ref) [] 0 { s with heap:=h' }:=by
  intro D kS e1 h' Fin F1 N1 dk lt hF;have NK:=N1 (kS,_) At_;have ND:=N1 (D,_) (Ar_ _ At_);have N1':News X.base X.env.locals h' (F8_ X.base s.heap X.env.locals):=fun z hz=>N1 z (Ar_ _ (Ar_ _ hz));have kp:=I.keeps F1 N1';have I1:Inv X pins σ H { s with heap:=h',toks:=s.toks }:=I.led hn F1 N1' (fun _ _ _ n=>n) (fun _ _ w=>w) (fun b o w n=>by rw [w] at n;cases n)
  have no:∀ {b:Addr},D<=b->b≠X.env.locals->X.base.get? b=none->s.heap.get? b=none:=fun {b} h1 h2 h3=>by
   cases e:s.heap.get? b with
   | none=>rfl
   | some o=>exact absurd (BG_ h1 (lt _ (bF_ h2 h3 e))) (Bb_ _)
  have fD:f<D:=lt _ (bF_ lf.hL lf.bs hf);have sD:=AM_ lf.s0 (AJ_ fD);have lD:=I.late (no (Aj_ _) ND.2.1 ND.2.2) sD;have nk:=no (AJ_ dk) NK.2.1 NK.2.2;have lk:=I.late nk (AM_ sD (AJ_ dk));obtain ⟨c0,o0,v0,t0,y1,y2,y3⟩:=hcd;cases y1;refine o4_ hr S hb ht lf lc lk lD (AF_ dk) (fun z=>by rw [<-z,hf] at nk;cases nk) (fun z=>by rw [<-z,y2] at nk;cases nk) ts Ws [] 0 _ wl wh1 I1 F1.ns NK.1 ND.1 (kp _ _ lf.hL hf) ⟨c',o0,v0,t0,rfl,kp _ _ lc.hL y2,y3⟩ fun e' s' I2 hm hk hD=>?_;exact hF e' s' lk lD (AF_ dk) I2 hm hk hD
 have out:∀ (D kS:Addr)(e1 e':Nat)(s':Shared)(is:List Nat),Hz_ X pins H kS->Hz_ X pins H D->D≠kS->Inv X pins σ H s'->s'.heap.Ns X.env.locals m->s'.heap.get? kS=some (seqObj "list" (Ws.map Value.ref).toArray e')->s'.heap.get? D=some (seqObj "list" #[] e1)->is.Perm (List.range ts.length)->is.Pairwise (fun i j=>Gx_ (tss.getD j []) (tss.getD i [])=false) ->
   KatFin X.base X.env.locals m kS D (Ws.map Value.ref) e' e1 (is.map fun i=>(ts.map Value.ref).getD i Value.none) (fun s4=>EP X pins σ Q (.ref D) s4) s':=by
  intro D kS e1 e' s' is lk lD ne I' hm hk hD pm srt;refine ⟨(kS,_)::ldg X s'.heap kS,_,⟨hm,I'.bk,ab⟩,iI_ hk lk.hL lk.bs fun b u _ _ z=>z,kn_,fun h2 c F2 N2=>?_⟩;have k2:=iJ_ (fun b u z=>⟨I'.bk b u z,F2.keep b u z⟩) N2;have I2:=I'.turnL (t':=s'.toks) (H':=H) hm F2.ns lk k2 (fun _ _=>rfl) fun u z=>by rw [lk.hn] at z;cases z
  refine Fl_ F2 (iI_ (X:=X) (h:=h2) (k2 _ _ ne lD.hL hD) lD.hL lD.bs fun b u _ _ z=>z) kn_ fun h3 c3 F3 N3=>?_;have k3:=iJ_ (fun b u z=>⟨I2.bk b u z,F3.keep b u z⟩) N3;have il:∀ i∈is,i<ts.length:=fun i hi=>AX_.mp (pm.mem_iff.mp hi);have at_:∀ {i:Nat},i<ts.length->ts[i]?=some (ts.getD i p):=fun {i} hi=>by rw [Ad_,Aa_ hi];rfl
  have eq:(is.map fun i=>(ts.map V.ref).getD i .non)=(is.map fun i=>ts.getD i p).map V.ref:=by rw [Bf_];refine Bw_ fun i hi=>?_;show (ts.map V.ref).getD i .non=V.ref (ts.getD i p);rw [Ad_,Ag_,at_ (il i hi)];rfl
  have vp:=hp_ rv is;rw [eq] at vp;have isl:is.length=ts.length:=by rw [pm.length_eq,Bl_]
  refine ⟨.ref D,upd H D (.lst ((is.map fun i=>ts.getD i p).map V.ref)),I2.turnL (t':=s'.toks) F2.ns F3.ns lD k3 (fun b hb=>af_ hb) (fun u z=>?_),rfl,q D _ (is.map fun i=>tss.getD i []) lD.hn (by rw [Ab_,Ab_]) (fun i t h=>?_) (h9_ [] hl.symm pm) (Bq_.mpr srt)⟩
  ·rw [aa_] at z;cases z;exact ⟨AJ_ (Fw_ (by rw [Ab_,Ab_];lia)),_,c3,vp,(N3 _ At_).1⟩
  ·rw [Ag_] at h;obtain ⟨j,hj,rfl⟩:=AT_.mp h;have e:(is.map fun i=>tss.getD i []).getD i []=tss.getD j []:=by rw [Ad_,Ag_,hj];rfl
   rw [e];exact tl j _ (at_ (il j (Am_ hj)))
 by_cases two:ts.length<2
 ·refine iK_ F0 eD_ pl.isList (by rw [Ab_];exact two) (gp_ _ _) (fun x=>ia_ _ _) (fun x=>rfl) fun D kS e1 h' F1 N1 dk lt=>fin D kS e1 h' _ F1 N1 dk lt fun e' s' lk lD ne I' hm hk hD=>?_;have:=out D kS e1 e' s' (List.range ts.length) lk lD ne I' hm hk hD (.refl _) (by rw [Bv_];intro i j h1 h2 h3;rw [Bl_] at h2;lia)
  rwa [show ((List.range ts.length).map fun i=>(ts.map Value.ref).getD i Value.none)=ts.map Value.ref from by
   apply CG_
   ·simp
   ·intro i h1 h2;simp only [Ab_] at h2;simp [h2]] at this
 ·refine kat_sortedK (b:=false) F0 eD_ pl.isList (by rw [Ab_];lia) (by rw [Ab_];lia) (gp_ _ _) (fun x=>ia_ _ _) (fun x=>rfl) fun D kS e1 h' F1 N1 dk lt=>fin D kS e1 h' _ F1 N1 dk lt fun e' s' lk lD ne I' hm hk hD=>?_;obtain ⟨pm,hrn,hpm,hso⟩:=kk_ (lexO tss ts.length) (by lia);have J:=I'.lists la;have wat:∀ {i:Nat},i<ts.length->Ws[i]?=some (Ws.getD i p):=fun {i} hi=>by rw [Ad_,Aa_ (by lia)];rfl
  refine kas_kind (T:=.type "list") (by rw [Ab_];lia) (fun v hv=>?_) (by decide) (by decide) ?_
  ·obtain ⟨b,hb,rfl⟩:=Ap_.mp hv;obtain ⟨i,hi⟩:=AS_.mp hb;obtain ⟨its,⟨o,ho,hc,_⟩,_⟩:=J i b hi;exact hc ▸ (Looks.ld ho).andThen .now
  ·rw [Ab_];refine k5_ (lt:=fun i j=>Gx_ (tss.getD i []) (tss.getD j [])) (n:=ts.length) (fun i j C hi hj hC=>?_) _ hrn (out D kS e1 e' s' pm.toList lk lD ne I' hm hk hD (by simpa using A7_.mp hpm) (So.list hpm hso));have g:∀ {i:Nat},i<ts.length->(Ws.map Value.ref).getD i Value.none=.ref (Ws.getD i p):=fun {i} hi=>by rw [Ad_,Ag_,wat hi];rfl
   show wpAny _ _ (keyLt' oneType' ((Ws.map Value.ref).getD i Value.none) ((Ws.map Value.ref).getD j Value.none)) _ _ _;rw [g hi,g hj,keyLt'_oneType];obtain ⟨i1,z1,z2⟩:=J i _ (wat hi);obtain ⟨i2,z3,z4⟩:=J j _ (wat hj);exact go_ _ z1 z3 z2 z4 (by rw [AV_,AV_];have:=hr.un;lia) hC
end
theorem nR_ {X:Cx}{a:Expr}{ta:TA}{p pos lpos kpos:Pos}{params:Arguments}{body:Expr}{scope:Scope}{x:Str}{k:Nat}{P c:Addr}(hr:GK_ (k+3) X.A)(hg:Gl X "sorted") (hm:X.mg "sorted" = none) (ha:PA X [a] ta) (hc:X.env.code=.ref c) (L:Lam X.mg X.base c P) (hcl:closureFor scope X.env=pure []) (hdf:defaultsOf params X.env=([],[])) (S:FF_ [x] [x] scope)
  (hb:∀ (nm qual:Str)(pm ctv:Value)(c':Addr)(u:Value),bindArgs (kla_fn nm qual params body scope [] pm (.ref c') ctv) ⟨[u],[]⟩=pure [(x,u)]) (ht:∀ qual f c' A outer s H,PE (Ir_ CX0 X.prog X.w X.K X.mg X.base [x] qual scope f (.ref c') A outer s H E0) body (tOp Iu_ (Je_ 0) (tC (.int 2)))) (hs:FJ_ [a]=true:=by rfl) :
  PE X (.Call (.Name "sorted" p) [a] [⟨some "key",.Lambda params body scope lpos,kpos⟩] pos) (IG_ P ta):=by
 have h':Go_ a=true:=by simpa [FJ_] using hs
 intro pins s σ H Q I h;refine BP_ (d5_ I hg hm fw_ ?_ (by decide) (by decide));refine callWith_kw (thn (ha pos pins s σ H _ I h) fun us s1 ⟨vs,H1,I1,r1,q1⟩=>?_) (by rw [an_ h'];rfl) (by rw [an_ h'];rfl) rfl rfl;obtain ⟨p,ts,tss,rfl,hP,hp,hl,h64,tl,q⟩:=q1;obtain ⟨u,rfl,e⟩:=GF_ r1;cases e;refine kws_cons (pV_ I1 hP hc L hcl hdf fun f c' pm ctv ps h2 tk I2 hf nf sf fL hcd cL nc sc=>kws_nil ?_);have bk:∀ {b:Addr}{o:HO},o≠.tbl #[]->H1 b=some o->upd H1 P (.tbl ps) b=some o:=fun {b o} ne e=>by rw [af_ (fun z=>by rw [z,hP] at e;exact ne (Aw_ e).symm)];exact e
 have t2:∀ {zs:List Addr}{uss:List (List Str)},Jg_ H1 zs uss->Jg_ (upd H1 P (.tbl ps)) zs uss:=fun h i t hi=>let ⟨W,y1,y2⟩:=h i t hi;⟨W,bk (by simp) y1,bk (by simp) y2⟩
 have t1:∀ {zs:List Addr}{uss:List (List Str)},Jg_ (upd H1 P (.tbl ps)) zs uss->Jg_ H1 zs uss:=fun h i t hi=>by
  obtain ⟨W,y1,y2⟩:=h i t hi;have ne:∀ {b:Addr}{o:HO},upd H1 P (.tbl ps) b=some o->(∀ z,o≠.tbl z)->b≠P:=fun e n z=>by rw [z,aa_] at e;exact n _ (Aw_ e).symm
  rw [af_ (ne y1 (by simp))] at y1;rw [af_ (ne y2 (by simp))] at y2;exact ⟨W,y1,y2⟩
 have late:∀ {b:Addr},s1.heap.objs.size<=b->upd H1 P (.tbl ps) b=none->Hz_ X pins (upd H1 P (.tbl ps)) b:=fun {b} hb hn=>(I1.late (Cj_ hb) (AM_ (AM_ I1.ok.above (AJ_ (by obtain ⟨m,hn,_⟩:=I1.loc;exact hn.lt))) hb)).to hn
 exact lG_ I2 hr S (hb _ _ _ _ _) (ht _ _ _) (late sf nf) (late sc nc) hf hcd (bk (by simp) hp) hl h64 (t2 tl) fun D zs uss hD z1 z2 z3 z4=>q ps D zs uss (by
  have:D≠P:=fun z=>by rw [z,aa_] at hD;cases hD
  rwa [af_ this] at hD) z1 (t1 z2) z3 z4
end L2
namespace L2
open PySem PySem.Spec PyProof.Rows PySem.W
def FnC (K:PySem.W.Frag)(mg:Str->Option Value)(x:Str)(st:Stmt)(c:Addr):Prop:=∃ f fd,Fun K x x st f fd/\mg x=some (.ref f)/\fd.code=.ref c
theorem o5_ {P:Program}{w:World}{K:PySem.W.Frag}{mg:Str->Option Value}{base:Heap}{x:Str}{st:Stmt}{N ps:List Str}{k:Nat}{sp:Sp}{c:Addr}(F:FnC K mg x st c)(S:FF_ N ps (Fy_ st))
  (hb:∀ (kV doc pm:Value)(an:Option Addr)(cdv ct:Value)(us:List Value),us.length=ps.length->bindArgs (PySem.W.fnOf x x (GD_ st) (Gr_ st) (Fy_ st) .none kV doc pm an cdv ct) ⟨us,[]⟩=pure (ps.zip us))
  (len:∀ vs H Q E,sp vs H Q E->vs.length=ps.length)
  (hbody:∀ (f:Addr)(A:Around)(outer:List Env)(s:Shared)(H:Hp)(vs:List V)(Q:VK)(E:XK),GK_ k (A.deeper (envOfC x (Fy_ st) s.heap.objs.size f (.ref c)))->sp vs H Q E ->
   ∃ t,PSs (Ir_ CX0 P w K mg base N x (Fy_ st) f (.ref c) A outer s H E).nox (Gr_ st) t/\t { nx:=fun _ H'=>Q .non H',rt:=Q } (start N vs) H):Cal P w K mg base x ps (k+1) sp:=by
 obtain ⟨f,fd,F,m,hc⟩:=F;refine ⟨f,fd,m,F.kp,F.binds hb,?_⟩;obtain ⟨oc,od,kV,doc,pm,an,cdv,ct,osl,rfl,lk,hcd⟩:=F.ex;obtain rfl:cdv=.ref c:=hc;refine KE_ lk hcd S len fun A outer s H vs Q E hr hsp=>?_;obtain ⟨t,h,q⟩:=hbody f A outer s H vs Q E hr hsp;exact ⟨t,h.nox,q⟩
theorem pW_ {K:PySem.W.Frag}{mg:Str->Option Value}{h:Heap}(X:K.In h)(G:h.Ns mainGlobals mg){x:Str}{st:Stmt}{f c:Addr}{oc:Value}{od an:Option Addr}{osl:Array (Option Value)}{kV doc pm ct:Value}
  (a:PySem.W.nsIn K mainGlobals x=some (some (.ref f))) (l:K.lookup f=some ⟨oc,od,.func (PySem.W.fnOf x x (GD_ st) (Gr_ st) (Fy_ st) .none kV doc pm an (.ref c) ct),osl⟩) (cc:PySem.W.codeIn K (.ref c) x=true) (k:PySem.W.keepIn K (.ref f)=true):FnC K mg x st c :=
 ⟨f,_,of_ l cc k,PySem.W.mg_of X G a,rfl⟩
def K3_ (P:Addr)(H:Hp):Prop:=H P=some (.tbl #[])/\∀ b,b≠P->H b=none\/∃ o xs,H b=some (.frz o (.lst xs))
theorem mR_ {P:Program}{w:World}{K:PySem.W.Frag}{mg mb:Str->Option Value}{k:Nat}{fa a c Pt:Addr}{fd:FuncData}{x:Str}{sp:Sp}{s₁:Shared}{vs:List Value}{ns:List Int}
  (KX:K.In s₁.heap) (hns:s₁.heap.Ns mainGlobals mg) (hb:s₁.heap.Ns builtinsNs mb) (hbb:∀ x:Str,x ≠ "__name__" -> mb x=bootBuiltins x) (hlim:s₁.heap.NoLimit) (hg:s₁.gens = #[])
  (bm:∃ bm ob,mg (Str.ofString "__builtins__")=some (Value.ref bm)/\bm≠builtinsNs/\s₁.heap.get? bm=some ob/\ob.cls=Value.type "module" /\ ob.dict=some builtinsNs/\ob.data=Data.plain)
  (hPt:s₁.heap.get? Pt=some (tabObj #[])) (hKP:K.lookup Pt=none) (hcd:∀ base:Heap,K.In base->CodeHd base c Pt)
  (ha:s₁.heap.get? a=some { cls:=.type "list",data:=.seq vs.toArray }) (hi:IntsAre vs ns) (hl:ns.length<=sizeLine) (hr:GK_ k callerA)
  (F:∀ base:Heap,K.In base->base.Ns mainGlobals mg->Lam mg base c Pt->HK_ P w K mg base CX0 k fa fd [x] sp) (hbind:∀ (s:Shared)(u:Value),BindsTo s fd ⟨[u],[]⟩ [(x,u)])
  (hsp:∀ H:Hp,H Pt=some (.tbl #[])->SqL K H a (ns.map V.int)->sp [.ref a] H (fun v _=>v=.bl true) fun _ _ _=>False) :
  codeAny (model P w) callerA (.call (.ref fa) ⟨[.ref a],[]⟩) (fun r s'=>r=.ok (.ret (.bool true))/\OldK s₁.heap s'.heap/\s'.os=s₁.os/\AllBare s'.gens) s₁:=by
 have rv:=ji_ hi;have lenV:=hi.length;have aP:a≠Pt:=fun e=>by rw [e,hPt] at ha;cases ha
 have core:∀ H:Hp,K3_ Pt H->SqL K H a (ns.map V.int)->HOk P w H s₁.heap->(∀ b,H b≠none->b=a\/b=Pt)->(H a≠none->K.lookup a=none) ->
   codeAny (model P w) callerA (.call (.ref fa) ⟨[.ref a],[]⟩) (fun r s'=>r=.ok (.ret (.bool true))/\OldK s₁.heap s'.heap/\s'.os=s₁.os/\AllBare s'.gens) s₁:=by
  intro H hO hS hok hA hK;have base_of:∀ {b:Addr}{o:Obj},s₁.heap.get? b=some o->H b=none->(Jf_ s₁.heap H).get? b=some o:=fun e n=>nn_ e n
  have noA:∀ {b:Addr}{o:Obj},s₁.heap.get? b=some o->(∀ v n,o.data≠.seq v n)->(∀ v,o.data≠.fields v)->H b=none:=fun {b o} e d1 d2=>by
   cases q:H b with
   | none=>rfl
   | some u =>
    rcases hA b (by rw [q];simp) with e'|e'
    ·subst e';rw [ha] at e;cases e;exact absurd rfl (d1 _ _)
    ·subst e';rw [hPt] at e;cases e;exact absurd rfl (d2 _)
  have nsK:∀ {b:Addr}{m:Str->Option Value},s₁.heap.Ns b m->(Jf_ s₁.heap H).Ns b m:=fun {b m} ⟨o,es,ep,e,d,r⟩=>⟨o,es,ep,base_of e (noA e (fun v n z=>by rw [d] at z;cases z) fun v z=>by rw [d] at z;cases z),d,r⟩
  have hKb:K.In (Jf_ s₁.heap H):=fun b o e=>base_of (KX b o e) (by
   cases q:H b with
   | none=>rfl
   | some u =>
    rcases hA b (by rw [q];simp) with e'|e'
    ·subst e';rw [hK (by rw [q];simp)] at e;cases e
    ·subst e';rw [hKP] at e;cases e)
  have hM:Mod K mg (Jf_ s₁.heap H):=⟨hKb,nsK hns,⟨mb,nsK hb,hbb⟩,let ⟨mc,h1,h2⟩:=hlim;⟨mc,nsK h1,h2⟩⟩;have e0:Jh_ P w K mg (Jf_ s₁.heap H) callerA [] s₁ H:=⟨rfl,hM,fun b o e=>oE_ e,Nat.le_of_eq (l5_ _ _),trivial,fun b hb=>absurd (show b∈([]:List Addr) from hb) (by simp),hok,.of_eq hg⟩
  have lam:Lam mg (Jf_ s₁.heap H) c Pt:=by
   obtain ⟨bm,ob,h1,h2,h3,h4,h5,h6⟩:=bm;refine ⟨hcd _ hKb,bm,ob,h1,h2,fun z=>?_,fun z=>?_,base_of h3 (noA h3 (fun v n z=>by rw [h6] at z;cases z) fun v z=>by rw [h6] at z;cases z),h4,h5,h6⟩
   ·obtain ⟨og,es,ep,g1,g2,_⟩:=hns;rw [z,g1] at h3;cases h3;rw [g2] at h6;cases h6
   ·rw [z,hPt] at h3;cases h3;cases h6
  refine D4_ ((F _ hKb (nsK hns) lam).run callerA [] s₁ H ⟨[.ref a],[]⟩ [.ref a] [.ref a] _ _ hr e0 (hbind s₁ (.ref a)) (.cons rfl .nil) (hsp H hO.1 hS)) fun r s' h=>?_;cases r with
  | error e=>exact False.elim h
  | ok fl =>
   cases fl with
   | next=>exact False.elim h
   | brk=>exact False.elim h
   | cont=>exact False.elim h
   | ret u =>
    obtain ⟨v,H',os,bare,un,hok',r',q⟩:=h;have q':v=.bl true:=q;subst q';obtain rfl:u=Value.bool true:=r'
    have old:∀ b o,s₁.heap.get? b=some o->b≠Pt->s'.heap.get? b=some o:=fun b o e bP=>by
     cases q:H b with
     | none=>exact un.keep b o e q (by intro z;exact absurd (show b∈([]:List Addr) from z) (by simp)) (by simp)
     | some u =>
      rcases hO.2 b bP with z|⟨ob,xs,z⟩
      ·rw [q] at z;cases z
      ·have z2:=un.frzs b ob _ z;obtain ⟨e1,_⟩:=hok b _ z;obtain ⟨e2,_⟩:=hok' b _ z2;rw [e] at e1;cases e1;exact e2
    obtain ⟨more,hmo⟩:=un.tbls Pt _ hO.1;have hP2:s'.heap.get? Pt=some { cls:=.none,data:=.fields (#[]++more) }:=hok' Pt _ hmo;refine ⟨rfl,⟨fun b o e=>?_,fun b o e=>?_⟩,os,bare⟩
    ·by_cases bP:b=Pt
     ·subst bP;rw [hPt] at e;cases e;refine .inr (.inl ⟨?_,rfl,#[],more,rfl,hP2⟩);obtain ⟨o,vs,_,_,_,_,_,_,_,g1,g2,g3,g4,_⟩:=hcd _ KX;exact ⟨c,o,vs,g1,g2,g3,g4⟩
     ·exact .inl (old b o e bP)
    ·by_cases bP:b=Pt
     ·exact ⟨_,bP ▸ hP2⟩
     ·exact ⟨o,old b o e bP⟩
 cases hk:K.lookup a with
 | some o =>
  have e:=KX a o hk;rw [ha] at e;cases e;refine core (fun b=>if b=Pt then some (.tbl #[]) else none) ⟨if_pos rfl,fun b h=>.inl (if_neg h)⟩ (.inr ⟨_,vs.toArray,_,hk,rfl,rfl,rfl,by rw [As_,lenV];exact hl,by simpa using rv⟩) (fun b u z=>?_) (fun b z=>?_) fun z=>absurd (if_neg aP) z
  ·by_cases h:b=Pt
   ·have z':=(if_pos h).symm.trans z;cases z';subst h;exact hPt
   ·have z':=(if_neg h).symm.trans z;cases z'
  ·by_cases h:b=Pt
   ·exact .inr h
   ·exact absurd (if_neg h) z
 | none =>
  refine core (fun b=>if b=Pt then some (.tbl #[]) else if b=a then some (.frz { cls:=.type "list",data:=.seq vs.toArray } (.lst (ns.map V.int))) else none) ⟨if_pos rfl,fun b h=>?_⟩ (.inl (.inr ⟨{ cls:=.type "list",data:=.seq vs.toArray },(if_neg aP).trans (if_pos rfl)⟩)) (fun b u z=>?_) (fun b z=>?_) fun _=>hk
  ·by_cases hb:b=a
   ·exact .inr ⟨_,_,(if_neg h).trans (if_pos hb)⟩
   ·exact .inl ((if_neg h).trans (if_neg hb))
  ·by_cases h:b=Pt
   ·have z':=(if_pos h).symm.trans z;cases z';subst h;exact hPt
   ·by_cases hb:b=a
    ·have z':=((if_neg h).trans (if_pos hb)).symm.trans z;cases z';subst hb;exact ⟨ha,by rw [Ab_];exact hl,vs,_,rv,ha⟩
    ·have z':=((if_neg h).trans (if_neg hb)).symm.trans z;cases z'
  ·by_cases h:b=Pt
   ·exact .inr h
   ·by_cases hb:b=a
    ·exact .inl hb
    ·exact absurd ((if_neg h).trans (if_neg hb)) z
theorem nS_ {l:PySem.W.OpenLaw}{n k:Nat}{q:Program}{loose:List Str}{XP:(Str->Option Value)->Heap->Prop}{YP:World->Heap->Prop}{d:DefRec}{K:Params->PySem.W.Frag}{sp:World->Sp}{x:Str}{c Pt:Addr}
  (hn:l.most=some n) (hn2:n<=sizeLine) (hdf:d.params.defaults=[]) (hr:GK_ k callerA)
  (hY:∀ (w:World)(h:Heap),YP w h->(K w.params).In h/\h.get? Pt=some (tabObj #[])) (hKP:∀ p,(K p).lookup Pt=none) (hcd:∀ (p:Params)(base:Heap),(K p).In base->CodeHd base c Pt)
  (F:∀ (w:World)(mg:Str->Option Value)(fa:Addr)(h:Heap),(K w.params).In h->h.Ns mainGlobals mg->mg d.name=some (.ref fa) ->
   ∃ fd:FuncData,(∀ (s:Shared)(u:Value),BindsTo s fd ⟨[u],[]⟩ [(x,u)]) /\
    ∀ base:Heap,(K w.params).In base->base.Ns mainGlobals mg->Lam mg base c Pt->HK_ l.prog w (K w.params) mg base CX0 k fa fd [x] (sp w))
  (hsp:∀ (w:World)(H:Hp)(a:Addr)(ns:List Int),ns.length<=n->H Pt=some (.tbl #[])->SqL (K w.params) H a (ns.map V.int)->sp w [.ref a] H (fun v _=>v=.bl true) fun _ _ _=>False) :
  PySem.W.WalkO q loose XP YP l.row.toRowW d [] (fun f vs=>PySem.call f vs):=by
 refine Att.attach_call hn hdf fun w s₀ s₁ mg mb fa o pm cd doc a vs ns G Y ho hd hcd' hmg hobj hints hlen hg=>?_;obtain ⟨KX,hPt⟩:=hY w _ Y;obtain ⟨fd,hb,hF⟩:=F w mg fa _ KX G.T.g hmg;exact mR_ KX G.T.g G.T.b G.T.builtins G.T.nolimit hg G.T.bmain hPt (hKP _) (hcd _) hobj hints (AM_ hlen hn2) hr hF hb (fun H hO hS=>hsp w H a ns hlen hO hS)
end L2
namespace L2
open PySem PySem.Spec PyProof.Rows
theorem o6_ {K:PySem.W.Frag}{a:Addr}{xs:List V}{g:TG}{tb:TS}{nx bk ct:St->Hp->Prop}{rt:VK}{σ:St}{H:Hp}(Pv:Nat->St->Hp->Prop)(h0:Pv 0 σ H)(hl:∀ i σ H,i<=xs.length->Pv i σ H->SqT K H a xs)
  (hs:∀ (i:Nat) x σ H,xs[i]?=some x->∀ (kk kb:St->Hp->Prop),(∀ σ' H',Pv (i+1) σ' H'->kk σ' H')->(∀ σ' H',nx σ' H'->kb σ' H')->∀ G:Prop,((g x σ H fun σ2 H2=>tb ⟨kk,rt,kb,kk⟩ σ2 H2)->G)->Pv i σ H->G) (hd:∀ σ H,Pv xs.length σ H->nx σ H):G6_ (Itt K a) g tb ⟨nx,rt,bk,ct⟩ σ H:=by
 refine ⟨fun i m σ H=>m=xs.length-i/\i<=xs.length/\Pv i σ H,⟨xs.length,by simp,Ay_ _,h0⟩,?_⟩;rintro i m σ H ⟨rfl,hi,p⟩;have q:=hl i σ H hi p;by_cases hlt:i<xs.length
 ·refine .inr ⟨⟨xs,xs[i],q,by simp [hlt]⟩,Pv (i+1),fun σ' H' p'=>⟨xs.length-(i+1),by lia,rfl,hlt,p'⟩,fun x H' y=>?_⟩;obtain ⟨rfl,hy⟩:=y;exact hs i x σ H' (hy xs q) _ _ (fun _ _ q=>q) (fun _ _ q=>q) _ id p
 ·have e:i=xs.length:=by lia
  subst e;exact .inl ⟨⟨xs,q,Aj_ _⟩,hd σ H p⟩
end L2
namespace RimM
structure Is (p:Int×Int)(t b:Int):Prop where
 low:Low p
 ne:b≠0
 eq:p.1*b=t*p.2
theorem I3_ {t b:Int}(h:b≠0):Is (nf t b) t b:=⟨(lb_ h).1,h,(lb_ h).2.symm⟩
theorem Is.to {p:Int×Int}{t b:Int}(h:Is p t b):p=nf t b:=by have:=h.low.pos;rw [<-mP_ h.low];exact Kk_ (by lia) h.ne h.eq
theorem Is.conv {p:Int×Int}{t b t' b':Int}(h:Is p t b)(hb:b'≠0)(e:t*b'=t'*b):Is p t' b':=by rw [h.to,Kk_ h.ne hb e];exact I3_ hb
theorem Is.mul {p q:Int×Int}{t b t' b':Int}(h:Is p t b)(h':Is q t' b'):Is (nf (p.1*q.1) (p.2*q.2)) (t*t') (b*b'):=by
 have p0:=h.low.pos;have q0:=h'.low.pos;refine (I3_ (Ch_ (by lia) (by lia))).conv (Ch_ h.ne h'.ne) ?_
 calc p.1*q.1*(b*b')=(p.1*b)*(q.1*b'):=by ac_rfl
  _=(t*p.2)*(t'*q.2):=by rw [h.eq,h'.eq]
  _=t*t'*(p.2*q.2):=by ac_rfl
theorem Is.add {p q:Int×Int}{t b t' b':Int}(h:Is p t b)(h':Is q t' b'):Is (nf (p.1*q.2+q.1*p.2) (p.2*q.2)) (t*b'+t'*b) (b*b'):=by
 have p0:=h.low.pos;have q0:=h'.low.pos;refine (I3_ (Ch_ (by lia) (by lia))).conv (Ch_ h.ne h'.ne) ?_
 calc (p.1*q.2+q.1*p.2)*(b*b')=(p.1*b)*(q.2*b')+(q.1*b')*(p.2*b):=by rw [Int.add_mul];congr 1 <;> ac_rfl
  _=(t*p.2)*(q.2*b')+(t'*q.2)*(p.2*b):=by rw [h.eq,h'.eq]
  _=(t*b'+t'*b)*(p.2*q.2):=by rw [Int.add_mul];congr 1 <;> ac_rfl
theorem Is.sub {p q:Int×Int}{t b t' b':Int}(h:Is p t b)(h':Is q t' b'):Is (nf (p.1*q.2-q.1*p.2) (p.2*q.2)) (t*b'-t'*b) (b*b'):=by
 have p0:=h.low.pos;have q0:=h'.low.pos;refine (I3_ (Ch_ (by lia) (by lia))).conv (Ch_ h.ne h'.ne) ?_
 calc (p.1*q.2-q.1*p.2)*(b*b')=(p.1*b)*(q.2*b')-(q.1*b')*(p.2*b):=by rw [Int.sub_mul];congr 1 <;> ac_rfl
  _=(t*p.2)*(q.2*b')-(t'*q.2)*(p.2*b):=by rw [h.eq,h'.eq]
  _=(t*b'-t'*b)*(p.2*q.2):=by rw [Int.sub_mul];congr 1 <;> ac_rfl
theorem Low.neg {p:Int×Int}(h:Low p):Low (-p.1,p.2):=⟨h.pos,by show Int.gcd (-p.1) p.2=1;rw [Fu_];exact h.co⟩
theorem Is.neg {p:Int×Int}{t b:Int}(h:Is p t b):Is (-p.1,p.2) (-t) b:=⟨h.low.neg,h.ne,by show -p.1*b = -t*p.2;rw [Fv_,Fv_,h.eq]⟩
theorem mS_ {t b:Int}(hb:b≠0):(nf t b).1.natAbs<=t.natAbs/\(nf t b).2.natAbs<=b.natAbs:=by
 have key:∀ {t b:Int},0<b->(nf t b).1.natAbs<=t.natAbs/\(nf t b).2.natAbs<=b.natAbs:=fun {t b} h=>by rw [la_ h];exact ⟨by have:=DX_ t (Int.gcd t b:Int);lia,by have:=DX_ b (Int.gcd t b:Int);lia⟩
 rcases Int.lt_or_lt_of_ne hb with h|h
 ·rw [oo_ h];have:=key (t:=-t) (b:=-b) (by lia);lia
 ·exact key h
theorem o7_ {b:Int}(hb:b≠0):nf 0 b=(0,1):=by
 have:nf 0 1=(0,1):=by decide
 rw [<-this];exact Kk_ hb (by decide) (by lia)
theorem Is.zero {p:Int×Int}{t b:Int}(h:Is p t b):p=(0,1) ↔ t=0:=by
 refine ⟨fun e=>?_,fun e=>?_⟩
 ·have z:=h.eq;rw [e] at z;simp at z;lia
 ·rw [h.to,e];exact o7_ h.ne
theorem Is.inj {p q:Int×Int}{t b:Int}(h:Is p t b)(h':Is q t b):p=q:=h.to.trans h'.to.symm
theorem Is.same {p q:Int×Int}{d L C Lc:Int}(h:Is p (d*(L*C)) (L*(d*Lc)))(h':Is q C Lc):p=q:=by
 refine Is.inj (t:=C) (b:=Lc) (h.conv h'.ne ?_) h'
 ac_rfl
end RimM
namespace RimM
def Ws (p:Int×Int):Prop:=Low p/\0<p.1/\p.1<=1000/\p.2<=1000
theorem Lm_ {t b:Int}(t0:0<t)(t1:t<=1000)(b0:0<b)(b1:b<=1000):Ws (nf t b):=by
 have h:=I3_ (t:=t) (b:=b) (by lia);have hp:=h.low.pos;have ha:=mS_ (t:=t) (b:=b) (by lia);have h1:0<(nf t b).1:=by have e:=h.eq;have h3:0<t*(nf t b).2:=Int.mul_pos t0 hp;rw [<-e] at h3;exact Int.pos_of_mul_pos_left h3 b0
 exact ⟨h.low,h1,by lia,by lia⟩
end RimM
namespace RimT
open RimM
variable {S:Type}[DecidableEq S]
def cf (x y:S)(e:S×S×Int):Int:=(if x=e.1/\y=e.1 then e.2.2 else 0)-(if x=e.1/\y=e.2.1 then e.2.2 else 0)+(if x=e.2.1/\y=e.2.1 then e.2.2 else 0)-(if x=e.2.1/\y=e.1 then e.2.2 else 0)
def sm (E:List (S×S×Int))(x y:S):Int:=(E.map (cf x y)).sum
end RimT
namespace L2
open PySem PySem.Spec PyProof.Rows PySem.W
section
variable {X:Cx}{pins:List (Addr×Obj)}{σ:St}{H:Hp}{s:Shared}
end
end L2
namespace L2
open PySem PySem.Spec PyProof.Rows PySem.W PyProof.V
structure Mt (K:PySem.W.Frag)(mg:Str->Option Value)(x:Str)(C:Addr)(D:List (Str×Int)):Prop where
 m:mg x=some (.ref C)
 t:∀ h,K.In h->KTD.TextTab h C (D.map fun p=>(p.1,KTD.Dat.flat (.int p.2)))
end L2
namespace L2
open PySem PySem.Spec PyProof.Rows
end L2
namespace L2
open PySem PySem.Spec PyProof.Rows
variable {X:Cx}
end L2
namespace L2
open PySem PySem.Spec PyProof.Rows
def inT (ts:List Str)(q:Key):Bool:=ts.any fun t=>decide (q=.inr t)
section
variable {prog:Program}{w:World}{A:Around}{R:Result->Shared->Prop}
end
section
variable {X:Cx}
end
end L2
namespace L2
open PySem PySem.Spec PyProof.Rows
def dc (l:List Str):Nat:=((List.range l.length).filter fun i=>!inT (l.take i) (.inr (l.getD i Str.empty))).length
section
variable {prog:Program}{w:World}{A:Around}{R:Result->Shared->Prop}
end
section
variable {X:Cx}
end
end L2
namespace L2
open PySem PySem.Spec PyProof.Rows PySem.W
section
variable {X:Cx}{pins:List (Addr×Obj)}{σ:St}{H:Hp}{s:Shared}
end
end L2
namespace L2
open PySem PySem.Spec PyProof.Rows
end L2
namespace Rim25
open PySem PySem.Spec PyProof.Rows L2 RimM
theorem byL1 {p:List Value->Prop}(h:∀ a,p [a])(us:List Value)(e:us.length=1):p us:=by obtain ⟨a,rfl⟩:=B9_.mp e;exact h a
theorem byLc {p:List Value->Prop}{n:Nat}(h:∀ a,∀ us:List Value,us.length=n->p (a::us))(us:List Value)(e:us.length=n+1):p us:=by
 cases us with
 | nil=>cases e
 | cons a us=>exact h a us (Nat.succ.inj e)
theorem byL2 {p:List Value->Prop}(h:∀ a b,p [a,b]):∀ us:List Value,us.length=2->p us:=byLc fun a=>byL1 (h a)
theorem byL3 {p:List Value->Prop}(h:∀ a b c,p [a,b,c]):∀ us:List Value,us.length=3->p us:=byLc fun a=>byL2 (h a)
theorem byL4 {p:List Value->Prop}(h:∀ a b c d,p [a,b,c,d]):∀ us:List Value,us.length=4->p us:=byLc fun a=>byL3 (h a)
theorem lH_:Ig_ "int" = True:=eq_true (.inl rfl)
theorem jG_:Ig_ "tuple" = True:=eq_true (.inr (.inr (.inl rfl)))
theorem ko_:Ig_ "list" = True:=eq_true (.inr (.inr (.inr (.inl rfl))))
theorem nT_ {x y:Int}(hx:0<=x)(hy:0<y):Int.gcd y (x%y)=Int.gcd x y:=by obtain ⟨m,rfl⟩:=Es_ hx;obtain ⟨n,rfl⟩:=Es_ (Ee_ hy);show Int.gcd (n:Int) ((m:Int)%(n:Int))=Int.gcd (m:Int) (n:Int);rw [<-Eg_,Et_,Et_,Nat.gcd_comm n,<-Nat.gcd_rec,Nat.gcd_comm]
local macro_rules | `(tactic| walk_at "s2")=>`(tactic| simp only [La_,Kf_,G4_,KR_,Lf_,It_,KQ_,Je_,tC,tCB,tOp,rI,rI0,JS_,K8_,JY_,KU_,Jk_,tB,KY_,tOr,KT_,Ke_,JU_,rU,tUn,tBM,IL_,L2.start,Iu_,J1_,J2_,rEq,scal,tyV,Kq_,J5_,Lb_,List.map_cons,List.map_nil,List.length_cons,List.length_nil,List.replicate,List.cons_append,List.nil_append,List.append_nil,List.set_cons_zero,List.set_cons_succ,List.getElem?_cons_zero,List.getElem?_cons_succ,Option.some.injEq,List.cons.injEq,V.int.injEq,V.bl.injEq,V.str.injEq,V.ref.injEq,V.ty.injEq,HO.tup.injEq,HO.lst.injEq,exists_eq_left,exists_eq_left',exists_and_left,and_assoc,and_true,true_and,aa_,Gt_,Gy_,H0_,Nat.zero_add,Nat.reduceAdd,Nat.reduceSub,decide_eq_true_eq,Bool.not_eq_true',decide_eq_false_iff_not,reduceCtorEq,false_or,or_false,true_or,or_true,lH_,jG_,ko_,Bool.false_eq_true,if_false,if_true,Bool.not_false,Bool.not_true,Bool.not_not,Lk_,J3_,Ld_,JM_,K4_,Ji_,IK_,pick,Kp_,KO_,J6_,Lj_,I0_,List.map,Option.bind,JN_,tSl,Lg_,J0_,HW_,J9_,KX_,HR_,Kc_,J7_,JW_,KZ_,JX_,iDT,tIf,HO_,IV_,IS_,J4_,IF_,IY_,HY_,KV_,Hd_,HV_,JQ_,K2_,K6_,HN_,IQ_,HQ_,JT_,iDV,rIn,HT_,JP_,Kd_,Lc_,KP_,K7_,K5_,K1_,IR_,Le_,IO_,IG_,oR_,pH_])
local macro_rules | `(tactic| walk_at "s1")=>`(tactic| first|(dsimp only [La_,Kf_,G4_,KR_,Lf_,It_,KQ_,Je_,tC,tCB,tOp,rI,rI0,JS_,K8_,JY_,KU_,Jk_,tB,KY_,tOr,KT_,Ke_,JU_,rU,tUn,tBM,IL_,L2.start,Iu_,J1_,J2_,rEq,Kq_,J5_,Lb_,List.map_cons,List.map_nil,List.length_cons,List.length_nil,List.replicate,List.cons_append,List.nil_append,List.set_cons_zero,List.set_cons_succ,List.getElem?_cons_zero,List.getElem?_cons_succ,Lk_,J3_,Ld_,JM_,K4_,Ji_,IK_,pick,Kp_,KO_,J6_,Lj_,I0_,List.map,JN_,tSl,Lg_,J0_,HW_,J9_,KX_,HR_,Kc_,J7_,JW_,KZ_,JX_,iDT,tIf,HO_,IV_,IS_,J4_,IF_,IY_,HY_,KV_,Hd_,HV_,JQ_,K2_,K6_,HN_,IQ_,HQ_,JT_,iDV,rIn,HT_,JP_,Kd_,Lc_,KP_,K7_,K5_,K1_,IR_,Le_,IO_,IG_];try walk_at "s2")|walk_at "s2")
local macro_rules | `(tactic| walk_at "bx")=>`(tactic| first|(refine oW_ ?_;intro _ _)|refine pP_ (by assumption) ?_|refine Lv_ (by assumption) ?_)
local macro_rules | `(tactic| walk_at "rd")=>`(tactic| ((first|walk_at "s1" | (walk_at "bx";try walk_at "s1"));repeat (walk_at "bx";try walk_at "s1")))
local macro_rules | `(tactic| nofun)=>`(tactic| walk_at "rd")
structure Txt (K:PySem.W.Frag)(mg:Str->Option Value):Prop where
 n_abs:mg "abs" = none
 n_max:mg "max" = none
 n_min:mg "min" = none
 n_ValueError:mg "ValueError" = none
 n_dict:mg "dict" = none
 n_len:mg "len" = none
 n_range:mg "range" = none
 n_list:mg "list" = none
 n_isinstance:mg "isinstance" = none
 n_int:mg "int" = none
 n_bool:mg "bool" = none
 n_tuple:mg "tuple" = none
 n_str:mg "str" = none
 n_enumerate:mg "enumerate" = none
 n_sorted:mg "sorted" = none
 n_set:mg "set" = none
 n_reversed:mg "reversed" = none
variable {P:Program}{w:World}{K:PySem.W.Frag}{mg:Str->Option Value}{base:Heap}
theorem nU_ {b:Int}(h:b≠0):Builtin.Int.intBits b=b.natAbs.log2+1:=by unfold Builtin.Int.intBits;simp [h]
theorem pX_ {g b:Int}(h0:g≠0)(h1:g.natAbs<=b.natAbs)(hb:Builtin.Int.intBits b<=8000):g.natAbs.log2<9000:=by have h:=Dk_ (a:=g) (b:=b) (n:=8000) h1 hb;rw [nU_ h0] at h;lia
abbrev LK (s:Stmt)(x:Str)(k:NameKind):Prop:=(Fy_ s).names.lookup x=some k
abbrev stN (i:Nat):Stmt:=PySem.Challenge.pw_rimread_k25_lines.main.body.getD i (.Pass ⟨0,0,0,0⟩)
abbrev Gq_:Stmt:=stN 14
theorem kp_:FF_ ["_law_script", "_law_k"] ["_law_script", "_law_k"] (Fy_ Gq_):=⟨rfl,rfl,rfl,by rfl',rfl,by rfl',by rfl'⟩
theorem fC_:LK Gq_ "_law_script" .local:=by rfl'
theorem fD_:LK Gq_ "_law_k" .local:=by rfl'
theorem hx_:LK Gq_ "len" .globalImplicit:=by rfl'
def IH_ (K:PySem.W.Frag):Sp:=fun vs H Q _=>∃ (a:Addr)(ns:List Int)(i:Int),vs=[.ref a,.int i]/\SqL K H a (ns.map V.int)/\0<=i/\∀ z,Q (.int z) H
theorem kq_ (T:Txt K mg)(F:Fn0 K mg "_law_cell_at" Gq_):Cal P w K mg base "_law_cell_at" ["_law_script", "_law_k"] 1 (IH_ K):=by
 refine a1_ F kp_ (fun _ _ _ _ _ _=>byL2 fun _ _=>rfl) ?len ?body
 case len=>rintro vs H Q E ⟨a,b,c,rfl,_⟩;rfl
 case body =>
  intro f cdv A outer s H vs Q E hr h;obtain ⟨a,ns,i,rfl,hS,h0,k⟩:=h;refine' ⟨_,?D,?R⟩
  case D =>
   refine' ai_ ?g1 (aj_ (aB_ ad_))
   case' g1=>refine' Gp_ (aG_ Iw_ (pv1 1 rfl fD_) (am_ gl_ hx_ T.n_len aX_ (pa_c (pv1 0 rfl fC_) ab_)) (FY_ _)) (aj_ (aB_ (FG_ (nz_ (K:=K) rfl) (pv1 0 rfl fC_) (pv1 1 rfl fD_) (fun _ _=>rfl)))) aW_
  case R =>
   nofun;refine ⟨_,.inl hS,?_⟩;rw [Ab_];refine ite2 (fun hl=>?_) (fun hl=>?_)
   ·refine ⟨a,_,i,V.int (ns.getD i.toNat 0),rfl,rfl,hS,fv_ h0 ?_,k _⟩;have:i.toNat<ns.length:=by lia
    simp [Ag_,this,List.getD]
   ·exact k 0
abbrev Gv_:Stmt:=stN 15
theorem ek_:FF_ ["_law_script", "_law_at", "_law_by", "_law_prime", "_law_cell", "_law_big_here", "_law_k", "_law_one"] ["_law_script", "_law_at"] (Fy_ Gv_):=⟨rfl,rfl,rfl,by rfl',rfl,by rfl',by rfl'⟩
theorem jH_:LK Gv_ "_law_script" .local:=by rfl'
theorem jI_:LK Gv_ "_law_at" .local:=by rfl'
theorem jJ_:LK Gv_ "_law_by" .local:=by rfl'
theorem jK_:LK Gv_ "_law_prime" .local:=by rfl'
theorem hy_:LK Gv_ "_law_cell" .local:=by rfl'
theorem fE_:LK Gv_ "_law_big_here" .local:=by rfl'
theorem dp_:LK Gv_ "_law_k" .local:=by rfl'
theorem jL_:LK Gv_ "_law_one" .local:=by rfl'
theorem d8_:LK Gv_ "_law_cell_at" .globalImplicit:=by rfl'
theorem iL_:LK Gv_ "range" .globalImplicit:=by rfl'
def JL_ (K:PySem.W.Frag):Sp:=fun vs H Q _=>∃ (a:Addr)(ns:List Int)(j:Int),vs=[.ref a,.int j]/\0<=j/\SqL K H a (ns.map V.int)/\∀ z H',Fx_ H H'->Q (.int z) H'
theorem KI_ {a0 a1 a2 a3 a4 a5 a6 a7:Int}(i:Int)(h0:0<=i)(h1:i<8)(P:Int->Prop)(p0:P a0)(p1:P a1)(p2:P a2)(p3:P a3)(p4:P a4)(p5:P a5)(p6:P a6)(p7:P a7) :
  ∃ v,atI [V.int a0,.int a1,.int a2,.int a3,.int a4,.int a5,.int a6,.int a7] i=some (.int v)/\P v:=by
 have:i=0\/i=1\/i=2\/i=3\/i=4\/i=5\/i=6\/i=7:=by lia
 rcases this with rfl|rfl|rfl|rfl|rfl|rfl|rfl|rfl
 ·exact ⟨_,rfl,p0⟩
 ·exact ⟨_,rfl,p1⟩
 ·exact ⟨_,rfl,p2⟩
 ·exact ⟨_,rfl,p3⟩
 ·exact ⟨_,rfl,p4⟩
 ·exact ⟨_,rfl,p5⟩
 ·exact ⟨_,rfl,p6⟩
 ·exact ⟨_,rfl,p7⟩
theorem o8_ (T:Txt K mg)(F:Fn0 K mg "_law_big" Gv_) (Hc_:Cal P w K mg base "_law_cell_at" ["_law_script", "_law_k"] 1 (IH_ K)):Cal P w K mg base "_law_big" ["_law_script", "_law_at"] 2 (JL_ K):=by
 refine a1_ F ek_ (fun _ _ _ _ _ _=>byL2 fun _ _=>rfl) ?len ?body
 case len=>rintro vs H Q E ⟨a,b,c,rfl,_⟩;rfl
 case body =>
  intro f cdv A outer s H vs Q E hr h;obtain ⟨a,ns,j,rfl,hj,hS,k⟩:=h;refine' ⟨_,?D,?R⟩
  case D =>
   refine' ai_ (ah_ (i:=2) ek_.nd rfl jJ_ (aq_ ?g4)) ?g2
   case' g4=>refine' pa_c ad_ (pa_c ad_ (pa_c ad_ (pa_c ad_ (pa_c ad_ (pa_c ad_ (pa_c ad_ (pa_c ad_ ab_)))))))
   case' g2=>refine' ai_ (ah_ (i:=3) ek_.nd rfl jK_ (aq_ ?g24)) (ai_ (ah_ (i:=4) ek_.nd rfl hy_ (al_ Hc_ (hr.mono (by decide)) d8_ (pa_c (pv1 0 rfl jH_) (pa_c (pv1 1 rfl jI_) ab_)))) ?g42)
   case' g24=>refine' pa_c ad_ (pa_c ad_ (pa_c ad_ (pa_c ad_ (pa_c ad_ (pa_c ad_ (pa_c ad_ (pa_c ad_ ab_)))))))
   case' g42=>refine' ai_ (Gp_ (aG_ KB_ (pv1 4 rfl hy_) (Fz_ od_ ad_ ad_) (FY_ _)) (aj_ (aB_ (pv1 4 rfl hy_))) aW_) ?g50
   case' g50=>refine' ai_ (ah_ (i:=5) ek_.nd rfl fE_ ad_) (ai_ (aZ_ AA_ rfl (aC_ iL_ T.n_range (pa_c ad_ ab_)) ?g66 ?g67) (aj_ (aB_ (pv1 5 rfl fE_))))
   case g66=>exact ag_ (i:=6) ek_.nd rfl dp_
   case' g67=>refine' ai_ (ah_ (i:=7) ek_.nd rfl jL_ (Fz_ aK_ ?g74 (Fz_ fs_ (pv1 6 rfl dp_) (pv1 6 rfl dp_)))) (aj_ (ah_ (i:=5) ek_.nd rfl fE_ (Fz_ aK_ (Fz_ fs_ (pv1 5 rfl fE_) ad_) ?g96)))
   case' g74=>refine' Fz_ aK_ (Fz_ aD_ (al_ Hc_ (hr.mono (by decide)) d8_ (pa_c (pv1 0 rfl jH_) (pa_c (Fz_ aK_ (pv1 1 rfl jI_) (Fz_ aD_ (pv1 6 rfl dp_) ad_)) ab_))) (Fz_ od_ ad_ ad_)) ad_
   case' g96=>refine' Fz_ aD_ (Fz_ aD_ (Fz_ fs_ (pv1 7 rfl jL_) (FG_ ap_ (pv1 2 rfl jJ_) (Fz_ aD_ (pv1 6 rfl dp_) ad_) (fun _ _=>rfl))) (FG_ ap_ (pv1 3 rfl jK_) (Fz_ aD_ (pv1 6 rfl dp_) ad_) (fun _ _=>rfl))) ad_
  case R =>
   nofun;refine ⟨by decide,fun p hp=>⟨by decide,fun q hq=>?_⟩⟩;generalize e1:upd H p (HO.tup _)=H1 at hq ⊢;have s1:Fx_ H H1:=e1 ▸ Fx_.new hp;have p1:H1 p=some (.tup _):=e1 ▸ aa_;generalize e2:upd H1 q (HO.tup _)=H2;have s2:Fx_ H1 H2:=e2 ▸ Fx_.new hq;have q2:H2 q=some (.tup _):=e2 ▸ aa_;have p2:=s2 _ _ p1;have sS:Fx_ H H2:=s1.trans s2;clear e1 e2;refine ⟨a,ns,j,rfl,sS.seq hS,hj,fun z=>?_⟩;nofun;refine ⟨by decide,by decide,by decide,?_⟩;refine ite2 (fun _=>k _ _ sS) (fun _=>⟨by decide,by decide,?_⟩);refine ip_ (fun i σ H'=>H'=H2/\∃ (b:Int)(v6 v7:Option V),σ=[some (V.ref a),some (V.int j),some (V.ref p),some (V.ref q),some (V.int z),some (V.int b),v6,v7]) ⟨rfl,0,none,none,rfl⟩ ?_ ?_
   ·rintro i σ H' hi ⟨rfl,b,v6,v7,rfl⟩;have hi':i<60:=hi;nofun;have m9:=AW_ (0+(i:Int)) (show (9:Int)≠0 by decide);refine ⟨by decide,a,ns,_,rfl,sS.seq hS,by lia,fun y=>?_⟩;nofun;refine ⟨by decide,by decide,by decide,by decide,.inl ⟨by lia,by lia⟩,.inr ⟨by decide,by decide⟩,by decide,?_⟩;have m8:=AW_ (0+(i:Int)) (show (8:Int)≠0 by decide);have l8:=AU_ (0+(i:Int)) (show (0:Int)<8 by decide);obtain ⟨v,hv,v0,v1⟩:=KI_ (a0:=48271) (a1:=69621) (a2:=16807) (a3:=39373) (a4:=21401) (a5:=60493) (a6:=87721) (a7:=31337) ((0+(i:Int))%8) m8 l8 (fun v=>0<v/\v<100000) (by decide) (by decide) (by decide) (by decide) (by decide) (by decide) (by decide) (by decide);obtain ⟨u,hu,u0,u1⟩:=KI_ (a0:=99991) (a1:=99989) (a2:=99971) (a3:=99961) (a4:=99929) (a5:=99923) (a6:=99907) (a7:=99901) ((0+(i:Int))%8) m8 l8 (fun v=>0<v/\v<100000) (by decide) (by decide) (by decide) (by decide) (by decide) (by decide) (by decide) (by decide);simp only [p2,q2,Option.some.injEq,HO.tup.injEq,exists_eq_left'];simp only [hv,hu];nofun;exact ⟨.inr ⟨by lia,by lia⟩,by decide,u0,by decide,_,rfl⟩
   ·rintro σ H' ⟨rfl,b,v6,v7,rfl⟩;nofun;exact k _ _ sS
def dF (p:Int×Int):Dt:=.tup [.int p.1,.int p.2]
theorem pY_ {H:Hp}{v:V}{p:Int×Int}(h:Rep H v (dF p)):∃ q,v=.ref q/\H q=some (.tup [.int p.1,.int p.2]):=by obtain ⟨q,xs,e,hq,x,r,e1,hx,y,r',e2,hy,e3⟩:=h;cases hx;cases hy;subst e1 e2 e3;exact ⟨q,e,hq⟩
abbrev GS_:Stmt:=stN 16
theorem kr_:FF_ ["_law_top", "_law_bottom", "_law_one", "_law_other"] ["_law_top", "_law_bottom"] (Fy_ GS_):=⟨rfl,rfl,rfl,by rfl',rfl,by rfl',by rfl'⟩
theorem jM_:LK GS_ "_law_top" .local:=by rfl'
theorem jN_:LK GS_ "_law_bottom" .local:=by rfl'
theorem el_:LK GS_ "_law_one" .local:=by rfl'
theorem em_:LK GS_ "_law_other" .local:=by rfl'
theorem ks_:LK GS_ "abs" .globalImplicit:=by rfl'
def JJ_:Sp:=fun vs H Q _=>∃ t b:Int,vs=[.int t,.int b]/\0<b/\Builtin.Int.intBits b<=8000/\∀ p H',Fx_ H H'->Rep (Hm_ H H') (.ref p) (dF (nf t b))->Q (.ref p) H'
theorem o9_ (T:Txt K mg)(F:Fn0 K mg "_law_low" GS_):Cal P w K mg base "_law_low" ["_law_top", "_law_bottom"] 1 JJ_:=by
 refine a1_ F kr_ (fun _ _ _ _ _ _=>byL2 fun _ _=>rfl) ?len ?body
 case len=>rintro vs H Q E ⟨a,b,rfl,_⟩;rfl
 case body =>
  intro f cdv A outer s H vs Q E hr h;obtain ⟨a,b,rfl,hb,lb,k⟩:=h;refine' ⟨_,?D,?R⟩
  case D =>
   refine' ai_ (oc_ (i:=2) (j:=3) rfl kr_.nd rfl rfl (by decide) el_ em_ (pa_c (am_ nr_ ks_ T.n_abs pI_ (pa_c (pv1 0 rfl jM_) ab_)) (pa_c (pv1 1 rfl jN_) ab_)) rfl) ?g2
   case' g2=>refine' ai_ (eE_ AA_ (aG_ KC_ (pv1 3 rfl em_) ad_ (FY_ _)) (aj_ (oc_ (i:=2) (j:=3) rfl kr_.nd rfl rfl (by decide) el_ em_ (pa_c (pv1 3 rfl em_) (pa_c (Fz_ aD_ (pv1 2 rfl el_) (pv1 3 rfl em_)) ab_)) rfl))) ?g12
   case' g12=>refine' aj_ (aB_ (aq_ (pa_c (Fz_ au_ (pv1 0 rfl jM_) (pv1 2 rfl el_)) (pa_c (Fz_ au_ (pv1 1 rfl jN_) (pv1 2 rfl el_)) ab_))))
  case R =>
   nofun
   refine kc_ (fun σ H1=>∃ (x y:Int),σ=[some (.int a),some (.int b),some (.int x),some (.int y)]/\H1=H/\0<=x/\0<=y/\Int.gcd x y=Int.gcd a b)
    (fun σ _=>match σ with | [_,_,_,some (.int y)]=>y.toNat|_=>0) ?_ ?_
   ·refine ⟨_,_,rfl,rfl,?_,by lia,?_⟩
    ·split <;> lia
    ·split
     ·rw [Fu_]
     ·rfl
   ·rintro σ H1 ⟨x,y,rfl,rfl,hx,hy,e⟩;nofun;refine ite2 (fun hne=>?_) (fun he=>?_)
    ·refine ⟨_,N_ok,?_⟩;nofun;have h1:=AW_ x (show y≠0 by lia);have h2:=AU_ x hne;exact ⟨hne,hy,h1,(nT_ hx hne).trans e,by lia⟩
    ·have hy0:y=0:=by lia
     have hx':x=(Int.gcd a b:Nat):=by rw [<-e,hy0,Int.gcd_zero_right];lia
     have g0:=gpos (t:=a) (b:=b) (by lia);have hl:=pX_ (g:=(Int.gcd a b:Int)) (b:=b) (by lia) (Nat.le_of_dvd (by lia) (Int.natAbs_dvd_natAbs.mpr (CW_ ..))) lb;subst hx';refine ⟨g0,hl,g0,hl,by decide,fun p hp=>k p _ (Fx_.new hp) ⟨p,_,rfl,?_,_,_,rfl,rfl,_,_,rfl,rfl,rfl⟩⟩;rw [dF_ hp,aa_,la_ hb]
abbrev Gc_:Stmt:=stN 17
theorem be_:FF_ ["_law_big_here", "_law_bottom", "_law_top"] ["_law_big_here"] (Fy_ Gc_):=⟨rfl,rfl,rfl,by rfl',rfl,by rfl',by rfl'⟩
theorem av_:LK Gc_ "_law_big_here" .local:=by rfl'
theorem b4_:LK Gc_ "_law_bottom" .local:=by rfl'
theorem b5_:LK Gc_ "_law_top" .local:=by rfl'
theorem f7_:LK Gc_ "_law_low" .globalImplicit:=by rfl'
def Ie_:Sp:=fun vs H Q _=>∃ z:Int,vs=[.int z]/\∀ (p q:Addr) H' (t b y:Int),Fx_ H H'->H p=none->H q=none->Ws (nf t b)->H' p=some (.tup [.ref q,.int y])->H' q=some (.tup [.int (nf t b).1,.int (nf t b).2])->Q (.ref p) H'
theorem jO_ (T:Txt K mg)(F:Fn0 K mg "_law_worth_of" Gc_) (KL_:Cal P w K mg base "_law_low" ["_law_top", "_law_bottom"] 1 JJ_):Cal P w K mg base "_law_worth_of" ["_law_big_here"] 2 Ie_:=by
 refine a1_ F be_ (fun _ _ _ _ _ _=>byL1 fun _=>rfl) ?len ?body
 case len=>rintro vs H Q E ⟨a,rfl,_⟩;rfl
 case body =>
  intro f cdv A outer s H vs Q E hr h;obtain ⟨z,rfl,k⟩:=h;refine' ⟨_,?D,?R⟩
  case D =>
   refine' ai_ (ah_ (i:=1) be_.nd rfl b4_ (Fz_ aK_ ad_ (Fz_ aD_ (pv1 0 rfl av_) ad_))) ?g2
   case' g2=>refine' ai_ (hj_ (Gp_ (aG_ G0_ (Fz_ aD_ (Fz_ au_ (pv1 0 rfl av_) ad_) ad_) ad_ (FY_ _)) ?g12 aW_)) ?g9
   case' g12=>refine' aj_ (ah_ (i:=1) be_.nd rfl b4_ (Fz_ aK_ ad_ (Fz_ aD_ (Fz_ au_ (pv1 0 rfl av_) ad_) ad_)))
   case' g9=>refine' ai_ (hj_ (Gp_ (aG_ G0_ (Fz_ aD_ (Fz_ au_ (pv1 0 rfl av_) ad_) ad_) ad_ (FY_ _)) ?g32 aW_)) ?g29
   case' g32=>refine' aj_ (ah_ (i:=1) be_.nd rfl b4_ (Fz_ aK_ ad_ (Fz_ aD_ (Fz_ au_ (pv1 0 rfl av_) ad_) ad_)))
   case' g29=>refine' ai_ (ah_ (i:=0) be_.nd rfl av_ (Fz_ au_ (pv1 0 rfl av_) ad_)) (ai_ (ah_ (i:=2) be_.nd rfl b5_ (Fz_ aK_ ad_ (Fz_ aD_ (pv1 0 rfl av_) ad_))) ?g54)
   case' g54=>refine' ai_ (hj_ (Gp_ (aG_ G0_ (Fz_ aD_ (Fz_ au_ (pv1 0 rfl av_) ad_) ad_) ad_ (FY_ _)) ?g64 aW_)) ?g61
   case' g64=>refine' aj_ (ah_ (i:=2) be_.nd rfl b5_ (Fz_ aK_ ad_ (Fz_ aD_ (Fz_ au_ (pv1 0 rfl av_) ad_) ad_)))
   case' g61=>refine' ai_ (hj_ (Gp_ (aG_ G0_ (Fz_ aD_ (Fz_ au_ (pv1 0 rfl av_) ad_) ad_) ad_ (FY_ _)) ?g84 aW_)) (aj_ ?g100)
   case' g84=>refine' aj_ (ah_ (i:=2) be_.nd rfl b5_ (Fz_ aK_ ad_ (Fz_ aD_ (Fz_ au_ (pv1 0 rfl av_) ad_) ad_)))
   case' g100=>refine' aB_ (aq_ (pa_c (al_ KL_ (hr.mono (by decide)) f7_ (pa_c (pv1 2 rfl b5_) (pa_c (pv1 1 rfl b4_) ab_))) (pa_c (Fz_ au_ (pv1 0 rfl av_) ad_) ab_)))
  case R =>
   nofun;refine ⟨by decide,fun σ H1=>∃ b:Int,σ=[some (.int z),some (.int b),none]/\H=H1/\0<b/\b<=1000,?_,?_⟩
   ·nofun;refine ⟨by decide,by decide,by decide,ite2 (fun _=>?_) (fun _=>?_)⟩
    ·have:=AW_ (z/12) (show (12:Int)≠0 by decide);have:=AU_ (z/12) (show (0:Int)<12 by decide);exact ⟨by decide,by decide,by decide,by lia,by lia⟩
    ·have:=AW_ z (show (3:Int)≠0 by decide);have:=AU_ z (show (0:Int)<3 by decide);lia
   rintro σ H1 ⟨b,rfl,rfl,b0,b1⟩;nofun;refine ⟨fun σ H1=>∃ b:Int,σ=[some (.int z),some (.int b),none]/\H=H1/\0<b/\b<=1000,?_,?_⟩
   ·nofun;refine ⟨by decide,by decide,by decide,ite2 (fun _=>?_) (fun _=>⟨b0,b1⟩)⟩;have:=AW_ (z/48) (show (1000:Int)≠0 by decide);have:=AU_ (z/48) (show (0:Int)<1000 by decide);exact ⟨by decide,by decide,by decide,by lia,by lia⟩
   clear b0 b1 b;rintro σ H1 ⟨b,rfl,rfl,b0,b1⟩;nofun;refine ⟨by decide,by decide,by decide,?_⟩;generalize z/48000=y;refine ⟨fun σ H1=>∃ t:Int,σ=[some (.int y),some (.int b),some (.int t)]/\H=H1/\0<t/\t<=1000,?_,?_⟩
   ·nofun;refine ⟨by decide,by decide,by decide,ite2 (fun _=>?_) (fun _=>?_)⟩
    ·have:=AW_ (y/20) (show (12:Int)≠0 by decide);have:=AU_ (y/20) (show (0:Int)<12 by decide);exact ⟨by decide,by decide,by decide,by lia,by lia⟩
    ·have:=AW_ y (show (5:Int)≠0 by decide);have:=AU_ y (show (0:Int)<5 by decide);lia
   rintro σ H1 ⟨t,rfl,rfl,t0,t1⟩;nofun;refine ⟨fun σ H1=>∃ t:Int,σ=[some (.int y),some (.int b),some (.int t)]/\H=H1/\0<t/\t<=1000,?_,?_⟩
   ·nofun;refine ⟨by decide,by decide,by decide,ite2 (fun _=>?_) (fun _=>⟨t0,t1⟩)⟩;have:=AW_ (y/80) (show (1000:Int)≠0 by decide);have:=AU_ (y/80) (show (0:Int)<1000 by decide);exact ⟨by decide,by decide,by decide,by lia,by lia⟩
   clear t0 t1 t;rintro σ H1 ⟨t,rfl,rfl,t0,t1⟩;nofun;refine ⟨t,b,rfl,b0,Dk_ (b:=1000) (by lia) (by decide),fun q H1 s1 r1=>?_⟩;nofun;obtain ⟨q',eq,hq⟩:=pY_ r1;cases eq;obtain ⟨q0,q1⟩:=bq_ hq;refine ⟨by decide,by decide,by decide,fun p hp=>k p q _ t b (y/80000) (s1.trans (Fx_.new hp)) (s1.free hp) q0 (Lm_ t0 t1 b0 b1) aa_ (Fx_.new hp _ _ q1)⟩
open PySem PySem.Spec PyProof.Rows L2 RimM RimT
theorem un1 {n c:Nat}(h:n+64<c):n+1<c:=by lia
structure Tg {α:Type}(lab:α->V)(H:Hp)(l:Addr)(as_:List Addr)(T:List (List α)):Prop where
 top:H l=some (.lst (as_.map V.ref))
 len:as_.length=T.length
 row:∀ p a,as_[p]?=some a->H a=some (.lst ((T.getD p []).map lab))
theorem Tg.mono {α:Type}{lab:α->V}{H H':Hp}{l:Addr}{as_:List Addr}{T:List (List α)}(h:Tg lab H l as_ T)(s:Fx_ H H'):Tg lab H' l as_ T:=⟨s _ _ h.top,h.len,fun p a e=>s _ _ (h.row p a e)⟩
theorem Tg.at_ {α:Type}{lab:α->V}{H:Hp}{l:Addr}{as_:List Addr}{T:List (List α)}(h:Tg lab H l as_ T){p:Nat}(hp:p<T.length):∃ a,as_[p]?=some a/\atI (as_.map V.ref) (p:Int)=some (.ref a)/\H a=some (.lst ((T.getD p []).map lab)):=by have e:as_[p]?=some (as_[p]'(by rw [h.len];exact hp)):=Aa_ _;refine ⟨_,e,?_,h.row p _ e⟩;rw [fv_ (by lia) (by rw [AE_,Ag_,e];rfl)]
abbrev Tn:=Tg (fun n:Nat=>V.int n)
def cV (c:Nat×Nat):HO:=.tup [.int c.1,.int c.2]
def cK (c:Nat×Nat):List Key:=[.inl c.1,.inl c.2]
def Gu_ {α:Type}(H:Hp)(m:Addr)(T:List (List α)):Prop:=∃ kvs,H m=some (.dT kvs)/\∀ a b,G3_ T a b->∃ q,F9_ kvs (cK a)=some (.ref q)/\H q=some (cV b)
theorem Gu_.mono {α:Type}{H H':Hp}{m:Addr}{T:List (List α)}(h:Gu_ H m T)(s:Fx_ H H'):Gu_ H' m T:=by obtain ⟨kvs,e,k⟩:=h;exact ⟨kvs,s _ _ e,fun a b hab=>(k a b hab).elim fun q hq=>⟨q,hq.1,s _ _ hq.2⟩⟩
abbrev FD_:Stmt:=stN 20
theorem a8_:FF_ ["_law_turns_here", "_law_posts", "_law_mates_here", "_law_corner", "_law_p", "_law_k", "_law_q", "_law_j"] ["_law_turns_here", "_law_posts", "_law_mates_here", "_law_corner"] (Fy_ FD_):=⟨rfl,rfl,rfl,by rfl',rfl,by rfl',by rfl'⟩
theorem cD_:LK FD_ "_law_turns_here" .local:=by rfl'
theorem cE_:LK FD_ "_law_posts" .local:=by rfl'
theorem e3_:LK FD_ "_law_mates_here" .local:=by rfl'
theorem e4_:LK FD_ "_law_corner" .local:=by rfl'
theorem bi_:LK FD_ "_law_p" .local:=by rfl'
theorem bG_:LK FD_ "_law_k" .local:=by rfl'
theorem aY_:LK FD_ "_law_q" .local:=by rfl'
theorem bH_:LK FD_ "_law_j" .local:=by rfl'
theorem cd_:LK FD_ "len" .globalImplicit:=by rfl'
def Ht_:Sp:=fun vs H Q _=>∃ (α:Type)(_:DecidableEq α)(lab:α->V)(l m c:Addr)(as_:List Addr)(T:List (List α))(P:Nat)(e:Nat×Nat),vs=[.ref l,.int P,.ref m,.ref c]/\Tg lab H l as_ T/\Gu_ H m T/\Tw T/\0<P/\H c=some (cV e)/\IsC T P e /\
 ∀ q H' d,Fx_ H H'->H q=none->H' q=some (cV d)->Nx T P e d->Q (.ref q) H'
theorem f8_ (T:Txt K mg)(F:Fn0 K mg "_law_corner_behind" FD_):Cal P w K mg base "_law_corner_behind" ["_law_turns_here", "_law_posts", "_law_mates_here", "_law_corner"] 1 Ht_:=by
 refine a1_ F a8_ (fun _ _ _ _ _ _=>byL4 fun _ _ _ _=>rfl) ?len ?body
 case len=>rintro vs H Q E ⟨_,_,_,l,m,c,as_,T,P,e,rfl,_⟩;rfl
 case body =>
  intro f cdv A outer s H vs Q E hr h;obtain ⟨α,dec,lab,l,m,c,as_,Tt,Pp,e,rfl,hT,hm,tw,P0,hc,ic,k⟩:=h;refine' ⟨_,?D,?R⟩
  case D =>
   refine' ai_ (eh_ (pv1 3 rfl e4_) (aS_ (K:=K) (n:=2) rfl rfl (ak_ ?g6 (ak_ ?g8 aQ_)))) ?g2
   case g6=>exact ag_ (i:=4) a8_.nd rfl bi_
   case g8=>exact ag_ (i:=5) a8_.nd rfl bG_
   case' g2=>refine' ai_ ?g10 (ai_ ?g33 (ai_ ?g49 (aj_ (aB_ ?g66))))
   case' g10=>refine' Gp_ (aG_ G0_ (pv1 5 rfl bG_) (am_ ao_ cd_ T.n_len aX_ (pa_c (FG_ ar_ (pv1 0 rfl cD_) (pv1 4 rfl bi_) (fun _ _=>rfl)) ab_)) (FY_ _)) ?g13 aW_
   case' g13=>refine' aj_ (aB_ (aq_ (pa_c (Fz_ aD_ (Fz_ h1_ (pv1 4 rfl bi_) ad_) (pv1 1 rfl cE_)) (pa_c ad_ ab_))))
   case' g33=>refine' eh_ (c3_ (un1 hr.units) (pv1 2 rfl e3_) (aq_ (pa_c (pv1 4 rfl bi_) (pa_c (pv1 5 rfl bG_) ab_))) (fun _ _=>rfl)) (aS_ (K:=K) (n:=2) rfl rfl (ak_ ?g45 (ak_ ?g47 aQ_)))
   case g45=>exact ag_ (i:=6) a8_.nd rfl aY_
   case g47=>exact ag_ (i:=7) a8_.nd rfl bH_
   case' g49=>refine' Gp_ (aG_ Iw_ (pv1 6 rfl aY_) (pv1 1 rfl cE_) (FY_ _)) (aj_ (aB_ (aq_ (pa_c (pv1 6 rfl aY_) (pa_c (Fz_ aK_ (pv1 7 rfl bH_) ad_) ab_))))) aW_
   case' g66=>refine' aq_ (pa_c (pv1 6 rfl aY_) (pa_c (Fz_ aD_ (Fz_ aK_ (pv1 7 rfl bH_) ad_) (am_ ao_ cd_ T.n_len aX_ (pa_c (FG_ ar_ (pv1 0 rfl cD_) (pv1 6 rfl aY_) (fun _ _=>rfl)) ab_))) ab_))
  case R =>
   nofun;obtain ⟨a,ea,at0,ra⟩:=hT.at_ ic.1;refine ⟨_,SqT.of hc,rfl,_,_,rfl,_,_,rfl,rfl,_,_,rfl,hT.top,_,at0,_,rfl,_,.inl ra,?_⟩;nofun;rw [Ab_];refine ite2 (fun he=>?_) (fun he=>?_)
   ·have hz:((e.1:Int)-1)%(Pp:Int)=(((e.1+Pp-1)%Pp:Nat):Int):=by rw [Eg_,show ((e.1+Pp-1:Nat):Int)=(e.1:Int)-1+Pp by lia];simp
    have he':e.2=rl Tt e.1:=by unfold rl;lia
    refine ⟨by lia,by decide,fun p hp=>k p _ ((e.1+Pp-1)%Pp,0) (Fx_.new hp) hp ?_ (.inl ⟨he',rfl⟩)⟩;rw [aa_,hz];rfl
   ·have hlt:e.2<rl Tt e.1:=by have:=ic.2;unfold rl at this ⊢;split at this <;> lia
    obtain ⟨ww,hw⟩:=cw_ hlt;obtain ⟨b,hb⟩:=ig_ tw hw;obtain ⟨kvs,hkv,hall⟩:=hm;obtain ⟨q,vq,hq⟩:=hall e b hb;refine ⟨by decide,fun p hp=>?_⟩;have s1:Fx_ H (upd H p (.tup [.int e.1,.int e.2])):=Fx_.new hp;generalize e1:upd H p (.tup [.int e.1,.int e.2])=H1 at s1 ⊢;have hp1:H1 p=some (cV e):=e1 ▸ aa_;have g:GP_ H1 m (.ref p) (some (.ref q)):=vq ▸ GP_.t (k:=cK e) (s1 _ _ hkv) hp1;have hT1:=hT.mono s1;have hbl:=F7_ hb.2.choose_spec.2;refine ⟨_,g,_,rfl,_,SqT.of (s1 _ _ hq),rfl,_,_,rfl,_,_,rfl,rfl,_,rfl,?_⟩;refine ite2 (fun hlp=>?_) (fun hlp=>?_)
    ·refine ⟨_,rfl,by decide,fun r hr=>k r _ (b.1,b.2+1) (s1.trans (Fx_.new hr)) (s1.free hr) ?_ (.inr ⟨hlt,b,hb,?_⟩)⟩
     ·rw [aa_];rfl
     ·rw [if_pos (by lia)]
    ·obtain ⟨a2,ea2,at2,ra2⟩:=hT1.at_ hbl.2;have hl2:(0:Int)<(rl Tt b.1:Nat):=by lia
     refine ⟨_,rfl,_,_,rfl,hT1.top,_,at2,_,rfl,_,.inl ra2,?_⟩;rw [Ab_];refine ⟨hl2,by decide,fun r hr=>k r _ (b.1,(b.2+1)%rl Tt b.1) (s1.trans (Fx_.new hr)) (s1.free hr) ?_ (.inr ⟨hlt,b,hb,?_⟩)⟩
     ·rw [aa_];show some (HO.tup [V.int b.1,V.int (((b.2:Int)+1)%(rl Tt b.1:Nat))])=some (HO.tup [V.int b.1,V.int (((b.2+1)%rl Tt b.1:Nat):Int)]);rw [Eg_,Int.natCast_add];rfl
     ·rw [if_neg (by lia)]
def Cs (H:Hp):List Addr->List (Nat×Nat)->Prop
 | [],[]=>True
 | x::xs,c::cs=>H x=some (cV c)/\Cs H xs cs
 | _,_=>False
theorem Cs.mono {H H':Hp}(s:Fx_ H H'):∀ {xs:List Addr}{cs:List (Nat×Nat)},Cs H xs cs->Cs H' xs cs
 | [],[],_=>trivial
 | x::xs,c::cs,h=>⟨s _ _ h.1,Cs.mono s h.2⟩
theorem Cs.len {H:Hp}:∀ {xs:List Addr}{cs:List (Nat×Nat)},Cs H xs cs->xs.length=cs.length
 | [],[],_=>rfl
 | x::xs,c::cs,h=>by rw [AZ_,AZ_,Cs.len h.2]
theorem Cs.snoc {H:Hp}{y:Addr}{d:Nat×Nat}(hy:H y=some (cV d)):∀ {xs:List Addr}{cs:List (Nat×Nat)},Cs H xs cs->Cs H (xs++[y]) (cs++[d])
 | [],[],_=>⟨hy,trivial⟩
 | x::xs,c::cs,h=>⟨h.1,Cs.snoc hy h.2⟩
theorem Cs.get {H:Hp}:∀ {xs:List Addr}{cs:List (Nat×Nat)}{i:Nat}{d:Nat×Nat},Cs H xs cs->cs[i]?=some d->∃ x,xs[i]?=some x/\H x=some (cV d)
 | [],[],i,d,h,e=>by cases e
 | [],_::_,_,_,h,_=>h.elim
 | _::_,[],_,_,h,_=>h.elim
 | x::xs,c::cs,0,d,h,e=>by cases e;exact ⟨x,rfl,h.1⟩
 | x::xs,c::cs,i+1,d,h,e=>Cs.get (i:=i) h.2 e
def dC (c:Nat×Nat):Dt:=.tup [.int c.1,.int c.2]
theorem mT_ {H:Hp}{x:Addr}{c:Nat×Nat}(h:H x=some (cV c)):Rep H (.ref x) (dC c):=⟨x,_,rfl,h,_,_,rfl,rfl,_,_,rfl,rfl,rfl⟩
theorem pZ_ (a b:Nat×Nat):deq (dC a) (dC b)=some (decide (a=b)):=by
 by_cases h1:(a.1:Int)=b.1 <;> by_cases h2:(a.2:Int)=b.2
 ·have e:a=b:=A9_ (by lia) (by lia);subst e;simp [dC,deq,deqs]
 ·have e:a≠b:=fun z=>h2 (by rw [z]);simp [dC,deq,deqs,h1,h2,e]
 ·have e:a≠b:=fun z=>h1 (by rw [z]);simp [dC,deq,deqs,h1,h2,e]
 ·have e:a≠b:=fun z=>h1 (by rw [z]);simp [dC,deq,deqs,h1,h2,e]
abbrev Ga_:Stmt:=stN 21
theorem eK_:FF_ ["_law_turns_here", "_law_posts", "_law_mates_here", "_law_corner", "_law_found", "_law_here"] ["_law_turns_here", "_law_posts", "_law_mates_here", "_law_corner"] (Fy_ Ga_):=⟨rfl,rfl,rfl,by rfl',rfl,by rfl',by rfl'⟩
theorem gq_:LK Ga_ "_law_turns_here" .local:=by rfl'
theorem gr_:LK Ga_ "_law_posts" .local:=by rfl'
theorem gs_:LK Ga_ "_law_mates_here" .local:=by rfl'
theorem en_:LK Ga_ "_law_corner" .local:=by rfl'
theorem eo_:LK Ga_ "_law_found" .local:=by rfl'
theorem ce_:LK Ga_ "_law_here" .local:=by rfl'
theorem by_:LK Ga_ "_law_corner_behind" .globalImplicit:=by rfl'
def Hp_:Sp:=fun vs H Q _=>∃ (α:Type)(_:DecidableEq α)(lab:α->V)(l m c:Addr)(as_:List Addr)(T:List (List α))(P:Nat)(e:Nat×Nat),vs=[.ref l,.int P,.ref m,.ref c]/\Tg lab H l as_ T/\Gu_ H m T/\Tw T/\0<P/\P<=T.length/\H c=some (cV e)/\IsC T P e/\(corners T P).length<=900 /\
 ∀ R H' xs cs,Fx_ H H'->H R=none->H' R=some (.lst (xs.map V.ref))->Cs H' xs cs->cs≠[]->cs.length<=(corners T P).length->(∀ d∈cs,IsC T P d)->Way T P cs e->cs.head?=some e->cs.Nodup->Q (.ref R) H'
theorem lI_ (T:Txt K mg)(F:Fn0 K mg "_law_region" Ga_) (Gz_:Cal P w K mg base "_law_corner_behind" ["_law_turns_here", "_law_posts", "_law_mates_here", "_law_corner"] 1 Ht_):Cal P w K mg base "_law_region" ["_law_turns_here", "_law_posts", "_law_mates_here", "_law_corner"] 2 Hp_:=by
 refine a1_ F eK_ (fun _ _ _ _ _ _=>byL4 fun _ _ _ _=>rfl) ?len ?body
 case len=>rintro vs H Q E ⟨_,_,_,l,m,c,as_,T,P,e,rfl,_⟩;rfl
 case body =>
  intro f cdv A outer s H vs Q E hr h;obtain ⟨α,dec,lab,l,m,c,as_,Tt,Pp,e,rfl,hT,hm,tw,P0,PT,hc,ic,c9,k⟩:=h;refine' ⟨_,?D,?R⟩
  case D =>
   refine' ai_ (ah_ (i:=4) eK_.nd rfl eo_ (bo_ (pa_c (pv1 3 rfl en_) ab_))) (ai_ ?g7 (ai_ ?g19 (aj_ (aB_ (pv1 4 rfl eo_)))))
   case' g7=>refine' ah_ (i:=5) eK_.nd rfl ce_ (al_ Gz_ (hr.mono (by decide)) by_ (pa_c (pv1 0 rfl gq_) (pa_c (pv1 1 rfl gr_) (pa_c (pv1 2 rfl gs_) (pa_c (pv1 3 rfl en_) ab_)))))
   case' g19=>refine' eE_ AA_ (aG_ (jn_ (hr.units)) (pv1 5 rfl ce_) (pv1 3 rfl en_) (FY_ _)) (ai_ (aA_ (Gi_ Az_ AC_ AD_ az_ (pv1 4 rfl eo_) (pa_c (pv1 5 rfl ce_) ab_))) ?g26)
   case' g26=>refine' aj_ (ah_ (i:=5) eK_.nd rfl ce_ (al_ Gz_ (hr.mono (by decide)) by_ (pa_c (pv1 0 rfl gq_) (pa_c (pv1 1 rfl gr_) (pa_c (pv1 2 rfl gs_) (pa_c (pv1 5 rfl ce_) ab_))))))
  case R =>
   nofun;refine ⟨by decide,fun R hR=>?_⟩;have s0:Fx_ H (upd H R (.lst [.ref c])):=Fx_.new hR;refine ⟨_,_,_,l,m,c,as_,Tt,Pp,e,rfl,hT.mono s0,hm.mono s0,tw,P0,s0 _ _ hc,ic,fun q H1 d s1 hq hd nx=>?_⟩;nofun
   refine kc_ (fun σ H'=>∃ (S:Hp)(xs:List Addr)(cs:List (Nat×Nat))(h:Addr)(d:Nat×Nat),σ=[some (.ref l),some (.int Pp),some (.ref m),some (.ref c),some (.ref R),some (.ref h)]/\Fx_ H S/\S R=none/\Fx_ S H'/\H' R=some (.lst (xs.map V.ref))/\Cs S xs cs/\S h=some (cV d)/\Way Tt Pp cs d/\cs.head?=some e/\cs.Nodup)
    (fun σ H'=>match H' R with|some (.lst xs)=>(corners Tt Pp).length+1-xs.length|_=>0) ?_ ?_
   ·have h0R:upd H R (.lst [.ref c]) R=some (.lst [.ref c]):=aa_;exact ⟨grow H (upd H R (.lst [.ref c])) H1,[c],[e],q,d,rfl,cC_ s0,by rw [eI_ h0R];exact hR,iy_ s0 s1,s1 _ _ h0R,⟨cC_ s0 _ _ hc,trivial⟩,by rw [ix_ hq];exact hd,.one nx,rfl,by simp⟩
   ·rintro σ H' ⟨S,xs,cs,h,d,rfl,hS,SR,SH,hxs,hcs,hh,wy,hd0,nd⟩;nofun;have wl:=oy_ tw P0 PT wy hd0 ic nd;have wa:=ih_ tw P0 PT wy hd0 ic;have xl:=hcs.len;refine ⟨_,mT_ (SH _ _ hh),_,mT_ (SH _ _ (hS _ _ hc)),_,pZ_ d e,by simp [dC,dep,deps],?_⟩;by_cases hde:d=e
    ·rw [if_neg (by simp [hde])];exact k R H' xs cs (hS.trans SH) hR hxs (hcs.mono SH) (kK_ wy) wl wa.2.1 (hde ▸ wy) hd0 nd
    ·rw [if_pos (by simp [hde])];refine ⟨_,N_ok,?_⟩;nofun;have sz:(xs.map V.ref).length<sizeLine:=by have:=Fw_ (show xs.length+1<=1000 by lia);rw [Ab_];lia
     have dn:=ox_ tw P0 PT wy hd0 ic nd hde;refine ⟨.inl ⟨_,SqL.of hxs⟩,_,hxs,sz,?_⟩;have SH2:Fx_ S (upd H' R (.lst (xs.map V.ref++[.ref h]))):=aL_ SH SR;have e2:upd H' R (.lst (xs.map V.ref++[.ref h])) R=some (.lst (xs.map V.ref++[.ref h])):=aa_;generalize upd H' R (.lst (xs.map V.ref++[.ref h]))=H2 at SH2 e2 ⊢;refine ⟨_,_,_,l,m,h,as_,Tt,Pp,d,rfl,(hT.mono hS).mono SH2,(hm.mono hS).mono SH2,tw,P0,SH2 _ _ hh,wa.1,fun q2 H3 d2 s3 hq2 hd2 nx2=>⟨⟨grow S H2 H3,xs++[h],cs++[d],q2,rfl,hS.trans (cC_ SH2),?_,iy_ SH2 s3,?_,?_,d2,?_,.more wy nx2,?_,?_⟩,?_⟩⟩
     ·rw [eI_ e2];exact SR
     ·rw [Aq_];exact s3 _ _ e2
     ·exact Cs.snoc (cC_ SH2 _ _ hh) (hcs.mono (cC_ SH2))
     ·rw [ix_ hq2];exact hd2
     ·cases cs with
      | nil=>exact absurd rfl (kK_ wy)
      | cons a b=>exact hd0
     ·rw [AK_];refine ⟨nd,by simp,fun a ha b hb ab=>?_⟩;rw [Ak_.mp hb] at ab;exact dn (ab ▸ ha)
     ·rw [s3 _ _ e2,hxs];simp only [Af_,Ab_,AQ_];lia
def Gs_ (T:List (List Nat))(P n:Nat):List (Nat×Nat):=(List.range n).flatMap fun p=>(List.range (rl T p+(if p<P then 1 else 0))).map fun k=>(p,k)
theorem c5_ (T:List (List Nat))(P n:Nat):Gs_ T P (n+1)=Gs_ T P n++(List.range (rl T n+(if n<P then 1 else 0))).map fun k=>(n,k):=by unfold Gs_;rw [CQ_,Fc_];simp
theorem gt_ (T:List (List Nat))(P:Nat){n:Nat}:∀ {m:Nat},n<=m->(Gs_ T P n).length<=(Gs_ T P m).length
 | 0,h=>by rw [Nat.le_zero.mp h];exact Aj_ _
 | m+1,h=>by
  by_cases e:n=m+1
  ·rw [e];exact Aj_ _
  ·have:=gt_ T P (n:=n) (m:=m) (by lia);rw [c5_,Af_];lia
theorem or_ {H:Hp}:∀ {vs:List V}{cs:List (Nat×Nat)},F0_ H vs (cs.map dC)->∃ xs:List Addr,vs=xs.map V.ref/\Cs H xs cs
 | [],[],_=>⟨[],rfl,trivial⟩
 | v::vs,c::cs,h=>by
  obtain ⟨x,r,e,hx,hr⟩:=h;cases e;obtain ⟨q,ys,e1,hq,a,b,e2,ha,a2,b2,e3,ha2,e4⟩:=hx;cases ha;cases ha2;subst e1 e2 e3 e4;obtain ⟨xs,e5,hc⟩:=or_ hr;exact ⟨q::xs,by rw [e5];rfl,hq,hc⟩
 | [],_::_,h=>by obtain ⟨x,r,e,_⟩:=h;cases e
 | _::_,[],h=>by cases h
abbrev FZ_:Stmt:=stN 19
theorem dI_:FF_ ["_law_turns_here", "_law_posts", "_law_found", "_law_p"] ["_law_turns_here", "_law_posts"] (Fy_ FZ_):=⟨rfl,rfl,rfl,by rfl',rfl,by rfl',by rfl'⟩
theorem fF_:LK FZ_ "_law_turns_here" .local:=by rfl'
theorem iM_:LK FZ_ "_law_posts" .local:=by rfl'
theorem cu_:LK FZ_ "_law_found" .local:=by rfl'
theorem dJ_:LK FZ_ "_law_p" .cell:=by rfl'
theorem hz_:LK FZ_ "int" .globalImplicit:=by rfl'
theorem ep_:LK FZ_ "len" .globalImplicit:=by rfl'
theorem dq_:LK FZ_ "range" .globalImplicit:=by rfl'
def Hb_:Sp:=fun vs H Q _=>∃ (l:Addr)(as_:List Addr)(T:List (List Nat))(P:Nat),vs=[.ref l,.int P]/\Tn H l as_ T/\T.length<=16/\(corners T P).length<=900 /\
 ∀ R H',Fx_ H H'->Rep (Hm_ H H') (.ref R) (.lst ((corners T P).map dC))->Q (.ref R) H'
theorem kt_ (T:Txt K mg)(F:Fn0 K mg "_law_corners" FZ_):Cal P w K mg base "_law_corners" ["_law_turns_here", "_law_posts"] 1 Hb_:=by
 refine a1_ F dI_ (fun _ _ _ _ _ _=>byL2 fun _ _=>rfl) ?len ?body
 case len=>rintro vs H Q E ⟨l,as_,T,P,rfl,_⟩;rfl
 case body =>
  intro f cdv A outer s H vs Q E hr h;obtain ⟨l,as_,Tt,Pp,rfl,hT,t16,c9,k⟩:=h;refine' ⟨_,?D,?R⟩
  case D =>
   refine' ai_ (ah_ (i:=2) dI_.nd rfl cu_ (bo_ ab_)) ?g2
   case' g2=>refine' ai_ (aZ_ AA_ rfl (aC_ dq_ T.n_range (pa_c (am_ ao_ ep_ T.n_len aX_ (pa_c (pv1 0 rfl fF_) ab_)) ab_)) ?g8 ?g9) (aj_ (aB_ (pv1 2 rfl cu_)))
   case g8=>exact eH_ (i:=3) dI_.nd rfl dJ_ rfl
   case' g9=>refine' aj_ (ah_ (i:=2) dI_.nd rfl cu_ (Fz_ fu_ (pv1 2 rfl cu_) (cA_ (N':=["_law_k", "_law_p"]) (ix:=[none,some 3]) rfl rfl (cB_ ?g20) (aC_ dq_ T.n_range ?g25) (fun _ _ _=>?g22) (fun _ _ _=>?g23) (fun _ _ _=>(aq_ (pa_c (pvc 1 rfl rfl) (pa_c (pv1 0 rfl rfl) ab_)))))))
   case g20=>exact (by show Hx_ (Fy_ FZ_) ["_law_turns_here", "_law_posts", "_law_found", "_law_p"] _ _ _=true;decide +kernel)
   case' g25=>refine' pa_c (Fz_ aK_ (am_ ao_ ep_ T.n_len aX_ (pa_c (FG_ ar_ (pv1 0 rfl fF_) (pvc 3 rfl dJ_) (fun _ _=>rfl)) ab_)) (cs_ i8_ hz_ T.n_int ml_ (pa_c (im_ Iw_ (pvc 3 rfl dJ_) (pv1 1 rfl iM_) (FY_ _)) ab_))) ab_
   case g22=>exact ag_ (i:=0) (by show List.Nodup (["_law_k", "_law_p"]:List Str);decide +kernel) rfl rfl
   case g23=>exact d6_
  case R =>
   nofun;refine ⟨by decide,fun R hR=>?_⟩;have s0:Fx_ H (upd H R (.lst [])):=Fx_.new hR;refine ⟨_,.inl (s0 _ _ hT.top),?_⟩;rw [Ab_,hT.len];refine ⟨by lia,by lia,?_⟩;rw [AE_];refine ip_ (fun i σ H'=>∃ (R:Addr)(e:Option V),σ=[some (.ref l),some (.int Pp),some (.ref R),e]/\Fx_ H H'/\Rep (Hm_ H H') (.ref R) (.lst ((Gs_ Tt Pp i).map dC))) ?_ ?_ ?_
   ·refine ⟨R,none,rfl,s0,R,[],rfl,?_,rfl⟩;rw [dF_ hR,aa_]
   ·rintro i σ H' hi ⟨R,e,rfl,sH,rep⟩;nofun;have hT':=hT.mono sH;obtain ⟨a,ea,at0,ra⟩:=hT'.at_ hi;rw [Cn_];refine ⟨_,hT'.top,_,at0,_,rfl,_,.inl ra,?_⟩;right
    have eN:(((Tt.getD i []).map fun n:Nat=>V.int n).length:Int)+(if (i:Int)<(Pp:Int) then 1 else 0)=((rl Tt i+(if i<Pp then 1 else 0):Nat):Int):=by
     rw [Ab_];unfold rl;by_cases z:i<Pp
     ·rw [if_pos (by lia),if_pos z];lia
     ·rw [if_neg (by lia),if_neg z];lia
    rw [eN];have c1:=gt_ Tt Pp (n:=i+1) (m:=Tt.length) hi;have c2:(Gs_ Tt Pp Tt.length).length<=900:=c9;rw [c5_,Af_,Ab_,Bl_] at c1;clear eN;generalize hN:rl Tt i+(if i<Pp then 1 else 0)=N at c1 ⊢;refine ⟨by lia,by lia,?_⟩;obtain ⟨R',vs,eR,hR',reps⟩:=rep;cases eR;obtain ⟨nR,hR1⟩:=bq_ hR';have lv:=reps.length;rw [Ab_] at lv;refine dH_ (n:=N) (B:=H) (Pσ:=fun σ=>∃ e,σ=[e,some (.int i)]) (ds:=((List.range N).map fun k=>(i,k)).map dC) sH ⟨none,rfl⟩ (by simp) (by lia) (fun j H2 hj s2=>by show j<Int.toNat _;lia) (fun H2 s2=>by show Int.toNat _<=_;lia) ?_ ?_
    ·rintro D j z d σ' H2 H2' hD hDo hs2 hj hdj ⟨rfl,rfl⟩ ⟨e2,rfl⟩ R2 kR;nofun;refine ⟨by decide,fun p hp=>kR _ _ _ ⟨_,rfl⟩ (Fx_.new hp) ?_⟩;have:d=dC (i,j):=by rw [Bf_,Ag_,B2_ hj] at hdj;exact (Aw_ hdj).symm
     rw [this];refine mT_ ?_;obtain ⟨oD,hoD⟩:=hDo;rw [dG_ (fun z=>by rw [z,hoD] at hp;cases hp) ((sH.trans hs2).free hp),aa_];show some (HO.tup [V.int i,V.int (0+(j:Int))])=some (HO.tup [V.int i,V.int j]);rw [Cn_]
    ·intro D H2 hD s2 rep2;obtain ⟨D',ws,eD,hD',reps2⟩:=rep2;cases eD;obtain ⟨nD,hD1⟩:=bq_ hD';have lw:=reps2.length;rw [Ab_,Ab_,Bl_] at lw;refine ⟨_,rfl,_,s2 _ _ hR1,_,hD1,AJ_ (Fw_ (show vs.length+ws.length<=1000 by rw [lv,lw];lia)),fun p hp=>⟨(sH.trans s2).trans (Fx_.new hp),p,vs++ws,rfl,?_,?_⟩⟩
     ·rw [dF_ ((sH.trans s2).free hp),aa_]
     ·rw [c5_,hN,Aq_];exact (F0_.mono (jp_ (s2.trans (Fx_.new hp))) _ reps).append (F0_.mono (jp_ (Fx_.new hp)) _ reps2)
   ·rintro σ H' ⟨R,e,rfl,sH,rep⟩;nofun;exact k R H' sH rep
def Dn (p k:Nat)(e:Nat×Nat):Prop:=e.1<p\/(e.1=p/\e.2<k)
theorem os_ {a b:Nat×Nat}(h:cK a=cK b):a=b:=by
 unfold cK at h;injection h with h1 h2
 injection h2 with h2 _
 injection h1 with h1
 injection h2 with h2
 exact A9_ (by lia) (by lia)
structure Mi {α:Type}(ky:α->Key)(T:List (List α))(S:Hp)(D:Nat×Nat->Prop)(k1:List (Key×V))(k2:List (List Key×V)):Prop where
 fi:∀ w:α,(∃ c q,D c/\wi T c=some w/\F9_ k1 (ky w)=some (.ref q)/\S q=some (cV c))\/((∀ c,D c->wi T c≠some w)/\F9_ k1 (ky w)=none)
 ma:∀ a b,G3_ T a b->D a->D b->∃ q,F9_ k2 (cK a)=some (.ref q)/\S q=some (cV b)
theorem Mi.mono {α:Type}{ky:α->Key}{T:List (List α)}{S S':Hp}{D:Nat×Nat->Prop}{k1:List (Key×V)}{k2:List (List Key×V)}(h:Mi ky T S D k1 k2)(s:Fx_ S S'):Mi ky T S' D k1 k2 :=
 ⟨fun w=>(h.fi w).imp (fun ⟨c,q,a,b,d,e⟩=>⟨c,q,a,b,d,s _ _ e⟩) id,fun a b m x y=>(h.ma a b m x y).elim fun q z=>⟨q,z.1,s _ _ z.2⟩⟩
theorem Mi.imp {α:Type}{ky:α->Key}{T:List (List α)}{S:Hp}{D D':Nat×Nat->Prop}{k1:List (Key×V)}{k2:List (List Key×V)}(h:Mi ky T S D k1 k2)(i:∀ c w,wi T c=some w->(D c ↔ D' c)):Mi ky T S D' k1 k2 :=
 ⟨fun w=>(h.fi w).imp (fun ⟨c,q,a,b,d,e⟩=>⟨c,q,(i c _ b).mp a,b,d,e⟩) (fun ⟨a,b⟩=>⟨fun c x y=>a c ((i c _ y).mpr x) y,b⟩),fun a b m x y=>by obtain ⟨_,w,wa,wb⟩:=id m;exact h.ma a b m ((i a _ wa).mpr x) ((i b _ wb).mpr y)⟩
theorem Mi.new {α:Type}[DecidableEq α]{ky:α->Key}{T:List (List α)}{S:Hp}{D:Nat×Nat->Prop}{k1:List (Key×V)}{k2:List (List Key×V)}(h:Mi ky T S D k1 k2){c0:Nat×Nat}{w:α}{q0:Addr}(inj:∀ a b,ky a=ky b->a=b)(hw:wi T c0=some w)(hn:F9_ k1 (ky w)=none)(h0:S q0=some (cV c0)) :
  Mi ky T S (fun c=>D c\/c=c0) (Ge_ k1 (ky w) (.ref q0)) k2:=by
 have no:∀ c,D c->wi T c≠some w:=by
  rcases h.fi w with ⟨c,q,_,_,e,_⟩|⟨a,_⟩
  ·rw [hn] at e;cases e
  ·exact a
 refine ⟨fun w'=>?_,fun a b m x y=>?_⟩
 ·rw [aE_];by_cases e:w'=w
  ·subst e;exact .inl ⟨c0,q0,.inr rfl,hw,by rw [if_pos rfl],h0⟩
  ·rw [if_neg (fun z=>e (inj _ _ z))]
   rcases h.fi w' with ⟨c,q,a,b,d,f⟩|⟨a,b⟩
   ·exact .inl ⟨c,q,.inl a,b,d,f⟩
   ·refine .inr ⟨fun c hc hcw=>?_,b⟩
    rcases hc with hc|hc
    ·exact a c hc hcw
    ·rw [hc,hw] at hcw;cases hcw;exact e rfl
 ·obtain ⟨ne,w',wa,wb⟩:=id m
  rcases x with x|x <;> rcases y with y|y
  ·exact h.ma a b m x y
  ·rw [y,hw] at wb;cases wb;exact absurd wa (no a x)
  ·rw [x,hw] at wa;cases wa;exact absurd wb (no b y)
  ·exact absurd (x.trans y.symm) ne
theorem Mi.old {α:Type}[DecidableEq α]{ky:α->Key}{T:List (List α)}{S:Hp}{D:Nat×Nat->Prop}{k1:List (Key×V)}{k2:List (List Key×V)}(tw:Tw T)(h:Mi ky T S D k1 k2){c0 c:Nat×Nat}{w:α}{q q0:Addr}(hw:wi T c0=some w)(hD:¬ D c0)(hc:D c)(hcw:wi T c=some w)(hq:S q=some (cV c))(h0:S q0=some (cV c0)) :
  Mi ky T S (fun c=>D c\/c=c0) k1 (Ge_ (Ge_ k2 (cK c0) (.ref q)) (cK c) (.ref q0)):=by
 have ne:c≠c0:=fun z=>hD (z ▸ hc);have m0:G3_ T c c0:=⟨ne,w,hcw,hw⟩;refine ⟨fun w'=>?_,fun a b m x y=>?_⟩
 ·rcases h.fi w' with ⟨c,q,a,b,d,f⟩|⟨a,b⟩
  ·exact .inl ⟨c,q,.inl a,b,d,f⟩
  ·refine .inr ⟨fun c' hc' hcw'=>?_,b⟩
   rcases hc' with hc'|hc'
   ·exact a c' hc' hcw'
   ·rw [hc',hw] at hcw';cases hcw';exact a c hc hcw
 ·rw [aE_,aE_];by_cases e1:a=c
  ·subst e1;rw [if_pos rfl,dz_ tw m m0];exact ⟨q0,rfl,h0⟩
  ·rw [if_neg (fun z=>e1 (os_ z))];by_cases e2:a=c0
   ·subst e2;rw [if_pos rfl,dz_ tw m m0.symm];exact ⟨q,rfl,hq⟩
   ·rw [if_neg (fun z=>e2 (os_ z))];have da:=x.resolve_right e2
    rcases y with y|y
    ·exact h.ma a b m da y
    ·rw [y] at m;exact absurd (dz_ tw m.symm m0.symm) e1
structure MS (H S H':Hp)(F M:Addr)(k1:List (Key×V))(k2:List (List Key×V)):Prop where
 hS:Fx_ H S
 sF:S F=none
 sM:S M=none
 sH:Fx_ S H'
 f:H' F=some (.dK k1)
 m:H' M=some (.dT k2)
theorem MS.new {H S H':Hp}{F M p:Addr}{o:HO}{k1:List (Key×V)}{k2:List (List Key×V)}(h:MS H S H' F M k1 k2)(hp:H' p=none):MS H (upd S p o) (upd H' p o) F M k1 k2:=by
 have nF:F≠p:=fun z=>by rw [<-z,h.f] at hp;cases hp
 have nM:M≠p:=fun z=>by rw [<-z,h.m] at hp;cases hp
 exact ⟨h.hS.trans (a2_ h.sH hp),by rw [af_ nF];exact h.sF,by rw [af_ nM];exact h.sM,fy_ h.sH hp,by rw [af_ nF];exact h.f,by rw [af_ nM];exact h.m⟩
theorem MS.ne {H S H':Hp}{F M:Addr}{k1:List (Key×V)}{k2:List (List Key×V)}(h:MS H S H' F M k1 k2):F≠M:=fun z=>by have:=h.f;rw [z,h.m] at this;cases this
theorem MS.putF {H S H':Hp}{F M:Addr}{k1:List (Key×V)}{k2:List (List Key×V)}(h:MS H S H' F M k1 k2)(k1':List (Key×V)):MS H S (upd H' F (.dK k1')) F M k1' k2 :=
 ⟨h.hS,h.sF,h.sM,aL_ h.sH h.sF,aa_,by rw [af_ h.ne.symm];exact h.m⟩
theorem MS.putM {H S H':Hp}{F M:Addr}{k1:List (Key×V)}{k2:List (List Key×V)}(h:MS H S H' F M k1 k2)(k2':List (List Key×V)):MS H S (upd H' M (.dT k2')) F M k1 k2' :=
 ⟨h.hS,h.sF,h.sM,aL_ h.sH h.sM,by rw [af_ h.ne];exact h.f,aa_⟩
abbrev Gf_:Stmt:=stN 18
theorem dr_:FF_ ["_law_turns_here", "_law_first", "_law_mates_here", "_law_p", "_law_k", "_law_wire"] ["_law_turns_here"] (Fy_ Gf_):=⟨rfl,rfl,rfl,by rfl',rfl,by rfl',by rfl'⟩
theorem e5_:LK Gf_ "_law_turns_here" .local:=by rfl'
theorem cF_:LK Gf_ "_law_first" .local:=by rfl'
theorem dK_:LK Gf_ "_law_mates_here" .local:=by rfl'
theorem bX_:LK Gf_ "_law_p" .local:=by rfl'
theorem cG_:LK Gf_ "_law_k" .local:=by rfl'
theorem cH_:LK Gf_ "_law_wire" .local:=by rfl'
theorem fG_:LK Gf_ "len" .globalImplicit:=by rfl'
theorem eq_:LK Gf_ "range" .globalImplicit:=by rfl'
def Hf_:Sp:=fun vs H Q _=>∃ (α:Type)(_:DecidableEq α)(lab:α->V)(ky:α->Key)(l:Addr)(as_:List Addr)(T:List (List α)),vs=[.ref l]/\(∀ w,lab w=kV (ky w))/\(∀ a b,ky a=ky b->a=b)/\Tg lab H l as_ T/\Tw T/\T.length<=16/\(∀ p,rl T p<=30)/\∀ m H',Fx_ H H'->H m=none->Gu_ H' m T->Q (.ref m) H'
theorem mU_ (T:Txt K mg)(F:Fn0 K mg "_law_mates" Gf_):Cal P w K mg base "_law_mates" ["_law_turns_here"] 1 Hf_:=by
 refine a1_ F dr_ (fun _ _ _ _ _ _=>byL1 fun _=>rfl) ?len ?body
 case len=>rintro vs H Q E ⟨_,_,_,_,l,as_,T,rfl,_⟩;rfl
 case body =>
  intro f cdv A outer s H vs Q E hr h;obtain ⟨α,dec,lab,ky,l,as_,Tt,rfl,hlab,inj,hT,tw,t16,r30,k⟩:=h;refine' ⟨_,?D,?R⟩
  case D =>
   refine' ai_ ?g1 (ai_ ?g3 ?g4)
   case g1=>exact ah_ (i:=1) dr_.nd rfl cF_ iz_
   case g3=>exact ah_ (i:=2) dr_.nd rfl dK_ fz_
   case' g4=>refine' ai_ (aZ_ AA_ rfl (aC_ eq_ T.n_range (pa_c (am_ ao_ fG_ T.n_len aX_ (pa_c (pv1 0 rfl e5_) ab_)) ab_)) ?g8 ?g9) (aj_ (aB_ (pv1 2 rfl dK_)))
   case g8=>exact ag_ (i:=3) dr_.nd rfl bX_
   case' g9=>refine' aj_ (aZ_ AA_ rfl ?g17 ?g18 (ac_ (ah_ (i:=5) dr_.nd rfl cH_ (FG_ ar_ (FG_ ar_ (pv1 0 rfl e5_) (pv1 3 rfl bX_) (fun _ _=>rfl)) (pv1 4 rfl cG_) (fun _ _=>rfl))) ?g29))
   case' g17=>refine' aC_ eq_ T.n_range (pa_c (am_ ao_ fG_ T.n_len aX_ (pa_c (FG_ ar_ (pv1 0 rfl e5_) (pv1 3 rfl bX_) (fun _ _=>rfl)) ab_)) ab_)
   case g18=>exact ag_ (i:=4) dr_.nd rfl cG_
   case' g29=>refine' aj_ (Gp_ (hf_ (pM_ (un1 hr.units) (pv1 5 rfl cH_) (pv1 1 rfl cF_))) ?g37 (aj_ (c4_ (un1 hr.units) (pv1 1 rfl cF_) (pv1 5 rfl cH_) (aq_ (pa_c (pv1 3 rfl bX_) (pa_c (pv1 4 rfl cG_) ab_))) rfl)))
   case' g37=>refine' ac_ (c4_ (un1 hr.units) (pv1 2 rfl dK_) (aq_ (pa_c (pv1 3 rfl bX_) (pa_c (pv1 4 rfl cG_) ab_))) (c3_ (un1 hr.units) (pv1 1 rfl cF_) (pv1 5 rfl cH_) (fun _ _=>rfl)) rfl) ?g42
   case' g42=>refine' aj_ (c4_ (un1 hr.units) (pv1 2 rfl dK_) (c3_ (un1 hr.units) (pv1 1 rfl cF_) (pv1 5 rfl cH_) (fun _ _=>rfl)) (aq_ (pa_c (pv1 3 rfl bX_) (pa_c (pv1 4 rfl cG_) ab_))) rfl)
  case R =>
   nofun;intro Fd hFd Md hMd;have s0:Fx_ H (upd (upd H Fd (HO.dK [])) Md (HO.dT [])):=(Fx_.new hFd).trans (Fx_.new hMd);have nF:Fd≠Md:=fun z=>by rw [<-z,aa_] at hMd;cases hMd
   have hM0:H Md=none:=(Fx_.new hFd).free hMd;have ms0:MS H H (upd (upd H Fd (HO.dK [])) Md (HO.dT [])) Fd Md [] []:=⟨Fx_.refl _,hFd,hM0,s0,by rw [af_ nF];exact aa_,aa_⟩;generalize upd (upd H Fd (HO.dK [])) Md (HO.dT [])=H0 at s0 ms0 ⊢;refine ⟨_,.inl (s0 _ _ hT.top),?_⟩;rw [Ab_,hT.len];refine ⟨by lia,by lia,?_⟩;rw [AE_];refine a3_ (fun i σ H'=>∃ (S:Hp)(k1:List (Key×V))(k2:List (List Key×V))(e3 e4 e5:Option V),σ=[some (.ref l),some (.ref Fd),some (.ref Md),e3,e4,e5]/\MS H S H' Fd Md k1 k2/\Mi ky Tt S (Dn i 0) k1 k2/\k1.length<=30*i/\k2.length<=60*i) ?_ ?_ ?_
   ·refine ⟨H,[],[],_,_,_,rfl,ms0,⟨fun w=>.inr ⟨fun c hc=>?_,rfl⟩,fun a b m x y=>?_⟩,Aj_ _,Aj_ _⟩
    ·rcases hc with z|z <;> lia
    ·rcases x with z|z <;> lia
   ·rintro i σ H' hi kc kb hkc hkb G hG ⟨S,k1,k2,e3,e4,e5,rfl,ms,mi,l1,l2⟩;refine hG ?_;have hT1:=(hT.mono ms.hS).mono ms.sH;obtain ⟨a,ea,at0,ra⟩:=hT1.at_ hi;nofun;rw [Cn_];refine ⟨_,hT1.top,_,at0,_,rfl,_,.inl ra,?_⟩;rw [Ab_];have r3:=r30 i;unfold rl at r3;refine ⟨by lia,by lia,?_⟩;rw [AE_];refine a3_ (fun j σ H'=>∃ (S:Hp)(k1:List (Key×V))(k2:List (List Key×V))(e4 e5:Option V),σ=[some (.ref l),some (.ref Fd),some (.ref Md),some (.int i),e4,e5]/\MS H S H' Fd Md k1 k2/\Mi ky Tt S (Dn i j) k1 k2/\k1.length<=30*i+j/\k2.length<=60*i+2*j) ?_ ?_ ?_
    ·exact ⟨S,k1,k2,_,_,rfl,ms,mi,by lia,by lia⟩
    ·clear ms mi l1 l2 hT1 ra ea at0 a k1 k2 S;rintro j σ H' hj kc2 kb2 hkc2 hkb2 G2 hG2 ⟨S,k1,k2,e4,e5,rfl,ms,mi,l1,l2⟩;refine hG2 ?_;have hT1:=(hT.mono ms.hS).mono ms.sH;obtain ⟨a,ea,at0,ra⟩:=hT1.at_ hi;nofun;simp only [Cn_];obtain ⟨w,hw⟩:∃ w,(Tt.getD i [])[j]?=some w:=⟨_,Aa_ hj⟩;have hwi:wi Tt (i,j)=some w:=hw;have i16:i<16:=by lia
     have nD:¬ Dn i j (i,j):=by unfold Dn;lia
     have eD:∀ c w',wi Tt c=some w'->((Dn i j c\/c=(i,j)) ↔ Dn i (j+1) c):=fun c w' _=>by
      unfold Dn;constructor
      ·rintro ((z|⟨z,z2⟩)|z)
       ·exact .inl z
       ·exact .inr ⟨z,by lia⟩
       ·rw [z];exact .inr ⟨rfl,C4_ _⟩
      ·rintro (z|⟨z,z2⟩)
       ·exact .inl (.inl z)
       ·by_cases y:c.2=j
        ·exact .inr (A9_ z y)
        ·exact .inl (.inr ⟨z,by lia⟩)
     refine ⟨_,hT1.top,_,at0,_,rfl,_,ra,kV (ky w),?_,?_⟩
     ·exact fv_ (by lia) (by rw [AE_,Ag_,hw,Cs_,hlab])
     nofun;refine ⟨_,GP_.k (k:=ky w) ms.f,?_⟩
     rcases mi.fi w with ⟨c,q,dc,wc,hv,hq⟩|⟨no,hv⟩
     ·rw [if_pos (by rw [hv];rfl)];nofun;refine ⟨.ref q,hv ▸ GP_.k (k:=ky w) ms.f,by decide,fun p hp=>?_⟩;have ms1:=ms.new (o:=cV (i,j)) hp;have ms2:=ms1.putM (Ge_ k2 (cK (i,j)) (.ref q));have z1:=aH_ k2 (cK (i,j)) (.ref q);refine ⟨_,Hq_.t (k:=cK (i,j)) ms1.m aa_ (Fw_ (by lia)),?_⟩;nofun;refine ⟨by decide,fun q0 hq0=>?_⟩;have ms3:=ms2.new (o:=cV (i,j)) hq0;have mi3:=(mi.mono (a2_ (o:=cV (i,j)) ms.sH hp)).mono (a2_ (o:=cV (i,j)) ms2.sH hq0);have hqS:=a2_ (o:=cV (i,j)) ms2.sH hq0 _ _ (a2_ (o:=cV (i,j)) ms.sH hp _ _ hq);have z2:=aH_ (Ge_ k2 (cK (i,j)) (.ref q)) (cK c) (.ref q0);refine ⟨.ref q,hv ▸ GP_.k (k:=ky w) ms3.f,_,Hq_.t (k:=cK c) ms3.m (ms3.sH _ _ hqS) (Fw_ (by lia)),?_⟩;exact hkc2 _ _ ⟨_,_,_,_,_,rfl,ms3.putM _,(Mi.old tw mi3 hwi nD dc wc hqS aa_).imp eD,by lia,by lia⟩
     ·rw [if_neg (by rw [hv];decide)];refine ⟨by decide,fun q0 hq0=>?_⟩;have ms1:=ms.new (o:=cV (i,j)) hq0;have z1:=aH_ k1 (ky w) (.ref q0);refine ⟨_,Hq_.k (k:=ky w) ms1.f (Fw_ (by lia)),?_⟩;exact hkc2 _ _ ⟨_,_,_,_,_,rfl,ms1.putF _,((mi.mono (a2_ ms.sH hq0)).new inj hwi hv aa_).imp eD,by lia,by lia⟩
    ·rintro σ H' ⟨S,k1,k2,e4,e5,rfl,ms,mi,l1,l2⟩;refine hkc _ _ ⟨S,k1,k2,_,_,_,rfl,ms,mi.imp fun c w hw=>?_,by lia,by lia⟩;have:=(F7_ hw).1;unfold rl at this;unfold Dn;constructor
     ·rintro (z|⟨z,z2⟩)
      ·exact .inl (by lia)
      ·exact .inl (by lia)
     ·rintro (z|⟨z,z2⟩)
      ·by_cases y:c.1=i
       ·rw [y] at this;exact .inr ⟨y,this⟩
       ·exact .inl (by lia)
      ·lia
   ·rintro σ H' ⟨S,k1,k2,e3,e4,e5,rfl,ms,mi,l1,l2⟩;nofun;refine k Md H' (ms.hS.trans ms.sH) hM0 ⟨k2,ms.m,fun a b m=>?_⟩;obtain ⟨ne,w,wa,wb⟩:=id m;obtain ⟨q,h1,h2⟩:=mi.ma a b m (.inl (F7_ wa).2) (.inl (F7_ wb).2);exact ⟨q,h1,ms.sH _ _ h2⟩
structure To (B H:Hp)(l:Addr)(as_:List Addr)(T:List (List Nat)):Prop where
 tn:Tn H l as_ T
 nd:as_.Nodup
 nl:l∉as_
 fl:B l=none
 fa:∀ a∈as_,B a=none
theorem To.mono {B H H':Hp}{l:Addr}{as_:List Addr}{T:List (List Nat)}(h:To B H l as_ T)(s:Fx_ H H'):To B H' l as_ T:=⟨h.tn.mono s,h.nd,h.nl,h.fl,h.fa⟩
theorem ku_ (n p:Nat):(List.replicate n ([]:List Nat)).getD p []=[]:=by rw [Ad_,En_];split <;> rfl
theorem Jr_ (T:List (List Nat))(p:Nat):rl T p<=T.flatten.length:=by
 unfold rl;rw [Ad_];cases e:T[p]? with
 | none=>exact Ay_ _
 | some l =>
  obtain ⟨hp,e1⟩:=Ae_.mp e;have h2:T.flatten.length=(T.take p).flatten.length+(T.drop p).flatten.length:=by rw [<-Af_,<-A4_,Bz_]
  rw [BR_ hp,e1,AP_,Af_] at h2;show l.length<=_;lia
theorem both {c1:Prop}[Decidable c1]{α:Type}{C:α->Prop}{c2:α->Prop}[∀ x,Decidable (c2 x)]{X:α->Prop}{Y:Prop}(a:α)(ha:C a)(hX:c1->c2 a->X a)(hY:Y):if c1 then ∃ x,C x/\(if c2 x then X x else Y) else Y:=by
 by_cases h1:c1
 ·rw [if_pos h1];refine ⟨a,ha,?_⟩;by_cases h2:c2 a
  ·rw [if_pos h2];exact hX h1 h2
  ·rw [if_neg h2];exact hY
 ·rw [if_neg h1];exact hY
theorem kv_ (l:List Nat)(k wire:Nat):(l.map fun n:Nat=>V.int n).take k++V.int (0+(wire:Nat))::(l.map fun n:Nat=>V.int n).drop k=(RimT.ins l k wire).map fun n:Nat=>V.int n:=by unfold RimT.ins;rw [Aq_,AG_,CN_,DN_,Cn_]
theorem To.ins {B H:Hp}{l:Addr}{as_:List Addr}{T:List (List Nat)}(h:To B H l as_ T){c:Nat×Nat}{a:Addr}(ha:as_[c.1]?=some a)(wire:Nat):To B (upd H a (.lst ((RimT.ins (T.getD c.1 []) c.2 wire).map fun n:Nat=>V.int n))) l as_ (Gn_ T c wire):=by
 have la:l≠a:=fun e=>h.nl (by rw [e];exact Am_ ha);have cl:c.1<as_.length:=(Ae_.mp ha).1;refine ⟨⟨by rw [af_ la];exact h.tn.top,by rw [aF_];exact h.tn.len,fun p b hb=>?_⟩,h.nd,h.nl,h.fl,h.fa⟩;by_cases e:c.1=p
 ·subst e;rw [ha] at hb;cases hb;rw [aa_];unfold Gn_;rw [Ad_ (l:=T.set _ _),BJ_,if_pos rfl,if_pos (by rw [<-h.tn.len];exact cl)];rfl
 ·have ba:b≠a:=fun z=>by rw [z] at hb;exact e ((A2_ cl h.nd).mp (ha.trans hb.symm))
  rw [af_ ba,h.tn.row p b hb];unfold Gn_;rw [Ad_ (l:=T.set _ _),BJ_,if_neg e,<-Ad_]
theorem To.more {B H:Hp}{l:Addr}{as_:List Addr}{T:List (List Nat)}(h:To B H l as_ T)(sB:Fx_ B H){a:Addr}(na:H a=none)(r:List Nat):To B (upd (upd H a (.lst (r.map fun n:Nat=>V.int n))) l (.lst ((as_++[a]).map V.ref))) l (as_++[a]) (T++[r]):=by
 have la:l≠a:=ae_ h.tn.top na;have an:a∉as_:=fun z=>by obtain ⟨p,hp,e⟩:=AB_.mp z;have:=h.tn.row p a (by rw [Aa_ hp,e]);rw [na] at this;cases this
 refine ⟨⟨aa_,by simp [h.tn.len],fun p b hb=>?_⟩,AK_.mpr ⟨h.nd,by simp,fun x hx y hy e=>an (by rw [<-Ak_.mp hy,<-e];exact hx)⟩,fun z=>?_,h.fl,fun b hb=>?_⟩
 ·have bl:b≠l:=fun e=>by
   rw [e] at hb
   rcases An_.mp (Am_ hb) with z|z
   ·exact h.nl z
   ·exact la (Ak_.mp z)
  rw [af_ bl];by_cases hp:p<as_.length
  ·rw [Al_ hp] at hb;have e:=h.tn.row p b hb;rw [af_ (fun z=>by rw [z,na] at e;cases e),e,Ad_,Ad_,Al_ (by rw [<-h.tn.len];exact hp)]
  ·rw [Ao_ (by lia)] at hb;have e:=Ak_.mp (Am_ hb);have hz:p=as_.length:=by have:=(Ae_.mp hb).1;simp at this;lia
   rw [e,aa_,hz,h.tn.len,Ad_,Ao_ (Aj_ _)];simp
 ·rcases An_.mp z with z|z
  ·exact h.nl z
  ·exact la (Ak_.mp z)
 ·rcases An_.mp hb with z|z
  ·exact h.fa b z
  ·rw [Ak_.mp z];exact sB.free na
abbrev FQ_:Stmt:=stN 22
theorem a9_:FF_ ["_law_big_here", "_law_posts", "_law_many", "_law_within", "_law_turns_here", "_law_wire", "_law_corners_here", "_law_one", "_law_way", "_law_region_here", "_law_other", "_law_p", "_law_k"] ["_law_big_here", "_law_posts", "_law_many", "_law_within"] (Fy_ FQ_):=⟨rfl,rfl,rfl,by rfl',rfl,by rfl',by rfl'⟩
theorem a6_:LK FQ_ "_law_big_here" .local:=by rfl'
theorem dL_:LK FQ_ "_law_posts" .local:=by rfl'
theorem kw_:LK FQ_ "_law_many" .local:=by rfl'
theorem kx_:LK FQ_ "_law_within" .local:=by rfl'
theorem bj_:LK FQ_ "_law_turns_here" .local:=by rfl'
theorem dM_:LK FQ_ "_law_wire" .local:=by rfl'
theorem dN_:LK FQ_ "_law_corners_here" .local:=by rfl'
theorem cI_:LK FQ_ "_law_one" .local:=by rfl'
theorem hA_:LK FQ_ "_law_way" .local:=by rfl'
theorem dO_:LK FQ_ "_law_region_here" .local:=by rfl'
theorem gu_:LK FQ_ "_law_other" .local:=by rfl'
theorem gv_:LK FQ_ "_law_p" .local:=by rfl'
theorem gw_:LK FQ_ "_law_k" .local:=by rfl'
theorem fH_:LK FQ_ "_law_corners" .globalImplicit:=by rfl'
theorem gK_:LK FQ_ "_law_mates" .globalImplicit:=by rfl'
theorem f9_:LK FQ_ "_law_region" .globalImplicit:=by rfl'
theorem bP_:LK FQ_ "len" .globalImplicit:=by rfl'
theorem er_:LK FQ_ "range" .globalImplicit:=by rfl'
theorem gL_:LK FQ_ "sorted" .globalImplicit:=by rfl'
def Ib_:Sp:=fun vs H Q _=>∃ (z:Int)(P W:Nat),vs=[.int z,.int P,.int W,.int 10]/\1<=P/\P<=6/\W<=15 /\
 ∀ (p l:Addr)(as_:List Addr)(T:List (List Nat))(y:Int) H',Fx_ H H'->H' p=some (.tup [.ref l,.int y])->To H H' l as_ T->Gr P W T->Q (.ref p) H'
theorem mV_ (T:Txt K mg)(F:Fn0 K mg "_law_grown" FQ_) (Ix_:Cal P w K mg base "_law_corners" ["_law_turns_here", "_law_posts"] 1 Hb_) (Hh_:Cal P w K mg base "_law_mates" ["_law_turns_here"] 1 Hf_) (I6_:Cal P w K mg base "_law_region" ["_law_turns_here", "_law_posts", "_law_mates_here", "_law_corner"] 2 Hp_):Cal P w K mg base "_law_grown" ["_law_big_here", "_law_posts", "_law_many", "_law_within"] 3 Ib_:=by
 refine a1_ F a9_ (fun _ _ _ _ _ _=>byL4 fun _ _ _ _=>rfl) ?len ?body
 case len=>rintro vs H Q E ⟨a,b,c,rfl,_⟩;rfl
 case body =>
  intro f cdv A outer s H vs Q E hr h;obtain ⟨z,Pp,W,rfl,P1,P6,W15,k⟩:=h;refine' ⟨_,?D,?R⟩
  case D =>
   refine' ac_ (it_ (i:=4) (N':=["_law_p"]) (ix:=[none]) rfl rfl a9_.nd rfl bj_ rfl (cB_ ?g3) (aC_ er_ T.n_range (pa_c (pv1 1 rfl dL_) ab_)) (fun _ _ _=>?g5) (fun _ _ _=>?g6) (fun _ _ _=>(bo_ ab_))) ?g2
   case g3=>exact (by show Hx_ (Fy_ FQ_) ["_law_big_here", "_law_posts", "_law_many", "_law_within", "_law_turns_here", "_law_wire", "_law_corners_here", "_law_one", "_law_way", "_law_region_here", "_law_other", "_law_p", "_law_k"] _ _ _=true;decide +kernel)
   case g5=>exact ag_ (i:=0) (by show List.Nodup (["_law_p"]:List Str);decide +kernel) rfl rfl
   case g6=>exact d6_
   case' g2=>refine' ai_ ?g12 (aj_ (aB_ (aq_ (pa_c (pv1 4 rfl bj_) (pa_c (pv1 0 rfl a6_) ab_)))))
   case' g12=>refine' aZ_ AA_ rfl (aC_ er_ T.n_range (pa_c (pv1 2 rfl kw_) ab_)) ?g15 (ac_ (ah_ (i:=6) a9_.nd rfl dN_ (al_ Ix_ (hr.mono (by decide)) fH_ (pa_c (pv1 4 rfl bj_) (pa_c (pv1 1 rfl dL_) ab_)))) ?g21)
   case g15=>exact ag_ (i:=5) a9_.nd rfl dM_
   case' g21=>refine' ac_ (ah_ (i:=7) a9_.nd rfl cI_ (FG_ ar_ (pv1 6 rfl dN_) (Fz_ aD_ (pv1 0 rfl a6_) (am_ ao_ bP_ T.n_len aX_ (pa_c (pv1 6 rfl dN_) ab_))) (fun _ _=>rfl))) ?g29
   case' g29=>refine' ac_ (ah_ (i:=0) a9_.nd rfl a6_ (Fz_ au_ (pv1 0 rfl a6_) (am_ ao_ bP_ T.n_len aX_ (pa_c (pv1 6 rfl dN_) ab_)))) ?g39
   case' g39=>refine' ac_ (ah_ (i:=8) a9_.nd rfl hA_ (Fz_ aD_ (pv1 0 rfl a6_) ad_)) (ac_ (ah_ (i:=0) a9_.nd rfl a6_ (Fz_ au_ (pv1 0 rfl a6_) ad_)) (aj_ ?g56))
   case' g56=>refine' Gp_ ?g57 (ac_ ?g73 (aj_ (aA_ (Gi_ Az_ AC_ AD_ az_ (pv1 4 rfl bj_) (pa_c (bo_ (pa_c (pv1 5 rfl dM_) ab_)) ab_))))) ?g59
   case' g57=>refine' PW.pt (pt_ (aG_ G0_ (pv1 8 rfl hA_) ad_ (FY_ _)) (oI_ (aG_ Iw_ (am_ ao_ bP_ T.n_len aX_ (pa_c (pv1 4 rfl bj_) ab_)) (Fz_ aK_ (pv1 1 rfl dL_) (pv1 3 rfl kx_)) (FY_ _))))
   case' g73=>refine' aA_ (Gi_ Az_ Eh_ Ei_ jw_ (FG_ ar_ (pv1 4 rfl bj_) (FG_ ap_ (pv1 7 rfl cI_) ad_ (fun _ _=>rfl)) (fun _ _=>rfl)) (pa_c (FG_ ap_ (pv1 7 rfl cI_) ad_ (fun _ _=>rfl)) (pa_c (pv1 5 rfl dM_) ab_)))
   case' g59=>refine' ac_ ?g97 (ac_ (ah_ (i:=10) a9_.nd rfl gu_ (FG_ ar_ (pv1 9 rfl dO_) (Fz_ aD_ (pv1 0 rfl a6_) (am_ ao_ bP_ T.n_len aX_ (pa_c (pv1 9 rfl dO_) ab_))) (fun _ _=>rfl))) ?g113)
   case' g97=>refine' ah_ (i:=9) a9_.nd rfl dO_ (al_ I6_ (hr.mono (by decide)) f9_ (pa_c (pv1 4 rfl bj_) (pa_c (pv1 1 rfl dL_) (pa_c (al_ Hh_ (hr.mono (by decide)) gK_ (pa_c (pv1 4 rfl bj_) ab_)) (pa_c (pv1 7 rfl cI_) ab_)))))
   case' g113=>refine' ac_ (ah_ (i:=0) a9_.nd rfl a6_ (Fz_ au_ (pv1 0 rfl a6_) (am_ ao_ bP_ T.n_len aX_ (pa_c (pv1 9 rfl dO_) ab_)))) ?g123
   case' g123=>refine' aj_ (aZ_ AA_ rfl ?g131 (aS_ (K:=K) (n:=2) rfl rfl (ak_ ?g144 (ak_ ?g146 aQ_))) ?g133)
   case' g131=>refine' aR_ (K:=K) rfl (ly_ hr.units gL_ T.n_sorted (pa_c (bo_ (pa_c (pv1 7 rfl cI_) (pa_c (pv1 10 rfl gu_) ab_))) ab_))
   case g144=>exact ag_ (i:=11) a9_.nd rfl gv_
   case g146=>exact ag_ (i:=12) a9_.nd rfl gw_
   case' g133=>refine' aj_ (aA_ (Gi_ Az_ Eh_ Ei_ jw_ (FG_ ar_ (pv1 4 rfl bj_) (pv1 11 rfl gv_) (fun _ _=>rfl)) (pa_c (pv1 12 rfl gw_) (pa_c (pv1 5 rfl dM_) ab_))))
  case R =>
   nofun;refine ⟨by lia,by lia,?_⟩;rw [show Int.toNat (Pp:Int)=Pp by lia];intro D hD;refine ⟨fun i m σ H'=>m=Pp-i/\i<=Pp/\(∃ e,σ=[e])/\Fx_ H H'/\∃ as_:List Addr,as_.length=i/\To H H' D as_ (List.replicate i []),⟨Pp,by simp,Ay_ _,⟨_,rfl⟩,Fx_.new hD,[],rfl,⟨⟨aa_,rfl,fun p a h=>(by cases h)⟩,Bc_,fun h=>(by cases h),hD,fun a h=>(by cases h)⟩⟩,?_⟩;rintro i m σ H' ⟨rfl,hi,⟨e,rfl⟩,s1,as_,al,hT⟩;by_cases hlt:i<Pp
   ·refine .inr ⟨hlt,fun σ2 H2=>(∃ e,σ2=[e])/\Fx_ H H2/\∃ as_:List Addr,as_.length=i+1/\To H H2 D as_ (List.replicate (i+1) []),fun σ2 H2 ⟨a,b,c⟩=>⟨Pp-(i+1),by lia,rfl,hlt,a,b,c⟩,?_⟩;rintro x H'' ⟨rfl,rfl⟩;nofun;refine ⟨Ay_ _,fun a na=>?_⟩;have fa:H a=none:=s1.free na;have Da:D≠a:=ae_ hT.tn.top na;refine ⟨as_.map V.ref,by rw [af_ Da];exact hT.tn.top,Fw_ (by rw [Ab_];lia),⟨_,rfl⟩,fun b o hb=>?_,as_++[a],by simp [al],?_⟩
    ·rw [af_ (ae_ hb hD),af_ (ae_ hb fa)];exact s1 _ _ hb
    ·have an:a∉as_:=fun h=>by obtain ⟨p,hp,e⟩:=AB_.mp h;have:=hT.tn.row p a (by rw [Aa_ hp,e]);rw [na] at this;cases this
     refine ⟨⟨by rw [aa_,Aq_];rfl,by simp [al],fun p b hb=>?_⟩,?_,?_,hD,fun b hb=>?_⟩
     ·have hbD:b≠D:=fun e=>by
       rw [e] at hb
       rcases An_.mp (Am_ hb) with h|h
       ·exact hT.nl h
       ·exact Da (Ak_.mp h)
      rw [af_ hbD];by_cases hp:p<as_.length
      ·rw [Al_ hp] at hb;have e:=hT.tn.row p b hb;rw [af_ (fun z=>by rw [z,na] at e;cases e),e,ku_,show ([]:List Nat)::List.replicate i []=List.replicate (i+1) [] from rfl,ku_]
      ·have e:b=a:=by rw [Ao_ (by lia)] at hb;have:=Am_ hb;exact Ak_.mp this
       rw [e,aa_,show ([]:List Nat)::List.replicate i []=List.replicate (i+1) [] from rfl,ku_];rfl
     ·exact AK_.mpr ⟨hT.nd,by simp,fun x hx y hy e=>an (by rw [<-Ak_.mp hy,<-e];exact hx)⟩
     ·intro h
      rcases An_.mp h with h|h
      ·exact hT.nl h
      ·exact Da (Ak_.mp h)
     ·rcases An_.mp hb with h|h
      ·exact hT.fa b h
      ·rw [Ak_.mp h];exact fa
   ·have e:i=Pp:=by lia
    subst e;refine .inl ⟨Aj_ _,?_⟩;nofun;refine ⟨by lia,by lia,?_⟩;rw [show Int.toNat (W:Int)=W by lia];refine a3_ (fun v σ H2=>∃ (z:Int)(e5 e6 e7 e8 e9 e10 e11 e12:Option V)(as_:List Addr)(T:List (List Nat)),σ=[some (.int z),some (.int i),some (.int W),some (.int 10),some (.ref D),e5,e6,e7,e8,e9,e10,e11,e12]/\Fx_ H H2/\To H H2 D as_ T/\Gr i v T) ⟨z,none,none,none,none,none,none,none,none,as_,_,rfl,s1,hT,nk_ i⟩ ?_ ?_
    ·rintro v σ H2 hv kc kb hkc hkb G hG ⟨z,e5,e6,e7,e8,e9,e10,e11,e12,as_,T,rfl,s2,hT,gr⟩;refine hG ?_;have hv':v<W:=hv;have gc:=gr.corners;have gl:=gr.len;have gm:=gr.most;nofun;refine ⟨D,as_,T,i,rfl,hT.tn,by lia,by lia,fun R H3 s3 repR=>?_⟩;obtain ⟨_,vs,e0,hR',hvs⟩:=id repR;cases e0;obtain ⟨nR,hR⟩:=bq_ hR';have hvl:vs.length=(corners T i).length:=by rw [hvs.length,Ab_]
     have c0:0<(corners T i).length:=by have:(0,0)∈corners T i:=bp_.mpr ⟨by show 0<T.length;lia,by show 0<_+(if 0<i then 1 else 0);rw [if_pos (by lia)];lia⟩;exact Ex_ this
     obtain ⟨j,hj,jl⟩:∃ j:Nat,z%(vs.length:Int)=j/\j<vs.length:=⟨(z%(vs.length:Int)).toNat,by have:=AW_ z (show (vs.length:Int)≠0 by lia);lia,by have:=AW_ z (show (vs.length:Int)≠0 by lia);have:=AU_ z (show (0:Int)<(vs.length:Int) by lia);lia⟩;obtain ⟨xs,ex,hcs⟩:=or_ (F0_.mono fx_ _ hvs);have ec:(corners T i)[j]?=some ((corners T i)[j]'(by lia)):=Aa_ _;obtain ⟨q,hxq,hq⟩:=hcs.get ec;have ic:IsC T i ((corners T i)[j]'(by lia)):=bp_.mp (A3_ _);generalize (corners T i)[j]'(by lia)=c at *
     have lg:((vs.length:Int)).natAbs.log2<9000:=by
      have:((vs.length:Int)).natAbs<=1000:=by lia
      by_cases h0:((vs.length:Int)).natAbs=0
      ·rw [h0];decide
      ·rw [EI_ h0];exact BG_ this (by rfl')
     nofun;refine ⟨vs,.inl hR,by lia,vs,hR,.ref q,?_,?_⟩
     ·rw [hj];refine fv_ (by lia) ?_;rw [AE_,ex,Ag_,hxq];rfl
     nofun;refine ⟨vs,.inl hR,by lia,lg,?_⟩;nofun;refine ⟨by decide,?_⟩;nofun;refine ⟨by decide,by rfl',?_⟩;nofun;have hT3:=hT.mono s3;have s23:=s2.trans s3;have cb:c.2<=rl T c.1:=by have:=ic.2;split at this <;> lia
     refine both (as_.map V.ref) (.inl hT3.tn.top) (fun h1 h2=>?_) ?_
     ·obtain ⟨a,ea,at0,ra⟩:=hT3.tn.at_ ic.1;have rw30:rl T c.1<=30:=by have:=Jr_ T c.1;rw [gr.tot] at this;lia
      have rln:(T.getD c.1 []).length=rl T c.1:=rfl;have Da:D≠a:=fun e=>hT3.nl (by rw [e];exact Am_ ea);have fa:=hT3.fa a (Am_ ea);nofun;refine ⟨_,hq,_,Gt_,_,_,rfl,hT3.tn.top,.ref a,at0,.inl ⟨_,.inl (.inl ra)⟩,_,hq,_,Gy_,a,rfl,_,_,rfl,ra,by lia,by rw [Ab_,rln];lia,by rw [Ab_,rln];lia,?_⟩;rw [AE_,kv_];have hT4:=hT3.ins ea v;have s4:Fx_ H (upd H3 a (.lst ((RimT.ins (T.getD c.1 []) c.2 v).map fun n:Nat=>V.int n))):=fun b o hb=>by rw [af_ (ae_ hb fa)];exact s23 _ _ hb
      generalize upd H3 a (.lst ((RimT.ins (T.getD c.1 []) c.2 v).map fun n:Nat=>V.int n))=H4 at *;nofun;refine ⟨.inl ⟨_,.inl (.inl hT4.tn.top)⟩,by decide,fun p np=>?_⟩;have Dp:D≠p:=ae_ hT4.tn.top np;have hT5:=hT4.more s4 np [v];refine ⟨as_.map V.ref,by rw [af_ Dp];exact hT4.tn.top,Fw_ (by rw [Ab_];have:=hT4.tn.len;rw [aF_] at this;lia),?_⟩;have e1:as_.map V.ref++[V.ref p]=(as_++[p]).map V.ref:=by simp
      have e2:[V.int (0+(v:Nat))]=[v].map fun n:Nat=>V.int n:=by simp
      rw [e1,e2];refine hkc _ _ ⟨_,_,_,_,_,_,_,_,_,_,_,rfl,fun b o hb=>?_,hT5,oz_ gr ic.1 (by rw [Ab_] at h2;have:=hT3.tn.len;lia)⟩;rw [af_ (ae_ hb hT.fl),af_ (ae_ hb (s4.free np))];exact s4 _ _ hb
     ·have rl30:∀ p,rl T p<=30:=fun p=>by have:=Jr_ T p;rw [gr.tot] at this;lia
      nofun;refine ⟨Nat,_,_,fun n:Nat=>.inl (n:Int),D,as_,T,rfl,fun _=>rfl,fun a b h=>Int.ofNat.inj (Fq_ h),hT3.tn,gr.tw,by lia,rl30,fun M H4 s4 nM hM=>?_⟩;refine ⟨_,_,_,D,M,q,as_,T,i,c,rfl,hT3.tn.mono s4,hM,gr.tw,by lia,gl,s4 _ _ hq,ic,by lia,fun R2 H5 xs2 cs2 s5 nR2 hR2 hcs2 ne2 len2 all2 _ _ _=>?_⟩;have x2l:xs2.length=cs2.length:=hcs2.len;have l2:0<cs2.length:=Bx_.mpr ne2
      have lg2:(((xs2.map V.ref).length:Int)).natAbs.log2<9000:=by
       rw [Ab_];by_cases h0:((xs2.length:Int)).natAbs=0
       ·rw [h0];decide
       ·rw [EI_ h0];exact BG_ (show ((xs2.length:Int)).natAbs<=1000 by lia) (by rfl')
      generalize hy:z/(vs.length:Int)/3=y;obtain ⟨j2,hj2,jl2⟩:∃ j:Nat,y%((xs2.map V.ref).length:Int)=j/\j<xs2.length:=by rw [Ab_];have a1:=AW_ y (show (xs2.length:Int)≠0 by lia);have a2:=AU_ y (show (0:Int)<(xs2.length:Int) by lia);exact ⟨(y%(xs2.length:Int)).toNat,by lia,by lia⟩
      have ec2:cs2[j2]?=some (cs2[j2]'(by lia)):=Aa_ _;obtain ⟨q2,hxq2,hq2⟩:=hcs2.get ec2;have ic2:IsC T i (cs2[j2]'(by lia)):=all2 _ (A3_ _);generalize cs2[j2]'(by lia)=d at *;have hq5:=s5 _ _ (s4 _ _ hq);nofun;refine ⟨_,.inl hR2,by rw [Ab_];lia,_,hR2,.ref q2,?_,?_⟩
      ·rw [hj2];refine fv_ (by lia) ?_;rw [AE_,Ag_,hxq2];rfl
      nofun;refine ⟨_,.inl hR2,by rw [Ab_];lia,lg2,?_⟩;nofun;refine ⟨by decide,fun p np=>⟨(c.1,c.2),(Fx_.new np) _ _ hq5,(d.1,d.2),(Fx_.new np) _ _ hq2,fun l zs nl hzs=>⟨⟨_,.inl (.inl aa_)⟩,?_⟩⟩⟩
      obtain ⟨r1,r2,a1,a2,ez,g1,g2,i1,i2⟩:∃ (r1 r2:Addr)(a1 a2:Nat×Nat),zs=[V.ref r1,V.ref r2]/\H5 r1=some (cV a1)/\H5 r2=some (cV a2)/\IsC T i a1/\IsC T i a2:=by
       rcases hzs with e|e
       ·exact ⟨q,q2,c,d,e,hq5,hq2,ic,ic2⟩
       ·exact ⟨q2,q,d,c,e,hq2,hq5,ic2,ic⟩
      have S6:Fx_ H5 (upd (upd H5 p (HO.lst [V.ref q,V.ref q2])) l (HO.lst zs)):=(Fx_.new np).trans (Fx_.new nl);have hT6:=((hT3.mono s4).mono s5).mono S6;have s6:Fx_ H (upd (upd H5 p (HO.lst [V.ref q,V.ref q2])) l (HO.lst zs)):=s23.trans (s4.trans (s5.trans S6));have hl6:=aa_ (H:=upd H5 p (HO.lst [V.ref q,V.ref q2])) (a:=l) (o:=HO.lst zs);have h61:=S6 _ _ g1;have h62:=S6 _ _ g2;have lT:l∉as_:=fun z=>by obtain ⟨p',hp',e⟩:=AB_.mp z;have e2:=((hT3.mono s4).mono s5).tn.row p' l (by rw [Aa_ hp',e]);have e3:=(Fx_.new np (o:=HO.lst [V.ref q,V.ref q2])) _ _ e2;rw [nl] at e3;cases e3
      generalize upd (upd H5 p (HO.lst [V.ref q,V.ref q2])) l (HO.lst zs)=H6 at *;have notT:∀ r a,H6 r=some (cV a)->r∉as_:=fun r a hr z=>by obtain ⟨p',hp',e⟩:=AB_.mp z;have e2:=hT6.tn.row p' r (by rw [Aa_ hp',e]);rw [hr] at e2;cases e2
      subst ez
      have step:∀ (T':List (List Nat))(a:Nat×Nat)(H7:Hp),T'.length=T.length->(∀ p,rl T p<=rl T' p)->(∀ p,rl T' p<=40)->IsC T i a->To H H7 D as_ T'->Fx_ H H7->∃ ad,atI (as_.map V.ref) (a.1:Int)=some (.ref ad)/\H7 ad=some (.lst ((T'.getD a.1 []).map fun n:Nat=>V.int n))/\(a.2:Nat)<=(T'.getD a.1 []).length/\(T'.getD a.1 []).length<1000/\ad∈as_/\To H (upd H7 ad (.lst ((RimT.ins (T'.getD a.1 []) a.2 v).map fun n:Nat=>V.int n))) D as_ (Gn_ T' a v)/\Fx_ H (upd H7 ad (.lst ((RimT.ins (T'.getD a.1 []) a.2 v).map fun n:Nat=>V.int n))):=fun T' a H7 hl hm h40 ia hT7 s7=>by
       obtain ⟨ad,ea,at0,ra⟩:=hT7.tn.at_ (p:=a.1) (by rw [hl];exact ia.1);have:=ia.2;have m1:=hm a.1;have m2:=h40 a.1;have ab:a.2<=rl T a.1:=by split at this <;> lia
       refine ⟨ad,at0,ra,by unfold rl at *;lia,by unfold rl at *;lia,Am_ ea,hT7.ins ea v,fun b o hb=>?_⟩;rw [af_ (ae_ hb (hT7.fa ad (Am_ ea)))];exact s7 _ _ hb
      have lenS:∀ (T':List (List Nat))(a:Nat×Nat)(p:Nat),rl (Gn_ T' a v) p<=rl T' p+1:=fun T' a p=>by
       unfold Gn_ rl;rw [Ad_,Ad_,BJ_];by_cases h:a.1=p
       ·subst h;by_cases h2:a.1<T'.length
        ·simp only [if_true,h2,Option.getD_some,fY_];rw [Ad_];exact Aj_ _
        ·simp [h2,Be_ (B7_.mp h2)]
       ·simp [h]
      refine eJ_ (xs:=[V.ref r1,V.ref r2]) (fun t σ H7=>∃ (e11 e12:Option V),σ=[some (.int (y/((xs2.map V.ref).length:Int))),some (.int i),some (.int W),some (.int 10),some (.ref D),some (.int (0+(v:Nat))),some (.ref R),some (.ref q),some (.int (z/(vs.length:Int)%3)),some (.ref R2),some (.ref q2),e11,e12]/\Fx_ H H7/\(∀ b o,b∉as_->H6 b=some o->H7 b=some o)/\To H H7 D as_ (if t=0 then T else if t=1 then Gn_ T a1 v else Gn_ (Gn_ T a1 v) a2 v)) ⟨e11,e12,rfl,s6,fun b o _ h=>h,hT6⟩ ?_ ?_ ?_
      ·rintro t σ H7 ht ⟨e11,e12,rfl,s7,k7,hT7⟩;exact .inl (.inl (k7 _ _ lT hl6))
      ·rintro t x σ H7 hx kc2 kb2 hkc2 hkb2 G2 hG2 ⟨e11,e12,rfl,s7,k7,hT7⟩;refine hG2 ?_
       match t,hx with
       | 0,hx =>
        cases hx;have hr1:=k7 _ _ (notT _ _ h61) h61;obtain ⟨ad,at0,ra,ab,a1000,ain,hT8,s8⟩:=step T a1 H7 rfl (fun _=>Aj_ _) (fun p=>by have:=rl30 p;lia) i1 hT7 s7;nofun;refine ⟨_,SqT.of hr1,rfl,_,_,rfl,_,_,rfl,rfl,_,_,rfl,hT7.tn.top,.ref ad,at0,.inl ⟨_,.inl (.inl ra)⟩,ad,rfl,_,_,rfl,ra,by lia,by rw [Ab_,AE_];exact ab,by rw [Ab_];exact a1000,?_⟩;rw [AE_,kv_];exact hkc2 _ _ ⟨_,_,rfl,s8,fun b o hb h=>by rw [af_ (fun e=>hb (by rw [e];exact ain))];exact k7 b o hb h,hT8⟩
       | 1,hx =>
        cases hx;have hr2:=k7 _ _ (notT _ _ h62) h62;obtain ⟨ad,at0,ra,ab,a1000,ain,hT8,s8⟩:=step (Gn_ T a1 v) a2 H7 (aF_ ..) (fun p=>gS_ v p) (fun p=>by have:=rl30 p;have:=lenS T a1 p;lia) i2 hT7 s7;nofun;refine ⟨_,SqT.of hr2,rfl,_,_,rfl,_,_,rfl,rfl,_,_,rfl,hT7.tn.top,.ref ad,at0,.inl ⟨_,.inl (.inl ra)⟩,ad,rfl,_,_,rfl,ra,by lia,by rw [Ab_,AE_];exact ab,by rw [Ab_];exact a1000,?_⟩;rw [AE_,kv_];exact hkc2 _ _ ⟨_,_,rfl,s8,fun b o hb h=>by rw [af_ (fun e=>hb (by rw [e];exact ain))];exact k7 b o hb h,hT8⟩
      ·rintro σ H7 ⟨e11,e12,rfl,s7,k7,hT7⟩;exact hkc _ _ ⟨_,_,_,_,_,_,_,_,_,as_,_,rfl,s7,hT7,pl_ gr i1.1 i2.1⟩
    ·rintro σ H2 ⟨z,e5,e6,e7,e8,e9,e10,e11,e12,as_,T,rfl,s2,hT,gr⟩;nofun;exact ⟨by decide,fun p np=>k p D as_ T z _ (s2.trans (Fx_.new np)) aa_ (hT.mono (Fx_.new np)) gr⟩
def sgs:List Nat:=(Str.ofString "abcdefghijklmnopqrstuvwxyz0123456789").cps.toList
theorem mW_:sgs.length=36:=by rfl'
theorem p0_:sgs.Nodup:=by rfl'
def sg (i:Nat):Nat:=sgs.getD i 0
theorem Kg_ {i:Nat}(h:i<36):sgs[i]?=some (sg i):=by unfold sg;rw [Ad_,Aa_ (by rw [mW_];exact h)];rfl
theorem mX_ {i j:Nat}(hi:i<36)(hj:j<36)(h:sg i=sg j):i=j:=(A2_ (by rw [mW_];exact hi) p0_).mp (by rw [Kg_ hi,Kg_ hj,h])
theorem lc_ {z:Int}(h0:0<=z)(h1:z<36):atI sgs z=some (sg z.toNat):=fv_ h0 (Kg_ (by lia))
def one (c:Nat):Str:=⟨#[c]⟩
def nmA (hd tl:Str)(fi k:Nat):Str:=hd++one (sg ((fi+7*k)%36))++tl
theorem nV_ (a b:Str):(a++b).cps.toList=a.cps.toList++b.cps.toList:=by show (a.cps++b.cps).toList=_;simp
theorem pa_ {hd tl:Str}{fi a b:Nat}(ha:a<16)(hb:b<16)(h:nmA hd tl fi a=nmA hd tl fi b):a=b:=by have e:=congrArg (fun s:Str=>s.cps.toList) h;simp only [nmA,nV_] at e;have e2:=List.append_cancel_right e;have e3:=List.append_cancel_left e2;have e4:sg ((fi+7*a)%36)=sg ((fi+7*b)%36):=(List.cons.inj e3).1;have:=mX_ (B6_ _ (by decide)) (B6_ _ (by decide)) e4;lia
def rep (c m:Nat):List Nat:=List.replicate m c
def nmB (fi k:Nat):Str:=⟨(List.replicate (1+k%7) (sg fi)++if 6<k then [sg ((fi+1+k/7)%36)] else []).toArray⟩
theorem pb_ {fi a b:Nat}(hf:fi<36)(ha:a<16)(hb:b<16)(h:nmB fi a=nmB fi b):a=b:=by
 have e0:=congrArg (fun s:Str=>s.cps.toList) h;have e:List.replicate (1+a%7) (sg fi)++(if 6<a then [sg ((fi+1+a/7)%36)] else [])=List.replicate (1+b%7) (sg fi)++(if 6<b then [sg ((fi+1+b/7)%36)] else []):=by simpa [nmB] using e0
 have ne:∀ c,6<c->c<16->sg ((fi+1+c/7)%36)≠sg fi:=fun c h1 h2 z=>by have:=mX_ (B6_ _ (by decide)) hf z;lia
 have len:=congrArg List.length e;simp only [Af_,EN_] at len;have last:=congrArg List.getLast? e;by_cases h1:6<a <;> by_cases h2:6<b
 ·rw [if_pos h1,if_pos h2] at last len;rw [BV_,BV_] at last;have e4:sg ((fi+1+a/7)%36)=sg ((fi+1+b/7)%36):=by simpa using last
  have:=mX_ (B6_ _ (by decide)) (B6_ _ (by decide)) e4;simp at len;lia
 ·rw [if_pos h1,if_neg h2] at last;rw [BV_,BC_,Dl_ 1 (b%7),E4_,BV_] at last;exact absurd (by simpa using last) (ne a h1 ha)
 ·rw [if_neg h1,if_pos h2] at last;rw [BC_,Dl_ 1 (a%7),E4_,BV_,BV_] at last;exact absurd (by simpa using last.symm) (ne b h2 hb)
 ·rw [if_neg h1,if_neg h2] at len;simp at len;lia
theorem ld_ {f:Nat->Str}{n:Nat}(h:∀ a b,a<n->b<n->f a=f b->a=b):((List.range n).map f).Nodup:=by unfold List.Nodup;rw [Bq_];exact D2_ (fun {a b} ha hb ne e=>ne (h a b (AX_.mp ha) (AX_.mp hb) e)) D3_
theorem mul_one {c:Nat}:∀ m:Nat,1<=m->m<=7->MulOk (one c) (m:Int)/\Txt.mul (one c) (m:Int)=⟨(List.replicate m c).toArray⟩
 | 0,h,_=>absurd h (by decide)
 | 1,_,_=>⟨⟨by decide,fun _ h=>absurd h (by simp),fun _ h=>absurd h (by simp)⟩,rfl⟩
 | 2,_,_=>⟨⟨by decide,fun _ _=>(by show ¬ ((1:Int) > _);decide),fun _ _=>(by show Builtin.Str.tooLong 2=false;decide +kernel)⟩,rfl⟩
 | 3,_,_=>⟨⟨by decide,fun _ _=>(by show ¬ ((1:Int) > _);decide),fun _ _=>(by show Builtin.Str.tooLong 3=false;decide +kernel)⟩,rfl⟩
 | 4,_,_=>⟨⟨by decide,fun _ _=>(by show ¬ ((1:Int) > _);decide),fun _ _=>(by show Builtin.Str.tooLong 4=false;decide +kernel)⟩,rfl⟩
 | 5,_,_=>⟨⟨by decide,fun _ _=>(by show ¬ ((1:Int) > _);decide),fun _ _=>(by show Builtin.Str.tooLong 5=false;decide +kernel)⟩,rfl⟩
 | 6,_,_=>⟨⟨by decide,fun _ _=>(by show ¬ ((1:Int) > _);decide),fun _ _=>(by show Builtin.Str.tooLong 6=false;decide +kernel)⟩,rfl⟩
 | 7,_,_=>⟨⟨by decide,fun _ _=>(by show ¬ ((1:Int) > _);decide),fun _ _=>(by show Builtin.Str.tooLong 7=false;decide +kernel)⟩,rfl⟩
 | m+8,_,h=>absurd h (by lia)
def opt (x:Str)(b:Bool):Str:=if b then x else Str.empty
theorem pc_ (x:Str)(p:Prop)[Decidable p]:MulOk x (if p then 1 else 0)/\Txt.mul x (if p then 1 else 0)=opt x (decide p):=by
 by_cases h:p
 ·rw [if_pos h,show decide p=true from A5_ h];exact ⟨⟨by decide,fun _ h=>absurd h (by simp),fun _ h=>absurd h (by simp)⟩,rfl⟩
 ·rw [if_neg h,show decide p=false from AN_ h];exact ⟨⟨by decide,fun h=>absurd (by decide) h,fun h=>absurd (by decide) h⟩,rfl⟩
theorem p1_ (fi k:Nat):(⟨(List.replicate (1+k%7) (sg fi)).toArray⟩:Str)++opt (one (sg ((fi+1+k/7)%36))) (decide (6<k))=nmB fi k:=by
 unfold nmB opt;by_cases h:6<k
 ·rw [if_pos (A5_ h),if_pos h];show (⟨(List.replicate (1+k%7) (sg fi)).toArray++[sg ((fi+1+k/7)%36)].toArray⟩:Str)=_;rw [List.append_toArray]
 ·rw [if_neg (by simp [h]),if_neg h];show (⟨_ ++ #[]⟩:Str)=_;simp
theorem bz_ {H:Hp}:∀ (ts:List Str),F0_ H (ts.map V.str) (ts.map Dt.str)
 | []=>rfl
 | t::ts=>⟨_,_,rfl,rfl,bz_ ts⟩
theorem eL_ {H:Hp}:∀ {us:List V}{ts:List Str},F0_ H us (ts.map Dt.str)->us=ts.map V.str
 | us,[],h=>h
 | us,n::ns,⟨x,r,e,hx,hr⟩=>by
  cases hx;rw [e,eL_ hr];rfl
theorem le_ {B H:Hp}{D:Addr}{ts:List Str}(hB:B D=none)(h:H D=some (.lst (ts.map V.str))):Rep (Hm_ B H) (.ref D) (.lst (ts.map Dt.str)):=⟨D,_,rfl,by rw [dF_ hB];exact h,bz_ ts⟩
abbrev FU_:Stmt:=stN 23
theorem aP_:FF_ ["_law_big_here", "_law_many", "_law_signs", "_law_size", "_law_spot", "_law_word", "_law_rest", "_law_k", "_law_first", "_law_head", "_law_tail", "_law_names_here", "_law_more"] ["_law_big_here", "_law_many"] (Fy_ FU_):=⟨rfl,rfl,rfl,by rfl',rfl,by rfl',by rfl'⟩
theorem e6_:LK FU_ "_law_big_here" .local:=by rfl'
theorem hB_:LK FU_ "_law_many" .local:=by rfl'
theorem dP_:LK FU_ "_law_signs" .cell:=by rfl'
theorem e7_:LK FU_ "_law_size" .local:=by rfl'
theorem e8_:LK FU_ "_law_spot" .local:=by rfl'
theorem cJ_:LK FU_ "_law_word" .local:=by rfl'
theorem bY_:LK FU_ "_law_rest" .local:=by rfl'
theorem cK_:LK FU_ "_law_k" .local:=by rfl'
theorem e9_:LK FU_ "_law_first" .cell:=by rfl'
theorem ky_:LK FU_ "_law_head" .cell:=by rfl'
theorem jP_:LK FU_ "_law_tail" .cell:=by rfl'
theorem cS_:LK FU_ "_law_names_here" .local:=by rfl'
theorem gx_:LK FU_ "_law_more" .local:=by rfl'
theorem iN_:LK FU_ "int" .globalImplicit:=by rfl'
theorem cL_:LK FU_ "range" .globalImplicit:=by rfl'
def Id_:Sp:=fun vs H Q _=>∃ (z:Int)(n:Nat),vs=[.int z,.int n]/\n<=16/\∀ D (nms:List Str) H',Fx_ H H'->Rep (Hm_ H H') (.ref D) (.lst (nms.map Dt.str))->nms.length=n->nms.Nodup->Q (.ref D) H'
theorem mY_ (T:Txt K mg)(F:Fn0 K mg "_law_names" FU_):Cal P w K mg base "_law_names" ["_law_big_here", "_law_many"] 1 Id_:=by
 refine a1_ F aP_ (fun _ _ _ _ _ _=>byL2 fun _ _=>rfl) ?len ?body
 case len=>rintro vs H Q E ⟨a,b,rfl,_⟩;rfl
 case body =>
  intro f cdv A outer s H vs Q E hr h;obtain ⟨z,n,rfl,n16,k⟩:=h;refine' ⟨_,?D,?R⟩
  case D =>
   refine' ai_ (iu_ (i:=2) aP_.nd rfl dP_ rfl l7_ rfl) (ai_ (ah_ (i:=3) aP_.nd rfl e7_ (Fz_ aK_ ad_ (Fz_ aD_ (pv1 0 rfl e6_) ad_))) ?g5)
   case' g5=>refine' ai_ (ah_ (i:=4) aP_.nd rfl e8_ (Fz_ aD_ (Fz_ au_ (pv1 0 rfl e6_) ad_) (pv1 3 rfl e7_))) (ai_ (ah_ (i:=5) aP_.nd rfl cJ_ l7_) ?g19)
   case' g19=>refine' ai_ (ah_ (i:=6) aP_.nd rfl bY_ (Fz_ au_ (pv1 0 rfl e6_) ad_)) (ac_ (aZ_ AA_ rfl (aC_ cL_ T.n_range (pa_c (pv1 3 rfl e7_) ab_)) ?g29 ?g30) ?g27)
   case g29=>exact ag_ (i:=7) aP_.nd rfl cK_
   case' g30=>refine' ai_ (ah_ (i:=5) aP_.nd rfl cJ_ (Fz_ eG_ (pv1 5 rfl cJ_) (FG_ kX_ (pvc 2 rfl dP_) (Fz_ aD_ (pv1 6 rfl bY_) ad_) (fun _ _=>rfl)))) (aj_ (ah_ (i:=6) aP_.nd rfl bY_ (Fz_ au_ (pv1 6 rfl bY_) ad_)))
   case' g27=>refine' ai_ (iu_ (i:=8) aP_.nd rfl e9_ rfl (Fz_ aD_ (pv1 6 rfl bY_) ad_) rfl) (ac_ (eh_ ?g54 (aS_ (K:=K) (n:=2) rfl rfl (ak_ ?g72 (ak_ ?g74 aQ_)))) ?g53)
   case' g54=>refine' aq_ (pa_c (bO_ oq_ (pv1 5 rfl cJ_) ?g60 (cl_ (pv1 4 rfl e8_))) (pa_c (bO_ oq_ (pv1 5 rfl cJ_) (cl_ (Fz_ aK_ (pv1 4 rfl e8_) ad_)) ?g67) ab_))
   case g60=>exact cz_
   case g67=>exact cz_
   case g72=>exact eH_ (i:=9) aP_.nd rfl ky_ rfl
   case g74=>exact eH_ (i:=10) aP_.nd rfl jP_ rfl
   case' g53=>refine' ac_ (it_ (i:=11) (N':=["_law_k", "_law_head", "_law_signs", "_law_first", "_law_tail"]) (ix:=[none,some 9,some 2,some 8,some 10]) rfl rfl aP_.nd rfl cS_ rfl (cB_ ?g78) (aC_ cL_ T.n_range (pa_c (pv1 1 rfl hB_) ab_)) (fun _ _ _=>?g80) (fun _ _ _=>?g81) (fun _ _ _=>?g82)) ?g77
   case g78=>exact (by show Hx_ (Fy_ FU_) ["_law_big_here", "_law_many", "_law_signs", "_law_size", "_law_spot", "_law_word", "_law_rest", "_law_k", "_law_first", "_law_head", "_law_tail", "_law_names_here", "_law_more"] _ _ _=true;decide +kernel)
   case g80=>exact ag_ (i:=0) (by show List.Nodup (["_law_k", "_law_head", "_law_signs", "_law_first", "_law_tail"]:List Str);decide +kernel) rfl rfl
   case g81=>exact d6_
   case' g82=>refine' Fz_ eG_ (Fz_ eG_ (pvc 1 rfl rfl) (FG_ kX_ (pvc 2 rfl rfl) (Fz_ aD_ (Fz_ aK_ (pvc 3 rfl rfl) (Fz_ fs_ ad_ (pv1 0 rfl rfl))) ad_) (fun _ _=>rfl))) (pvc 4 rfl rfl)
   case' g77=>refine' ai_ (Gp_ (aG_ G0_ (Fz_ aD_ (Fz_ au_ (pv1 6 rfl bY_) ad_) ad_) ad_ (FY_ _)) ?g101 aW_) (aj_ (aB_ (pv1 11 rfl cS_)))
   case' g101=>refine' ai_ (ah_ (i:=11) aP_.nd rfl cS_ (bo_ ab_)) (aj_ (aZ_ AA_ rfl (aC_ cL_ T.n_range (pa_c (pv1 1 rfl hB_) ab_)) ?g115 ?g116))
   case g115=>exact ag_ (i:=7) aP_.nd rfl cK_
   case' g116=>refine' ac_ (ah_ (i:=12) aP_.nd rfl gx_ (FG_ kX_ (pvc 2 rfl dP_) (Fz_ aD_ (Fz_ aK_ (Fz_ aK_ (pvc 8 rfl e9_) ad_) (Fz_ au_ (pv1 7 rfl cK_) ad_)) ad_) (fun _ _=>rfl))) (aj_ ?g133)
   case' g133=>refine' aA_ (Gi_ Az_ AC_ AD_ az_ (pv1 11 rfl cS_) (pa_c (Fz_ eG_ (Fz_ h5_ (FG_ kX_ (pvc 2 rfl dP_) (pvc 8 rfl e9_) (fun _ _=>rfl)) (Fz_ aK_ ad_ (Fz_ aD_ (pv1 7 rfl cK_) ad_))) ?g140) ab_))
   case' g140=>refine' Fz_ h5_ (pv1 12 rfl gx_) (cs_ i8_ iN_ T.n_int ml_ (pa_c (im_ KC_ (pv1 7 rfl cK_) ad_ (FY_ _)) ab_))
  case R =>
   nofun;have m8:=AW_ z (show (8:Int)≠0 by decide);have l8:=AU_ z (show (0:Int)<8 by decide);refine ⟨by decide,by decide,by rfl',by lia,by decide,by rfl',?_⟩;nofun;refine ⟨by lia,by lia,?_⟩;have sz:100000<=sizeLine:=by rw [B8_];decide
   have sl:(Str.ofString "abcdefghijklmnopqrstuvwxyz0123456789").length<=sizeLine:=AM_ (by rfl') sz;have e1:∀ c,(one c).length=1:=fun _=>rfl;generalize z/8%(1+z%8)=spot;obtain ⟨size,hsize,s8⟩:∃ m:Nat,(1+z%8).toNat=m/\m<=8:=⟨_,rfl,by lia⟩;rw [hsize];generalize hz8:1+z%8=z8;generalize z/64=r0;refine a3_ (fun i σ H'=>∃ (word:Str)(rest:Int)(e7:Option V),σ=[some (.int z),some (.int n),some (.str (Str.ofString "abcdefghijklmnopqrstuvwxyz0123456789")),some (.int z8),some (.int spot),some (.str word),some (.int rest),e7,none,none,none,none,none]/\H'=H/\word.length<=i) ⟨_,r0,none,rfl,rfl,by rfl'⟩ ?_ ?_
   ·rintro i σ H' hi kc kb hkc hkb G hG ⟨word,rest,e7,rfl,rfl,wl⟩;refine hG ?_;have hi':i<size:=hi;nofun;have m36:=AW_ rest (show (36:Int)≠0 by decide);have l36:=AU_ rest (show (0:Int)<36 by decide);refine ⟨by decide,sl,_,lc_ m36 l36,?_⟩;have e2:(⟨#[sg (rest%36).toNat]⟩:Str).length=1:=rfl;exact ⟨by lia,by decide,by rfl',hkc _ _ ⟨_,_,_,rfl,rfl,by rw [mB_];lia⟩⟩
   ·rintro σ H' ⟨word,rest,e7,rfl,rfl,wl⟩;nofun;refine ⟨by decide,?_⟩;nofun;refine ⟨by lia,fun hd hl _=>⟨by lia,fun tl tl' _=>⟨by decide,fun p np=>⟨_,SqT.of aa_,rfl,_,_,rfl,_,_,rfl,rfl,?_⟩⟩⟩⟩;nofun;refine ⟨by lia,by lia,?_⟩;have S1:Fx_ H' (upd H' p (HO.tup [V.str hd,V.str tl])):=Fx_.new np;generalize upd H' p (HO.tup [V.str hd,V.str tl])=H1 at *;obtain ⟨fi,hfi,fi36⟩:∃ fi:Nat,rest%36=fi/\fi<36:=by have a1:=AW_ rest (show (36:Int)≠0 by decide);have a2:=AU_ rest (show (0:Int)<36 by decide);exact ⟨(rest%36).toNat,by lia,by lia⟩
    rw [hfi,show Int.toNat (n:Int)=n by lia];refine dH_ (n:=n) (B:=fun _=>none) (Pσ:=fun σ=>∃ e,σ=[e,some (.str hd),some (.str (Str.ofString "abcdefghijklmnopqrstuvwxyz0123456789")),some (.int fi),some (.str tl)]) (ds:=((List.range n).map (nmA hd tl fi)).map Dt.str) (fun b o e=>by cases e) ⟨_,rfl⟩ (by simp) (by lia) (fun j H2 hj s2=>hj) (fun H2 s2=>Aj_ _) ?_ ?_
    ·rintro D i x d σ' H2 H2' hD hDo hs2 hi hdi ⟨rfl,rfl⟩ ⟨e,rfl⟩ R kR;nofun;have hi':i<n:=hi;have hd2:d=Dt.str (nmA hd tl fi i):=by rw [Ag_,Ag_,B2_ hi'] at hdi;exact (Aw_ hdi).symm
     have eI:((fi:Int)+7*(0+(i:Nat)))%36=(((fi+7*i)%36:Nat):Int):=by lia
     have lt36:(fi+7*i)%36<36:=B6_ _ (by decide);rw [eI];refine ⟨.inl ⟨by decide,by decide⟩,by decide,sl,_,lc_ (by lia) (by lia),?_⟩;rw [AE_];have e2:(⟨#[sg ((fi+7*i)%36)]⟩:Str).length=1:=rfl;refine ⟨by lia,by rw [mB_];lia,?_⟩;refine kR _ _ _ ⟨_,rfl⟩ (Fx_.refl _) ?_;rw [hd2];exact rfl
    ·intro D H2 hD s2 rep2;nofun;refine ⟨by decide,by rfl',by decide,ite2 (fun _=>?_) (fun _=>?_)⟩
     ·refine ⟨Ay_ _,fun l nl=>⟨by lia,by lia,?_⟩⟩;have nl':H' l=none:=(S1.trans s2).free nl;refine a3_ (fun i σ H3=>∃ (e7 e12:Option V),σ=[some (.int z),some (.int n),some (.str (Str.ofString "abcdefghijklmnopqrstuvwxyz0123456789")),some (.int z8),some (.int spot),some (.str word),some (.int rest),e7,some (.int fi),some (.str hd),some (.str tl),some (.ref l),e12]/\Fx_ H' H3/\H3 l=some (.lst (((List.range i).map (nmB fi)).map V.str))) ⟨_,_,rfl,(S1.trans s2).upd nl',aa_⟩ ?_ ?_
      ·rintro i σ H3 hi kc kb hkc hkb G hG ⟨e7,e12,rfl,s3,hl3⟩;refine hG ?_;have hi':i<n:=hi;nofun;have eI:((fi:Int)+1+(0+(i:Nat))/7)%36=(((fi+1+i/7)%36:Nat):Int):=by lia
       have lt36:(fi+1+i/7)%36<36:=B6_ _ (by decide);have eM:(1:Int)+(0+(i:Nat))%7=((1+i%7:Nat):Int):=by lia
       rw [eI];obtain ⟨mo,me⟩:=mul_one (c:=sg fi) (1+i%7) (by lia) (by lia);refine ⟨by decide,by rfl',by decide,sl,_,lc_ (by lia) (by lia),?_⟩;nofun;refine ⟨.inl ⟨_,.inl (.inl hl3)⟩,sl,_,lc_ (by lia) (by lia),by decide,?_⟩;rw [eM,AE_,AE_];change MulOk (one (sg fi)) _/\_;refine ⟨mo,.inr ?_⟩;change MulOk (one (sg ((fi+1+i/7)%36))) _/\((Txt.mul (one (sg fi)) _).length+(Txt.mul (one (sg ((fi+1+i/7)%36))) _).length<=sizeLine)/\∃ x,_/\_/\kc _ (upd H3 l (HO.lst (x++[V.str (Txt.mul (one (sg fi)) _++Txt.mul (one (sg ((fi+1+i/7)%36))) _)])));obtain ⟨p1,p2⟩:=pc_ (one (sg ((fi+1+i/7)%36))) (6<0+(i:Int));have ln:(⟨(List.replicate (1+i%7) (sg fi)).toArray⟩:Str).length<=7:=by show ((List.replicate (1+i%7) (sg fi)).toArray).size<=7;simp;lia
       have lo:(opt (one (sg ((fi+1+i/7)%36))) (decide (6<0+(i:Int)))).length<=1:=by
        unfold opt;split
        ·exact Aj_ _
        ·exact Ay_ _
       rw [me,p2];have eD:decide (6<0+(i:Int))=decide (6<i):=by apply Ej_.mpr;lia
       refine ⟨p1,by lia,_,hl3,Fw_ (by simp;lia),hkc _ _ ⟨_,_,rfl,fun b o hb=>?_,?_⟩⟩
       ·rw [af_ (ae_ hb nl')];exact s3 _ _ hb
       ·rw [aa_,eD,p1_,CQ_,Aq_,Aq_];rfl
      ·rintro σ H3 ⟨e7,e12,rfl,s3,hl3⟩;nofun;exact k l _ H3 s3 (le_ nl' hl3) (by simp) (ld_ fun a b ha hb e=>pb_ fi36 (by lia) (by lia) e)
     ·obtain ⟨_,us,e0,hD2,hus⟩:=id rep2;cases e0;rw [eL_ hus] at hD2;exact k D _ H2 (S1.trans s2) (le_ (S1.free hD) (bq_ hD2).2) (by simp) (ld_ fun a b ha hb e=>pa_ (by lia) (by lia) e)
def rot (l:List Nat)(t:Nat):List Nat:=l.drop t++l.take t
theorem mZ_ (l:List Nat)(t:Nat):(rot l t).length=l.length:=by unfold rot;rw [Af_,BM_,Bn_];lia
theorem m0_ (l:List Nat)(t x:Nat):(rot l t).count x=l.count x:=by unfold rot;rw [BW_,Dl_,<-BW_,Bz_]
theorem p2_ {P W p t:Nat}{T:List (List Nat)}(g:Gr P W T)(hp:p<T.length):Gr P W (T.set p (rot (T.getD p []) t)):=by
 have fc:∀ x,(T.set p (rot (T.getD p []) t)).flatten.count x=T.flatten.count x:=fun x=>by have:=g6_ x (rot (T.getD p []) t) T p hp;rw [m0_] at this;lia
 refine ⟨by rw [BK_];exact g.len,by rw [BK_];exact g.most,fun w hw=>by rw [fc];exact g.two w hw,fun w hw=>?_,fun q h1 h2=>?_,?_⟩
 ·have:=Cr_.mpr hw;rw [fc] at this;exact g.lt w (Cr_.mp this)
 ·rw [BK_] at h2;have:=g.ne q h1 h2;unfold rl at this ⊢;rw [Ad_,BJ_];by_cases e:p=q
  ·subst e;rw [if_pos rfl,if_pos hp];show 0<(rot (T.getD p []) t).length;rw [mZ_];exact this
  ·rw [if_neg e,<-Ad_];exact this
 ·have:=j5_ (rot (T.getD p []) t) T p hp;rw [mZ_,g.tot] at this;lia
theorem jQ_ {a:Addr}:∀ {l:List Addr}{p:Nat},a∉l->l.Nodup->(l.set p a).Nodup
 | [],_,_,_=>Bc_
 | x::l,0,ha,h=>by
  rw [Dw_];exact A1_.mpr ⟨fun z=>ha (Ar_ _ z),(A1_.mp h).2⟩
 | x::l,p+1,ha,h=>by
  rw [Dx_];refine A1_.mpr ⟨fun z=>?_,jQ_ (fun z=>ha (Ar_ _ z)) (A1_.mp h).2⟩
  rcases DY_ z with z|z
  ·exact (A1_.mp h).1 z
  ·exact ha (by rw [z];exact At_)
theorem To.put {B H:Hp}{l:Addr}{as_:List Addr}{T:List (List Nat)}(h:To B H l as_ T)(sB:Fx_ B H){a:Addr}{p:Nat}(hp:p<T.length)(na:H a=none)(r:List Nat):To B (upd (upd H a (.lst (r.map fun n:Nat=>V.int n))) l (.lst ((as_.set p a).map V.ref))) l (as_.set p a) (T.set p r):=by
 have la:l≠a:=ae_ h.tn.top na;have an:a∉as_:=fun z=>by obtain ⟨p,hp,e⟩:=AB_.mp z;have:=h.tn.row p a (by rw [Aa_ hp,e]);rw [na] at this;cases this
 have mem:∀ b,b∈as_.set p a->b=a\/b∈as_:=fun b hb=>DY_ hb |>.symm;have pl:p<as_.length:=by rw [h.tn.len];exact hp
 refine ⟨⟨aa_,by rw [BK_,BK_];exact h.tn.len,fun q b hb=>?_⟩,?_,fun z=>?_,h.fl,fun b hb=>?_⟩
 ·have bl:b≠l:=fun e=>by
   rcases mem b (Am_ hb) with z|z
   ·exact la (e.symm.trans z)
   ·exact h.nl (by rw [<-e];exact z)
  rw [af_ bl,Ad_,BJ_];rw [BJ_] at hb;by_cases e:p=q
  ·rw [if_pos e,if_pos hp];rw [if_pos e,if_pos pl] at hb;cases hb;rw [aa_];rfl
  ·rw [if_neg e] at hb ⊢;have e2:=h.tn.row q b hb;rw [af_ (fun z=>by rw [z,na] at e2;cases e2),e2,Ad_]
 ·exact jQ_ an h.nd
 ·rcases mem l z with z|z
  ·exact la z
  ·exact h.nl z
 ·rcases mem b hb with z|z
  ·rw [z];exact sB.free na
  ·exact h.fa b z
abbrev Gm_:Stmt:=stN 24
theorem fI_:FF_ ["_law_turns_here", "_law_posts", "_law_big_here", "_law_p", "_law_turn"] ["_law_turns_here", "_law_posts", "_law_big_here"] (Fy_ Gm_):=⟨rfl,rfl,rfl,by rfl',rfl,by rfl',by rfl'⟩
theorem bI_:LK Gm_ "_law_turns_here" .local:=by rfl'
theorem kz_:LK Gm_ "_law_posts" .local:=by rfl'
theorem fa_:LK Gm_ "_law_big_here" .local:=by rfl'
theorem bZ_:LK Gm_ "_law_p" .local:=by rfl'
theorem fb_:LK Gm_ "_law_turn" .local:=by rfl'
theorem dQ_:LK Gm_ "len" .globalImplicit:=by rfl'
theorem hC_:LK Gm_ "range" .globalImplicit:=by rfl'
def Ii_:Sp:=fun vs H Q _=>∃ (B:Hp)(l:Addr)(as_:List Addr)(T:List (List Nat))(P W:Nat)(z:Int),vs=[.ref l,.int P,.int z]/\Fx_ B H/\To B H l as_ T/\Gr P W T/\P<=6/\W<=15 /\
 ∀ bs T' H',Fx_ B H'->(∀ b o,b≠l->H b=some o->H' b=some o)->To B H' l bs T'->Gr P W T'->T'.length=T.length->Q (.ref l) H'
theorem m1_ (T:Txt K mg)(F:Fn0 K mg "_law_begun" Gm_):Cal P w K mg base "_law_begun" ["_law_turns_here", "_law_posts", "_law_big_here"] 1 Ii_:=by
 refine a1_ F fI_ (fun _ _ _ _ _ _=>byL3 fun _ _ _=>rfl) ?len ?body
 case len=>rintro vs H Q E ⟨a,b,c,d,e,f,g,rfl,_⟩;rfl
 case body =>
  intro f cdv A outer s H vs Q E hr h;obtain ⟨B,l,as_,Tt,Pp,W,z,rfl,sB,hT,gr,P6,W15,k⟩:=h;have gl:=gr.len;have gm:=gr.most;refine' ⟨_,?D,?R⟩
  case D =>
   refine' ai_ ?g1 (aj_ (aB_ (pv1 0 rfl bI_)))
   case' g1=>refine' aZ_ AA_ rfl (ma_ hC_ T.n_range (pa_c (pv1 1 rfl kz_) (pa_c (am_ ao_ dQ_ T.n_len aX_ (pa_c (pv1 0 rfl bI_) ab_)) ab_))) ?g4 ?g5
   case g4=>exact ag_ (i:=3) fI_.nd rfl bZ_
   case' g5=>refine' ac_ (ah_ (i:=4) fI_.nd rfl fb_ (Fz_ aD_ (pv1 2 rfl fa_) (am_ ao_ dQ_ T.n_len aX_ (pa_c (FG_ ar_ (pv1 0 rfl bI_) (pv1 3 rfl bZ_) (fun _ _=>rfl)) ab_)))) ?g15
   case' g15=>refine' ac_ (ah_ (i:=2) fI_.nd rfl fa_ (Fz_ au_ (pv1 2 rfl fa_) (am_ ao_ dQ_ T.n_len aX_ (pa_c (FG_ ar_ (pv1 0 rfl bI_) (pv1 3 rfl bZ_) (fun _ _=>rfl)) ab_)))) (aj_ ?g34)
   case' g34=>refine' eh_ (Fz_ fu_ (bO_ ct_ (FG_ ar_ (pv1 0 rfl bI_) (pv1 3 rfl bZ_) (fun _ _=>rfl)) (cl_ (pv1 4 rfl fb_)) ?g42) (bO_ ct_ (FG_ ar_ (pv1 0 rfl bI_) (pv1 3 rfl bZ_) (fun _ _=>rfl)) ?g47 (cl_ (pv1 4 rfl fb_)))) (py_ (pv1 0 rfl bI_) (pv1 3 rfl bZ_) nt_)
   case g42=>exact cz_
   case g47=>exact cz_
  case R =>
   nofun;have al:=hT.tn.len;refine ⟨_,.inl hT.tn.top,by lia,by lia,by rw [Ab_];lia,by rw [Ab_];lia,?_⟩;rw [Ab_,show Int.toNat ((as_.length:Nat)-(Pp:Nat):Int)=Tt.length-Pp by lia];refine a3_ (fun i σ H'=>∃ (z:Int)(e3 e4:Option V)(bs:List Addr)(T':List (List Nat)),σ=[some (.ref l),some (.int Pp),some (.int z),e3,e4]/\Fx_ B H'/\(∀ b o,b≠l->H b=some o->H' b=some o)/\To B H' l bs T'/\Gr Pp W T'/\T'.length=Tt.length) ⟨z,none,none,as_,Tt,rfl,sB,fun b o _ h=>h,hT,gr,rfl⟩ ?_ ?_
   ·rintro i σ H' hi kc kb hkc hkb G hG ⟨z,e3,e4,bs,T',rfl,sB',kp,hT',gr',hl⟩;refine hG ?_;have hi':i<Tt.length-Pp:=hi;obtain ⟨a,ea,at0,ra⟩:=hT'.tn.at_ (p:=Pp+i) (by lia);have r0:=gr'.ne (Pp+i) (by lia) (by lia);have rt:rl T' (Pp+i)<=30:=by have:=Jr_ T' (Pp+i);rw [gr'.tot] at this;lia
    have rle:(T'.getD (Pp+i) []).length=rl T' (Pp+i):=rfl;have eP:(Pp:Int)+(i:Nat)=((Pp+i:Nat):Int):=by lia
    nofun;rw [eP];have rdef:T'.getD (Pp+i) []=T'.getD (Pp+i) []:=rfl;generalize hr0:T'.getD (Pp+i) []=r at *;obtain ⟨t,ht,tl⟩:∃ t:Nat,z%(((r.map fun n:Nat=>V.int n).length:Nat):Int)=t/\t<r.length:=by rw [Ab_];have a1:=AW_ z (show (r.length:Int)≠0 by lia);have a2:=AU_ z (show (0:Int)<(r.length:Int) by lia);exact ⟨(z%(r.length:Int)).toNat,by lia,by lia⟩
    have lg:(((r.map fun n:Nat=>V.int n).length:Int)).natAbs.log2<9000:=by
     rw [Ab_];by_cases h0:((r.length:Int)).natAbs=0
     ·rw [h0];decide
     ·rw [EI_ h0];exact BG_ (show ((r.length:Int)).natAbs<=1000 by lia) (by rfl')
    have c1:HJ_ (r.map fun n:Nat=>V.int n) (some (t:Int)) none=(r.drop t).map fun n:Nat=>V.int n:=by rw [iw_ _ _ (by simp;lia),DN_]
    have c2:HJ_ (r.map fun n:Nat=>V.int n) none (some (t:Int))=(r.take t).map fun n:Nat=>V.int n:=by rw [k2_ _ _ (by simp;lia),CN_]
    have top:=hT'.tn.top;refine ⟨_,top,_,at0,a,rfl,_,.inl ra,by rw [Ab_];lia,?_⟩;nofun;refine ⟨_,top,_,at0,a,rfl,_,.inl ra,by rw [Ab_];lia,lg,?_⟩;nofun;refine ⟨_,top,_,at0,a,rfl,_,ra,fun p1 n1=>⟨_,(Fx_.new n1) _ _ top,_,at0,a,rfl,_,(Fx_.new n1) _ _ ra,fun p2 n2=>?_⟩⟩;rw [ht,c1] at n2 ⊢;rw [c2];have S2:Fx_ H' (upd (upd H' p1 (HO.lst ((r.drop t).map fun n:Nat=>V.int n))) p2 (HO.lst ((r.take t).map fun n:Nat=>V.int n))):=(Fx_.new n1).trans (Fx_.new n2);have h1:=(Fx_.new n2 (o:=HO.lst ((r.take t).map fun n:Nat=>V.int n))) _ _ (aa_ (H:=H') (a:=p1) (o:=HO.lst ((r.drop t).map fun n:Nat=>V.int n)));generalize upd (upd H' p1 (HO.lst ((r.drop t).map fun n:Nat=>V.int n))) p2 (HO.lst ((r.take t).map fun n:Nat=>V.int n))=H2 at *;refine ⟨_,h1,by rw [Ab_,Ab_];exact AM_ (show _<=1000 by rw [BM_,Bn_];lia) (by rw [B8_];decide),fun p3 n3=>?_⟩;have e3:((r.drop t).map fun n:Nat=>V.int n)++((r.take t).map fun n:Nat=>V.int n)=(rot r t).map fun n:Nat=>V.int n:=by rw [<-Aq_];rfl
    rw [e3];have hT2:=(hT'.mono S2).put (sB'.trans S2) (p:=Pp+i) (by lia) n3 (rot r t);rw [List.map_set] at hT2;have lp:l≠p3:=ae_ (S2 _ _ top) n3;refine ⟨_,by rw [af_ lp];exact S2 _ _ top,Pp+i,?_,hkc _ _ ⟨_,_,_,bs.set (Pp+i) p3,T'.set (Pp+i) (rot r t),rfl,fun b o hb=>?_,fun b o hb h=>?_,hT2,?_,by rw [BK_];exact hl⟩⟩
    ·have bl:=hT'.tn.len;unfold ixN;rw [Ab_];rw [if_pos (by lia),if_pos (by lia),AE_]
    ·rw [af_ (ae_ hb hT.fl),af_ (ae_ hb ((sB'.trans S2).free n3))];exact S2 _ _ (sB' _ _ hb)
    ·have e4:=kp b o hb h;rw [af_ hb,af_ (ae_ (S2 _ _ e4) n3)];exact S2 _ _ e4
    ·have g2:=p2_ (t:=t) gr' (p:=Pp+i) (by lia);rw [hr0] at g2;exact g2
   ·rintro σ H' ⟨z,e3,e4,bs,T',rfl,sB',kp,hT',gr',hl⟩;nofun;exact k bs T' H' sB' kp hT' gr' hl
def dS (x:Str):Dt:=.str x
def dRw (r:Str×List Str):Dt:=.tup [.str r.1,.lst (r.2.map dS)]
def dWo (r:Str×(Int×Int)):Dt:=.tup [.str r.1,.tup [.int r.2.1,.int r.2.2]]
def HS_ (N:Net Str):Dt:=.tup [.lst (N.posts.map dS),.lst (N.rows.map dRw),.lst (N.worths.map dWo)]
theorem cM_ {xs:List Str}{i:Nat}(h:i<xs.length):(xs.map V.str)[i]?=some (.str (xs.getD i Str.empty)):=by rw [Ag_,Aa_ h,Ad_,Aa_ h];rfl
theorem lf_ {xs:List Str}(h:xs.Nodup){a b:Nat}(ha:a<xs.length)(hb:b<xs.length)(e:xs.getD a Str.empty=xs.getD b Str.empty):a=b:=by refine (A2_ ha h).mp ?_;rw [Ad_,Ad_,Aa_ ha,Aa_ hb] at e;rw [Aa_ ha,Aa_ hb];exact congrArg some e
theorem jR_ {α β:Type}(f:α->β):∀ (l:List α)(t:Nat),(l.map f).eraseIdx t=(l.eraseIdx t).map f
 | [],_=>rfl
 | _::_,0=>rfl
 | x::l,t+1=>by show f x::(l.map f).eraseIdx t=f x::(l.eraseIdx t).map f;rw [jR_ f l t]
theorem ib_:∀ {l:List Nat}{t:Nat}(h:t<l.length),(l[t]::l.eraseIdx t).Perm l
 | x::l,0,_=>.refl _
 | x::l,t+1,h=>by have ih:=ib_ (l:=l) (t:=t) (by simpa using h);show (l[t]'(by simpa using h)::x::l.eraseIdx t).Perm (x::l);exact (List.Perm.swap _ _ _).trans (ih.cons x)
theorem kA_ {H:Hp}:∀ {us:List V}{ts:List Str},F0_ H us (ts.map dS)->us=ts.map V.str:=fun h=>eL_ h
def Li_ (H6:Hp)(a l D1 D2 O R:Addr)(Pp W n:Nat)(nms wns:List Str)(T':List (List Nat))(σ:L2.St)(H':Hp):Prop :=
 ∃ (z:Int)(e11:Option V)(S:Hp)(rem dn:List Nat)(ys:List V),σ=[some (.ref a),some (.int 0),some (.int 9),some (.int z),some (.int Pp),some (.int W),some (.ref l),some (.ref D1),some (.ref D2),some (.ref O),some (.ref R),e11,none,none,none]/\Fx_ H6 S/\Fx_ S H'/\S O=none/\S R=none/\H' O=some (.lst (rem.map fun n:Nat=>V.int n))/\H' R=some (.lst ys)/\F0_ S ys ((Gk_ (fun p=>nms.getD p Str.empty) (fun v=>wns.getD v Str.empty) T' dn).map dRw)/\(dn++rem).Perm (List.range n)
def LF_ (O:Addr)(H:Hp):Nat:=match H O with|some (.lst xs)=>xs.length|_=>0
abbrev FC_:Stmt:=stN 25
theorem aw_:FF_ ["_law_script", "_law_at", "_law_most", "_law_big_here", "_law_posts", "_law_many", "_law_turns_here", "_law_names_here", "_law_wires", "_law_order", "_law_rows", "_law_p", "_law_worths", "_law_wire", "_law_worth"] ["_law_script", "_law_at", "_law_most"] (Fy_ FC_):=⟨rfl,rfl,rfl,by rfl',rfl,by rfl',by rfl'⟩
theorem cT_:LK FC_ "_law_script" .local:=by rfl'
theorem cU_:LK FC_ "_law_at" .local:=by rfl'
theorem cV_:LK FC_ "_law_most" .local:=by rfl'
theorem ax_:LK FC_ "_law_big_here" .local:=by rfl'
theorem cW_:LK FC_ "_law_posts" .local:=by rfl'
theorem cf_:LK FC_ "_law_many" .local:=by rfl'
theorem bK_:LK FC_ "_law_turns_here" .local:=by rfl'
theorem es_:LK FC_ "_law_names_here" .local:=by rfl'
theorem gy_:LK FC_ "_law_wires" .cell:=by rfl'
theorem cg_:LK FC_ "_law_order" .local:=by rfl'
theorem dR_:LK FC_ "_law_rows" .local:=by rfl'
theorem dS_:LK FC_ "_law_p" .local:=by rfl'
theorem dT_:LK FC_ "_law_worths" .local:=by rfl'
theorem fJ_:LK FC_ "_law_wire" .local:=by rfl'
theorem fK_:LK FC_ "_law_worth" .local:=by rfl'
theorem ga_:LK FC_ "_law_begun" .globalImplicit:=by rfl'
theorem bQ_:LK FC_ "_law_big" .globalImplicit:=by rfl'
theorem gb_:LK FC_ "_law_grown" .globalImplicit:=by rfl'
theorem ds_:LK FC_ "_law_names" .globalImplicit:=by rfl'
theorem eO_:LK FC_ "_law_worth_of" .globalImplicit:=by rfl'
theorem b6_:LK FC_ "len" .globalImplicit:=by rfl'
theorem hD_:LK FC_ "list" .globalImplicit:=by rfl'
theorem d9_:LK FC_ "range" .globalImplicit:=by rfl'
theorem gc_:LK FC_ "sorted" .globalImplicit:=by rfl'
structure WOk (N:Net Str):Prop where
 nd:(N.worths.map (·.1)).Nodup
 mem:∀ x,x∈N.worths.map (·.1) ↔ x∈N.all
 ws:∀ x∈N.worths,Ws x.2
def JG_ (K:PySem.W.Frag):Sp:=fun vs H Q _=>∃ (a:Addr)(ns:List Int),vs=[.ref a,.int 0,.int 9]/\SqL K H a (ns.map V.int)/\∀ v (N:Net Str) H',Fx_ H H'->Rep H' v (HS_ N)->FS_ N->FH_ N->WOk N->N.worths.Pairwise (fun a b=>eLe (a.1,0) (b.1,0))->Q v H'
theorem lJ_ (T:Txt K mg)(F:Fn0 K mg "_law_net_by" FC_) (Im_:Cal P w K mg base "_law_big" ["_law_script", "_law_at"] 2 (JL_ K)) (Js_:Cal P w K mg base "_law_grown" ["_law_big_here", "_law_posts", "_law_many", "_law_within"] 3 Ib_) (In_:Cal P w K mg base "_law_names" ["_law_big_here", "_law_many"] 1 Id_) (Jt_:Cal P w K mg base "_law_begun" ["_law_turns_here", "_law_posts", "_law_big_here"] 1 Ii_) (H2_:Cal P w K mg base "_law_worth_of" ["_law_big_here"] 2 Ie_):Cal P w K mg base "_law_net_by" ["_law_script", "_law_at", "_law_most"] 4 (JG_ K):=by
 refine a1_ F aw_ (fun _ _ _ _ _ _=>byL3 fun _ _ _=>rfl) ?len ?body
 case len=>rintro vs H Q E ⟨a,b,rfl,_⟩;rfl
 case body =>
  intro f cdv A outer s H vs Q E hr h;obtain ⟨a,ns,rfl,hS,k⟩:=h;refine' ⟨_,?D,?R⟩
  case D =>
   refine' ac_ (ah_ (i:=3) aw_.nd rfl ax_ (al_ Im_ (hr.mono (by decide)) bQ_ (pa_c (pv1 0 rfl cT_) (pa_c (pv1 1 rfl cU_) ab_)))) ?g2
   case' g2=>refine' ac_ (ah_ (i:=4) aw_.nd rfl cW_ (Fz_ aK_ ad_ (Fz_ aD_ (pv1 3 rfl ax_) ad_))) ?g10
   case' g10=>refine' ac_ (ah_ (i:=5) aw_.nd rfl cf_ (Fz_ aD_ (Fz_ au_ (pv1 3 rfl ax_) ad_) (Fz_ aK_ (pv1 2 rfl cV_) ad_))) ?g17
   case' g17=>refine' ai_ (hj_ (Gp_ (aG_ G0_ (Fz_ aD_ (Fz_ au_ (Fz_ au_ (pv1 3 rfl ax_) ad_) (Fz_ aK_ (pv1 2 rfl cV_) ad_)) ad_) ad_ (FY_ _)) ?g29 aW_)) ?g26
   case' g29=>refine' aj_ (ah_ (i:=5) aw_.nd rfl cf_ (Fz_ aD_ (Fz_ au_ (Fz_ au_ (pv1 3 rfl ax_) ad_) (Fz_ aK_ (pv1 2 rfl cV_) ad_)) ad_))
   case' g26=>refine' ac_ (eh_ ?g53 (aS_ (K:=K) (n:=2) rfl rfl (ak_ ?g71 (ak_ ?g73 aQ_)))) (ac_ (ah_ (i:=7) aw_.nd rfl es_ (al_ In_ (hr.mono (by decide)) ds_ ?g78)) ?g76)
   case' g53=>refine' al_ Js_ (hr.mono (by decide)) gb_ (pa_c (Fz_ au_ (Fz_ au_ (pv1 3 rfl ax_) ad_) (Fz_ aK_ (pv1 2 rfl cV_) ad_)) (pa_c (pv1 4 rfl cW_) (pa_c (pv1 5 rfl cf_) (pa_c ad_ ab_))))
   case g71=>exact ag_ (i:=6) aw_.nd rfl bK_
   case g73=>exact ag_ (i:=3) aw_.nd rfl ax_
   case' g78=>refine' pa_c (al_ Im_ (hr.mono (by decide)) bQ_ (pa_c (pv1 0 rfl cT_) (pa_c (Fz_ aK_ (pv1 1 rfl cU_) ad_) ab_))) (pa_c (am_ ao_ b6_ T.n_len aX_ (pa_c (pv1 6 rfl bK_) ab_)) ab_)
   case' g76=>refine' ac_ ?g93 (ac_ (ah_ (i:=6) aw_.nd rfl bK_ (al_ Jt_ (hr.mono (by decide)) ga_ (pa_c (pv1 6 rfl bK_) (pa_c (pv1 4 rfl cW_) (pa_c (pv1 3 rfl ax_) ab_))))) ?g109)
   case' g93=>refine' iu_ (i:=8) aw_.nd rfl gy_ rfl (al_ In_ (hr.mono (by decide)) ds_ (pa_c (al_ Im_ (hr.mono (by decide)) bQ_ (pa_c (pv1 0 rfl cT_) (pa_c (Fz_ aK_ (pv1 1 rfl cU_) ad_) ab_))) (pa_c (pv1 5 rfl cf_) ab_))) rfl
   case' g109=>refine' ac_ ?g118 (ac_ ?g127 (ac_ (ah_ (i:=10) aw_.nd rfl dR_ (bo_ ab_)) ?g138))
   case' g118=>refine' ah_ (i:=9) aw_.nd rfl cg_ (jt_ rfl hD_ T.n_list d9_ T.n_range (pa_c (am_ ao_ b6_ T.n_len aX_ (pa_c (pv1 6 rfl bK_) ab_)) ab_))
   case' g127=>refine' ah_ (i:=3) aw_.nd rfl ax_ (al_ Im_ (hr.mono (by decide)) bQ_ (pa_c (pv1 0 rfl cT_) (pa_c (Fz_ aK_ (pv1 1 rfl cU_) ad_) ab_)))
   case' g138=>refine' ai_ (eE_ AA_ (aG_ (jn_ (hr.units)) (pv1 9 rfl cg_) (bo_ ab_) (FY_ _)) ?g144) (ac_ (ah_ (i:=12) aw_.nd rfl dT_ (bo_ ab_)) ?g194)
   case' g144=>refine' ac_ ?g148 (ac_ ?g160 (aj_ (aA_ (Gi_ Az_ AC_ AD_ az_ (pv1 10 rfl dR_) (pa_c ?g174 ab_)))))
   case' g148=>refine' ah_ (i:=11) aw_.nd rfl dS_ (Gi_ Az_ PySem.F.slot_list_pop PySem.F.type_list_pop nu_ (pv1 9 rfl cg_) (pa_c (Fz_ aD_ (pv1 3 rfl ax_) (am_ ao_ b6_ T.n_len aX_ (pa_c (pv1 9 rfl cg_) ab_))) ab_))
   case' g160=>refine' ah_ (i:=3) aw_.nd rfl ax_ (Fz_ au_ (pv1 3 rfl ax_) (Fz_ aK_ (am_ ao_ b6_ T.n_len aX_ (pa_c (pv1 9 rfl cg_) ab_)) ad_))
   case' g174=>refine' aq_ (pa_c (FG_ ar_ (pv1 7 rfl es_) (pv1 11 rfl dS_) (fun _ _=>rfl)) (pa_c (cA_ (N':=["_law_wire", "_law_wires"]) (ix:=[none,some 8]) rfl rfl (cB_ ?g183) (aR_ (K:=K) rfl (FG_ ar_ (pv1 6 rfl bK_) (pv1 11 rfl dS_) (fun _ _=>rfl))) (fun _ _ _=>?g185) (fun _ _ _=>?g186) (fun _ _ _=>(FG_ ar_ (pvc 1 rfl rfl) (pv1 0 rfl rfl) (fun _ _=>rfl)))) ab_))
   case g183=>exact (by show Hx_ (Fy_ FC_) ["_law_script", "_law_at", "_law_most", "_law_big_here", "_law_posts", "_law_many", "_law_turns_here", "_law_names_here", "_law_wires", "_law_order", "_law_rows", "_law_p", "_law_worths", "_law_wire", "_law_worth"] _ _ _=true;decide +kernel)
   case g185=>exact ag_ (i:=0) (by show List.Nodup (["_law_wire", "_law_wires"]:List Str);decide +kernel) rfl rfl
   case g186=>exact d6_
   case' g194=>refine' ai_ (aZ_ AA_ rfl (aC_ d9_ T.n_range (pa_c (pv1 5 rfl cf_) ab_)) ?g200 ?g201) (aj_ (aB_ ?g231))
   case g200=>exact ag_ (i:=13) aw_.nd rfl fJ_
   case' g201=>refine' ac_ (eh_ (al_ H2_ (hr.mono (by decide)) eO_ (pa_c (pv1 3 rfl ax_) ab_)) (aS_ (K:=K) (n:=2) rfl rfl (ak_ ?g213 (ak_ ?g215 aQ_)))) ?g206
   case g213=>exact ag_ (i:=14) aw_.nd rfl fK_
   case g215=>exact ag_ (i:=3) aw_.nd rfl ax_
   case' g206=>refine' aj_ (aA_ (Gi_ Az_ AC_ AD_ az_ (pv1 12 rfl dT_) (pa_c (aq_ (pa_c (FG_ ar_ (pvc 8 rfl gy_) (pv1 13 rfl fJ_) (fun _ _=>rfl)) (pa_c (pv1 14 rfl fK_) ab_))) ab_)))
   case' g231=>refine' aq_ (pa_c (bO_ ct_ (pv1 7 rfl es_) ?g236 (cl_ (pv1 4 rfl cW_))) (pa_c (pv1 10 rfl dR_) (pa_c (am_ (lB_ hr.units) gc_ T.n_sorted fw_ (pa_c (pv1 12 rfl dT_) ab_)) ab_)))
   case g236=>exact cz_
  case R =>
   nofun;refine ⟨a,ns,0,rfl,by decide,hS,fun z0 H0 s0=>?_⟩;nofun;obtain ⟨Pp,hP,P1,P6⟩:∃ m:Nat,(1+z0%6:Int)=m/\1<=m/\m<=6:=by have a1:=AW_ z0 (show (6:Int)≠0 by decide);have a2:=AU_ z0 (show (0:Int)<6 by decide);exact ⟨(1+z0%6).toNat,by lia,by lia,by lia⟩
   rw [hP];refine ⟨by decide,?_⟩;nofun;refine ⟨by decide,by rfl',by decide,?_⟩;nofun;refine ⟨fun σ Hx=>∃ W:Nat,σ=[some (.ref a),some (.int 0),some (.int 9),some (.int z0),some (.int Pp),some (.int W),none,none,none,none,none,none,none,none,none]/\Hx=H0/\W<=15,?_,?_⟩
   ·nofun;have a1:=AW_ (z0/6) (show (9+1:Int)≠0 by decide);have a2:=AU_ (z0/6) (show (0:Int)<9+1 by decide);have a3:=AW_ (z0/48/(9+1)) (show (16:Int)≠0 by decide);have a4:=AU_ (z0/48/(9+1)) (show (0:Int)<16 by decide);refine ⟨by decide,by rfl',by decide,by rfl',by decide,ite2 (fun _=>?_) (fun _=>?_)⟩
    ·exact ⟨by decide,by rfl',by decide,by rfl',by decide,(z0/48/(9+1)%16).toNat,by lia,by lia⟩
    ·exact ⟨(z0/6%(9+1)).toNat,by lia,by lia⟩
   rintro σ Hx ⟨W,rfl,rfl,W15⟩;have hS0:=s0.seq hS;nofun;refine ⟨by decide,by rfl',by decide,by rfl',?_⟩;refine ⟨_,Pp,W,rfl,P1,P6,W15,fun pg l as_ T y H1 s1 hpg hT gr=>?_⟩;have gl:=gr.len;have gm:=gr.most;refine ⟨pg,rfl,_,SqT.of hpg,rfl,_,_,rfl,_,_,rfl,rfl,?_⟩;nofun;refine ⟨a,ns,_,rfl,by decide,(s1.seq hS0),fun z1 H2 s2=>?_⟩;have hT2:=hT.mono s2;have al:=hT2.tn.len;refine ⟨_,.inl hT2.tn.top,?_⟩;rw [Ab_];refine ⟨z1,as_.length,rfl,by lia,fun D1 nms H3 s3 rep1 nl1 nd1=>?_⟩;have s03:=s1.trans (s2.trans s3);nofun;refine ⟨a,ns,_,rfl,by decide,s03.seq hS0,fun z2 H4 s4=>⟨z2,W,rfl,by lia,fun D2 wns H5 s5 rep2 nl2 nd2=>?_⟩⟩;have s05:=s03.trans (s4.trans s5);have hT5:=hT2.mono (s3.trans (s4.trans s5));nofun;refine ⟨Hx,l,as_,T,Pp,W,y,rfl,s05,hT5,gr,P6,W15,fun bs T' H6 s6 kp hT6 gr' hl6=>?_⟩;obtain ⟨_,us1,e1,hD1',hus1⟩:=id rep1;cases e1;rw [eL_ hus1] at hD1';obtain ⟨_,us2,e2,hD2',hus2⟩:=id rep2;cases e2;rw [eL_ hus2] at hD2';have D1l:D1≠l:=(ae_ hT2.tn.top (bq_ hD1').1).symm;have D2l:D2≠l:=(ae_ ((hT2.mono (s3.trans s4)).tn.top) (bq_ hD2').1).symm;have hD1:H6 D1=some (.lst (nms.map V.str)):=kp _ _ D1l ((s4.trans s5) _ _ (bq_ hD1').2);have hD2:H6 D2=some (.lst (wns.map V.str)):=kp _ _ D2l (bq_ hD2').2;clear hD1' hD2' hus1 hus2 rep1 rep2;have hS6:=s6.seq hS0;have bl:=hT6.tn.len;have gl6:=gr'.len;have gm6:=gr'.most;clear hT hT2 hT5 s1 s2 s3 s4 s5 s03 s05 kp hpg;nofun;refine ⟨_,.inl hT6.tn.top,bs.length,by rw [Ab_],by lia,fun O nO=>?_⟩;have S7:Fx_ H6 (upd H6 O (HO.lst (G5_ bs.length))):=Fx_.new nO;have hO:=aa_ (H:=H6) (a:=O) (o:=HO.lst (G5_ bs.length));generalize upd H6 O (HO.lst (G5_ bs.length))=H7 at *;nofun;refine ⟨a,ns,_,rfl,by decide,S7.seq hS6,fun z3 H8 s8=>?_⟩;nofun;refine ⟨Ay_ _,fun R nR=>?_⟩;nofun;have R6:H6 R=none:=(S7.trans s8).free nR;have RO:R≠O:=(ae_ (s8 _ _ hO) nR).symm;have eN:G5_ bs.length=(List.range bs.length).map fun n:Nat=>V.int n:=rfl
   refine g0_ (Li_ H6 a l D1 D2 O R Pp W bs.length nms wns T')
    (fun _ H'=>LF_ O H') ⟨z3,none,H6,List.range bs.length,[],[],rfl,Fx_.refl _,(S7.trans s8).upd R6,nO,R6,by rw [af_ RO.symm];exact s8 _ _ hO,aa_,rfl,.refl _⟩ ?_
   rintro σ H' kb hkb G hG ⟨z,e11,S,rem,dn,ys,rfl,sS,sH,SO,SR,hO',hR',repS,pm⟩;refine hG ?_;nofun;refine ⟨Ay_ _,fun p np=>?_⟩;have Sp:Fx_ H' (upd H' p (HO.lst [])):=Fx_.new np
   have repO:Rep (upd H' p (HO.lst [])) (.ref O) (.lst (rem.map fun n:Nat=>Dt.int n)):=⟨O,_,rfl,Sp _ _ hO',by
    clear hO' pm
    induction rem with
    | nil=>exact rfl
    | cons x r ih=>exact ⟨_,_,rfl,rfl,ih⟩⟩
   have repp:Rep (upd H' p (HO.lst [])) (.ref p) (.lst []):=⟨p,[],rfl,aa_,rfl⟩;have pO:p≠O:=(ae_ hO' np).symm;have pR:p≠R:=(ae_ hR' np).symm
   have dle:dep (.lst (rem.map fun n:Nat=>Dt.int n))<=60:=by
    have:deps (rem.map fun n:Nat=>Dt.int n)=0:=by
     clear hO' pm repO
     induction rem with
     | nil=>rfl
     | cons x r ih=>show max 0 (deps (r.map fun n:Nat=>Dt.int n))=0;rw [ih];rfl
    show deps _+1<=60;lia
   have sH2:Fx_ S (upd H' p (HO.lst [])):=sH.trans Sp;generalize upd H' p (HO.lst [])=Hq at *;have hOq:=Sp _ _ hO';have hRq:=Sp _ _ hR'
   refine ⟨_,repO,_,repp,decide (rem=[]),by
    cases rem with
    | nil=>rfl
    | cons x r=>simp [deq,deqs],dle,?_⟩
   refine ite2 (fun hne=>?_) (fun hemp=>?_)
   ·have rne:rem≠[]:=Cc_ hne;have rl0:0<rem.length:=Bx_.mpr rne;refine ⟨_,N_ok,?_⟩;obtain ⟨t,ht,tl⟩:∃ t:Nat,z%(((rem.map fun n:Nat=>V.int n).length:Nat):Int)=t/\t<rem.length:=by rw [Ab_];have a1:=AW_ z (show (rem.length:Int)≠0 by lia);have a2:=AU_ z (show (0:Int)<(rem.length:Int) by lia);exact ⟨(z%(rem.length:Int)).toNat,by lia,by lia⟩
    have rl16:rem.length<=16:=by have:=pm.length_eq;rw [Af_,Bl_] at this;lia
    have er:((rem.map fun n:Nat=>V.int n).eraseIdx t)=(rem.eraseIdx t).map fun n:Nat=>V.int n:=jR_ _ _ _;have el:(rem.eraseIdx t).length=rem.length-1:=List.length_eraseIdx_of_lt tl
    have lg:((((rem.map fun n:Nat=>V.int n).eraseIdx t).length:Int)+1).natAbs.log2<9000:=by
     rw [er,Ab_];by_cases h0:(((rem.eraseIdx t).length:Int)+1).natAbs=0
     ·rw [h0];decide
     ·rw [EI_ h0];exact BG_ (show (((rem.eraseIdx t).length:Int)+1).natAbs<=1000 by lia) (by rfl')
    have hp0:rem[t]?=some (rem[t]):=Aa_ tl;have pn:rem[t]<bs.length:=AX_.mp (pm.mem_iff.mp (AH_ _ (A3_ tl)));have pm2:(dn++[rem[t]]++rem.eraseIdx t).Perm (List.range bs.length):=by refine List.Perm.trans ?_ pm;rw [Bp_];exact (ib_ tl).append_left dn
    generalize rem[t]=pt at *;nofun;refine ⟨.inl ⟨_,.inl (.inl hOq)⟩,_,.inl hOq,by rw [Ab_];lia,_,hOq,by rw [ht];lia,by rw [ht];lia,t,?_,.int pt,by rw [Ag_,hp0];rfl,?_⟩
    ·rw [ht,Ab_];rw [EB_ (by lia) (by lia),AE_]
    nofun;refine ⟨by lia,lg,?_⟩;rw [er];nofun;have OR:O≠R:=RO.symm;have sH3:Fx_ S (upd Hq O (HO.lst ((rem.eraseIdx t).map fun n:Nat=>V.int n))):=aL_ sH2 SO;have hR3:upd Hq O (HO.lst ((rem.eraseIdx t).map fun n:Nat=>V.int n)) R=some (.lst ys):=by rw [af_ RO];exact hRq
    have hO3:=aa_ (H:=Hq) (a:=O) (o:=HO.lst ((rem.eraseIdx t).map fun n:Nat=>V.int n));generalize upd Hq O (HO.lst ((rem.eraseIdx t).map fun n:Nat=>V.int n))=H3 at *;have s63:Fx_ H6 H3:=sS.trans sH3;obtain ⟨a1,ea1,at1,ra1⟩:=hT6.tn.at_ (p:=pt) (by lia);have ra3:=s63 _ _ ra1
    have lt:∀ v∈T'.getD pt [],v<wns.length:=fun v hv=>by
     rw [nl2];refine gr'.lt v ?_;have hm:T'.getD pt []∈T':=by rw [Ad_,Aa_ (show pt<T'.length by lia)];exact A3_ _
     exact BF_.mpr ⟨_,hm,hv⟩
    have rl30:(T'.getD pt []).length<=30:=by have:=Jr_ T' pt;rw [gr'.tot] at this;unfold rl at this;lia
    have atn:atI (nms.map V.str) ((pt:Nat):Int)=some (.str (nms.getD pt Str.empty)):=fv_ (by lia) (by rw [AE_];exact cM_ (by lia));refine ⟨.inl ⟨_,.inl (.inl hR3)⟩,_,s63 _ _ hD1,_,atn,_,s63 _ _ hT6.tn.top,_,at1,a1,rfl,⟨_,.inl (.inl ra3)⟩,?_⟩;generalize hrow:T'.getD pt []=row at *;have hD2':=s63 _ _ hD2;refine dH_ (n:=row.length) (B:=fun _=>none) (Pσ:=fun σ=>∃ e,σ=[e,some (.ref D2)]) (ds:=(row.map fun v=>wns.getD v Str.empty).map dS) (fun b o e=>by cases e) ⟨_,rfl⟩ (by simp) (by lia) (fun j Hj hj sj=>⟨_,.int (row[j]:Nat),.inl (.inl (sj _ _ ra3)),by simp [hj]⟩) (fun Hj sj=>⟨_,.inl (.inl (sj _ _ ra3)),by simp⟩) ?_ ?_
    ·rintro D j x d σ' Hj Hj' hD hDo hsj hj hdj ⟨rfl,hy⟩ ⟨e,rfl⟩ R0 kR;have hx:=hy _ (.inl (.inl (hsj _ _ ra3)));rw [Ag_,Aa_ hj] at hx;cases hx;have hd:d=dS (wns.getD row[j] Str.empty):=by rw [Ag_,Ag_,Aa_ hj] at hdj;exact (Aw_ hdj).symm
     nofun;refine ⟨_,hsj _ _ hD2',_,fv_ (by lia) (by rw [AE_];exact cM_ (lt _ (A3_ hj))),kR _ _ _ ⟨_,rfl⟩ (Fx_.refl _) ?_⟩;rw [hd];exact rfl
    ·intro D H4 hD s4 rep4;refine ⟨by decide,fun q nq=>?_⟩;have hD3:H3 D=none:=hD;obtain ⟨_,us,e4,hD4',hus⟩:=id rep4;cases e4;have hD4:=(bq_ hD4').2;rw [kA_ hus] at hD4;have qR:q≠R:=(ae_ (s4 _ _ hR3) nq).symm;have qO:q≠O:=(ae_ (s4 _ _ hO3) nq).symm;have g1:Fx_ S (grow S H3 H4):=cC_ sH3;have g2:Fx_ (grow S H3 H4) H4:=iy_ sH3 s4;have gO:grow S H3 H4 O=none:=by rw [eI_ hO3];exact SO
     have gR:grow S H3 H4 R=none:=by rw [eI_ hR3];exact SR
     have gD:grow S H3 H4 D=some (.lst ((row.map fun v=>wns.getD v Str.empty).map V.str)):=by rw [ix_ hD3];exact hD4
     have g3:Fx_ (grow S H3 H4) (upd (grow S H3 H4) q (.tup [.str (nms.getD pt Str.empty),.ref D])):=a2_ g2 nq;have g4:Fx_ (upd (grow S H3 H4) q (.tup [.str (nms.getD pt Str.empty),.ref D])) (upd H4 q (.tup [.str (nms.getD pt Str.empty),.ref D])):=fy_ g2 nq;have gO2:upd (grow S H3 H4) q (.tup [.str (nms.getD pt Str.empty),.ref D]) O=none:=by rw [af_ qO.symm];exact gO
     have gR2:upd (grow S H3 H4) q (.tup [.str (nms.getD pt Str.empty),.ref D]) R=none:=by rw [af_ qR.symm];exact gR
     have yl:ys.length=dn.length:=by rw [repS.length,Ab_];unfold Gk_;rw [Ab_]
     have dl:dn.length<=16:=by have:=pm.length_eq;rw [Af_,Bl_] at this;lia
     refine ⟨ys,by rw [af_ qR.symm];exact s4 _ _ hR3,Fw_ (by lia),⟨_,_,upd (grow S H3 H4) q (.tup [.str (nms.getD pt Str.empty),.ref D]),rem.eraseIdx t,dn++[pt],ys++[.ref q],rfl,sS.trans (g1.trans g3),aL_ g4 gR2,gO2,gR2,?_,aa_,?_,pm2⟩,?_⟩
     ·rw [af_ OR,af_ qO.symm];exact s4 _ _ hO3
     ·have er2:Gk_ (fun p=>nms.getD p Str.empty) (fun v=>wns.getD v Str.empty) T' (dn++[pt])=Gk_ (fun p=>nms.getD p Str.empty) (fun v=>wns.getD v Str.empty) T' dn++[(nms.getD pt Str.empty,row.map fun v=>wns.getD v Str.empty)]:=by unfold Gk_;rw [Aq_,AG_,CR_,hrow]
      rw [er2,Aq_];refine F0_.append (F0_.mono (g1.trans g3) _ repS) ⟨_,_,rfl,⟨q,_,rfl,aa_,_,_,rfl,rfl,_,_,rfl,⟨D,_,rfl,g3 _ _ gD,bz_ _⟩,rfl⟩,rfl⟩
     ·unfold LF_;rw [af_ OR,af_ qO.symm,s4 _ _ hO3,hO'];show ((rem.eraseIdx t).map _).length<(rem.map _).length;rw [Ab_,Ab_];lia
   ·have re:rem=[]:=by
     by_cases h:rem=[]
     ·exact h
     ·exact absurd (AN_ h) hemp
    subst re;rw [BC_] at pm;refine hkb _ _ ?_;nofun;refine ⟨Ay_ _,fun L nL=>?_⟩;nofun;refine ⟨by lia,by lia,?_⟩;rw [show Int.toNat (W:Int)=W by lia];have s6q:Fx_ H6 Hq:=sS.trans sH2;have hD2q:=s6q _ _ hD2;have hD1q:=s6q _ _ hD1;refine a3_ (fun i σ H'=>∃ (z:Int)(e13 e14:Option V)(S':Hp)(vs:List V)(wl:List (Str×(Int×Int))),σ=[some (.ref a),some (.int 0),some (.int 9),some (.int z),some (.int Pp),some (.int W),some (.ref l),some (.ref D1),some (.ref D2),some (.ref O),some (.ref R),e11,some (.ref L),e13,e14]/\Fx_ Hq S'/\Fx_ S' H'/\S' L=none/\H' L=some (.lst vs)/\F0_ S' vs (wl.map dWo)/\wl.map (·.1)=wns.take i/\∀ x∈wl,Ws x.2) ⟨z,none,none,Hq,[],[],rfl,Fx_.refl _,Fx_.new nL,nL,aa_,rfl,rfl,fun x hx=>by cases hx⟩ ?_ ?_
    ·rintro i σ H5 hi kc kb hkc hkb G hG ⟨z,e13,e14,S',vs,wl,rfl,sq,sS5,SL,hL,repW,wnm,wws⟩;refine hG ?_;have hi':i<W:=hi;have iw:i<wns.length:=by lia
     nofun;refine ⟨z,rfl,fun pw qw H7 t0 b0 y0 s7 npw nqw tw hpw hqw=>?_⟩;have s57:=sS5.trans s7;have wll:wl.length=i:=by have:=congrArg List.length wnm;rw [Ab_,Bn_] at this;lia
     have vl:vs.length=i:=by rw [repW.length,Ab_];exact wll
     refine ⟨pw,rfl,_,SqT.of hpw,rfl,_,_,rfl,_,_,rfl,rfl,?_⟩;nofun;refine ⟨.inl ⟨_,.inl (.inl (s7 _ _ hL))⟩,_,(sq.trans s57) _ _ hD2q,_,fv_ (by lia) (by rw [show Int.toNat (0+(i:Nat):Int)=i by lia];exact cM_ iw),by decide,fun q nq=>?_⟩;have g1:Fx_ S' (grow S' H5 H7):=cC_ sS5;have g2:Fx_ (grow S' H5 H7) H7:=iy_ sS5 s7;have gL:grow S' H5 H7 L=none:=by rw [eI_ hL];exact SL
     have gq:grow S' H5 H7 qw=some (.tup [.int (nf t0 b0).1,.int (nf t0 b0).2]):=by rw [ix_ nqw];exact hqw
     have qL:q≠L:=(ae_ (s7 _ _ hL) nq).symm;have g3:Fx_ (grow S' H5 H7) (upd (grow S' H5 H7) q (.tup [.str (wns.getD i Str.empty),.ref qw])):=a2_ g2 nq;have g4:Fx_ (upd (grow S' H5 H7) q (.tup [.str (wns.getD i Str.empty),.ref qw])) (upd H7 q (.tup [.str (wns.getD i Str.empty),.ref qw])):=fy_ g2 nq;have gL2:upd (grow S' H5 H7) q (.tup [.str (wns.getD i Str.empty),.ref qw]) L=none:=by rw [af_ qL.symm];exact gL
     refine ⟨vs,by rw [af_ qL.symm];exact s7 _ _ hL,Fw_ (by lia),hkc _ _ ⟨y0,_,_,upd (grow S' H5 H7) q (.tup [.str (wns.getD i Str.empty),.ref qw]),_,wl++[(wns.getD i Str.empty,nf t0 b0)],rfl,sq.trans (g1.trans g3),aL_ g4 gL2,gL2,aa_,?_,?_,fun x hx=>(An_.mp hx).elim (wws x) fun hx=>by rw [Ak_.mp hx];exact tw⟩⟩
     ·rw [Aq_];exact F0_.append (F0_.mono (g1.trans g3) _ repW) ⟨_,_,rfl,⟨q,_,rfl,aa_,_,_,rfl,rfl,_,_,rfl,⟨qw,_,rfl,g3 _ _ gq,_,_,rfl,rfl,_,_,rfl,rfl,rfl⟩,rfl⟩,rfl⟩
     ·rw [Aq_,wnm,BO_,Aa_ iw,Ad_,Aa_ iw];rfl
    ·rintro σ H5 ⟨z,e13,e14,S',vs,wl,rfl,sq,sS5,SL,hL,repW,wnm,wws⟩;rw [BD_ (by lia)] at wnm;nofun;have wll:wl.length=W:=by rw [<-nl2,<-wnm,Ab_]
     have vl:vs.length=wl.length:=by rw [repW.length,Ab_]
     have sq5:=sq.trans sS5;have c1:HJ_ (nms.map V.str) none (some ((Pp:Nat):Int))=(nms.take Pp).map V.str:=by rw [k2_ _ _ (by rw [Ab_];lia),CN_]
     refine ⟨_,sq5 _ _ hD1q,fun q nq=>?_⟩;rw [c1];have Sq:Fx_ H5 (upd H5 q (HO.lst ((nms.take Pp).map V.str))):=Fx_.new nq;have hq:=aa_ (H:=H5) (a:=q) (o:=HO.lst ((nms.take Pp).map V.str));generalize upd H5 q (HO.lst ((nms.take Pp).map V.str))=H6' at *;refine ⟨vs,Sq _ _ hL,wl,F0_.mono (sS5.trans Sq) _ repW,by lia,by rw [wnm];exact nd2,fun l' zs wl' nl' repW' pw srt=>?_⟩
     ·refine ⟨by decide,fun pe npe=>?_⟩;have Sl:Fx_ H6' (upd H6' l' (HO.lst zs)):=Fx_.new nl';have hl':=aa_ (H:=H6') (a:=l') (o:=HO.lst zs);generalize upd H6' l' (HO.lst zs)=H7' at *;have Se:Fx_ H7' (upd H7' pe (HO.tup [V.ref q,V.ref R,V.ref l'])):=Fx_.new npe;have he:=aa_ (H:=H7') (a:=pe) (o:=HO.tup [V.ref q,V.ref R,V.ref l']);generalize upd H7' pe (HO.tup [V.ref q,V.ref R,V.ref l'])=H8' at *;have tot:Fx_ H5 H8':=Sq.trans (Sl.trans Se);refine k (.ref pe) ⟨nms.take Pp,Gk_ (fun p=>nms.getD p Str.empty) (fun v=>wns.getD v Str.empty) T' dn,wl'⟩ H8' (s0.trans (s6.trans (s6q.trans (sq5.trans tot)))) ⟨pe,_,rfl,he,_,_,rfl,⟨q,_,rfl,(Sl.trans Se) _ _ hq,bz_ _⟩,_,_,rfl,⟨R,ys,rfl,tot _ _ (sq5 _ _ hRq),F0_.mono (sH2.trans (sq5.trans tot)) _ repS⟩,_,_,rfl,⟨l',zs,rfl,Se _ _ hl',F0_.mono (Sl.trans Se) _ repW'⟩,rfl⟩ ?_ ?_ ?_ srt
      ·exact pm_ gr' (by rw [<-bl];exact pm) P6 W15 (fun x y hx hy e=>lf_ nd1 (by lia) (by lia) e) (fun x y hx hy e=>lf_ nd2 (by lia) (by lia) e) (by rw [Bn_];lia) (by rw [pw.length_eq];lia)
      ·have nl1':nms.length=T'.length:=by lia
       refine ⟨List.Nodup.sublist (List.take_sublist _ _) nd1,fun x hx=>?_,by rw [Bn_];lia⟩;obtain ⟨j,hj,ej⟩:=AB_.mp hx;have hj2:j<nms.length:=by rw [Bn_] at hj;lia
       refine Ap_.mpr ⟨_,Ap_.mpr ⟨j,pm.mem_iff.mpr (AX_.mpr (by lia)),rfl⟩,?_⟩;show nms.getD j Str.empty=x;rw [Ad_,Aa_ hj2];rw [List.getElem_take] at ej;exact ej
      ·have pn:=pw.map (·.1);rw [wnm] at pn;refine ⟨pn.nodup_iff.mpr nd2,fun x=>?_,fun x hx=>wws x (pw.mem_iff.mp hx)⟩;rw [pn.mem_iff];have al:=kM_ (S:=Str) (ns:=fun p=>nms.getD p Str.empty) (ws:=fun v=>wns.getD v Str.empty) (T:=T') (ord:=dn) (by rw [<-bl];exact pm);show x∈wns ↔ x∈((Gk_ _ _ T' dn).map (·.2)).flatten;rw [al.mem_iff];constructor
       ·intro hx;obtain ⟨j,hj,ej⟩:=AB_.mp hx;refine Ap_.mpr ⟨j,Cr_.mp (by rw [gr'.two j (by lia)];decide),?_⟩;show wns.getD j Str.empty=x;rw [Ad_,Aa_ hj];exact ej
       ·intro hx;obtain ⟨j,hj,ej⟩:=Ap_.mp hx;have hl:=gr'.lt j hj;have ej':wns.getD j Str.empty=x:=ej;rw [Ad_,Aa_ (show j<wns.length by lia)] at ej';rw [<-ej'];exact A3_ _
def dE (e:End Str):Dt:=.tup [.str e.1,.int e.2]
def GA_ (acc:List (Str×List (End Str)))(ls:List Addr):List (Key×V):=List.zipWith (fun kv l=>(Sum.inr kv.1,V.ref l)) acc ls
structure DE (en:End Str->Dt)(S H:Hp)(d:Addr)(ls:List Addr)(acc:List (Str×List (End Str))):Prop where
 sH:Fx_ S H
 dict:H d=some (.dK (GA_ acc ls))
 len:ls.length=acc.length
 nd:ls.Nodup
 dn:d∉ls
 lst:∀ (i:Nat)(l:Addr)(kv:Str×List (End Str)),ls[i]?=some l->acc[i]?=some kv->∃ vs,H l=some (.lst vs)/\F0_ S vs (kv.2.map en)
 fd:S d=none
 fl:∀ l∈ls,S l=none
theorem DE.mono {en:End Str->Dt}{S H H':Hp}{d:Addr}{ls:List Addr}{acc:List (Str×List (End Str))}(h:DE en S H d ls acc)(s:Fx_ H H'):DE en S H' d ls acc :=
 ⟨h.sH.trans s,s _ _ h.dict,h.len,h.nd,h.dn,fun i l kv h1 h2=>(h.lst i l kv h1 h2).elim fun vs z=>⟨vs,s _ _ z.1,z.2⟩,h.fd,h.fl⟩
theorem DE.stay {en:End Str->Dt}{S H:Hp}{d:Addr}{ls:List Addr}{acc:List (Str×List (End Str))}(h:DE en S H d ls acc){q:Addr}(nq:H q=none)(o:HO):DE en (upd S q o) (upd H q o) d ls acc:=by
 have qd:q≠d:=(ae_ h.dict nq).symm;have ql:∀ l∈ls,q≠l:=fun l hl e=>by obtain ⟨i,hi,ei⟩:=AB_.mp hl;obtain ⟨vs,z,_⟩:=h.lst i l (acc[i]'(by rw [<-h.len];exact hi)) (by rw [Aa_ hi,ei]) (Aa_ _);rw [<-e,nq] at z;cases z
 exact ⟨fy_ h.sH nq,by rw [af_ qd.symm];exact h.dict,h.len,h.nd,h.dn,fun i l kv h1 h2=>(h.lst i l kv h1 h2).elim fun vs z=>⟨vs,by rw [af_ (ql l (Am_ h1)).symm];exact z.1,F0_.mono (a2_ h.sH nq) _ z.2⟩,by rw [af_ qd.symm];exact h.fd,fun l hl=>by rw [af_ (ql l hl).symm];exact h.fl l hl⟩
theorem m2_ {acc:List (Str×List (End Str))}{ls:List Addr}(h:ls.length=acc.length):(GA_ acc ls).length=acc.length:=by unfold GA_;rw [List.length_zipWith];lia
theorem iO_ {w:Str}:∀ {acc:List (Str×List (End Str))}{ls:List Addr}{i:Nat}{es:List (End Str)},ls.length=acc.length->acc[i]?=some (w,es)->(∀ j kv,j<i->acc[j]?=some kv->kv.1≠w)->∃ l,ls[i]?=some l/\F9_ (GA_ acc ls) (.inr w)=some (.ref l)
 | [],_,_,_,_,h,_=>by cases h
 | kv::acc,[],_,_,h,_,_=>by cases h
 | kv::acc,l::ls,0,es,_,h,_=>by
  cases h;exact ⟨l,rfl,bh_ rfl⟩
 | kv::acc,l::ls,i+1,es,hl,h,hn=>by obtain ⟨l',h1,h2⟩:=iO_ (w:=w) (acc:=acc) (ls:=ls) (i:=i) (by simpa using hl) h fun j kv hj hkv=>hn (j+1) kv (by lia) hkv;refine ⟨l',h1,?_⟩;show F9_ ((Sum.inr kv.1,V.ref l)::GA_ acc ls) (.inr w)=_;rw [a7_ (fun z=>hn 0 kv (by lia) rfl (Cw_ z))];exact h2
theorem iP_ {w:Str}:∀ {acc:List (Str×List (End Str))}{ls:List Addr},(∀ kv∈acc,kv.1≠w)->F9_ (GA_ acc ls) (.inr w)=none
 | [],_,_=>by unfold GA_;rw [List.zipWith_nil_left];rfl
 | kv::acc,[],_=>rfl
 | kv::acc,l::ls,h=>by show F9_ ((Sum.inr kv.1,V.ref l)::GA_ acc ls) (.inr w)=_;rw [a7_ (fun z=>h kv At_ (Cw_ z))];exact iP_ fun kv hkv=>h kv (Ar_ _ hkv)
theorem nW_ {w:Str}{acc:List (Str×List (End Str))}{ls:List Addr}{q:Addr}{e:End Str}(hl:ls.length=acc.length)(h:∀ kv∈acc,kv.1≠w):Ge_ (GA_ acc ls) (.inr w) (.ref q)=GA_ (acc++[(w,[e])]) (ls++[q]):=by have hv:=iP_ (ls:=ls) h;unfold Ge_;rw [if_neg (by rw [cR_,hv];decide)];unfold GA_;rw [List.zipWith_append hl.symm];rfl
theorem DE.old {en:End Str->Dt}{S H:Hp}{d:Addr}{ls:List Addr}{acc:List (Str×List (End Str))}(h:DE en S H d ls acc){w:Str}{e:End Str}{i:Nat}{es:List (End Str)}{l:Addr}{t:V}{vs:List V}(hi:acc[i]?=some (w,es))(hl:ls[i]?=some l)(hv:H l=some (.lst vs))(hr:F0_ S vs (es.map en))(ht:Rep S t (en e)) :
  DE en S (upd H l (.lst (vs++[t]))) d ls (acc.set i (w,es++[e])):=by
 have dl:d≠l:=fun z=>h.dn (by rw [z];exact Am_ hl);have il:i<ls.length:=(Ae_.mp hl).1;have ia:i<acc.length:=by rw [<-h.len];exact il
 refine ⟨aL_ h.sH (h.fl l (Am_ hl)),?_,by rw [BK_];exact h.len,h.nd,h.dn,fun j l' kv h1 h2=>?_,h.fd,h.fl⟩
 ·rw [af_ dl,h.dict];congr 2;unfold GA_;apply CG_
  ·simp
  ·intro j g1 g2;rw [E5_,E5_];by_cases z:i=j
   ·subst z;rw [EJ_];rw [Aa_ ia] at hi;rw [Aw_ hi]
   ·rw [Fd_ z]
 ·rw [BJ_] at h2;by_cases z:i=j
  ·subst z;rw [if_pos rfl,if_pos ia] at h2;cases h2;rw [hl] at h1;cases h1;refine ⟨_,aa_,?_⟩;rw [Aq_];exact F0_.append hr ⟨_,_,rfl,ht,rfl⟩
  ·rw [if_neg z] at h2;obtain ⟨vs',g1,g2⟩:=h.lst j l' kv h1 h2;have ll:l'≠l:=fun y=>by rw [y] at h1;exact z ((A2_ il h.nd).mp (hl.trans h1.symm))
   exact ⟨vs',by rw [af_ ll];exact g1,g2⟩
theorem DE.new {en:End Str->Dt}{S H:Hp}{d:Addr}{ls:List Addr}{acc:List (Str×List (End Str))}(h:DE en S H d ls acc){w:Str}{e:End Str}{q:Addr}{t:V}(hn:∀ kv∈acc,kv.1≠w)(hq:H q=some (.lst []))(qd:q≠d)(ql:q∉ls)(Sq:S q=none)(ht:Rep S t (en e)) :
  DE en S (upd (upd H d (.dK (Ge_ (GA_ acc ls) (.inr w) (.ref q)))) q (.lst [t])) d (ls++[q]) (acc++[(w,[e])]):=by
 refine ⟨aL_ (aL_ h.sH h.fd) Sq,?_,by simp [h.len],?_,?_,fun j l' kv h1 h2=>?_,h.fd,fun l hl=>?_⟩
 ·rw [af_ qd.symm,aa_,nW_ h.len hn]
 ·exact AK_.mpr ⟨h.nd,by simp,fun x hx y hy z=>ql (by rw [<-Ak_.mp hy,<-z];exact hx)⟩
 ·intro z
  rcases An_.mp z with z|z
  ·exact h.dn z
  ·exact qd (Ak_.mp z).symm
 ·by_cases hj:j<ls.length
  ·rw [Al_ hj] at h1;rw [Al_ (by rw [<-h.len];exact hj)] at h2;obtain ⟨vs',g1,g2⟩:=h.lst j l' kv h1 h2;have e1:l'≠q:=fun z=>ql (by rw [<-z];exact Am_ h1);have e2:l'≠d:=fun z=>h.dn (by rw [<-z];exact Am_ h1);exact ⟨vs',by rw [af_ e1,af_ e2];exact g1,g2⟩
  ·rw [Ao_ (by lia)] at h1;rw [Ao_ (by rw [<-h.len];lia)] at h2;have e1:=Ak_.mp (Am_ h1);have e2:=Ak_.mp (Am_ h2);subst e1 e2;exact ⟨_,aa_,_,_,rfl,ht,rfl⟩
 ·rcases An_.mp hl with z|z
  ·exact h.fl l z
  ·rw [Ak_.mp z];exact Sq
theorem c6_ {H:Hp}{v:V}{N:Net Str}(h:Rep H v (HS_ N)):∃ (pn p0 p1 p2:Addr)(rs ws:List V),v=.ref pn/\H pn=some (.tup [.ref p0,.ref p1,.ref p2])/\H p0=some (.lst (N.posts.map V.str))/\H p1=some (.lst rs)/\F0_ H rs (N.rows.map dRw)/\H p2=some (.lst ws)/\F0_ H ws (N.worths.map dWo):=by obtain ⟨pn,_,rfl,hn,_,_,rfl,⟨p0,ps,rfl,h0,r0⟩,_,_,rfl,⟨p1,rs,rfl,h1,r1⟩,_,_,rfl,⟨p2,ws,rfl,h2,r2⟩,rfl⟩:=h;rw [kA_ r0] at h0;exact ⟨pn,p0,p1,p2,rs,ws,rfl,hn,h0,h1,r1,h2,r2⟩
theorem m3_ {H:Hp}{v:V}{r:Str×List Str}(h:Rep H v (dRw r)):∃ q l,v=.ref q/\H q=some (.tup [.str r.1,.ref l])/\H l=some (.lst (r.2.map V.str)):=by obtain ⟨q,_,rfl,hq,x,_,rfl,hx,_,_,rfl,⟨l,us,rfl,hl,rl⟩,rfl⟩:=h;rw [kA_ rl] at hl;cases hx;exact ⟨q,l,rfl,hq,hl⟩
theorem eM_ {H:Hp}{rs:List V}{rows:List (Str×List Str)}{i:Nat}{x:V}(h:F0_ H rs (rows.map dRw))(e:rs[i]?=some x):∃ r q l,rows[i]?=some r/\x=.ref q/\H q=some (.tup [.str r.1,.ref l])/\H l=some (.lst (r.2.map V.str)):=by
 obtain ⟨d,hd,hr⟩:=h.of_get e;rw [Ag_] at hd;cases e2:rows[i]? with
 | none=>rw [e2] at hd;cases hd
 | some r =>rw [e2] at hd;rw [<-Aw_ hd] at hr;obtain ⟨q,l,h1,h2,h3⟩:=m3_ hr;exact ⟨r,q,l,rfl,h1,h2,h3⟩
theorem ic_ (p:Str):∀ (ws:List Str)(k j:Nat),(F6_ p k ws)[j]?=(ws[j]?).map fun x=>(x,(p,k+j))
 | [],_,_=>by simp [F6_]
 | w::ws,k,0=>rfl
 | w::ws,k,j+1=>by show (F6_ p (k+1) ws)[j]?=(ws[j]?).map fun x=>(x,(p,k+(j+1)));rw [ic_ p ws (k+1) j,show k+1+j=k+(j+1) by lia]
theorem lK_ (p:Str)(ws:List Str)(k:Nat):(F6_ p k ws).length=ws.length:=by
 have:=congrArg List.length (f0_ p ws k)
 rwa [Ab_] at this
theorem lg_ {rows:List (Str×List Str)}{i:Nat}{r:Str×List Str}(h:rows[i]?=some r):occ (rows.take (i+1))=occ (rows.take i)++F6_ r.1 0 r.2:=by unfold occ;rw [BO_,h,Aq_,A4_];simp
theorem lh_ {N:Net Str}(ok:FS_ N)(l m:List (Str×End Str))(h:l++m=occ N.rows):(Gd_ l).length<=30:=by
 have e:∀ l:List (Str×End Str),(Gd_ l).length<=l.length:=fun l=>by
  have key:∀ n (l:List (Str×End Str)),l.length=n->(Gd_ l).length<=n:=fun n=>by
   induction n with
   | zero=>intro l h;rw [AY_ h];exact Aj_ _
   | succ n ih =>
    intro l h;obtain ⟨m,x,rfl⟩:∃ m x,l=m++[x]:=⟨l.dropLast,l.getLast (fun e=>by rw [e] at h;cases h),(CA_ _).symm⟩;rw [fZ_];have h2:=ih m (by simpa using h);have h3:=congrArg List.length (eg_ (w:=x.1) (e:=x.2) (a:=Gd_ m));rw [Ab_] at h3;split at h3
    ·rw [Ab_] at h3;lia
    ·rw [Af_,Ab_] at h3;simp at h3;lia
  exact key _ l rfl
 have h1:=e l;have h2:=congrArg List.length h;have h3:=congrArg List.length (ij_ N.rows);rw [Ab_] at h3;have h4:=ok.tot;unfold Net.all at h4;rw [Af_] at h2;lia
theorem lL_ {N:Net Str}(ok:FS_ N)(l m:List (Str×End Str))(h:l++m=occ N.rows):∀ kv∈Gd_ l,kv.2.length<=30:=fun kv hkv=>by
 have h0:=(bV_ _ l rfl).2.1 kv hkv;have h1:kv.2.length<=l.length:=by rw [h0,Ab_];exact C8_ _ _
 have h2:=congrArg List.length h;have h3:=congrArg List.length (ij_ N.rows);rw [Ab_] at h3;have h4:=ok.tot;unfold Net.all at h4;rw [Af_] at h2;lia
theorem nX_ {H:Hp}{a b:Addr}{x y:HO}(h:a≠b):upd (upd H a x) b y=upd (upd H b y) a x:=by
 funext c;by_cases h1:c=a
 ·subst h1;rw [af_ h,aa_,aa_]
 ·by_cases h2:c=b
  ·subst h2;rw [aa_,af_ h1,aa_]
  ·rw [af_ h2,af_ h1,af_ h1,af_ h2]
abbrev FN_:Stmt:=stN 1
theorem ba_:FF_ ["net", "ends", "point", "wires", "place", "wire"] ["net"] (Fy_ FN_):=⟨rfl,rfl,rfl,by rfl',rfl,by rfl',by rfl'⟩
theorem gd_:LK FN_ "net" .local:=by rfl'
theorem b0_:LK FN_ "ends" .local:=by rfl'
theorem dt_:LK FN_ "point" .local:=by rfl'
theorem du_:LK FN_ "wires" .local:=by rfl'
theorem dv_:LK FN_ "place" .local:=by rfl'
theorem dw_:LK FN_ "wire" .local:=by rfl'
theorem c7_:LK FN_ "enumerate" .globalImplicit:=by rfl'
def IW_:Sp:=fun vs H Q _=>∃ (v:V)(N:Net Str),vs=[v]/\Rep H v (HS_ N)/\FS_ N/\∀ d S ls H',Fx_ H S->DE dE S H' d ls (Gl_ N)->H d=none->Q (.ref d) H'
theorem hE_ (T:Txt K mg)(F:Fn0 K mg "ends_by_wire" FN_):Cal P w K mg base "ends_by_wire" ["net"] 1 IW_:=by
 refine a1_ F ba_ (fun _ _ _ _ _ _=>byL1 fun _=>rfl) ?len ?body
 case len=>rintro vs H Q E ⟨a,b,rfl,_⟩;rfl
 case body =>
  intro f cdv A outer s H vs Q E hr h;obtain ⟨v,N,rfl,hv,ok,k⟩:=h;refine' ⟨_,?D,?R⟩
  case D =>
   refine' ai_ ?g1 (ai_ ?g3 (aj_ (aB_ (pv1 1 rfl b0_))))
   case g1=>exact ah_ (i:=1) ba_.nd rfl b0_ iz_
   case' g3=>refine' aZ_ AA_ rfl (aR_ (K:=K) rfl (FG_ ap_ (pv1 0 rfl gd_) ad_ (fun _ _=>rfl))) (aS_ (K:=K) (n:=2) rfl rfl (ak_ ?g12 (ak_ ?g14 aQ_))) ?g7
   case g12=>exact ag_ (i:=2) ba_.nd rfl dt_
   case g14=>exact ag_ (i:=3) ba_.nd rfl du_
   case' g7=>refine' aj_ (aZ_ AA_ rfl (mA_ (K:=K) rfl c7_ T.n_enumerate (pa_c (pv1 3 rfl du_) ab_)) (aS_ (K:=K) (n:=2) rfl rfl (ak_ ?g24 (ak_ ?g26 aQ_))) ?g19)
   case g24=>exact ag_ (i:=4) ba_.nd rfl dv_
   case g26=>exact ag_ (i:=5) ba_.nd rfl dw_
   case' g19=>refine' aj_ (aA_ (Gi_ Az_ AC_ AD_ az_ (Gi_ BZ_ Dr_ PySem.F.type_dict_setdefault iB_ (pv1 1 rfl b0_) (pa_c (pv1 5 rfl dw_) (pa_c (bo_ ab_) ab_))) ?g31))
   case' g31=>refine' pa_c (aq_ (pa_c (pv1 2 rfl dt_) (pa_c (pv1 4 rfl dv_) ab_))) ab_
  case R =>
   nofun;obtain ⟨pn,p0,p1,p2,rs,ws,rfl,hn,h0,h1,r1,h2,r2⟩:=c6_ hv;have rl:rs.length=N.rows.length:=by rw [r1.length,Ab_]
   intro d nd;have Sd:Fx_ H (upd H d (HO.dK [])):=Fx_.new nd;refine ⟨pn,rfl,_,Sd _ _ hn,_,Gy_,p1,rfl,⟨_,.inl (.inl (Sd _ _ h1))⟩,?_⟩;have D0:DE dE H (upd H d (HO.dK [])) d [] (Gd_ (occ (N.rows.take 0))):=⟨Sd,aa_,rfl,Bc_,fun z=>(by cases z),fun i l kv z=>(by cases z),nd,fun l z=>(by cases z)⟩;refine iq_ (xs:=rs) (fun i σ H'=>∃ (e2 e3 e4 e5:Option V)(S:Hp)(ls:List Addr),σ=[some (.ref pn),some (.ref d),e2,e3,e4,e5]/\Fx_ H S/\DE dE S H' d ls (Gd_ (occ (N.rows.take i)))) ⟨none,none,none,none,H,[],rfl,Fx_.refl _,D0⟩ ?_ ?_ ?_
   ·rintro i σ H' hi ⟨e2,e3,e4,e5,S,ls,rfl,sS,de⟩;exact .inl (.inl (de.sH _ _ (sS _ _ h1)))
   ·rintro i x σ H' hx ⟨e2,e3,e4,e5,S,ls,rfl,sS,de⟩;obtain ⟨r,q,l,hr1,rfl,hq,hl⟩:=eM_ r1 hx;have s1:=sS.trans de.sH;rw [lg_ hr1];have occle:∀ j,∃ m,(occ (N.rows.take i)++(F6_ r.1 0 r.2).take j)++m=occ N.rows:=fun j=>by refine ⟨(F6_ r.1 0 r.2).drop j++occ (N.rows.drop (i+1)),?_⟩;rw [Bp_,<-Bp_ (List.take j _),Bz_,<-Bp_,<-lg_ hr1];unfold occ;rw [<-A4_,<-Aq_,Bz_]
    nofun;refine ⟨_,SqT.of (s1 _ _ hq),rfl,_,_,rfl,_,_,rfl,rfl,l,rfl,⟨_,.inl (.inl (s1 _ _ hl))⟩,?_⟩;refine mE_ (xs:=r.2.map V.str) (fun j σ H'=>∃ (e4 e5:Option V)(S:Hp)(ls:List Addr),σ=[some (.ref pn),some (.ref d),some (.str r.1),some (.ref l),e4,e5]/\Fx_ H S/\DE dE S H' d ls (Gd_ (occ (N.rows.take i)++(F6_ r.1 0 r.2).take j))) ⟨e4,e5,S,ls,rfl,sS,by rw [List.take_zero,BC_];exact de⟩ ?_ ?_ ?_
    ·rintro j σ H2 hj ⟨e4,e5,S,ls,rfl,sS,de⟩;exact .inl (.inl ((sS.trans de.sH) _ _ hl))
    ·rintro j x T0 σ H2 hx ⟨e4,e5,S,ls,rfl,sS,de⟩ nT;rw [Ag_] at hx
     obtain ⟨wr,hw,rfl⟩:∃ wr,r.2[j]?=some wr/\x=.str wr:=by
      cases e:r.2[j]? with
      | none=>rw [e] at hx;cases hx
      | some wr=>rw [e] at hx;cases hx;exact ⟨wr,rfl,rfl⟩
     have tk:(F6_ r.1 0 r.2).take (j+1)=(F6_ r.1 0 r.2).take j++[(wr,(r.1,j))]:=by rw [BO_,ic_,hw];simp
     obtain ⟨m,hm⟩:=occle j;have few:=lh_ ok _ _ hm;have short:=lL_ ok _ _ hm;rw [tk,<-Bp_,fZ_];generalize Gd_ (occ (N.rows.take i)++(F6_ r.1 0 r.2).take j)=acc at *;have de2:=de.mono (Fx_.new nT (o:=HO.tup [V.int j,V.str wr]));have hT:=aa_ (H:=H2) (a:=T0) (o:=HO.tup [V.int j,V.str wr]);generalize upd H2 T0 (HO.tup [V.int j,V.str wr])=H3 at *;nofun;refine ⟨_,SqT.of hT,rfl,_,_,rfl,_,_,rfl,rfl,.inr (.inr (.inl (.inl ⟨_,de2.dict⟩))),Ay_ _,fun q nq=>?_⟩;have qd:q≠d:=(ae_ de2.dict nq).symm;have ql:q∉ls:=fun z=>by obtain ⟨i0,hi0,ei⟩:=AB_.mp z;obtain ⟨vs,z2,_⟩:=de2.lst i0 q (acc[i0]'(by rw [<-de2.len];exact hi0)) (by rw [Aa_ hi0,ei]) (Aa_ _);rw [nq] at z2;cases z2
     have Sq:S q=none:=de2.sH.free nq;have de3:=de2.mono (Fx_.new nq (o:=HO.lst []));have hq4:=aa_ (H:=H3) (a:=q) (o:=HO.lst []);generalize upd H3 q (HO.lst [])=H4 at *;refine ⟨_,.inr wr,rfl,de3.dict,by rw [m2_ de3.len];lia,fun v2 hv2=>?_,fun hnone=>?_⟩
     ·have hex:∃ kv∈acc,kv.1=wr:=by
       by_cases hc:∃ kv∈acc,kv.1=wr
       ·exact hc
       ·rw [iP_ (fun kv hkv z=>hc ⟨kv,hkv,z⟩)] at hv2;cases hv2
      obtain ⟨i0,es,g1,g2,g3⟩:=fq_ (e:=(r.1,j)) hex;obtain ⟨lw,l1,l2⟩:=iO_ de3.len g1 g2;rw [l2] at hv2;cases hv2;obtain ⟨vs,hvs,hrep⟩:=de3.lst i0 lw _ l1 g1;have vle:vs.length<=30:=by rw [hrep.length,Ab_];exact short _ (Am_ g1)
      refine ⟨.inl ⟨_,.inl (.inl hvs)⟩,by decide,fun t nt=>⟨lw,rfl,vs,(Fx_.new nt) _ _ hvs,Fw_ (by lia),?_⟩⟩;have de5:=de3.stay nt (.tup [.str r.1,.int j]);have de6:=de5.old g1 l1 ((Fx_.new nt) _ _ hvs) (F0_.mono (a2_ de3.sH nt) _ hrep) (e:=(r.1,j)) ⟨t,_,rfl,aa_,_,_,rfl,rfl,_,_,rfl,rfl,rfl⟩;rw [g3];exact ⟨_,sS.trans (a2_ de3.sH nt),ls,de6⟩
     ·have hno:∀ kv∈acc,kv.1≠wr:=fun kv hkv z=>by obtain ⟨i0,es,g1,g2,g3⟩:=fq_ (e:=(r.1,j)) ⟨kv,hkv,z⟩;obtain ⟨lw,l1,l2⟩:=iO_ de3.len g1 g2;rw [l2] at hnone;cases hnone
      have hqd:upd H4 d (HO.dK (Ge_ (GA_ acc ls) (Sum.inr wr) (V.ref q))) q=some (.lst []):=by rw [af_ qd];exact hq4
      refine ⟨.inl ⟨_,.inl (.inl hqd)⟩,by decide,fun t nt=>?_⟩;have td:t≠d:=fun z=>by rw [z,aa_] at nt;cases nt
      have nt4:H4 t=none:=by rw [af_ td] at nt;exact nt
      have tq:t≠q:=(ae_ hq4 nt4).symm;have de5:=de3.stay nt4 (.tup [.str r.1,.int j]);have de6:=de5.new (e:=(r.1,j)) (q:=q) hno (by rw [af_ tq.symm];exact hq4) qd ql (by rw [af_ tq.symm];exact Sq) ⟨t,_,rfl,aa_,_,_,rfl,rfl,_,_,rfl,rfl,rfl⟩;refine ⟨[],by rw [af_ tq.symm];exact hqd,Fw_ (by decide),upd S t (.tup [.str r.1,.int j]),sS.trans (a2_ de3.sH nt4),ls++[q],?_⟩;rw [i4_ hno,nX_ td.symm];exact de6
    ·rintro σ H2 ⟨e4,e5,S,ls,rfl,sS,de⟩;rw [BD_ (l:=F6_ r.1 0 r.2) (by rw [lK_,Ab_];exact Aj_ _)] at de;exact ⟨_,_,_,_,rfl,S,sS,ls,de⟩
   ·rintro σ H' ⟨e2,e3,e4,e5,S,ls,rfl,sS,de⟩;rw [BD_ (by lia)] at de;nofun;exact k d S ls H' sS de nd
mutual
theorem iQ_:∀ d:Dt,deq d d=some true
 | .non=>rfl
 | .bl a=>by simp [deq]
 | .int a=>by simp [deq]
 | .str a=>by simp [deq]
 | .tup xs=>hF_ xs
 | .lst xs=>by rw [deq,if_pos rfl];exact hF_ xs
theorem hF_:∀ ds:List Dt,deqs ds ds=some true
 | []=>rfl
 | d::ds=>by rw [deqs,iQ_ d,hF_ ds];rfl
end
theorem et_ {α:Type}{f:α->Dt}{n:Nat}(h:∀ a,dep (f a)<=n):∀ l:List α,deps (l.map f)<=n
 | []=>Ay_ _
 | a::l=>Nat.max_le.mpr ⟨h a,et_ h l⟩
theorem pd_ (N:Net Str):dep (HS_ N)<=60:=by
 have h1:dep (.lst (N.posts.map dS))<=5:=AM_ (BN_ (et_ (f:=dS) (n:=1) (fun a=>by simp [dS,dep]) _)) (by decide);have h2:dep (.lst (N.rows.map dRw))<=5:=AM_ (BN_ (et_ (f:=dRw) (n:=3) (fun r=>by have:dep (.lst (r.2.map dS))<=2:=BN_ (et_ (f:=dS) (n:=1) (fun a=>by simp [dS,dep]) _);show max 0 (max (dep (.lst (r.2.map dS))) 0)+1<=3;lia) _)) (by decide);have h3:dep (.lst (N.worths.map dWo))<=5:=AM_ (BN_ (et_ (f:=dWo) (n:=3) (fun r=>by simp [dWo,dep,deps]) _)) (by decide);show max (dep (.lst (N.posts.map dS))) (max (dep (.lst (N.rows.map dRw))) (max (dep (.lst (N.worths.map dWo))) 0))+1<=60;lia
abbrev GQ_:Stmt:=stN 26
theorem nY_:FF_ ["_law_net"] ["_law_net"] (Fy_ GQ_):=⟨rfl,rfl,rfl,by rfl',rfl,by rfl',by rfl'⟩
theorem ge_:LK GQ_ "_law_net" .local:=by rfl'
theorem fL_:LK GQ_ "list" .globalImplicit:=by rfl'
def II_:Sp:=fun vs H Q _=>∃ (v:V)(N:Net Str),vs=[v]/\Rep H v (HS_ N)/\FS_ N/\∀ v' H',Fx_ H H'->Rep H' v' (HS_ N)->Q v' H'
theorem nZ_ (T:Txt K mg)(F:Fn0 K mg "_law_copy" GQ_):Cal P w K mg base "_law_copy" ["_law_net"] 1 II_:=by
 refine a1_ F nY_ (fun _ _ _ _ _ _=>byL1 fun _=>rfl) ?len ?body
 case len=>rintro vs H Q E ⟨a,b,rfl,_⟩;rfl
 case body =>
  intro f cdv A outer s H vs Q E hr h;obtain ⟨v,N,rfl,hv,ok,k⟩:=h;obtain ⟨pn,p0,p1,p2,rs,ws,rfl,hn,h0,h1,r1,h2,r2⟩:=c6_ hv;have rl:rs.length=N.rows.length:=by rw [r1.length,Ab_]
  have few:=ok.few;refine' ⟨_,?D,?R⟩
  case D =>
   refine' aj_ (aB_ (aq_ (pa_c (cs_ dn_ fL_ T.n_list dC_ (pa_c (FG_ ap_ (pv1 0 rfl ge_) ad_ (fun _ _=>rfl)) ab_)) ?g5)))
   case' g5=>refine' pa_c ?g11 (pa_c (cs_ dn_ fL_ T.n_list dC_ (pa_c (FG_ ap_ (pv1 0 rfl ge_) ad_ (fun _ _=>rfl)) ab_)) ab_)
   case' g11=>refine' cA_ (N':=["_law_point", "_law_wires"]) (ix:=[none,none]) rfl rfl (cB_ ?g13) (aR_ (K:=K) rfl (FG_ ap_ (pv1 0 rfl ge_) ad_ (fun _ _=>rfl))) (fun _ _ _=>(aS_ (K:=K) (n:=2) rfl rfl (ak_ ?g22 (ak_ ?g24 aQ_)))) (fun _ _ _=>?g16) (fun _ _ _=>?g17)
   case g13=>exact (by show Hx_ (Fy_ GQ_) ["_law_net"] _ _ _=true;decide +kernel)
   case g22=>exact ag_ (i:=0) (by show List.Nodup (["_law_point", "_law_wires"]:List Str);decide +kernel) rfl rfl
   case g24=>exact ag_ (i:=1) (by show List.Nodup (["_law_point", "_law_wires"]:List Str);decide +kernel) rfl rfl
   case g16=>exact d6_
   case' g17=>refine' aq_ (pa_c (pv1 0 rfl rfl) (pa_c (cs_ dn_ rfl T.n_list dC_ (pa_c (pv1 1 rfl rfl) ab_)) ab_))
  case R =>
   nofun;refine ⟨_,hn,_,Gt_,p0,rfl,_,.inl h0,fun c0 n0=>?_⟩;have S1:Fx_ H (upd H c0 (HO.lst (N.posts.map V.str))):=Fx_.new n0;have hc0:=aa_ (H:=H) (a:=c0) (o:=HO.lst (N.posts.map V.str));generalize upd H c0 (HO.lst (N.posts.map V.str))=H1 at *;refine ⟨_,S1 _ _ hn,_,Gy_,p1,rfl,⟨_,.inl (.inl (S1 _ _ h1))⟩,?_⟩;have h11:=S1 _ _ h1;refine dH_ (n:=N.rows.length) (B:=fun _=>none) (Pσ:=fun σ=>∃ e e',σ=[e,e']) (ds:=N.rows.map dRw) (fun b o e=>by cases e) ⟨_,_,rfl⟩ (by simp) (by lia) (fun i H' hi s'=>⟨rs,rs[i]'(by lia),.inl (.inl (s' _ _ h11)),Aa_ _⟩) (fun H' s'=>⟨rs,.inl (.inl (s' _ _ h11)),by lia⟩) ?_ ?_
   ·rintro D i x d σ' H2 H2' hD hDo hs2 hi hdi ⟨rfl,hy⟩ ⟨e,e',rfl⟩ R kR;obtain ⟨od,hDo⟩:=hDo;have hx:=hy _ (.inl (.inl (hs2 _ _ h11)));obtain ⟨r,q,l,hr1,rfl,hq,hl⟩:=eM_ r1 hx;have s12:=S1.trans hs2;have hd:d=dRw r:=by rw [Ag_,hr1] at hdi;exact (Aw_ hdi).symm
    nofun;refine ⟨_,SqT.of (s12 _ _ hq),rfl,_,_,rfl,_,_,rfl,rfl,l,rfl,_,.inl (s12 _ _ hl),fun c1 n1=>⟨by decide,fun c2 n2=>?_⟩⟩;have c1D:c1≠D:=(ae_ hDo n1).symm;have c2D:c2≠D:=(ae_ ((Fx_.new n1 (o:=HO.lst (r.2.map V.str))) _ _ hDo) n2).symm;refine kR _ _ _ ⟨_,_,rfl⟩ ((Fx_.new n1).trans (Fx_.new n2)) ?_;rw [hd];exact ⟨c2,_,rfl,by rw [dG_ c2D rfl];exact aa_,_,_,rfl,rfl,_,_,rfl,⟨c1,_,rfl,by rw [dG_ c1D rfl];exact (Fx_.new n2) _ _ aa_,bz_ _⟩,rfl⟩
   ·intro D H2 hD s2 rep2;have s02:=S1.trans s2;refine ⟨_,s02 _ _ hn,_,H0_,p2,rfl,_,.inl (s02 _ _ h2),fun c2 n2=>⟨by decide,fun pe ne=>?_⟩⟩;have S3:=Fx_.new n2 (o:=HO.lst ws);have S4:=Fx_.new ne (o:=HO.tup [V.ref c0,V.ref D,V.ref c2]);refine k _ _ (s02.trans (S3.trans S4)) ⟨pe,_,rfl,aa_,_,_,rfl,⟨c0,_,rfl,(s2.trans (S3.trans S4)) _ _ hc0,bz_ _⟩,_,_,rfl,Rep.mono (fx_.trans (S3.trans S4)) _ rep2,_,_,rfl,⟨c2,ws,rfl,S4 _ _ aa_,F0_.mono (s02.trans (S3.trans S4)) _ r2⟩,rfl⟩
def eV (e:End Str):HO:=.tup [.str e.1,.int e.2]
def eK (e:End Str):List Key:=[.inr e.1,.inl (e.2:Int)]
theorem eu_ {a b:End Str}(h:eK a=eK b):a=b:=by
 unfold eK at h;injection h with h1 h2
 injection h2 with h3 h4
 exact A9_ (Cw_ h1) (by have:=Fq_ h3;lia)
def MO (S:Hp)(acc:List (Str×List (End Str)))(i:Nat)(k2:List (List Key×V)):Prop :=
 ∀ (j:Nat)(x:Str)(a b:End Str),j<i->acc[j]?=some (x,[a,b])->(∃ q,F9_ k2 (eK a)=some (.ref q)/\S q=some (eV b))/\∃ q,F9_ k2 (eK b)=some (.ref q)/\S q=some (eV a)
theorem MO.step {N:Net Str}(ok:FS_ N){S:Hp}{i:Nat}{k2:List (List Key×V)}(h:MO S (Gl_ N) i k2){x:Str}{a b:End Str}{qa qb:Addr}(hi:(Gl_ N)[i]?=some (x,[a,b]))(ha:S qa=some (eV a))(hb:S qb=some (eV b)) :
  MO S (Gl_ N) (i+1) (Ge_ (Ge_ k2 (eK a) (.ref qb)) (eK b) (.ref qa)):=by
 have hm:=Am_ hi;have ne:=lS_ ok hm rfl;intro j y c d hj hjs
 have nk:∀ e,j≠i->e∈[c,d]->e≠a/\e≠b:=fun e ji he=>by
  have hmj:=Am_ hjs
  have key:∀ f,f∈[a,b]->e≠f:=fun f hf z=>by
   subst z;have:=ln_ ok hmj hm he hf;have k1:((Gl_ N).map (·.1))[j]?=((Gl_ N).map (·.1))[i]?:=by rw [Ag_,Ag_,hjs,hi];exact congrArg some this
   exact ji ((A2_ (by rw [Ab_];exact (Ae_.mp hjs).1) (oA_ N)).mp k1)
  exact ⟨key a (by simp),key b (by simp)⟩
 by_cases ji:j=i
 ·subst ji;rw [hi] at hjs;cases hjs;constructor
  ·refine ⟨qb,?_,hb⟩;rw [aE_,if_neg (fun z=>ne (eu_ z)),aE_,if_pos rfl]
  ·refine ⟨qa,?_,ha⟩;rw [aE_,if_pos rfl]
 ·obtain ⟨g1,g2⟩:=h j y c d (by lia) hjs;obtain ⟨n1,n2⟩:=nk c ji (by simp);obtain ⟨n3,n4⟩:=nk d ji (by simp);rw [aE_,if_neg (fun z=>n2 (eu_ z)),aE_,if_neg (fun z=>n1 (eu_ z)),aE_,if_neg (fun z=>n4 (eu_ z)),aE_,if_neg (fun z=>n3 (eu_ z))];exact ⟨g1,g2⟩
theorem m4_ {κ:Type}[DecidableEq κ](kvs:List (κ×V))(k:κ)(v:V):(Ge_ kvs k v).length<=kvs.length+1:=aH_ kvs k v
theorem pe_ {acc:List (Str×List (End Str))}{ls:List Addr}{i:Nat}{k:Key}{x:V}(h:(GA_ acc ls)[i]?=some (k,x)):∃ kv l,acc[i]?=some kv/\ls[i]?=some l/\k=.inr kv.1/\x=.ref l:=by
 unfold GA_ at h;rw [List.getElem?_zipWith] at h;cases e1:acc[i]? with
 | none=>rw [e1] at h;cases h
 | some kv =>
  cases e2:ls[i]? with
  | none=>rw [e1,e2] at h;cases h
  | some l =>rw [e1,e2] at h;cases h;exact ⟨kv,l,rfl,rfl,rfl,rfl⟩
theorem n0_ {S:Hp}{vs:List V}{a b:End Str}(h:F0_ S vs ([a,b].map dE)):∃ qa qb,vs=[.ref qa,.ref qb]/\S qa=some (eV a)/\S qb=some (eV b):=by obtain ⟨_,_,rfl,⟨qa,_,rfl,ha,_,_,rfl,hx,_,_,rfl,hy,rfl⟩,_,_,rfl,⟨qb,_,rfl,hb,_,_,rfl,hz,_,_,rfl,hu,rfl⟩,rfl⟩:=h;cases hx;cases hy;cases hz;cases hu;exact ⟨qa,qb,rfl,ha,hb⟩
theorem jS_ {κ:Type}[DecidableEq κ](kvs:List (κ×V))(k:κ)(v:V):(Ge_ kvs k v).map (·.1)=if k∈kvs.map (·.1) then kvs.map (·.1) else kvs.map (·.1)++[k]:=by
 have e:(kvs.any fun kv=>decide (kv.1=k))=decide (k∈kvs.map (·.1)):=by rw [Ct_,CJ_,DA_,Ap_];exact ⟨fun ⟨x,hx,ex⟩=>⟨x,hx,A8_ ex⟩,fun ⟨x,hx,ex⟩=>⟨x,hx,A5_ ex⟩⟩
 unfold Ge_;rw [e];by_cases h:k∈kvs.map (·.1)
 ·rw [if_pos (A5_ h),if_pos h,Bf_];refine Bw_ fun x _=>?_;show (if x.1=k then (x.1,v) else x).1=x.1;split <;> rfl
 ·rw [if_neg (by rw [AN_ h];decide),if_neg h,Aq_];rfl
def KyO (k2:List (List Key×V)):Prop:=(k2.map (·.1)).Nodup/\∀ k∈k2.map (·.1),∃ a:End Str,k=eK a
theorem KyO.put {k2:List (List Key×V)}(h:KyO k2)(a:End Str)(v:V):KyO (Ge_ k2 (eK a) v):=by
 unfold KyO;rw [jS_];split
 ·exact h
 ·rename_i c;refine ⟨AK_.mpr ⟨h.1,A1_.mpr ⟨by simp,Bc_⟩,fun x hx y hy z=>c ?_⟩,fun k hk=>?_⟩
  ·rw [<-Ak_.mp hy,<-z];exact hx
  ·rcases An_.mp hk with hk|hk
   ·exact h.2 k hk
   ·exact ⟨a,Ak_.mp hk⟩
theorem id_ {κ:Type}[DecidableEq κ]:∀ {kvs:List (κ×V)}{k:κ}{v:V},(kvs.map (·.1)).Nodup->(k,v)∈kvs->F9_ kvs k=some v
 | q::kvs,k,v,hn,hm=>by
  have h':=A1_.mp hn
  rcases Ax_.mp hm with e|e
  ·rw [<-e];exact bh_ rfl
  ·rw [a7_ (show ¬ q.1=k from fun z=>h'.1 (Ap_.mpr ⟨_,e,z.symm⟩))];exact id_ h'.2 e
abbrev F5_:Stmt:=stN 2
theorem dU_:FF_ ["net", "others", "pair"] ["net"] (Fy_ F5_):=⟨rfl,rfl,rfl,by rfl',rfl,by rfl',by rfl'⟩
theorem hG_:LK F5_ "net" .local:=by rfl'
theorem bR_:LK F5_ "others" .local:=by rfl'
theorem bs_:LK F5_ "pair" .local:=by rfl'
theorem cO_:LK F5_ "ends_by_wire" .globalImplicit:=by rfl'
def HA_:Sp:=fun vs H Q _=>∃ (v:V)(N:Net Str),vs=[v]/\Rep H v (HS_ N)/\FS_ N/\∀ d k2 H',Fx_ H H'->H' d=some (.dT k2)->MO H' (Gl_ N) (Gl_ N).length k2->(∀ e,(∀ kv∈Gl_ N,e∉kv.2)->F9_ k2 (eK e)=none)->KyO k2->k2.length<=60->H d=none->Q (.ref d) H'
theorem iR_ (T:Txt K mg)(F:Fn0 K mg "other_ends" F5_) (G7_:Cal P w K mg base "ends_by_wire" ["net"] 1 IW_):Cal P w K mg base "other_ends" ["net"] 2 HA_:=by
 refine a1_ F dU_ (fun _ _ _ _ _ _=>byL1 fun _=>rfl) ?len ?body
 case len=>rintro vs H Q E ⟨a,b,rfl,_⟩;rfl
 case body =>
  intro f cdv A outer s H vs Q E hr h;obtain ⟨v,N,rfl,hv,ok,k⟩:=h;refine' ⟨_,?D,?R⟩
  case D =>
   refine' ai_ ?g1 (ai_ (aZ_ AA_ rfl (nK_ (al_ G7_ (hr.mono (by decide)) cO_ (pa_c (pv1 0 rfl hG_) ab_))) ?g6 ?g7) (aj_ (aB_ (pv1 1 rfl bR_))))
   case g1=>exact ah_ (i:=1) dU_.nd rfl bR_ fz_
   case g6=>exact ag_ (i:=2) dU_.nd rfl bs_
   case' g7=>refine' ai_ (c4_ (un1 hr.units) (pv1 1 rfl bR_) (FG_ ar_ (pv1 2 rfl bs_) ad_ (fun _ _=>rfl)) (FG_ ar_ (pv1 2 rfl bs_) ad_ (fun _ _=>rfl)) rfl) (aj_ (c4_ (un1 hr.units) (pv1 1 rfl bR_) (FG_ ar_ (pv1 2 rfl bs_) ad_ (fun _ _=>rfl)) (FG_ ar_ (pv1 2 rfl bs_) ad_ (fun _ _=>rfl)) rfl))
  case R =>
   nofun;intro O nO;have SO:Fx_ H (upd H O (HO.dT [])):=Fx_.new nO;have hO:=aa_ (H:=H) (a:=O) (o:=HO.dT []);generalize upd H O (HO.dT [])=H1 at *;refine ⟨v,N,rfl,Rep.mono SO _ hv,ok,fun d S ls H2 sS de nd=>?_⟩;have SO2:=sS _ _ hO;have dO:d≠O:=(ae_ hO nd).symm;have lO:∀ l∈ls,l≠O:=fun l hl z=>by have:=de.fl l hl;rw [z,SO2] at this;cases this
   let S':Hp:=fun b=>if b=O then none else S b
   have S'O:S' O=none:=if_pos rfl;have S'ne:∀ b,b≠O->S' b=S b:=fun b hb=>if_neg hb
   have S'S:∀ b o,S' b=some o->S b=some o:=fun b o hb=>by
    by_cases z:b=O
    ·rw [z,S'O] at hb;cases hb
    ·rw [S'ne b z] at hb;exact hb
   have tupO:∀ q e,S q=some (eV e)->S' q=some (eV e):=fun q e hq=>by rw [S'ne q (fun z=>by rw [z,SO2] at hq;cases hq)];exact hq
   have hHS:Fx_ H S':=fun b o hb=>by rw [S'ne b (ae_ hb nO)];exact sS _ _ (SO _ _ hb)
   refine ⟨d,rfl,_,de.dict,fun ob=>?_⟩;have el:(GA_ (Gl_ N) ls).length=(Gl_ N).length:=m2_ de.len;have few:(Gl_ N).length<=30:=lh_ ok _ [] (by rw [BC_]);refine Ly_ (fun i σ H'=>∃ (e2:Option V)(k2:List (List Key×V)),σ=[some v,some (.ref O),e2]/\Fx_ S' H'/\H' d=some (.frz ob (.dK (GA_ (Gl_ N) ls)))/\(∀ l∈ls,H' l=H2 l)/\H' O=some (.dT k2)/\MO S' (Gl_ N) i k2/\(∀ e,(∀ kv∈Gl_ N,e∉kv.2)->F9_ k2 (eK e)=none)/\k2.length<=2*i/\KyO k2) ⟨none,[],rfl,aL_ (fun b o hb=>de.sH _ _ (S'S b o hb)) (by rw [S'ne d dO];exact de.fd),aa_,fun l hl=>af_ (fun z=>de.dn (by rw [<-z];exact hl)),by rw [af_ dO.symm];exact de.sH _ _ SO2,fun j x a b hj=>absurd hj (by lia),fun _ _=>rfl,by simp,Bc_,fun k hk=>(by cases hk)⟩ ?_ ?_ ?_
   ·rintro i σ H' hi ⟨e2,k2,rfl,sS',hd',hls,hO',mo,no,kl,ky⟩;exact hd'
   ·rintro i key x σ H' hx ⟨e2,k2,rfl,sS',hd',hls,hO',mo,no,kl,ky⟩;obtain ⟨kv,l,h1,h2,rfl,rfl⟩:=pe_ hx;have ii:i<(Gl_ N).length:=(Ae_.mp h1).1;obtain ⟨a,b,eab⟩:=ik_ ok (Am_ h1);obtain ⟨vs,hvs,hrep⟩:=de.lst i l kv h2 h1;rw [eab] at hrep;obtain ⟨qa,qb,rfl,ha,hb⟩:=n0_ hrep;have ha':=tupO _ _ ha;have hb':=tupO _ _ hb;have hl':H' l=some (.lst [.ref qa,.ref qb]):=by rw [hls l (Am_ h2)];exact hvs
    have h1':(Gl_ N)[i]?=some (kv.1,[a,b]):=by rw [h1,<-eab]
    have mo2:=mo.step ok h1' ha' hb';have lO':=lO l (Am_ h2);nofun;have p1:=m4_ k2 (eK a) (.ref qb);have p2:=m4_ (Ge_ k2 (eK a) (.ref qb)) (eK b) (.ref qa);have qaO:qb≠O:=fun z=>by rw [z,S'O] at hb';cases hb'
    refine ⟨_,hl',_,Gy_,_,hl',_,Gt_,_,Hq_.t (k:=eK a) hO' (sS' _ _ ha') (Fw_ (by lia)),_,by rw [af_ lO'];exact hl',_,Gt_,_,by rw [af_ lO'];exact hl',_,Gy_,_,Hq_.t (k:=eK b) aa_ (by rw [af_ qaO];exact sS' _ _ hb') (Fw_ (by lia)),aL_ (aL_ sS' S'O) S'O,by rw [af_ dO,af_ dO];exact hd',fun l2 hl2=>by rw [af_ (lO l2 hl2),af_ (lO l2 hl2)];exact hls l2 hl2,_,aa_,mo2,fun e he=>?_,by lia,(ky.put a _).put b _⟩;have hm:=he kv (Am_ h1);rw [eab] at hm;simp only [Ax_,AO_,Dp_,not_or] at hm;rw [aE_,if_neg (fun z=>hm.2 (eu_ z)),aE_,if_neg (fun z=>hm.1 (eu_ z))];exact no e he
   ·rintro σ H' ⟨e2,k2,rfl,sS',hd',hls,hO',mo,no,kl,ky⟩;rw [el] at mo;nofun;refine k O k2 H' (hHS.trans sS') hO' (fun j x a b hj hjs=>?_) no ky (by lia) nO;obtain ⟨⟨q1,g1,g2⟩,q2,g3,g4⟩:=mo j x a b hj hjs;exact ⟨⟨q1,g1,sS' _ _ g2⟩,q2,g3,sS' _ _ g4⟩
theorem jT_ {X:Cx}(hK:X.K=K):OpR X (compareOp .NotIn) (rIn K true):=by subst hK;exact jf_
theorem p3_ {X:Cx}(hK:X.K=K):OpR X (compareOp .In) (rIn K false):=by subst hK;exact mh_
theorem li_ (x:Str):∀ (r:List Str),inV (.str x) (r.map V.str)=decide (x∈r)
 | []=>rfl
 | y::r=>by
  have:=li_ x r;simp only [inV,AG_,Cp_,eqV] at this ⊢;rw [this];by_cases h:y=x
  ·subst h;simp
  ·have h2:x≠y:=fun z=>h z.symm;simp [h,h2]
theorem lj_:∀ (r:List Str),(r.map V.str).all GY_=true
 | []=>rfl
 | y::r=>by simp [GY_]
def Gb_ (N:Net Str):List (End Str):=(N.rows.map fun r=>(List.range (r.2.length+if r.1∈N.posts then 1 else 0)).map fun k=>(r.1,k)).flatten
def FV_ (N:Net Str)(r:Str×List Str):List (End Str):=(List.range (r.2.length+if r.1∈N.posts then 1 else 0)).map fun k=>(r.1,k)
theorem dV_ {N:Net Str}(ok:FS_ N):(Gb_ N).length<=100/\∀ r∈N.rows,r.2.length<=30:=by
 have key:∀ (l:List (Str×List Str)),((l.map (FV_ N)).flatten).length<=((l.map (·.2)).flatten).length+l.length:=fun l=>by
  induction l with
  | nil=>exact Aj_ _
  | cons r l ih =>
   rw [AG_,AP_,Af_,AG_,AP_,Af_,AZ_];have:(FV_ N r).length<=r.2.length+1:=by unfold FV_;rw [Ab_,Bl_];split <;> lia
   lia
 have h1:=key N.rows;have h2:=ok.tot;have h3:=ok.few;unfold Net.all at h2;refine ⟨?_,fun r hr=>?_⟩
 ·show ((N.rows.map (FV_ N)).flatten).length<=100;lia
 ·obtain ⟨i,hi,rfl⟩:=AB_.mp hr;have e:(N.rows.map (·.2)).flatten.length=((N.rows.map (·.2)).take i).flatten.length+((N.rows.map (·.2)).drop i).flatten.length:=by rw [<-Af_,<-A4_,Bz_]
  rw [BR_ (by rw [Ab_];exact hi),AP_,Af_,List.getElem_map] at e;lia
abbrev FB_:Stmt:=stN 3
theorem aI_:FF_ ["net", "corners", "point", "wires", "count"] ["net"] (Fy_ FB_):=⟨rfl,rfl,rfl,by rfl',rfl,by rfl',by rfl'⟩
theorem ch_:LK FB_ "net" .local:=by rfl'
theorem bt_:LK FB_ "corners" .local:=by rfl'
theorem ci_:LK FB_ "point" .cell:=by rfl'
theorem cj_:LK FB_ "wires" .local:=by rfl'
theorem a4_:LK FB_ "count" .local:=by rfl'
theorem dW_:LK FB_ "len" .globalImplicit:=by rfl'
theorem c8_:LK FB_ "range" .globalImplicit:=by rfl'
def IE_:Sp:=fun vs H Q _=>∃ (v:V)(N:Net Str),vs=[v]/\Rep H v (HS_ N)/\FS_ N/\∀ D H',Fx_ H H'->Rep (Hm_ H H') (.ref D) (.lst ((Gb_ N).map dE))->Q (.ref D) H'
theorem fc_ (T:Txt K mg)(F:Fn0 K mg "corners_in_order" FB_):Cal P w K mg base "corners_in_order" ["net"] 1 IE_:=by
 refine a1_ F aI_ (fun _ _ _ _ _ _=>byL1 fun _=>rfl) ?len ?body
 case len=>rintro vs H Q E ⟨a,b,rfl,_⟩;rfl
 case body =>
  intro f cdv A outer s H vs Q E hr h;obtain ⟨v,N,rfl,hv,ok,k⟩:=h;obtain ⟨few,rfew⟩:=dV_ ok;obtain ⟨pn,p0,p1,p2,rs,ws,rfl,hn,h0,h1,r1,h2,r2⟩:=c6_ hv;have rl:rs.length=N.rows.length:=by rw [r1.length,Ab_]
  refine' ⟨_,?D,?R⟩
  case D =>
   refine' ai_ (ah_ (i:=1) aI_.nd rfl bt_ (bo_ ab_)) (ai_ ?g5 (aj_ (aB_ (pv1 1 rfl bt_))))
   case' g5=>refine' aZ_ AA_ rfl (aR_ (K:=K) rfl (FG_ ap_ (pv1 0 rfl ch_) ad_ (fun _ _=>rfl))) (aS_ (K:=K) (n:=2) rfl rfl (ak_ ?g14 (ak_ ?g16 aQ_))) ?g9
   case g14=>exact eH_ (i:=2) aI_.nd rfl ci_ rfl
   case g16=>exact ag_ (i:=3) aI_.nd rfl cj_
   case' g9=>refine' ai_ (ah_ (i:=4) aI_.nd rfl a4_ (am_ ao_ dW_ T.n_len aX_ (pa_c (pv1 3 rfl cj_) ab_))) (ai_ ?g24 (aj_ (aA_ ?g39)))
   case' g24=>refine' hj_ (Gp_ (aG_ (p3_ (K:=K) rfl) (pvc 2 rfl ci_) (FG_ ap_ (pv1 0 rfl ch_) ad_ (fun _ _=>rfl)) (by with_unfolding_all rfl)) (aj_ (ah_ (i:=4) aI_.nd rfl a4_ (Fz_ aK_ (pv1 4 rfl a4_) ad_))) aW_)
   case' g39=>refine' Gi_ Az_ PySem.F.slot_list_extend PySem.F.type_list_extend mi_ (pv1 1 rfl bt_) (pa_c (cA_ (N':=["place", "point"]) (ix:=[none,some 2]) rfl rfl (cB_ ?g44) (aC_ c8_ T.n_range (pa_c (pv1 4 rfl a4_) ab_)) (fun _ _ _=>?g46) (fun _ _ _=>?g47) (fun _ _ _=>(aq_ (pa_c (pvc 1 rfl rfl) (pa_c (pv1 0 rfl rfl) ab_))))) ab_)
   case g44=>exact (by show Hx_ (Fy_ FB_) ["net", "corners", "point", "wires", "count"] _ _ _=true;decide +kernel)
   case g46=>exact ag_ (i:=0) (by show List.Nodup (["place", "point"]:List Str);decide +kernel) rfl rfl
   case g47=>exact d6_
  case R =>
   nofun;refine ⟨Ay_ _,fun D nD=>?_⟩;have SD:Fx_ H (upd H D (HO.lst [])):=Fx_.new nD;refine ⟨_,SD _ _ hn,_,Gy_,p1,rfl,⟨_,.inl (.inl (SD _ _ h1))⟩,?_⟩;refine iq_ (xs:=rs) (fun i σ H'=>∃ (e2 e3 e4:Option V)(ys:List V),σ=[some (.ref pn),some (.ref D),e2,e3,e4]/\Fx_ H H'/\H' D=some (.lst ys)/\F0_ (Ic_ H D H') ys ((((N.rows.take i).map (FV_ N)).flatten).map dE)) ⟨none,none,none,[],rfl,SD,aa_,rfl⟩ ?_ ?_ ?_
   ·rintro i σ H' hi ⟨e2,e3,e4,ys,rfl,s1,hD,reps⟩;exact .inl (.inl (s1 _ _ h1))
   ·rintro i x σ H' hx ⟨e2,e3,e4,ys,rfl,s1,hD,reps⟩;obtain ⟨r,q,l,hr1,rfl,hq,hl⟩:=eM_ r1 hx;have rm:=Am_ hr1;have r30:=rfew r rm;have tk:(N.rows.take (i+1)).map (FV_ N)=(N.rows.take i).map (FV_ N)++[FV_ N r]:=by rw [BO_,hr1,Aq_];rfl
    have fl2:[FV_ N r].flatten=FV_ N r:=by simp
    have tkl:(((N.rows.take i).map (FV_ N)).flatten).length+(FV_ N r).length<=100:=by
     have e:(N.rows.map (FV_ N)).flatten.length=((N.rows.map (FV_ N)).take (i+1)).flatten.length+((N.rows.map (FV_ N)).drop (i+1)).flatten.length:=by rw [<-Af_,<-A4_,Bz_]
     rw [<-CN_,tk,A4_,fl2,Af_] at e;have:(Gb_ N).length=(N.rows.map (FV_ N)).flatten.length:=rfl;lia
    rw [tk,A4_,fl2,Aq_];have yl:ys.length=(((N.rows.take i).map (FV_ N)).flatten).length:=by rw [reps.length,Ab_]
    nofun;refine ⟨_,SqT.of (s1 _ _ hq),rfl,_,_,rfl,_,_,rfl,rfl,l,rfl,_,.inl (s1 _ _ hl),?_⟩;refine ⟨fun σ Hx=>σ=[some (.ref pn),some (.ref D),some (.str r.1),some (.ref l),some (.int ((r.2.length+if r.1∈N.posts then 1 else 0:Nat):Int))]/\Hx=H',?_,?_⟩
    ·nofun;refine ⟨_,s1 _ _ hn,_,Gt_,p0,rfl,_,.inl (.inl (.inl (s1 _ _ h0))),rfl,lj_ _,?_⟩;rw [li_,Ab_];by_cases hc:r.1∈N.posts
     ·rw [if_pos (A5_ hc),if_pos hc];rfl
     ·rw [if_neg (by rw [AN_ hc];decide),if_neg hc];rfl
    rintro σ Hx ⟨rfl,rfl⟩;have cl:(FV_ N r).length=r.2.length+if r.1∈N.posts then 1 else 0:=by unfold FV_;rw [Ab_,Bl_]
    obtain ⟨n,hn'⟩:∃ n:Nat,n=r.2.length+if r.1∈N.posts then 1 else 0:=⟨_,rfl⟩;have cr:FV_ N r=(List.range n).map fun k=>(r.1,k):=by unfold FV_;rw [hn']
    rw [<-hn'] at cl ⊢;have n31:n<=31:=by rw [hn'];split <;> lia
    nofun;refine ⟨.inl ⟨_,.inl (.inl hD)⟩,by lia,by lia,?_⟩;rw [show Int.toNat (n:Int)=n by lia];refine dH_ (n:=n) (B:=Hx) (Pσ:=fun σ=>∃ e,σ=[e,some (.str r.1)]) (ds:=(FV_ N r).map dE) (Fx_.refl _) ⟨_,rfl⟩ (by rw [Ab_,cl]) (by lia) (fun j H2 hj s2=>hj) (fun H2 s2=>Aj_ _) ?_ ?_
    ·rintro D2 j x d σ' H2 H2' hD2 hDo hs2 hj hdj ⟨rfl,rfl⟩ ⟨e,rfl⟩ R kR;obtain ⟨od,hDo⟩:=hDo;have hd:d=dE (r.1,j):=by rw [cr,Ag_,Ag_,B2_ hj] at hdj;exact (Aw_ hdj).symm
     nofun;refine ⟨by decide,fun p np=>kR _ _ _ ⟨_,rfl⟩ (Fx_.new np) ?_⟩;rw [hd];have pD:p≠D2:=(ae_ hDo np).symm;exact ⟨p,_,rfl,by rw [dG_ pD (hs2.free np)];exact aa_,_,_,rfl,rfl,_,_,rfl,by rw [Cn_];rfl,rfl⟩
    ·intro D2 H2 hD2 s2 rep2;obtain ⟨_,us,e0,hu',hus⟩:=id rep2;cases e0;obtain ⟨nu,hu⟩:=bq_ hu';have ul:us.length=(FV_ N r).length:=by rw [hus.length,Ab_]
     have D2D:D2≠D:=(ae_ hD hD2).symm;refine ⟨D2,rfl,ys,s2 _ _ hD,us,hu,AJ_ (Fw_ (by lia)),?_⟩;refine ⟨fun b o hb=>by rw [af_ (ae_ hb nD)];exact s2 _ _ (s1 _ _ hb),?_⟩;rw [k1_];refine F0_.append (F0_.mono (jo_ s2) _ reps) (F0_.mono (fun b o hb=>?_) _ hus);obtain ⟨b1,b2⟩:=bq_ hb;rw [dG_ (ae_ hD b1).symm (s1.free b1)];exact b2
   ·rintro σ H' ⟨e2,e3,e4,ys,rfl,s1,hD,reps⟩;rw [BD_ (by lia)] at reps;nofun;exact k D H' s1 ⟨D,ys,rfl,by rw [dF_ nD];exact hD,F0_.mono k0_ _ reps⟩
theorem m5_:bootBuiltins "dict" = some (.type "dict"):=by rfl'
abbrev ph (N:Net Str):=phi Str.empty N
abbrev Pn (N:Net Str):=N.posts.length
theorem eN_ (k:List Key):∀ (more kvs:List (List Key×V)),(F9_ (Gj_ kvs more) k).isSome=((F9_ kvs k).isSome || more.any fun q=>decide (q.1=k))
 | [],kvs=>by simp [Gj_]
 | p::more,kvs=>by
  show (F9_ (Gj_ (Ge_ kvs p.1 p.2) more) k).isSome=_;rw [eN_ k more,aE_,Cp_];by_cases e:k=p.1
  ·subst e;simp
  ·have e':¬ p.1=k:=fun z=>e z.symm;simp [e,e']
theorem fd_ {N:Net Str}(po:FH_ N):Gb_ N=(HL_ N).map (ph N):=(nl_ po).symm
theorem n1_ {H:Hp}{us:List V}{es:List (End Str)}{i:Nat}(h:F0_ H us (es.map dE))(hi:i<es.length):∃ q,us[i]?=some (.ref q)/\H q=some (eV es[i]):=by
 have hl:us.length=es.length:=by rw [h.length,Ab_]
 obtain ⟨dd,hdd,hrep⟩:=h.of_get (i:=i) (x:=us[i]) (Aa_ (by lia));rw [Ag_,Aa_ hi] at hdd;rw [<-Aw_ hdd] at hrep;obtain ⟨q,_,e,hq,_,_,rfl,hx1,_,_,rfl,hx2,rfl⟩:=hrep;cases hx1;cases hx2;exact ⟨q,by rw [Aa_ (by lia),e],hq⟩
def dKn (e:End Str):Dt:=.tup [dE e,.bl true]
def kvK (es:List (End Str)):List (List Key×V):=es.map fun e=>(eK e,.bl true)
theorem lM_ {H:Hp}{p:Addr}{es:List (End Str)}(h:Rep H (.ref p) (.lst (es.map dKn))):IM_ H p (kvK es):=by
 obtain ⟨_,ys,e0,hp,hys⟩:=h;cases e0;have yl:ys.length=es.length:=by rw [hys.length,Ab_]
 refine ⟨ys,hp,by rw [yl];unfold kvK;rw [Ab_],fun i q hq=>?_⟩
 have hi:i<es.length:=by
  have:=(Ae_.mp hq).1;unfold kvK at this
  rwa [Ab_] at this
 unfold kvK at hq;rw [Ag_,Aa_ hi] at hq;cases hq;obtain ⟨dd,hdd,hrep⟩:=hys.of_get (i:=i) (x:=ys[i]) (Aa_ (by lia));rw [Ag_,Aa_ hi] at hdd;rw [<-Aw_ hdd] at hrep;obtain ⟨a,_,e,ha,x1,_,rfl,hx1,x2,_,rfl,hx2,rfl⟩:=hrep;obtain ⟨b,_,rfl,hb,_,_,rfl,hy1,_,_,rfl,hy2,rfl⟩:=hx1;cases hx2;cases hy1;cases hy2;exact ⟨a,b,by rw [Aa_ (by lia),e],ha,hb⟩
theorem m6_ (es:List (End Str))(e:End Str):(F9_ (Gj_ [] (kvK es)) (eK e)).isSome=decide (e∈es):=by
 rw [eN_];show (false || _)=_;rw [Bool.false_or];unfold kvK;rw [List.any_map];by_cases h:e∈es
 ·rw [A5_ h];exact CJ_.mpr ⟨e,h,A5_ rfl⟩
 ·rw [AN_ h];refine Bool.eq_false_iff.mpr fun z=>?_;obtain ⟨x,hx,ex⟩:=CJ_.mp z;exact h (eu_ (A8_ ex) ▸ hx)
theorem iS_:∀ (kvs D:List (Key×V)),((D++kvs).map (·.1)).Nodup->GR_ D kvs=D++kvs
 | [],D,_=>by rw [BC_];rfl
 | kv::kvs,D,h=>by
  have hn:F9_ D kv.1=none:=by
   cases e:F9_ D kv.1 with
   | none=>rfl
   | some v =>have h1:=mt_ e;rw [Aq_,AK_] at h;exact absurd rfl (h.2.2 _ h1 kv.1 (by simp))
  show GR_ (Ge_ D kv.1 kv.2) kvs=_;rw [nB_ _ hn,iS_ kvs (D++[kv]) (by rw [Bp_];exact h),Bp_];rfl
theorem kB_:∀ {kvs:List (Key×V)}{k:Key}{v:V},(kvs.map (·.1)).Nodup->(k,v)∈kvs->F9_ kvs k=some v
 | kv::kvs,k,v,h,hm=>by
  rcases Ax_.mp hm with e|e
  ·rw [<-e];exact bh_ rfl
  ·have h':=A1_.mp h;rw [a7_ (fun c=>h'.1 (Ap_.mpr ⟨_,e,(show kv.1=k from c).symm⟩))];exact kB_ h'.2 e
theorem iT_ {H:Hp}:∀ {rs:List V}{rows:List (Str×List Str)},F0_ H rs (rows.map dRw)->∃ kvs:List (Key×V),kvs.map (·.1)=rows.map (fun r=>Sum.inr r.1)/\rs.length=kvs.length/\(∀ (i:Nat)(q:Key×V),kvs[i]?=some q->∃ a,rs[i]?=some (.ref a)/\H a=some (.tup [kV q.1,q.2]))/\∀ r∈rows,∃ l,(Sum.inr r.1,V.ref l)∈kvs/\H l=some (.lst (r.2.map V.str))
 | _,[],h=>by
  cases h;exact ⟨[],rfl,rfl,fun i q e=>(nomatch e),fun r hr=>(nomatch hr)⟩
 | _,r::rows,⟨x,l,e,hx,hl⟩=>by
  subst e;obtain ⟨kvs,k1,k2,k3,k4⟩:=iT_ hl;obtain ⟨q,l',e1,hq,hl'⟩:=m3_ hx;subst e1;refine ⟨(.inr r.1,.ref l')::kvs,by rw [AG_,AG_,k1],by rw [AZ_,AZ_,k2],fun i z e=>?_,fun r' hr=>?_⟩
  ·cases i with
   | zero=>cases e;exact ⟨q,rfl,hq⟩
   | succ i=>exact k3 i z e
  ·rcases Ax_.mp hr with rfl|hr
   ·exact ⟨l',At_,hl'⟩
   ·obtain ⟨v,hv1,hv2⟩:=k4 r' hr;exact ⟨v,Ar_ _ hv1,hv2⟩
abbrev GV_:Stmt:=stN 5
theorem m7_:FF_ ["standing"] ["standing"] (Fy_ GV_):=⟨rfl,rfl,rfl,by rfl',rfl,by rfl',by rfl'⟩
theorem hH_:LK GV_ "standing" .local:=by rfl'
def Hy_:Sp:=fun vs H Q _=>∃ (q:Addr)(k:Sk),vs=[.ref q]/\Gw_ H q k/\∀ q' H',Fx_ H H'->Gw_ H' q' (k.1,!k.2)->Q (.ref q') H'
theorem m8_ (T:Txt K mg)(F:Fn0 K mg "turned" GV_):Cal P w K mg base "turned" ["standing"] 1 Hy_:=by
 refine a1_ F m7_ (fun _ _ _ _ _ _=>byL1 fun _=>rfl) ?len ?body
 case len=>rintro vs H Q E ⟨a,b,rfl,_⟩;rfl
 case body =>
  intro f cdv A outer s H vs Q E hr h;obtain ⟨q,k,rfl,⟨p,h1,h2⟩,kk⟩:=h;refine' ⟨_,?D,?R⟩
  case D =>refine' aj_ (aB_ (aq_ (pa_c (FG_ ap_ (pv1 0 rfl hH_) ad_ (fun _ _=>rfl)) (pa_c (pw_ (FG_ ap_ (pv1 0 rfl hH_) ad_ (fun _ _=>rfl))) ab_))))
  case R =>nofun;refine ⟨_,h1,_,Gt_,_,h1,_,Gy_,_,rfl,by decide,fun q' nq=>kk q' _ (Fx_.new nq) ⟨p,aa_,(Fx_.new nq) _ _ h2⟩⟩
theorem KA_ {N:Net Str}(ok:FS_ N){r:Str×List Str}(h:r∈N.rows):r.2.length<=30:=by
 have h1:r.2.length<=N.all.length:=by unfold Net.all;exact (CF_ (Ap_.mpr ⟨r,h,rfl⟩)).length_le
 have:=ok.tot;lia
abbrev FA_:Stmt:=stN 6
theorem ay_:FF_ ["net", "behind", "point", "wires", "place", "last"] ["net"] (Fy_ FA_):=⟨rfl,rfl,rfl,by rfl',rfl,by rfl',by rfl'⟩
theorem bL_:LK FA_ "net" .local:=by rfl'
theorem bb_:LK FA_ "behind" .local:=by rfl'
theorem aM_:LK FA_ "point" .local:=by rfl'
theorem bc_:LK FA_ "wires" .local:=by rfl'
theorem aN_:LK FA_ "place" .local:=by rfl'
theorem bM_:LK FA_ "last" .local:=by rfl'
theorem bw_:LK FA_ "len" .globalImplicit:=by rfl'
theorem cv_:LK FA_ "range" .globalImplicit:=by rfl'
def bhN (N:Net Str)(e:End Str)(n:Nat):End Str:=if e.1∉N.posts/\e.2+1=n then (e.1,0) else (e.1,e.2+1)
def KS_ (H:Hp)(N:Net Str)(kb:List (List Key×V))(rows:List (Str×List Str)):Prop:=∀ r∈rows,∀ k,k<r.2.length->∃ q,F9_ kb (eK (r.1,k))=some (.ref q)/\H q=some (eV (bhN N (r.1,k) r.2.length))
def BhI (H:Hp)(N:Net Str)(kb:List (List Key×V))(i j:Nat):Prop:=∀ i0 r k,N.rows[i0]?=some r->k<r.2.length->(i0<i\/(i0=i/\k<j))->∃ q,F9_ kb (eK (r.1,k))=some (.ref q)/\H q=some (eV (bhN N (r.1,k) r.2.length))
theorem BhI.all {H:Hp}{N:Net Str}{kb:List (List Key×V)}(h:BhI H N kb N.rows.length 0):KS_ H N kb N.rows:=fun r hr k hk=>by obtain ⟨i,hi,rfl⟩:=AB_.mp hr;exact h i _ k (Aa_ hi) hk (.inl hi)
theorem BhI.row {H:Hp}{N:Net Str}{kb:List (List Key×V)}{i:Nat}{r:Str×List Str}(hr:N.rows[i]?=some r)(h:BhI H N kb i r.2.length):BhI H N kb (i+1) 0:=fun i0 r0 k h1 h2 h3=>by
 refine h i0 r0 k h1 h2 ?_
 rcases h3 with h3|h3
 ·by_cases e:i0=i
  ·subst e;rw [hr] at h1;cases h1;exact .inr ⟨rfl,h2⟩
  ·exact .inl (by lia)
 ·exact absurd h3.2 (Bm_ _)
theorem BhI.put {H H':Hp}{N:Net Str}(ok:FS_ N){kb:List (List Key×V)}{i j:Nat}{r:Str×List Str}{q:Addr}(hr:N.rows[i]?=some r)(h:BhI H N kb i j)(s:∀ b ys,H b=some (.tup ys)->H' b=some (.tup ys))(hq:H' q=some (eV (bhN N (r.1,j) r.2.length))):BhI H' N (Ge_ kb (eK (r.1,j)) (.ref q)) i (j+1):=fun i0 r0 k h1 h2 h3=>by
 by_cases e:eK (r0.1,k)=eK (r.1,j)
 ·have e':=eu_ e;have en:r0.1=r.1:=(Ey_ e').1;have ek:k=j:=(Ey_ e').2;have er:r0=r:=by obtain ⟨l1,rfl⟩:=Ae_.mp h1;obtain ⟨l2,rfl⟩:=Ae_.mp hr;have:=(A2_ (l:=N.rows.map (·.1)) (i:=i0) (j:=i) (by rw [Ab_];exact l1) ok.nd).mp (by rw [Ag_,Ag_,h1,hr];exact congrArg some en);subst this;rfl
  subst er ek;exact ⟨q,by rw [aE_,if_pos rfl],hq⟩
 ·obtain ⟨q0,z1,z2⟩:=h i0 r0 k h1 h2 (by
   rcases h3 with h3|⟨h3,h4⟩
   ·exact .inl h3
   ·refine .inr ⟨h3,?_⟩;subst h3;rw [hr] at h1;cases h1;have:k≠j:=fun z=>e (by rw [z]);lia)
  exact ⟨q0,by rw [aE_,if_neg e];exact z1,s _ _ z2⟩
def JF_:Sp:=fun vs H Q _=>∃ (v:V)(N:Net Str),vs=[v]/\Rep H v (HS_ N)/\FS_ N/\∀ d kb H',Fx_ H H'->H d=none->H' d=some (.dT kb)->KS_ H' N kb N.rows->Q (.ref d) H'
theorem ea_ (T:Txt K mg)(F:Fn0 K mg "corners_behind_ends" FA_):Cal P w K mg base "corners_behind_ends" ["net"] 1 JF_:=by
 refine a1_ F ay_ (fun _ _ _ _ _ _=>byL1 fun _=>rfl) ?len ?body
 case len=>rintro vs H Q E ⟨a,b,rfl,_⟩;rfl
 case body =>
  intro f cdv A outer s H vs Q E hr h;obtain ⟨v,N,rfl,hv,ok,kk⟩:=h;obtain ⟨pn,p0,p1,p2,rs,ws,rfl,hn,h0,h1,r1,h2,r2⟩:=c6_ hv;have rl:rs.length=N.rows.length:=by rw [r1.length,Ab_]
  refine' ⟨_,?D,?R⟩
  case D =>
   refine' ai_ ?g1 (ai_ ?g3 (aj_ (aB_ (pv1 1 rfl bb_))))
   case g1=>exact ah_ (i:=1) ay_.nd rfl bb_ fz_
   case' g3=>refine' aZ_ AA_ rfl (aR_ (K:=K) rfl (FG_ ap_ (pv1 0 rfl bL_) ad_ (fun _ _=>rfl))) (aS_ (K:=K) (n:=2) rfl rfl (ak_ ?g12 (ak_ ?g14 aQ_))) ?g7
   case g12=>exact ag_ (i:=2) ay_.nd rfl aM_
   case g14=>exact ag_ (i:=3) ay_.nd rfl bc_
   case' g7=>refine' aj_ (aZ_ AA_ rfl (aC_ cv_ T.n_range (pa_c (am_ ao_ bw_ T.n_len aX_ (pa_c (pv1 3 rfl bc_) ab_)) ab_)) ?g18 ?g19)
   case g18=>exact ag_ (i:=4) ay_.nd rfl aN_
   case' g19=>refine' ac_ (ah_ (i:=5) ay_.nd rfl bM_ ?g28) (aj_ (c4_ (un1 hr.units) (pv1 1 rfl bb_) (aq_ (pa_c (pv1 2 rfl aM_) (pa_c (pv1 4 rfl aN_) ab_))) ?g46 rfl))
   case' g28=>refine' pv_ (im_ G0_ (Fz_ aK_ (pv1 4 rfl aN_) ad_) (am_ ao_ bw_ T.n_len aX_ (pa_c (pv1 3 rfl bc_) ab_)) (FY_ _)) (pu_ (im_ (jT_ (K:=K) rfl) (pv1 2 rfl aM_) (FG_ ap_ (pv1 0 rfl bL_) ad_ (fun _ _=>rfl)) (by with_unfolding_all rfl)))
   case' g46=>refine' aq_ (pa_c (pv1 2 rfl aM_) (pa_c (no_ (i7_ (pv1 5 rfl bM_)) ad_ (Fz_ aK_ (pv1 4 rfl aN_) ad_)) ab_))
  case R =>
   nofun;intro d nd;have S1:=Fx_.new nd (o:=HO.dT []);have hd1:=aa_ (H:=H) (a:=d) (o:=HO.dT []);generalize upd H d (HO.dT [])=H1 at *;refine ⟨_,S1 _ _ hn,_,Gy_,p1,rfl,⟨_,.inl (.inl (S1 _ _ h1))⟩,?_⟩;refine eJ_ (xs:=rs) (fun i σ Hy=>∃ (e2 e3 e4 e5:Option V)(kb:List (List Key×V)),σ=[some (.ref pn),some (.ref d),e2,e3,e4,e5]/\Fx_ H Hy/\Hy d=some (.dT kb)/\kb.length<=31*i/\BhI Hy N kb i 0) ⟨_,_,_,_,[],rfl,S1,hd1,Ay_ _,fun i0 r k _ _ h=>(by rcases h with h|h;exact absurd h (Bm_ _);exact absurd h.2 (Bm_ _))⟩ ?_ ?_ ?_
   ·rintro i σ Hy hi ⟨e2,e3,e4,e5,kb,rfl,sy,hd,kl,bh⟩;exact .inl (.inl (sy _ _ h1))
   ·rintro i y σ Hy hy kc kbk hk hb G hG ⟨e2,e3,e4,e5,kb,rfl,sy,hd,kl,bh⟩;refine hG ?_;obtain ⟨r,q,l,hr1,rfl,hq,hl⟩:=eM_ r1 hy;have il:=(Ae_.mp hr1).1;have few:=ok.few;have r30:=KA_ ok (Am_ hr1);nofun;refine ⟨_,SqT.of (sy _ _ hq),rfl,_,_,rfl,_,_,rfl,rfl,l,rfl,_,.inl (sy _ _ hl),by lia,by rw [Ab_];lia,?_⟩;rw [Ab_,AE_];refine a3_ (fun j σ Hz=>∃ (e4 e5:Option V)(kb:List (List Key×V)),σ=[some (.ref pn),some (.ref d),some (.str r.1),some (.ref l),e4,e5]/\Fx_ H Hz/\Hz d=some (.dT kb)/\kb.length<=31*i+j/\BhI Hz N kb i j) ⟨_,_,kb,rfl,sy,hd,by lia,bh⟩ ?_ ?_
    ·rintro j σ Hz hj kk2 kb2 hk2 hb2 G2 hG2 ⟨e4,e5,kb,rfl,sz,hd,kl,bh⟩;refine hG2 ?_;rw [Cn_];have hlz:=sz _ _ hl;have hnz:=sz _ _ hn;have h0z:=sz _ _ h0
     have fin:∀ (b:Bool)(n:Int),n=(bhN N (r.1,j) r.2.length).2->(2<=sizeLine/\∀ q1:Addr,Hz q1=none->2<=sizeLine/\∀ q2:Addr,upd Hz q1 (.tup [.str r.1,.int n]) q2=none->∃ x,Hq_ (upd (upd Hz q1 (.tup [.str r.1,.int n])) q2 (.tup [.str r.1,.int j])) d (.ref q2) (.ref q1) x/\kk2 [some (.ref pn),some (.ref d),some (.str r.1),some (.ref l),some (.int j),some (.bl b)] x):=by
      rintro b n rfl;refine ⟨by decide,fun q1 n1=>⟨by decide,fun q2 n2=>?_⟩⟩;have t1:=Fx_.new n1 (o:=HO.tup [.str r.1,.int ((bhN N (r.1,j) r.2.length).2:Nat)]);have hq1:=aa_ (H:=Hz) (a:=q1) (o:=HO.tup [.str r.1,.int ((bhN N (r.1,j) r.2.length).2:Nat)]);generalize upd Hz q1 (HO.tup [.str r.1,.int ((bhN N (r.1,j) r.2.length).2:Nat)])=Z1 at *;have t2:=Fx_.new n2 (o:=HO.tup [.str r.1,.int j]);have hq2:=aa_ (H:=Z1) (a:=q2) (o:=HO.tup [.str r.1,.int j]);have hq1':=t2 _ _ hq1;have t12:=t1.trans t2;generalize upd Z1 q2 (HO.tup [.str r.1,.int j])=Z2 at *;have hd2:=t12 _ _ hd;refine ⟨_,Hq_.t (k:=eK (r.1,j)) hd2 hq2 (Fw_ (by lia)),hk2 _ _ ⟨_,_,_,rfl,(sz.trans t12).upd nd,aa_,by have:=aH_ kb (eK (r.1,j)) (.ref q1);lia,?_⟩⟩;have old:∀ b ys,Hz b=some (.tup ys)->upd Z2 d (.dT (Ge_ kb (eK (r.1,j)) (.ref q1))) b=some (.tup ys):=fun b ys e=>by rw [af_ (HF_ (t12 _ _ e) hd2 (fun z=>nomatch z))];exact t12 _ _ e
      refine BhI.put ok hr1 bh old ?_;rw [af_ (HF_ hq1' hd2 (fun z=>nomatch z)),hq1'];unfold eV bhN;split <;> rfl
     nofun;refine ⟨_,.inl hlz,?_⟩;rw [Ab_];refine ite2 (fun c=>?_) (fun c=>?_)
     ·refine ⟨_,hnz,_,Gt_,p0,rfl,_,.inl (.inl (.inl h0z)),rfl,by simp [GY_],?_⟩;rw [li_];nofun;refine ite2 (fun c2=>fin _ _ ?_) (fun c2=>fin _ _ ?_)
      ·unfold bhN;rw [if_pos ⟨c2,by dsimp only;lia⟩];rfl
      ·unfold bhN;rw [if_neg (fun z=>c2 z.1)];rfl
     ·nofun;refine fin _ _ ?_;unfold bhN;rw [if_neg (fun z=>c (by have:=z.2;dsimp only at this;lia))];rfl
    ·rintro σ Hz ⟨e4,e5,kb,rfl,sz,hd,kl,bh⟩;exact hk _ _ ⟨_,_,_,_,kb,rfl,sz,hd,by lia,bh.row hr1⟩
   ·rintro σ Hy ⟨e2,e3,e4,e5,kb,rfl,sy,hd,kl,bh⟩;rw [rl] at bh;nofun;exact kk d kb Hy sy nd hd bh.all
theorem un2 {n c:Nat}(h:n+64<c):n+2<c:=by lia
def skN (N:Net Str)(s:Sd):Sk:=(eK (ph N s.1),s.2)
theorem iU_ {N:Net Str}(ok:FS_ N)(po:FH_ N){a b:Sd}(ha:a.1.1<(pts N).length)(hb:b.1.1<(pts N).length)(h:skN N a=skN N b):a=b:=by unfold skN at h;obtain ⟨h1,h2⟩:=Ey_ h;exact A9_ (hb_ ok po ha hb (eu_ h1)) h2
theorem p4_ {N:Net Str}{p:Nat}(h:p<(pts N).length):(pts N)[p]?=some ((pts N).getD p Str.empty):=by rw [Ad_,Aa_ h];rfl
theorem ot_ {N:Net Str}(ok:FS_ N)(po:FH_ N){p:Nat}(h:p<(pts N).length):∃ r∈N.rows,r.1=(pts N).getD p Str.empty/\(trn N).getD p []=r.2/\(r.1∈N.posts ↔ p<Pn N):=by
 have hx:=p4_ h;have hm:(pts N).getD p Str.empty∈pts N:=Am_ hx;obtain ⟨r,hr,e⟩:=Ap_.mp ((dB_ po).mp hm);refine ⟨r,hr,e,?_,?_⟩
 ·rw [f1_ hx,<-e];exact b3_ ok hr
 ·rw [e];exact fr_ ok po hx
theorem m9_ {N:Net Str}(ok:FS_ N)(po:FH_ N){e:Nat×Nat}{x:Str}(h:wi (trn N) e=some x):e.1<(pts N).length/\∃ r∈N.rows,r.1=(ph N e).1/\r.2[e.2]?=some x/\r.2.length=rl (trn N) e.1/\(r.1∈N.posts ↔ e.1<Pn N):=by
 have h1:=(F7_ h).2;rw [a5_] at h1;obtain ⟨r,hr,g1,g2,g3⟩:=ot_ ok po h1;refine ⟨h1,r,hr,g1,?_,?_,g3⟩
 ·have:=h;unfold wi at this;rw [g2] at this;exact this
 ·unfold rl;rw [g2]
theorem KJ_ {N:Net Str}(ok:FS_ N)(po:FH_ N){H:Hp}{kb:List (List Key×V)}(bh:KS_ H N kb N.rows){e:Nat×Nat}{x:Str}(h:wi (trn N) e=some x):∃ q,F9_ kb (eK (ph N e))=some (.ref q)/\H q=some (eV (ph N (beh (trn N) (Pn N) e))):=by
 obtain ⟨h1,r,hr,g1,g2,g3,g4⟩:=m9_ ok po h;have hk:e.2<r.2.length:=(Ae_.mp g2).1;obtain ⟨q,z1,z2⟩:=bh r hr e.2 hk;have ee:((r.1,e.2):End Str)=ph N e:=A9_ g1 rfl;rw [ee] at z1 z2;refine ⟨q,z1,?_⟩;rw [z2];congr 1;unfold bhN beh;rw [g3];have c:((ph N e).1∉N.posts/\(ph N e).2+1=rl (trn N) e.1) ↔ (Pn N<=e.1/\e.2+1=rl (trn N) e.1):=by rw [<-g1,g4];exact and_congr B7_ Iff.rfl
 by_cases c1:Pn N<=e.1/\e.2+1=rl (trn N) e.1
 ·rw [if_pos (c.mpr c1),if_pos c1];rfl
 ·rw [if_neg (fun z=>c1 (c.mp z)),if_neg c1];rfl
theorem ou_ {N:Net Str}(ok:FS_ N)(po:FH_ N){kv:Str×List (End Str)}(hkv:kv∈Gl_ N){a:End Str}(ha:a∈kv.2):∃ e,wi (trn N) e=some kv.1/\ph N e=a:=by
 obtain ⟨r,hr,h1,h2⟩:=lW_.mp (lR_ hkv ha)
 dsimp only at h1 h2
 have hm:r.1∈pts N:=(dB_ po).mpr (Ap_.mpr ⟨r,hr,rfl⟩);refine ⟨(pid N r.1,a.2),?_,?_⟩
 ·unfold wi;rw [f1_ (kP_ hm),b3_ ok hr];exact h2
 ·exact (lV_ hm a.2).trans (A9_ h1 rfl)
structure GoI (H:Hp)(N:Net Str)(kg:List (Sk×V))(D:Nat×Nat->Prop):Prop where
 tt:∀ e f x,D e->G3_ (trn N) e f->wi (trn N) e=some x->∃ v q,F9_ kg (skN N (e,true))=some (.ref v)/\H v=some (.tup [.str x,.ref q])/\Gw_ H q (skN N (f,false))
 ff:∀ e f x,D e->G3_ (trn N) e f->wi (trn N) e=some x->∃ v q,F9_ kg (skN N (beh (trn N) (Pn N) e,false))=some (.ref v)/\H v=some (.tup [.str x,.ref q])/\Gw_ H q (skN N (beh (trn N) (Pn N) f,true))
 no:∀ s:Sd,IsC (trn N) (Pn N) s.1->wr (trn N) (Pn N) s=none->F9_ kg (skN N s)=none
theorem GoI.put {N:Net Str}(ok:FS_ N)(po:FH_ N){H H':Hp}{kg:List (Sk×V)}{D:Nat×Nat->Prop}(g:GoI H N kg D){e f:Nat×Nat}{x:Str}(m:G3_ (trn N) e f)(hx:wi (trn N) e=some x){v1 q1 v2 q2:Addr}
  (s:∀ b ys,H b=some (.tup ys)->H' b=some (.tup ys)) (h1:H' v1=some (.tup [.str x,.ref q1])) (k1:Gw_ H' q1 (skN N (f,false))) (h2:H' v2=some (.tup [.str x,.ref q2])) (k2:Gw_ H' q2 (skN N (beh (trn N) (Pn N) f,true))) :
  GoI H' N (Ge_ (Ge_ kg (skN N (e,true)) (.ref v1)) (skN N (beh (trn N) (Pn N) e,false)) (.ref v2)) (fun c=>D c\/c=e):=by
 have lt:∀ {c:Nat×Nat}{y:Str},wi (trn N) c=some y->c.1<(pts N).length:=fun {c y} h=>by have:=(F7_ h).2;rwa [a5_] at this
 have bl:∀ {c:Nat×Nat},(beh (trn N) (Pn N) c).1=c.1:=fun {c}=>e0_ _ _ c;have tf:∀ {a b:Nat×Nat},skN N (a,true)≠skN N (b,false):=fun {a b} z=>by have:=congrArg Prod.snd z;cases this
 have ft:∀ {a b:Nat×Nat},skN N (a,false)≠skN N (b,true):=fun {a b} z=>tf z.symm;have one:∀ c,G3_ (trn N) e c->c=f:=fun c hc=>dz_ (ha_ ok po) hc m;have kp:∀ {q k},Gw_ H q k->Gw_ H' q k:=fun {q k} ⟨p,z1,z2⟩=>⟨p,s _ _ z1,s _ _ z2⟩;refine ⟨fun c d y hc hm hy=>?_,fun c d y hc hm hy=>?_,fun t ht hn=>?_⟩
 ·rw [aE_,if_neg tf,aE_];by_cases ce:c=e
  ·subst ce;rw [hx] at hy;cases hy;rw [if_pos rfl,one d hm];exact ⟨v1,q1,rfl,h1,k1⟩
  ·rw [if_neg (fun z=>ce (congrArg Prod.fst (iU_ ok po (lt hy) (lt hx) z)))];obtain ⟨v,q,z1,z2,z3⟩:=g.tt c d y (hc.resolve_right ce) hm hy;exact ⟨v,q,z1,s _ _ z2,kp z3⟩
 ·rw [aE_];by_cases ce:c=e
  ·subst ce;rw [hx] at hy;cases hy;rw [if_pos rfl,one d hm];exact ⟨v2,q2,rfl,h2,k2⟩
  ·rw [if_neg (fun z=>ce (hc_ (F7_ hy).1 (F7_ hx).1 (congrArg Prod.fst (iU_ ok po (by show (beh _ _ c).1<_;rw [bl];exact lt hy) (by show (beh _ _ e).1<_;rw [bl];exact lt hx) z)))),aE_,if_neg ft];obtain ⟨v,q,z1,z2,z3⟩:=g.ff c d y (hc.resolve_right ce) hm hy;exact ⟨v,q,z1,s _ _ z2,kp z3⟩
 ·have tl:t.1.1<(pts N).length:=by have:=ht.1;rwa [a5_] at this
  rw [aE_,if_neg,aE_,if_neg]
  ·exact g.no t ht hn
  ·intro z;have:=iU_ ok po tl (lt hx) z;rw [this] at hn;rw [show wr (trn N) (Pn N) (e,true)=wi (trn N) e from rfl,hx] at hn;cases hn
  ·intro z;have:=iU_ ok po tl (by show (beh _ _ e).1<_;rw [bl];exact lt hx) z;rw [this,kQ_ (F7_ hx).1,hx] at hn;cases hn
abbrev FR_:Stmt:=stN 7
theorem bu_:FF_ ["net", "wires_round", "behind", "goings", "end", "far", "wire"] ["net"] (Fy_ FR_):=⟨rfl,rfl,rfl,by rfl',rfl,by rfl',by rfl'⟩
theorem c9_:LK FR_ "net" .local:=by rfl'
theorem eR_:LK FR_ "wires_round" .local:=by rfl'
theorem da_:LK FR_ "behind" .local:=by rfl'
theorem b7_:LK FR_ "goings" .local:=by rfl'
theorem bA_:LK FR_ "end" .local:=by rfl'
theorem db_:LK FR_ "far" .local:=by rfl'
theorem dc_:LK FR_ "wire" .local:=by rfl'
theorem bT_:LK FR_ "corners_behind_ends" .globalImplicit:=by rfl'
theorem gf_:LK FR_ "dict" .globalImplicit:=by rfl'
theorem dX_:LK FR_ "other_ends" .globalImplicit:=by rfl'
def Kz_ (P:Program)(w:World):Sp:=fun vs H Q _=>∃ (v:V)(N:Net Str),vs=[v]/\Rep H v (HS_ N)/\FS_ N/\FH_ N/\∀ d kg H',Fx_ H H'->DP P w H' d kg->GoI H' N kg (fun _=>True)->H d=none->Q (.ref d) H'
theorem jU_ (T:Txt K mg)(F:Fn0 K mg "goings_of" FR_) (GG_:Cal P w K mg base "corners_behind_ends" ["net"] 1 JF_) (HG_:Cal P w K mg base "other_ends" ["net"] 2 HA_):Cal P w K mg base "goings_of" ["net"] 3 (Kz_ P w):=by
 refine a1_ F bu_ (fun _ _ _ _ _ _=>byL1 fun _=>rfl) ?len ?body
 case len=>rintro vs H Q E ⟨a,b,rfl,_⟩;rfl
 case body =>
  intro f cdv A outer s H vs Q E hr h;obtain ⟨v,N,rfl,hv,ok,po,kk⟩:=h;obtain ⟨pn,p0,p1,p2,rs,ws,rfl,hn,h0,h1,r1,h2,r2⟩:=c6_ hv;have rl:rs.length=N.rows.length:=by rw [r1.length,Ab_]
  refine' ⟨_,?D,?R⟩
  case D =>
   refine' ac_ (ah_ (i:=1) bu_.nd rfl eR_ (cs_ (h6_ rfl) gf_ T.n_dict m5_ (pa_c (FG_ ap_ (pv1 0 rfl c9_) ad_ (fun _ _=>rfl)) ab_))) ?g2
   case' g2=>refine' ac_ (ah_ (i:=2) bu_.nd rfl da_ (al_ GG_ (hr.mono (by decide)) bT_ (pa_c (pv1 0 rfl c9_) ab_))) (ac_ ?g15 (ai_ ?g17 (aj_ (aB_ (pv1 3 rfl b7_)))))
   case g15=>exact ah_ (i:=3) bu_.nd rfl b7_ (oX_ (P:=P) (w:=w) rfl rfl)
   case' g17=>refine' aZ_ AA_ rfl (lz_ (al_ HG_ (hr.mono (by decide)) dX_ (pa_c (pv1 0 rfl c9_) ab_))) (aS_ (K:=K) (n:=2) rfl rfl (ak_ ?g27 (ak_ ?g29 aQ_))) ?g21
   case g27=>exact ag_ (i:=4) bu_.nd rfl bA_
   case g29=>exact ag_ (i:=5) bu_.nd rfl db_
   case' g21=>refine' ac_ (ah_ (i:=6) bu_.nd rfl dc_ (FG_ ar_ (c3_ (un1 hr.units) (pv1 1 rfl eR_) (FG_ ap_ (pv1 4 rfl bA_) ad_ (fun _ _=>rfl)) (fun _ _=>rfl)) (FG_ ap_ (pv1 4 rfl bA_) ad_ (fun _ _=>rfl)) (fun _ _=>rfl))) ?g32
   case' g32=>refine' ac_ (mG_ (P:=P) (w:=w) rfl rfl (un2 hr.units) (pv1 3 rfl b7_) (aq_ (pa_c (pv1 4 rfl bA_) (pa_c GI_ ab_))) ?g46 rfl) ?g43
   case' g46=>refine' aq_ (pa_c (pv1 6 rfl dc_) (pa_c (aq_ (pa_c (pv1 5 rfl db_) (pa_c GI_ ab_))) ab_))
   case' g43=>refine' aj_ (mG_ (P:=P) (w:=w) rfl rfl (un2 hr.units) (pv1 3 rfl b7_) (aq_ (pa_c (c3_ (un1 hr.units) (pv1 2 rfl da_) (pv1 4 rfl bA_) (fun _ _=>rfl)) (pa_c GI_ ab_))) ?g65 rfl)
   case' g65=>refine' aq_ (pa_c (pv1 6 rfl dc_) (pa_c (aq_ (pa_c (c3_ (un1 hr.units) (pv1 2 rfl da_) (pv1 5 rfl db_) (fun _ _=>rfl)) (pa_c GI_ ab_))) ab_))
  case R =>
   nofun;obtain ⟨kvs,k1,k2,k3,k4⟩:=iT_ r1;have few:=ok.few;have knd:(kvs.map (·.1)).Nodup:=by rw [k1];have:=ok.nd;unfold List.Nodup at this ⊢;rw [Bq_] at this ⊢;exact this.imp fun h z=>h (Cw_ z)
   refine ⟨_,hn,_,Gy_,p1,rfl,rs,h1,kvs,by lia,by lia,k3,fun dr ndr=>?_⟩;rw [iS_ kvs [] (by rw [Dm_];exact knd),Dm_];have S1:=Fx_.new ndr (o:=HO.dK kvs);have hdr:=aa_ (H:=H) (a:=dr) (o:=HO.dK kvs);generalize upd H dr (HO.dK kvs)=H1 at *;nofun;refine ⟨_,N,rfl,Rep.mono S1 _ hv,ok,fun db kb H2 s2 ndb hdb bh=>?_⟩;nofun;intro dg ndg H3 s3 dp0 fr3;nofun;refine ⟨_,N,rfl,Rep.mono (S1.trans (s2.trans s3)) _ hv,ok,fun dO k2' H4 s4 hdO mo no ky kl60 ndO=>?_⟩;refine ⟨dO,rfl,k2',hdO,fun ob=>?_⟩;have s03:=S1.trans (s2.trans s3);have s04:=s03.trans s4;have dgO:dg≠dO:=fun z=>by obtain ⟨_,xs,e,_⟩:=dp0;rw [z] at e;rw [e] at ndO;cases ndO
   have dgn:H dg=none:=(S1.trans s2).free ndg
   let Sx:Hp:=fun b=>if b=dg then none else upd H4 dO (HO.frz ob (HO.dT k2')) b
   have Sxd:Sx dg=none:=if_pos rfl;have Sx4:∀ b o,b≠dg->b≠dO->H4 b=some o->Sx b=some o:=fun b o h1 h2 e=>by show (if b=dg then none else _)=_;rw [if_neg h1,af_ h2];exact e
   have tupS:∀ b ys,H4 b=some (.tup ys)->Sx b=some (.tup ys):=fun b ys e=>by
    refine Sx4 b _ (fun z=>?_) (fun z=>?_) e
    ·obtain ⟨_,xs,e',_⟩:=dp0.mono s4;rw [z,e'] at e;cases e
    ·rw [z,hdO] at e;cases e
   have hS:Fx_ H Sx:=fun b o e=>Sx4 b o (ae_ e dgn) (fun z=>by rw [z] at e;rw [s03 _ _ e] at ndO;cases ndO) (s04 _ _ e);have frzS:Sx dO=some (.frz ob (.dT k2')):=by show (if dO=dg then none else _)=_;rw [if_neg dgO.symm,aa_]
   have hdrS:Sx dr=some (.dK kvs):=Sx4 dr _ (ae_ (s2 _ _ hdr) ndg) (fun z=>by have:=(s2.trans s3) _ _ hdr;rw [z,ndO] at this;cases this) ((s2.trans (s3.trans s4)) _ _ hdr);have hdbS:Sx db=some (.dT kb):=Sx4 db _ (ae_ hdb ndg) (fun z=>by have:=s3 _ _ hdb;rw [z,ndO] at this;cases this) ((s3.trans s4) _ _ hdb);have bhS:KS_ Sx N kb N.rows:=fun r hr k hk=>by obtain ⟨q,z1,z2⟩:=bh r hr k hk;exact ⟨q,z1,tupS _ _ ((s3.trans s4) _ _ z2)⟩
   have dp4:=dp0.mono s4;have dpI:DP P w (upd H4 dO (HO.frz ob (HO.dT k2'))) dg []:=by obtain ⟨z0,xs,z1,z2⟩:=dp4;refine ⟨z0,xs,by rw [af_ dgO];exact z1,?_⟩;cases z2;exact .nil
   have item:∀ (i:Nat) k x,k2'[i]?=some (k,x)->∃ e f a q,k=eK (ph N e)/\G3_ (trn N) e f/\wi (trn N) e=some a/\x=.ref q/\Sx q=some (eV (ph N f)):=fun i k x hk=>by
    have hm:=Am_ hk;obtain ⟨a,rfl⟩:=ky.2 k (Ap_.mpr ⟨_,hm,rfl⟩);have hv:=id_ ky.1 hm
    obtain ⟨kv,hkv,hakv⟩:∃ kv∈Gl_ N,a∈kv.2:=by
     by_cases c:∃ kv∈Gl_ N,a∈kv.2
     ·exact c
     ·rw [no a fun kv hkv z=>c ⟨kv,hkv,z⟩] at hv;cases hv
    obtain ⟨j,hj,ej⟩:=AB_.mp hkv;obtain ⟨b,c,ebc⟩:=ik_ ok hkv;have ne:=lS_ ok hkv ebc;obtain ⟨⟨q1,g1,g2⟩,q2,g3,g4⟩:=mo j kv.1 b c hj (by rw [Aa_ hj,ej,<-ebc]);have mt:∀ {a1 a2:End Str},a1∈kv.2->a2∈kv.2->a1≠a2->∃ e f,ph N e=a1/\ph N f=a2/\G3_ (trn N) e f/\wi (trn N) e=some kv.1:=fun {a1 a2} h1 h2 h3=>by obtain ⟨e,w1,r1⟩:=ou_ ok po hkv h1;obtain ⟨f,w2,r2⟩:=ou_ ok po hkv h2;exact ⟨e,f,r1,r2,⟨fun z=>h3 (by rw [<-r1,<-r2,z]),_,w1,w2⟩,w1⟩
    rw [ebc] at hakv
    rcases Ax_.mp hakv with z|z
    ·subst z;obtain ⟨e,f,r1,r2,m,w1⟩:=mt (a1:=a) (a2:=c) (by rw [ebc];simp) (by rw [ebc];simp) ne;rw [g1] at hv;cases hv;exact ⟨e,f,_,q1,by rw [r1],m,w1,rfl,by rw [r2];exact tupS _ _ g2⟩
    ·rw [Ak_] at z;subst z;obtain ⟨e,f,r1,r2,m,w1⟩:=mt (a1:=a) (a2:=b) (by rw [ebc];simp) (by rw [ebc];simp) ne.symm;rw [g3] at hv;cases hv;exact ⟨e,f,_,q2,by rw [r1],m,w1,rfl,by rw [r2];exact tupS _ _ g4⟩
   refine o0_ (fun i σ Hy=>∃ (e4 e5 e6:Option V)(kg:List (Sk×V)),σ=[some (.ref pn),some (.ref dr),some (.ref db),some (.ref dg),e4,e5,e6]/\Fx_ Sx Hy/\DP P w Hy dg kg/\kg.length<=2*i/\GoI Hy N kg (fun e=>∃ m,m<i/\(k2'[m]?).map (·.1)=some (eK (ph N e)))) ⟨_,_,_,[],rfl,?_,dpI,Ay_ _,⟨fun e f x h=>?_,fun e f x h=>?_,fun s _ _=>rfl⟩⟩ ?_ ?_ ?_
   ·intro b o e;have:b≠dg:=fun z=>by rw [z,Sxd] at e;cases e
    have e':(if b=dg then none else upd H4 dO (HO.frz ob (HO.dT k2')) b)=some o:=e;rw [if_neg this] at e';exact e'
   ·obtain ⟨m,hm,_⟩:=h;exact absurd hm (Bm_ _)
   ·obtain ⟨m,hm,_⟩:=h;exact absurd hm (Bm_ _)
   ·rintro i σ Hy hi ⟨e4,e5,e6,kg,rfl,sy,dp,kl,gi⟩;exact sy _ _ frzS
   ·rintro i k x T0 qe σ Hy hk hT0 hqe kc kbk hkk hbb G hG ⟨e4,e5,e6,kg,rfl,sy,dp,kl,gi⟩;refine hG ?_;obtain ⟨e,f,a,q,rfl,m,wa,rfl,hq⟩:=item i k x hk;nofun;have U0:=Fx_.new hT0 (o:=HO.tup [V.ref qe,V.ref q]);have hT:=aa_ (H:=Hy) (a:=T0) (o:=HO.tup [V.ref qe,V.ref q]);generalize upd Hy T0 (HO.tup [V.ref qe,V.ref q])=Z0 at *;refine ⟨_,SqT.of hT,rfl,_,_,rfl,_,_,rfl,rfl,?_⟩;have sz:=sy.trans U0;have dpz:=dp.mono U0;have hqe0:=U0 _ _ hqe;have hq0:=sz _ _ hq;obtain ⟨ep,er,hr,g1,g2,g3,g4⟩:=m9_ ok po wa;obtain ⟨lw,kvm,hlw⟩:=k4 er hr;have vlw:=kB_ knd kvm;have hlw0:Z0 lw=some (.lst (er.2.map V.str)):=(hS.trans sz) _ _ hlw;nofun;refine ⟨_,hqe0,_,Gt_,.ref lw,?_,_,hqe0,_,Gy_,lw,rfl,_,_,rfl,hlw0,.str a,kb_ (by rw [Ag_,show er.2[(ph N e).2]?=some a from g2];rfl),?_⟩
    ·have:=GP_.k (k:=.inr er.1) (sz _ _ hdrS);rw [vlw,g1] at this;exact this
    have hi60:i<60:=by have:=(Ae_.mp hk).1;lia
    nofun;refine ⟨by decide,fun t1 n1=>⟨by decide,fun t2 n2=>⟨by decide,fun t3 n3=>?_⟩⟩⟩;have A1:=Fx_.new n1 (o:=HO.tup [V.ref q,V.bl false]);have h1':=aa_ (H:=Z0) (a:=t1) (o:=HO.tup [V.ref q,V.bl false]);generalize upd Z0 t1 (HO.tup [V.ref q,V.bl false])=Y1 at *;have A2:=Fx_.new n2 (o:=HO.tup [V.str a,V.ref t1]);have h2':=aa_ (H:=Y1) (a:=t2) (o:=HO.tup [V.str a,V.ref t1]);generalize upd Y1 t2 (HO.tup [V.str a,V.ref t1])=Y2 at *;have A3:=Fx_.new n3 (o:=HO.tup [V.ref qe,V.bl true]);have h3':=aa_ (H:=Y2) (a:=t3) (o:=HO.tup [V.ref qe,V.bl true]);generalize upd Y2 t3 (HO.tup [V.ref qe,V.bl true])=Y3 at *;have a13:=A1.trans (A2.trans A3);have dp3:=dpz.mono a13;have ky3:Gw_ Y3 t3 (skN N (e,true)):=⟨qe,h3',a13 _ _ hqe0⟩;refine ⟨kg,dp3,_,ky3,Fw_ (by lia),fun H5 fr5 dp5=>?_⟩;have keep:∀ b o,Y3 b=some o->b≠dg->H5 b=some o:=fun b o hb ne=>by rw [fr5 b ne];exact hb
    obtain ⟨_,xs3,ex3,_⟩:=id dp3;have kt:∀ b ys,Y3 b=some (.tup ys)->H5 b=some (.tup ys):=fun b ys hb=>keep b _ hb (fun z=>by rw [z,ex3] at hb;cases hb);have h15:=kt _ _ ((A2.trans A3) _ _ h1');have h25:=kt _ _ (A3 _ _ h2');have hqe5:=kt _ _ (a13 _ _ hqe0);have hq5:H5 q=some (eV (ph N f)):=kt _ _ (a13 _ _ hq0);have Sx5:∀ b o,Sx b=some o->H5 b=some o:=fun b o hb=>keep b o (a13 _ _ (sz _ _ hb)) (fun z=>by rw [z,Sxd] at hb;cases hb);obtain ⟨be,vb1,hb1⟩:=KJ_ ok po bhS wa;obtain ⟨w2,wf1,wf2⟩:=m.2;have wf:wi (trn N) f=some a:=by rw [wa] at wf1;cases wf1;exact wf2
    obtain ⟨bf,vb2,hb2⟩:=KJ_ ok po bhS wf;nofun;refine ⟨.ref bf,by have:=GP_.t (k:=eK (ph N f)) (Sx5 _ _ hdbS) hq5;rw [vb2] at this;exact this,by decide,fun u1 m1=>⟨by decide,fun u2 m2=>?_⟩⟩;have B1:=Fx_.new m1 (o:=HO.tup [V.ref bf,V.bl true]);have c1:=aa_ (H:=H5) (a:=u1) (o:=HO.tup [V.ref bf,V.bl true]);generalize upd H5 u1 (HO.tup [V.ref bf,V.bl true])=X1 at *;have B2:=Fx_.new m2 (o:=HO.tup [V.str a,V.ref u1]);have c2:=aa_ (H:=X1) (a:=u2) (o:=HO.tup [V.str a,V.ref u1]);generalize upd X1 u2 (HO.tup [V.str a,V.ref u1])=X2 at *;have b12:=B1.trans B2;refine ⟨.ref be,by have:=GP_.t (k:=eK (ph N e)) (b12 _ _ (Sx5 _ _ hdbS)) (b12 _ _ hqe5);rw [vb1] at this;exact this,by decide,fun u3 m3=>?_⟩;have B3:=Fx_.new m3 (o:=HO.tup [V.ref be,V.bl false]);have c3:=aa_ (H:=X2) (a:=u3) (o:=HO.tup [V.ref be,V.bl false]);generalize upd X2 u3 (HO.tup [V.ref be,V.bl false])=X3 at *;have b13:=b12.trans B3;have dp6:=dp5.mono b13;have ky6:Gw_ X3 u3 (skN N (beh (trn N) (Pn N) e,false)):=⟨be,c3,b13 _ _ (Sx5 _ _ hb1)⟩;have pl1:=aH_ kg (skN N (e,true)) (.ref t2);refine ⟨_,dp6,_,ky6,Fw_ (by lia),fun H7 fr7 dp7=>?_⟩;obtain ⟨_,xs6,ex6,_⟩:=id dp6;have keep7:∀ b o,X3 b=some o->b≠dg->H7 b=some o:=fun b o hb ne=>by rw [fr7 b ne];exact hb
    have kt7:∀ b ys,X3 b=some (.tup ys)->H7 b=some (.tup ys):=fun b ys hb=>keep7 b _ hb (fun z=>by rw [z,ex6] at hb;cases hb);have Sx7:∀ b o,Sx b=some o->H7 b=some o:=fun b o hb=>keep7 b o (b13 _ _ (Sx5 _ _ hb)) (fun z=>by rw [z,Sxd] at hb;cases hb);have pl2:=aH_ (Ge_ kg (skN N (e,true)) (.ref t2)) (skN N (beh (trn N) (Pn N) e,false)) (.ref u2);have gi7:=gi.put ok po (H':=H7) m wa (v1:=t2) (q1:=t1) (v2:=u2) (q2:=u1) (fun b ys hb=>kt7 _ _ (b13 _ _ (kt _ _ (a13 _ _ (U0 _ _ hb))))) (kt7 _ _ (b13 _ _ h25)) ⟨q,kt7 _ _ (b13 _ _ h15),kt7 _ _ (b13 _ _ hq5)⟩ (kt7 _ _ (B3 _ _ c2)) ⟨bf,kt7 _ _ ((B2.trans B3) _ _ c1),kt7 _ _ (b13 _ _ (Sx5 _ _ hb2))⟩;refine hkk _ _ ⟨_,_,_,_,rfl,Sx7,dp7,by lia,⟨fun c d y hc hm hy=>gi7.tt c d y ?_ hm hy,fun c d y hc hm hy=>gi7.ff c d y ?_ hm hy,gi7.no⟩⟩
    all_goals
     obtain ⟨mm,hmm,hmk⟩:=hc;by_cases em:mm=i
     ·subst em;rw [hk] at hmk;have hph:ph N e=ph N c:=eu_ (Aw_ hmk);exact .inr (hb_ ok po ((m9_ ok po hy).1) ep hph.symm)
     ·exact .inl ⟨mm,by lia,hmk⟩
   ·rintro σ Hy ⟨e4,e5,e6,kg,rfl,sy,dp,kl,gi⟩;nofun;refine kk dg kg Hy (hS.trans sy) dp ⟨fun e f x _ hm hx=>gi.tt e f x ?_ hm hx,fun e f x _ hm hx=>gi.ff e f x ?_ hm hx,gi.no⟩ dgn
    all_goals
     obtain ⟨kv,hkv,hab⟩:=lX_ (d0:=Str.empty) ok po hm;obtain ⟨j,hj,ej⟩:=AB_.mp hkv
     have hvs:∃ v,F9_ k2' (eK (ph N e))=some v:=by
      rcases hab with hab|hab
      ·obtain ⟨⟨q1,g1,_⟩,_⟩:=mo j kv.1 _ _ hj (by rw [Aa_ hj,ej,<-hab]);exact ⟨_,g1⟩
      ·obtain ⟨_,q1,g1,_⟩:=mo j kv.1 _ _ hj (by rw [Aa_ hj,ej,<-hab]);exact ⟨_,g1⟩
     obtain ⟨v,hv⟩:=hvs;obtain ⟨mm,hmm,em⟩:=AB_.mp (mt_ hv);rw [Ab_] at hmm;exact ⟨mm,hmm,by rw [Aa_ hmm];rw [List.getElem_map] at em;exact congrArg some em⟩
theorem pf_ {N:Net Str}(ok:FS_ N)(po:FH_ N){i:Nat}{x:Str}(h:N.posts[i]?=some x):(pts N)[i]?=some x/\i<(pts N).length/\∃ r∈N.rows,r.1=x/\(trn N).getD i []=r.2:=by
 have hi:=(Ae_.mp h).1;have hp:(pts N)[i]?=some x:=by unfold pts;rw [Al_ hi];exact h
 have hl:=(Ae_.mp hp).1;obtain ⟨r,hr,g1,g2,_⟩:=ot_ ok po hl;refine ⟨hp,hl,r,hr,?_,g2⟩;rw [g1,Ad_,hp];rfl
abbrev F3_:Stmt:=stN 8
theorem cX_:FF_ ["net", "wires_round", "starts", "post"] ["net"] (Fy_ F3_):=⟨rfl,rfl,rfl,by rfl',rfl,by rfl',by rfl'⟩
theorem eS_:LK F3_ "net" .local:=by rfl'
theorem eT_:LK F3_ "wires_round" .local:=by rfl'
theorem b8_:LK F3_ "starts" .local:=by rfl'
theorem b9_:LK F3_ "post" .local:=by rfl'
theorem gg_:LK F3_ "dict" .globalImplicit:=by rfl'
theorem gM_:LK F3_ "len" .globalImplicit:=by rfl'
def StA (H:Hp)(N:Net Str)(qs:List Addr):Prop:=∀ (i:Nat) q,qs[i]?=some q->Gw_ H q (skN N (stt (trn N) i))
theorem Gw_.tups {H H':Hp}{q:Addr}{k:Sk}(h:Gw_ H q k)(s:∀ b ys,H b=some (.tup ys)->H' b=some (.tup ys)):Gw_ H' q k:=let ⟨p,z1,z2⟩:=h;⟨p,s _ _ z1,s _ _ z2⟩
theorem StA.push {H H':Hp}{N:Net Str}{qs:List Addr}{q:Addr}(h:StA H N qs)(s:∀ b ys,H b=some (.tup ys)->H' b=some (.tup ys))(hq:Gw_ H' q (skN N (stt (trn N) qs.length))):StA H' N (qs++[q]):=fun i q' hi=>by
 by_cases c:i<qs.length
 ·rw [Al_ c] at hi;exact Gw_.tups (h i q' hi) s
 ·rw [Ao_ (by lia)] at hi;have:i-qs.length=0:=by have:=(Ae_.mp hi).1;simp at this;lia
  rw [this] at hi;cases hi;rw [show i=qs.length by lia];exact hq
def Hr_:Sp:=fun vs H Q _=>∃ (v:V)(N:Net Str),vs=[v]/\Rep H v (HS_ N)/\FS_ N/\FH_ N/\∀ D qs H',Fx_ H H'->H D=none->H' D=some (.lst (qs.map V.ref))->qs.length=2*Pn N->StA H' N qs->Q (.ref D) H'
theorem jV_ (T:Txt K mg)(F:Fn0 K mg "starts_of" F3_):Cal P w K mg base "starts_of" ["net"] 1 Hr_:=by
 refine a1_ F cX_ (fun _ _ _ _ _ _=>byL1 fun _=>rfl) ?len ?body
 case len=>rintro vs H Q E ⟨a,b,rfl,_⟩;rfl
 case body =>
  intro f cdv A outer s H vs Q E hr h;obtain ⟨v,N,rfl,hv,ok,po,kk⟩:=h;obtain ⟨pn,p0,p1,p2,rs,ws,rfl,hn,h0,h1,r1,h2,r2⟩:=c6_ hv;have rl:rs.length=N.rows.length:=by rw [r1.length,Ab_]
  refine' ⟨_,?D,?R⟩
  case D =>
   refine' ac_ (ah_ (i:=1) cX_.nd rfl eT_ (cs_ (h6_ rfl) gg_ T.n_dict m5_ (pa_c (FG_ ap_ (pv1 0 rfl eS_) ad_ (fun _ _=>rfl)) ab_))) (ac_ (ah_ (i:=2) cX_.nd rfl b8_ (bo_ ab_)) ?g10)
   case' g10=>refine' ai_ (aZ_ AA_ rfl (aR_ (K:=K) rfl (FG_ ap_ (pv1 0 rfl eS_) ad_ (fun _ _=>rfl))) ?g16 ?g17) (aj_ (aB_ (pv1 2 rfl b8_)))
   case g16=>exact ag_ (i:=3) cX_.nd rfl b9_
   case' g17=>refine' ac_ (aA_ (Gi_ Az_ AC_ AD_ az_ (pv1 2 rfl b8_) (pa_c (aq_ ?g28) ab_))) (aj_ (aA_ ?g44))
   case' g28=>refine' pa_c (aq_ (pa_c (pv1 3 rfl b9_) (pa_c (am_ ao_ gM_ T.n_len aX_ (pa_c (c3_ (un1 hr.units) (pv1 1 rfl eT_) (pv1 3 rfl b9_) (fun _ _=>rfl)) ab_)) ab_))) (pa_c GI_ ab_)
   case' g44=>refine' Gi_ Az_ AC_ AD_ az_ (pv1 2 rfl b8_) (pa_c (aq_ (pa_c (aq_ (pa_c (pv1 3 rfl b9_) (pa_c ad_ ab_))) (pa_c GI_ ab_))) ab_)
  case R =>
   nofun;obtain ⟨kvs,k1,k2,k3,k4⟩:=iT_ r1;have few:=ok.few;have knd:(kvs.map (·.1)).Nodup:=by rw [k1];have:=ok.nd;unfold List.Nodup at this ⊢;rw [Bq_] at this ⊢;exact this.imp fun h z=>h (Cw_ z)
   refine ⟨_,hn,_,Gy_,p1,rfl,rs,h1,kvs,by lia,by lia,k3,fun dr ndr=>?_⟩;rw [iS_ kvs [] (by rw [Dm_];exact knd),Dm_];have S1:=Fx_.new ndr (o:=HO.dK kvs);have hdr:=aa_ (H:=H) (a:=dr) (o:=HO.dK kvs);generalize upd H dr (HO.dK kvs)=H1 at *;nofun;refine ⟨Ay_ _,fun D nD=>?_⟩;have S2:=Fx_.new nD (o:=HO.lst []);have hD:=aa_ (H:=H1) (a:=D) (o:=HO.lst []);generalize upd H1 D (HO.lst [])=H2 at *;nofun;refine ⟨_,(S1.trans S2) _ _ hn,_,Gt_,p0,rfl,⟨_,.inl (.inl ((S1.trans S2) _ _ h0))⟩,?_⟩;have DH:H D=none:=S1.free nD;have p6:=ok.pl;refine eJ_ (xs:=N.posts.map V.str) (fun i σ Hy=>∃ (e3:Option V)(qs:List Addr),σ=[some (.ref pn),some (.ref dr),some (.ref D),e3]/\Fx_ H1 Hy/\Hy D=some (.lst (qs.map V.ref))/\qs.length=2*i/\StA Hy N qs) ⟨_,[],rfl,S2,hD,rfl,fun i q z=>(by cases z)⟩ ?_ ?_ ?_
   ·rintro i σ Hy hi ⟨e3,qs,rfl,sy,hDy,ql,st⟩;exact .inl (.inl ((S1.trans sy) _ _ h0))
   ·rintro i y σ Hy hy kc kbk hk hb G hG ⟨e3,qs,rfl,sy,hDy,ql,st⟩;refine hG ?_;rw [Ag_] at hy;obtain ⟨x,hx,rfl⟩:=AT_.mp hy;obtain ⟨hp,hl,r,hr,rx,rt⟩:=pf_ ok po hx;have il:=(Ae_.mp hx).1;obtain ⟨lw,kvm,hlw⟩:=k4 r hr;have vlw:=kB_ knd kvm;have r30:=KA_ ok hr;nofun;have phx:∀ k,ph N (i,k)=(x,k):=fun k=>by show ((pts N).getD i Str.empty,k)=(x,k);rw [Ad_,hp];rfl
    have rll:RimT.rl (trn N) i=r.2.length:=by unfold RimT.rl;rw [rt]
    refine ⟨.inl ⟨_,.inl (.inl hDy)⟩,.ref lw,by have:=GP_.k (k:=.inr r.1) (sy _ _ hdr);rw [vlw,rx] at this;exact this,lw,rfl,_,.inl ((S1.trans sy) _ _ hlw),by decide,fun t1 n1=>⟨by decide,fun t2 n2=>?_⟩⟩;rw [Ab_] at *;have A1:=Fx_.new n1 (o:=HO.tup [V.str x,V.int (r.2.length:Nat)]);have c1:=aa_ (H:=Hy) (a:=t1) (o:=HO.tup [V.str x,V.int (r.2.length:Nat)]);generalize upd Hy t1 (HO.tup [V.str x,V.int (r.2.length:Nat)])=Y1 at *;have A2:=Fx_.new n2 (o:=HO.tup [V.ref t1,V.bl false]);have c2:=aa_ (H:=Y1) (a:=t2) (o:=HO.tup [V.ref t1,V.bl false]);generalize upd Y1 t2 (HO.tup [V.ref t1,V.bl false])=Y2 at *;have a12:=A1.trans A2;have hD2:=a12 _ _ hDy;refine ⟨_,hD2,Fw_ (by rw [Ab_];lia),?_⟩;have sD:Fx_ H1 (upd Y2 D (.lst (qs.map V.ref++[V.ref t2]))):=(sy.trans a12).upd nD;have kt:∀ b ys,Y2 b=some (.tup ys)->upd Y2 D (.lst (qs.map V.ref++[V.ref t2])) b=some (.tup ys):=fun b ys e=>by rw [af_ (HF_ e hD2 (fun z=>nomatch z))];exact e
    have hD3:=aa_ (H:=Y2) (a:=D) (o:=HO.lst (qs.map V.ref++[V.ref t2]));generalize upd Y2 D (HO.lst (qs.map V.ref++[V.ref t2]))=Y3 at *;have st3:StA Y3 N (qs++[t2]):=st.push (fun b ys e=>kt _ _ (a12 _ _ e)) ⟨t1,by rw [ql];unfold skN stt;rw [if_pos (by lia)];exact kt _ _ c2,by rw [ql];unfold skN stt;rw [if_pos (by lia),show 2*i/2=i by lia,rll,phx];exact kt _ _ (A2 _ _ c1)⟩;nofun;refine ⟨.inl ⟨_,.inl (.inl hD3)⟩,by decide,fun u1 m1=>⟨by decide,fun u2 m2=>?_⟩⟩;have B1:=Fx_.new m1 (o:=HO.tup [V.str x,V.int 0]);have d1:=aa_ (H:=Y3) (a:=u1) (o:=HO.tup [V.str x,V.int 0]);generalize upd Y3 u1 (HO.tup [V.str x,V.int 0])=X1 at *;have B2:=Fx_.new m2 (o:=HO.tup [V.ref u1,V.bl true]);have d2:=aa_ (H:=X1) (a:=u2) (o:=HO.tup [V.ref u1,V.bl true]);generalize upd X1 u2 (HO.tup [V.ref u1,V.bl true])=X2 at *;have b12:=B1.trans B2;have hD4:=b12 _ _ hD3;refine ⟨_,hD4,Fw_ (by rw [Af_,Ab_];simp;lia),hk _ _ ⟨_,(qs++[t2])++[u2],rfl,(sD.trans b12).upd nD,by rw [aa_,Aq_,Aq_];rfl,by rw [Af_,Af_,ql];simp;lia,?_⟩⟩;have kt2:∀ b ys,X2 b=some (.tup ys)->upd X2 D (.lst (qs.map V.ref++[V.ref t2]++[V.ref u2])) b=some (.tup ys):=fun b ys e=>by rw [af_ (HF_ e hD4 (fun z=>nomatch z))];exact e
    refine st3.push (fun b ys e=>kt2 _ _ (b12 _ _ e)) ⟨u1,?_,?_⟩
    ·rw [Af_,ql];unfold skN stt;rw [if_neg (by simp <;> lia)];exact kt2 _ _ d2
    ·rw [Af_,ql];unfold skN stt;rw [if_neg (by simp <;> lia),show (2*i+[t2].length)/2=i by rw [AQ_];lia,phx];exact kt2 _ _ (B2 _ _ d1)
   ·rintro σ Hy ⟨e3,qs,rfl,sy,hDy,ql,st⟩;nofun;refine kk D qs Hy (S1.trans sy) DH hDy (by rw [ql,Ab_]) st
def Es (H:Hp)(N:Net Str):List Addr->List (Nat×Nat)->Prop
 | [],[]=>True
 | x::xs,c::cs=>H x=some (eV (ph N c))/\Es H N xs cs
 | _,_=>False
theorem Es.mono {H H':Hp}{N:Net Str}(s:Fx_ H H'):∀ {xs:List Addr}{cs:List (Nat×Nat)},Es H N xs cs->Es H' N xs cs
 | [],[],_=>trivial
 | x::xs,c::cs,h=>⟨s _ _ h.1,Es.mono s h.2⟩
theorem Es.len {H:Hp}{N:Net Str}:∀ {xs:List Addr}{cs:List (Nat×Nat)},Es H N xs cs->xs.length=cs.length
 | [],[],_=>rfl
 | x::xs,c::cs,h=>by rw [AZ_,AZ_,Es.len h.2]
theorem Es.snoc {H:Hp}{N:Net Str}{y:Addr}{d:Nat×Nat}(hy:H y=some (eV (ph N d))):∀ {xs:List Addr}{cs:List (Nat×Nat)},Es H N xs cs->Es H N (xs++[y]) (cs++[d])
 | [],[],_=>⟨hy,trivial⟩
 | x::xs,c::cs,h=>⟨h.1,Es.snoc hy h.2⟩
theorem Es.get {H:Hp}{N:Net Str}:∀ {xs:List Addr}{cs:List (Nat×Nat)}{i:Nat}{d:Nat×Nat},Es H N xs cs->cs[i]?=some d->∃ x,xs[i]?=some x/\H x=some (eV (ph N d))
 | [],[],i,d,h,e=>by cases e
 | [],_::_,_,_,h,_=>h.elim
 | _::_,[],_,_,h,_=>h.elim
 | x::xs,c::cs,0,d,h,e=>by cases e;exact ⟨x,rfl,h.1⟩
 | x::xs,c::cs,i+1,d,h,e=>Es.get (i:=i) h.2 e
theorem Es.reps {H:Hp}{N:Net Str}:∀ {xs:List Addr}{cs:List (Nat×Nat)},Es H N xs cs->F0_ H (xs.map V.ref) ((cs.map (ph N)).map dE)
 | [],[],_=>rfl
 | x::xs,c::cs,h=>⟨_,_,rfl,⟨x,_,rfl,h.1,_,_,rfl,rfl,_,_,rfl,rfl,rfl⟩,Es.reps h.2⟩
theorem p5_ {H:Hp}{x:Addr}{e:End Str}(h:H x=some (eV e)):Rep H (.ref x) (dE e):=⟨x,_,rfl,h,_,_,rfl,rfl,_,_,rfl,rfl,rfl⟩
theorem p6_ (a b:End Str):deq (dE a) (dE b)=some (decide (a=b)):=by
 by_cases h1:a.1=b.1 <;> by_cases h2:(a.2:Int)=b.2
 ·have e:a=b:=A9_ h1 (by lia);subst e;simp [dE,deq,deqs]
 ·have e:a≠b:=fun z=>h2 (by rw [z]);simp [dE,deq,deqs,h1,h2,e]
 ·have e:a≠b:=fun z=>h1 (by rw [z]);simp [dE,deq,deqs,h1,h2,e]
 ·have e:a≠b:=fun z=>h1 (by rw [z]);simp [dE,deq,deqs,h1,h2,e]
theorem Ls_ {N:Net Str}(ok:FS_ N)(po:FH_ N){H:Hp}{kg:List (Sk×V)}(g:GoI H N kg (fun _=>True)){s:Sd}(hc:IsC (trn N) (Pn N) s.1){x:Str}(h:wr (trn N) (Pn N) s=some x):∃ b v q,Gg (trn N) (Pn N) s b/\F9_ kg (skN N s)=some (.ref v)/\H v=some (.tup [.str x,.ref q])/\Gw_ H q (skN N b):=by
 obtain ⟨e,he,h⟩:=n9_ hc h;obtain ⟨f,m⟩:=ig_ (ha_ ok po) he
 rcases h with rfl|rfl
 ·obtain ⟨v,q,z1,z2,z3⟩:=g.tt e f x trivial m he;exact ⟨_,v,q,⟨e,f,m,.inl ⟨rfl,rfl⟩⟩,z1,z2,z3⟩
 ·obtain ⟨v,q,z1,z2,z3⟩:=g.ff e f x trivial m he;exact ⟨_,v,q,⟨e,f,m,.inr ⟨rfl,rfl⟩⟩,z1,z2,z3⟩
def dSd (k:Sd)(N:Net Str):Dt:=.tup [dE (ph N k.1),.bl k.2]
theorem iV_ {H:Hp}{q:Addr}{N:Net Str}{k:Sd}(h:Gw_ H q (skN N k)):Rep H (.ref q) (dSd k N):=let ⟨p,h1,h2⟩:=h;⟨q,_,rfl,h1,_,_,rfl,p5_ h2,_,_,rfl,rfl,rfl⟩
theorem na_ {N:Net Str}(ok:FS_ N)(po:FH_ N){a b:Sd}(ha:a.1.1<(pts N).length)(hb:b.1.1<(pts N).length):deq (dSd a N) (dSd b N)=some (decide (a=b)):=by
 have h1:=p6_ (ph N a.1) (ph N b.1);obtain ⟨c,x⟩:=a;obtain ⟨d,y⟩:=b;unfold dSd
 dsimp only at h1 ha hb ⊢
 rw [deq,deqs,h1,deqs,deqs,deq];by_cases e:ph N c=ph N d
 ·have:=hb_ ok po ha hb e;subst this;cases x <;> cases y <;> simp
 ·have:c≠d:=fun z=>e (by rw [z]);simp [e,this]
theorem pa1 {G:Sd->Sd->Prop}(s:Sd):Pa G [s]:=fun i a b ha hb=>by cases hb
theorem lk_ {T:List (List Str)}{P:Nat}(m:List Sd)(x:Sd):wiL T P (m++[x])=wiL T P m++(wr T P x).toList:=by unfold wiL;rw [EL_];cases h:wr T P x <;> simp [h]
theorem _root_.RimT.Pa.snoc {G:Sd->Sd->Prop}{m:List Sd}{x b:Sd}(p:Pa G (m++[x]))(g:G x b):Pa G (m++[x]++[b]):=fun i c d hc hd=>by
 have l1:=(Ae_.mp hd).1;simp only [Af_,AQ_] at l1;by_cases e:i<m.length
 ·rw [Al_ (by simp;lia)] at hc hd;exact p i c d hc hd
 ·have e:i=m.length:=by lia
  subst e;rw [Al_ (by simp),Ao_ (Aj_ _)] at hc;rw [Ao_ (by simp)] at hd;simp at hc hd;rw [<-hc,<-hd];exact g
abbrev F4_:Stmt:=stN 9
theorem bN_:FF_ ["start", "goings", "corners", "wires", "standing", "wire"] ["start", "goings"] (Fy_ F4_):=⟨rfl,rfl,rfl,by rfl',rfl,by rfl',by rfl'⟩
theorem dd_:LK F4_ "start" .local:=by rfl'
theorem de_:LK F4_ "goings" .local:=by rfl'
theorem df_:LK F4_ "corners" .local:=by rfl'
theorem dg_:LK F4_ "wires" .local:=by rfl'
theorem aT_:LK F4_ "standing" .local:=by rfl'
theorem eU_:LK F4_ "wire" .local:=by rfl'
def KW_ (H:Hp)(N:Net Str)(s:Sd)(l:List Sd)(z:Addr):Prop:=∃ x,l.getLast?=some x/\((wr (trn N) (Pn N) x=none/\Gw_ H z (skN N x))\/(Gg (trn N) (Pn N) x s/\Gw_ H z (skN N s)))
def IX_ (P:Program)(w:World):Sp:=fun vs H Q _=>∃ (N:Net Str)(q d:Addr)(kg:List (Sk×V))(s:Sd),vs=[.ref q,.ref d]/\FS_ N/\FH_ N/\Gw_ H q (skN N s)/\IsC (trn N) (Pn N) s.1/\DP P w H d kg/\GoI H N kg (fun _=>True)/\(corners (trn N) (Pn N)).length<=900 /\
 ∀ t C W z H' xs l,Fx_ H H'->H t=none->H C=none->H W=none->C≠W->t≠C->t≠W->H' t=some (.tup [.ref C,.ref W,.ref z])->H' C=some (.lst (xs.map V.ref))->H' W=some (.lst ((wiL (trn N) (Pn N) l).map V.str))->Es H N xs (l.map (·.1))->Pa (Gg (trn N) (Pn N)) l->l[0]?=some s->(∀ j b,0<j->l[j]?=some b->b≠s)->KW_ H N s l z->Q (.ref t) H'
theorem jW_ (T:Txt K mg)(F:Fn0 K mg "gone_from" F4_):Cal P w K mg base "gone_from" ["start", "goings"] 1 (IX_ P w):=by
 refine a1_ F bN_ (fun _ _ _ _ _ _=>byL2 fun _ _=>rfl) ?len ?body
 case len=>rintro vs H Q E ⟨_,a,b,c,d,rfl,_⟩;rfl
 case body =>
  intro f cdv A outer s0 H vs Q E hr h;obtain ⟨N,q,d,kg,s,rfl,ok,po,hq,ic,hd,gi,c9,k⟩:=h;have tw:=ha_ ok po;refine' ⟨_,?D,?R⟩
  case D =>
   refine' ac_ (ah_ (i:=2) bN_.nd rfl df_ (bo_ (pa_c (FG_ ap_ (pv1 0 rfl dd_) ad_ (fun _ _=>rfl)) ab_))) ?g2
   case' g2=>refine' ac_ (ah_ (i:=3) bN_.nd rfl dg_ (bo_ ab_)) (ac_ (ah_ (i:=4) bN_.nd rfl aT_ (pv1 0 rfl dd_)) (ai_ (eE_ AA_ (hf_ (pQ_ (P:=P) (w:=w) rfl rfl (un2 hr.units) (pv1 4 rfl aT_) (pv1 1 rfl de_))) ?g19) ?g17))
   case' g19=>refine' ac_ (ah_ (i:=5) bN_.nd rfl eU_ (FG_ ap_ (mF_ (P:=P) (w:=w) rfl rfl (un2 hr.units) (pv1 1 rfl de_) (pv1 4 rfl aT_) (fun _ _=>rfl)) ad_ (fun _ _=>rfl))) (ac_ (ah_ (i:=4) bN_.nd rfl aT_ (FG_ ap_ (mF_ (P:=P) (w:=w) rfl rfl (un2 hr.units) (pv1 1 rfl de_) (pv1 4 rfl aT_) (fun _ _=>rfl)) ad_ (fun _ _=>rfl))) ?g30)
   case' g30=>refine' ac_ (aA_ (Gi_ Az_ AC_ AD_ az_ (pv1 3 rfl dg_) (pa_c (pv1 5 rfl eU_) ab_))) (ai_ (Gp_ (aG_ (oh_ (hr.units)) (pv1 4 rfl aT_) (pv1 0 rfl dd_) (FY_ _)) (aj_ ?g50) aW_) ?g44)
   case g50=>exact np_
   case' g44=>refine' aj_ (aA_ (Gi_ Az_ AC_ AD_ az_ (pv1 2 rfl df_) (pa_c (FG_ ap_ (pv1 4 rfl aT_) ad_ (fun _ _=>rfl)) ab_)))
   case' g17=>refine' aj_ (aB_ (aq_ (pa_c (pv1 2 rfl df_) (pa_c (pv1 3 rfl dg_) (pa_c (pv1 4 rfl aT_) ab_)))))
  case R =>
   nofun;obtain ⟨p0,hq0,hp0⟩:=id hq;refine ⟨_,hq0,_,Gt_,by decide,fun C nC=>?_⟩;nofun;refine ⟨by decide,fun W nW=>?_⟩;have CW:C≠W:=fun z=>by rw [<-z,aa_] at nW;cases nW
   have S1:=Fx_.new nC (o:=HO.lst [V.ref p0]);have nW0:=S1.free nW;have S2:=S1.trans (Fx_.new nW (o:=HO.lst []));have hC2:upd (upd H C (.lst [V.ref p0])) W (.lst []) C=some (.lst [V.ref p0]):=by rw [af_ CW,aa_]
   have hW2:upd (upd H C (.lst [V.ref p0])) W (.lst []) W=some (.lst []):=aa_;generalize upd (upd H C (.lst [V.ref p0])) W (.lst [])=H2 at *;nofun
   refine g0_ (fun σ Hy=>∃ (e5:Option V)(m:List Sd)(x:Sd)(q1:Addr)(xs:List Addr),σ=[some (.ref q),some (.ref d),some (.ref C),some (.ref W),some (.ref q1),e5]/\Fx_ H Hy/\Hy C=some (.lst (xs.map V.ref))/\Hy W=some (.lst ((wiL (trn N) (Pn N) m).map V.str))/\Es H N xs ((m++[x]).map (·.1))/\Pa (Gg (trn N) (Pn N)) (m++[x])/\(m++[x])[0]?=some s/\(∀ j b,0<j->(m++[x])[j]?=some b->b≠s)/\Gw_ H q1 (skN N x))
    (fun σ Hy=>match Hy C with|some (.lst xs)=>(corners (trn N) (Pn N)).length+1-xs.length|_=>0) ⟨_,[],s,q,[p0],rfl,S2,hC2,hW2,⟨hp0,trivial⟩,pa1 s,rfl,fun j b hj hb=>?_,hq⟩ ?_
   ·obtain ⟨j,rfl⟩:∃ k,j=k+1:=⟨j-1,by lia⟩;cases hb
   rintro σ Hy kb hkb G hG ⟨e5,m,x,q1,xs,rfl,sy,hC,hW,es,pa,h0,hs,hq1⟩;refine hG ?_;have nd:=pa.nodup (Gh_ tw) h0 hs;have sh:=pa.short tw h0 ic nd;have ix:=pa.allC h0 ic x (by simp);nofun;have fin:∀ (z:Addr)(Hz:Hp),Fx_ H Hz->Hz C=some (.lst (xs.map V.ref))->Hz W=some (.lst ((wiL (trn N) (Pn N) (m++[x])).map V.str))->KW_ H N s (m++[x]) z->∀ t,Hz t=none->Q (.ref t) (upd Hz t (.tup [.ref C,.ref W,.ref z])):=fun z Hz sz z1 z2 ed t nt=>by have s3:=Fx_.new nt (o:=HO.tup [.ref C,.ref W,.ref z]);exact k t C W z _ xs (m++[x]) (sz.trans s3) (sz.free nt) nC nW0 CW (fun e=>by rw [e,z1] at nt;cases nt) (fun e=>by rw [e,z2] at nt;cases nt) aa_ (s3 _ _ z1) (s3 _ _ z2) es pa h0 hs ed
   refine ⟨_,hd.mono sy,_,hq1.mono sy,?_⟩;cases hwr:wr (trn N) (Pn N) x with
   | none =>
    rw [gi.no x ix hwr,if_neg (by simp)];refine hkb _ _ ?_;nofun;refine ⟨by decide,fun t nt=>fin q1 Hy sy hC ?_ ⟨x,by simp,.inl ⟨hwr,hq1⟩⟩ t nt⟩;rw [hW,lk_,hwr,Option.toList,BC_]
   | some a =>
    obtain ⟨b,v,q2,gb,vb,hv,hb⟩:=Ls_ ok po gi ix hwr;rw [vb,if_pos (show (some (V.ref v)).isSome=true from rfl)];refine ⟨_,N_ok,boxN fun kn hkn=>?_⟩;nofun;refine ⟨_,hd.mono sy,_,hq1.mono sy,_,vb,_,rfl,_,sy _ _ hv,_,Gt_,?_⟩;nofun;refine ⟨_,hd.mono sy,_,hq1.mono sy,_,vb,_,rfl,_,sy _ _ hv,_,Gy_,?_⟩;nofun;have ml:m.length+1<=900:=by rw [Af_] at sh;exact AM_ sh c9
    have wl:(wiL (trn N) (Pn N) m).length<=m.length:=BA_ _ _;refine ⟨.inl ⟨_,.inl (.inl hW)⟩,_,hW,Fw_ (by rw [Ab_];lia),?_⟩;have sy1:Fx_ H (upd Hy W (HO.lst ((wiL (trn N) (Pn N) m).map V.str++[V.str a]))):=fun b o hb=>by rw [af_ (ae_ hb nW0)];exact sy _ _ hb
    have hC1:upd Hy W (HO.lst ((wiL (trn N) (Pn N) m).map V.str++[V.str a])) C=some (.lst (xs.map V.ref)):=by rw [af_ CW];exact hC
    have hW1:upd Hy W (HO.lst ((wiL (trn N) (Pn N) m).map V.str++[V.str a])) W=some (.lst ((wiL (trn N) (Pn N) (m++[x])).map V.str)):=by rw [aa_,lk_,hwr,Aq_];rfl
    generalize upd Hy W (HO.lst ((wiL (trn N) (Pn N) m).map V.str++[V.str a]))=H3 at *;have ib:=gg_c gb;have slt:s.1.1<(pts N).length:=by rw [<-a5_];exact ic.1
    have blt:b.1.1<(pts N).length:=by rw [<-a5_];exact ib.1
    nofun;refine ⟨_,iV_ (hb.mono sy1),_,iV_ (hq.mono sy1),_,na_ ok po blt slt,by simp [dSd,dE,dep,deps],?_⟩;by_cases hbs:b=s
    ·subst hbs;rw [if_pos (by simp)];nofun;exact ⟨by decide,fun t nt=>fin q2 H3 sy1 hC1 hW1 ⟨x,by simp,.inr ⟨gb,hb⟩⟩ t nt⟩
    ·rw [if_neg (by simp [hbs])];obtain ⟨pb,hb0,hpb⟩:=id hb;have xl:xs.length=m.length+1:=by rw [es.len,Ab_,Af_];rfl
     refine ⟨.inl ⟨_,.inl (.inl hC1)⟩,_,sy1 _ _ hb0,_,Gt_,_,hC1,Fw_ (by rw [Ab_];lia),hkn _ _ ⟨⟨_,m++[x],b,q2,rfl,fun c o hc=>by rw [af_ (ae_ hc nC)];exact sy1 _ _ hc,xs++[pb],by rw [aa_,Aq_];rfl,by rw [af_ CW.symm];exact hW1,?_,?_,?_,?_,hb⟩,?_⟩⟩
     ·rw [Aq_];exact es.snoc hpb
     ·exact pa.snoc gb
     ·rw [Al_ (by simp)];exact h0
     ·intro j c hj hc;by_cases cj:j<(m++[x]).length
      ·rw [Al_ cj] at hc;exact hs j c hj hc
      ·rw [Ao_ (by lia)] at hc;have:j-(m++[x]).length=0:=by have:=(Ae_.mp hc).1;simp only [AQ_] at this;lia
       rw [this] at hc;cases hc;exact hbs
     ·rw [aa_,hC];simp only [Af_,Ab_,AQ_] at sh ⊢;lia
theorem Ki_ {N:Net Str}(ok:FS_ N)(po:FH_ N):(corners (trn N) (Pn N)).length<=900:=by
 have h:=eZ_ (T:=trn N) (P:=Pn N)
 have e:(trn N).flatten.length=N.all.length:=by
  have h1:((N.rows.map (·.1)).map (GW_ N))=N.rows.map (·.2):=by rw [Bf_];exact Bw_ fun r hr=>b3_ ok hr
  have h2:=(ef_ ((gT_ ok po).map (GW_ N))).length_eq;rw [h1] at h2;exact h2
 have h3:=ok.tot;have h4:=ok.pl;show (corners (trn N) (Pn N)).length<=900;have h5:Pn N<=6:=h4;lia
theorem nb_ {H:Hp}(f:Nat->Dt):∀ (qs:List Addr)(o:Nat),(∀ (i:Nat) q,qs[i]?=some q->Rep H (.ref q) (f (o+i)))->F0_ H (qs.map V.ref) ((List.range' o qs.length).map f)
 | [],o,h=>rfl
 | q::qs,o,h=>⟨_,_,rfl,h 0 q rfl,nb_ f qs (o+1) fun i q' hi=>by rw [show o+1+i=o+(i+1) by lia];exact h (i+1) q' hi⟩
theorem pg_ {N:Net Str}(ok:FS_ N)(po:FH_ N){H:Hp}{pl:Nat}(hp:pl<2*Pn N){l:List Sd}{z:Addr}(pa:Pa (Gg (trn N) (Pn N)) l)(h0:l[0]?=some (stt (trn N) pl))(ed:KW_ H N (stt (trn N) pl) l z):∃ x j,l.getLast?=some x/\Ln (trn N) (Pn N) (stt (trn N) pl) l/\Gw_ H z (skN N x)/\j<2*Pn N/\tn x=stt (trn N) j:=by
 have tw:=ha_ ok po;have PT:Pn N<=(trn N).length:=by rw [a5_];unfold pts;rw [Af_];exact Bh_ _ _
 have ic:=H1_ (T:=trn N) PT hp;have st:=bx_ (T:=trn N) hp;obtain ⟨x,hx,h⟩:=ed;have hxm:x∈l:=BI_ hx
 rcases h with ⟨h1,h2⟩|⟨h1,_⟩
 ·obtain ⟨j,hj,ej⟩:=kR_ (pa.allC h0 ic x hxm) h1;exact ⟨x,j,hx,⟨pa,h0,fun y hy=>by rw [hx] at hy;cases hy;exact h1⟩,h2,hj,ej⟩
 ·exact absurd ((Gh_ tw).rev h1) (e1_ st)
def HP_ (N:Net Str)(i:Nat):Str×List Str:=N.rows.getD i (Str.empty,[])
theorem iW_ {N:Net Str}{i:Nat}(h:i<N.rows.length):N.rows[i]?=some (HP_ N i):=by unfold HP_;rw [Ad_,Aa_ h];rfl
theorem nc_ {α β:Type}(d:α)(p:α->Bool)(f:α->β)(l:List α):((List.range l.length).filter fun i=>p (l.getD i d)).map (fun i=>f (l.getD i d))=(l.filter p).map f:=by
 have e:=hX_ d l
 conv=>rhs;rw [<-e]
 rw [List.filter_map,Bf_];rfl
theorem ie_ {H:Hp}:∀ {us:List V}{T:List (List Str)},F0_ H us (T.map fun r=>Dt.lst (r.map Dt.str))->∃ as_:List Addr,us=as_.map V.ref/\as_.length=T.length/\∀ (p:Nat)(a:Addr),as_[p]?=some a->H a=some (.lst ((T.getD p []).map V.str))
 | us,[],h=>⟨[],h,rfl,fun p a e=>by cases e⟩
 | us,r::T,⟨x,us',e,⟨a,vs,ex,ha,hv⟩,ht⟩=>by
  obtain ⟨as_,e1,e2,e3⟩:=ie_ (T:=T) ht;refine ⟨a::as_,by rw [e,ex,e1];rfl,by rw [AZ_,AZ_,e2],fun p b hb=>?_⟩;cases p with
  | zero=>cases hb;rw [ha,eL_ hv];rfl
  | succ p=>exact e3 p b hb
abbrev Gg_:Stmt:=stN 27
theorem ev_:FF_ ["_law_net", "_law_points", "_law_by_name", "_law_point", "_law_wires"] ["_law_net"] (Fy_ Gg_):=⟨rfl,rfl,rfl,by rfl',rfl,by rfl',by rfl'⟩
theorem fe_:LK Gg_ "_law_net" .cell:=by rfl'
theorem ff_:LK Gg_ "_law_points" .local:=by rfl'
theorem hI_:LK Gg_ "_law_by_name" .cell:=by rfl'
theorem hJ_:LK Gg_ "_law_point" .local:=by rfl'
theorem hK_:LK Gg_ "_law_wires" .local:=by rfl'
theorem eV_:LK Gg_ "list" .globalImplicit:=by rfl'
def Ik_:Sp:=fun vs H Q _=>∃ (v:V)(N:Net Str),vs=[v]/\Rep H v (HS_ N)/\FS_ N/\FH_ N/\∀ t pl tl as_ H',Fx_ H H'->H' t=some (.tup [.ref pl,.ref tl])->H' pl=some (.lst ((pts N).map V.str))->Tg V.str H' tl as_ (trn N)->Q (.ref t) H'
theorem nd_ (T:Txt K mg)(F:Fn0 K mg "_law_turns" Gg_):Cal P w K mg base "_law_turns" ["_law_net"] 1 Ik_:=by
 refine a1_ F ev_ (fun _ _ _ _ _ _=>byL1 fun _=>rfl) ?len ?body
 case len=>rintro vs H Q E ⟨a,b,rfl,_⟩;rfl
 case body =>
  intro f cdv A outer s H vs Q E hr h;obtain ⟨v,N,rfl,hv,ok,po,k⟩:=h;obtain ⟨few,rfew⟩:=dV_ ok;obtain ⟨pn,p0,p1,p2,rs,ws,rfl,hn,h0,h1,r1,h2,r2⟩:=c6_ hv;have rl:rs.length=N.rows.length:=by rw [r1.length,Ab_]
  have rfw:=ok.few;refine' ⟨_,?D,?R⟩
  case D =>
   refine' ai_ (ah_ (i:=1) ev_.nd rfl ff_ (Fz_ fu_ (cs_ dn_ eV_ T.n_list dC_ (pa_c (FG_ ap_ (pvc 0 rfl fe_) ad_ (fun _ _=>rfl)) ab_)) ?g5)) (ai_ (iu_ (i:=2) ev_.nd rfl hI_ rfl iz_ rfl) ?g30)
   case' g5=>refine' cA_ (N':=["_law_point", "_law_wires", "_law_net"]) (ix:=[none,none,some 0]) rfl rfl (cB_ ?g11) (aR_ (K:=K) rfl (FG_ ap_ (pvc 0 rfl fe_) ad_ (fun _ _=>rfl))) (fun _ _ _=>(aS_ (K:=K) (n:=2) rfl rfl (ak_ ?g20 (ak_ ?g22 aQ_)))) (fun _ _ _=>?g14) (fun _ _ _=>(pv1 0 rfl rfl))
   case g11=>exact (by show Hx_ (Fy_ Gg_) ["_law_net", "_law_points", "_law_by_name", "_law_point", "_law_wires"] _ _ _=true;decide +kernel)
   case g20=>exact ag_ (i:=0) (by show List.Nodup (["_law_point", "_law_wires", "_law_net"]:List Str);decide +kernel) rfl rfl
   case g22=>exact ag_ (i:=1) (by show List.Nodup (["_law_point", "_law_wires", "_law_net"]:List Str);decide +kernel) rfl rfl
   case' g14=>refine' mm_ (aG_ (jT_ (K:=K) rfl) (pv1 0 rfl rfl) (FG_ ap_ (pvc 2 rfl rfl) ad_ (fun _ _=>rfl)) (by with_unfolding_all rfl))
   case' g30=>refine' ai_ (aZ_ AA_ rfl (aR_ (K:=K) rfl (FG_ ap_ (pvc 0 rfl fe_) ad_ (fun _ _=>rfl))) (aS_ (K:=K) (n:=2) rfl rfl (ak_ ?g41 (ak_ ?g43 aQ_))) ?g36) ?g33
   case g41=>exact ag_ (i:=3) ev_.nd rfl hJ_
   case g43=>exact ag_ (i:=4) ev_.nd rfl hK_
   case' g36=>refine' aj_ (c4_ (un1 hr.units) (pvc 2 rfl hI_) (pv1 3 rfl hJ_) (cs_ dn_ eV_ T.n_list dC_ (pa_c (pv1 4 rfl hK_) ab_)) rfl)
   case' g33=>refine' aj_ (aB_ (aq_ (pa_c (pv1 1 rfl ff_) (pa_c (cA_ (N':=["_law_point", "_law_by_name"]) (ix:=[none,some 2]) rfl rfl (cB_ ?g59) (aR_ (K:=K) rfl (pv1 1 rfl ff_)) (fun _ _ _=>?g61) (fun _ _ _=>?g62) (fun _ _ _=>(c3_ (un1 hr.units) (pvc 1 rfl rfl) (pv1 0 rfl rfl) (fun _ _=>rfl)))) ab_))))
   case g59=>exact (by show Hx_ (Fy_ Gg_) ["_law_net", "_law_points", "_law_by_name", "_law_point", "_law_wires"] _ _ _=true;decide +kernel)
   case g61=>exact ag_ (i:=0) (by show List.Nodup (["_law_point", "_law_by_name"]:List Str);decide +kernel) rfl rfl
   case g62=>exact d6_
  case R =>
   nofun;refine ⟨_,hn,_,Gt_,p0,rfl,_,.inl h0,fun c0 n0=>?_⟩;have S1:Fx_ H (upd H c0 (HO.lst (N.posts.map V.str))):=Fx_.new n0;have hc0:=aa_ (H:=H) (a:=c0) (o:=HO.lst (N.posts.map V.str));generalize upd H c0 (HO.lst (N.posts.map V.str))=H1 at *;refine ⟨_,S1 _ _ hn,_,Gy_,p1,rfl,⟨_,.inl (.inl (S1 _ _ h1))⟩,?_⟩;have h11:=S1 _ _ h1;refine nA_ (n:=N.rows.length) (Pσ:=fun σ=>∃ e e',σ=[e,e',some (.ref pn)]) (bs:=fun i=>decide ((HP_ N i).1∉N.posts)) (val:=fun i=>V.str (HP_ N i).1) ⟨_,_,rfl⟩ (by lia) (fun i H' hi s'=>⟨rs,rs[i]'(by lia),.inl (.inl (s' _ _ h11)),Aa_ _⟩) (fun H' s'=>⟨rs,.inl (.inl (s' _ _ h11)),by lia⟩) ?_ ?_
   ·rintro D i x σ' H2 H2' hD hDo hs2 hi ⟨rfl,hy⟩ ⟨e,e',rfl⟩ Y R kY kR;have hx:=hy _ (.inl (.inl (hs2 _ _ h11)));obtain ⟨r,q,l,hr1,rfl,hq,hl⟩:=eM_ r1 hx;have er:r=HP_ N i:=by rw [iW_ hi] at hr1;exact (Aw_ hr1).symm
    subst er;have s12:=S1.trans hs2;nofun;refine ⟨_,SqT.of (s12 _ _ hq),rfl,_,_,rfl,_,_,rfl,rfl,_,s12 _ _ hn,_,Gt_,p0,rfl,N.posts.map V.str,.inl (.inl (.inl (s12 _ _ h0))),rfl,lj_ _,?_⟩;rw [li_];refine ite2 (fun h=>kY (A5_ (Cc_ h)) _ _ ⟨_,_,rfl⟩ (Fx_.refl _)) (fun h=>kR (AN_ fun z=>?_) _ _ ⟨_,_,rfl⟩ (Fx_.refl _));exact absurd (AN_ z) h
   ·intro D H2 hD s2 hDv;have eL:((List.range N.rows.length).filter fun i=>decide ((HP_ N i).1∉N.posts)).map (fun i=>V.str (HP_ N i).1)=((N.rows.map (·.1)).filter fun x=>decide (x∉N.posts)).map V.str:=by have:=nc_ (Str.empty,[]) (fun r:Str×List Str=>decide (r.1∉N.posts)) (fun r=>V.str r.1) N.rows;rw [List.filter_map,Bf_];exact this
    rw [eL] at hDv;have s02:=S1.trans s2
    try nofun
    have pl16:N.posts.length+((N.rows.map (·.1)).filter fun x=>decide (x∉N.posts)).length<=100:=by have h1:=ok.pl;have h2:=C8_ (fun x=>decide (x∉N.posts)) (N.rows.map (·.1));rw [Ab_] at h2;lia
    refine ⟨_,s2 _ _ hc0,_,hDv,AJ_ (Fw_ (by rw [Ab_,Ab_];lia)),fun pl npl=>?_⟩;rw [<-Aq_,show N.posts++((N.rows.map (·.1)).filter fun x=>decide (x∉N.posts))=pts N from rfl];have s3:Fx_ H2 (upd H2 pl (HO.lst ((pts N).map V.str))):=Fx_.new npl;have hpl:=aa_ (H:=H2) (a:=pl) (o:=HO.lst ((pts N).map V.str));generalize upd H2 pl (HO.lst ((pts N).map V.str))=H3 at *;have s03:=s02.trans s3;intro bn nbn;have s4:Fx_ H3 (upd H3 bn (HO.dK [])):=Fx_.new nbn;refine ⟨_,s4 _ _ (s03 _ _ hn),_,Gy_,p1,rfl,⟨_,.inl (.inl (s4 _ _ (s03 _ _ h1)))⟩,?_⟩;have nmat:∀ j,j<N.rows.length->(N.rows.map (·.1))[j]?=some (HP_ N j).1:=fun j hj=>by rw [Ag_,iW_ hj];rfl
    refine iq_ (xs:=rs) (fun i σ H'=>∃ (e3 e4:Option V)(S:Hp)(kvs:List (Key×V)),σ=[some (.ref pn),some (.ref pl),some (.ref bn),e3,e4]/\Fx_ H3 S/\Fx_ S H'/\S bn=none/\H' bn=some (.dK kvs)/\kvs.length<=i/\∀ j,j<i->j<N.rows.length->∃ l,F9_ kvs (.inr (HP_ N j).1)=some (.ref l)/\S l=some (.lst ((HP_ N j).2.map V.str))) ⟨none,none,H3,[],rfl,Fx_.refl _,s4,nbn,aa_,Aj_ _,fun j hj=>absurd hj (by lia)⟩ ?_ ?_ ?_
    ·rintro i σ H' hi ⟨e3,e4,S,kvs,rfl,sS,sH,_⟩;exact .inl (.inl ((sS.trans sH) _ _ (s03 _ _ h1)))
    ·rintro i x σ H' hx ⟨e3,e4,S,kvs,rfl,sS,sH,Sb,hb,kl,inv⟩;have hi:i<N.rows.length:=by have:=(Ae_.mp hx).1;lia
     obtain ⟨r,q,l,hr1,rfl,hq,hl⟩:=eM_ r1 hx;have er:r=HP_ N i:=by rw [iW_ hi] at hr1;exact (Aw_ hr1).symm
     subst er;have s0H:=(s03.trans sS).trans sH;nofun;refine ⟨_,SqT.of (s0H _ _ hq),rfl,_,_,rfl,_,_,rfl,rfl,l,rfl,_,.inl (s0H _ _ hl),fun c nc=>?_⟩;have bc:bn≠c:=ae_ hb nc;have hcl:=aH_ kvs (Sum.inr (HP_ N i).1:Key) (V.ref c);refine ⟨_,Hq_.k (k:=.inr (HP_ N i).1) (by rw [af_ bc];exact hb) (Fw_ (by lia)),upd S c (HO.lst ((HP_ N i).2.map V.str)),sS.trans (a2_ sH nc),aL_ (fy_ sH nc) (by rw [af_ bc];exact Sb),by rw [af_ bc];exact Sb,_,aa_,by lia,fun j hj hjr=>?_⟩;rw [aE_];by_cases e:j=i
     ·subst e;rw [if_pos rfl];exact ⟨c,rfl,aa_⟩
     ·rw [if_neg (fun z=>e ((A2_ (i:=j) (j:=i) (by rw [Ab_];exact hjr) ok.nd).mp (by rw [nmat j hjr,nmat i hi,Cw_ z])))];obtain ⟨l',l1,l2⟩:=inv j (by lia) hjr;exact ⟨l',l1,a2_ sH nc _ _ l2⟩
    ·rintro σ H' ⟨e3,e4,S,kvs,rfl,sS,sH,Sb,hb,kl,inv⟩;nofun;have hplH:=(sS.trans sH) _ _ hpl;have plen:=lT_ ok po
     have look:∀ p,p<(pts N).length->∃ l,F9_ kvs (.inr ((pts N).getD p Str.empty))=some (.ref l)/\H' l=some (.lst ((GW_ N ((pts N).getD p Str.empty)).map V.str)):=fun p hp=>by
      have e:(pts N).getD p Str.empty=(pts N)[p]:=by rw [Ad_,Aa_ hp];rfl
      rw [e];obtain ⟨r,hr',er⟩:=Ap_.mp ((dB_ po).mp (A3_ hp));obtain ⟨j,hj,ej⟩:=AB_.mp hr';have erj:HP_ N j=r:=by have:=iW_ hj;rw [Aa_ hj,ej] at this;exact (Aw_ this).symm
      obtain ⟨l,l1,l2⟩:=inv j (by lia) hj;rw [erj] at l1 l2;rw [<-er,b3_ ok hr'];exact ⟨l,l1,sH _ _ l2⟩
     refine ⟨⟨_,.inl (.inl hplH)⟩,?_⟩;refine dH_ (n:=(pts N).length) (B:=fun _=>none) (Pσ:=fun σ=>∃ e,σ=[e,some (.ref bn)]) (ds:=(trn N).map fun r=>Dt.lst (r.map Dt.str)) (fun b o e=>by cases e) ⟨_,rfl⟩ (by rw [Ab_,a5_]) (by lia) (fun j Hj hj sj=>⟨_,.str ((pts N).getD j Str.empty),.inl (.inl (sj _ _ hplH)),cM_ hj⟩) (fun Hj sj=>⟨_,.inl (.inl (sj _ _ hplH)),by simp⟩) ?_ ?_
     ·rintro Dc j x dd σ' H6 H6' hDc hDo hs6 hj hdj ⟨rfl,hy⟩ ⟨e,rfl⟩ R0 kR;have hx:=hy _ (.inl (.inl (hs6 _ _ hplH)));rw [cM_ hj] at hx;cases hx;obtain ⟨l,l1,l2⟩:=look j hj;have hd:dd=Dt.lst ((GW_ N ((pts N).getD j Str.empty)).map Dt.str):=by unfold trn at hdj;rw [Ag_,Ag_,Aa_ hj] at hdj;rw [<-Aw_ hdj,Ad_,Aa_ hj];rfl
      nofun;refine ⟨.ref l,l1 ▸ GP_.k (k:=.inr ((pts N).getD j Str.empty)) (hs6 _ _ hb),kR _ _ _ ⟨_,rfl⟩ (Fx_.refl _) ?_⟩;rw [hd];have lD:l≠Dc:=ae_ l2 hDc;exact ⟨l,_,rfl,by rw [dG_ lD rfl];exact hs6 _ _ l2,bz_ _⟩
     ·intro D4 H4 hD4 s4' rep4;obtain ⟨_,us,e0,hu',hus⟩:=Rep.mono fx_ _ rep4;cases e0;obtain ⟨as_,e1,e2,e3'⟩:=ie_ hus;subst e1;refine ⟨by decide,fun t nt=>?_⟩;have s5:=Fx_.new nt (o:=HO.tup [V.ref pl,V.ref D4]);refine k t pl D4 as_ _ ((((s03.trans sS).trans sH).trans s4').trans s5) aa_ ((s4'.trans s5) _ _ hplH) ⟨s5 _ _ hu',e2,fun p a ha=>s5 _ _ (e3' p a ha)⟩
def Cr (T:List (List Str))(P:Nat)(s:Sd)(e:Nat×Nat)(sd:Nat):Prop:=(s=(e,true)/\sd=0)\/(s=(beh T P e,false)/\sd=1)
def crV (e:Nat×Nat)(sd:Nat):HO:=.tup [.int e.1,.int e.2,.int sd]
theorem Lw_ {T:List (List Str)}{P:Nat}(tw:Tw T){s b:Sd}{e:Nat×Nat}{sd:Nat}{x:Str}(hx:wi T e=some x)(c:Cr T P s e sd)(g:Gg T P s b):∃ f,G3_ T e f/\((sd=0/\b=(f,false))\/(sd=1/\b=(beh T P f,true))):=by
 obtain ⟨e',f,m,h⟩:=g
 rcases c with ⟨rfl,rfl⟩|⟨rfl,rfl⟩
 ·rcases h with ⟨h1,rfl⟩|⟨h1,_⟩
  ·cases h1;exact ⟨f,m,.inl ⟨rfl,rfl⟩⟩
  ·cases h1
 ·rcases h with ⟨h1,_⟩|⟨h1,rfl⟩
  ·cases h1
  ·have:=hc_ (F7_ hx).1 m.lt.1 (congrArg Prod.fst h1);subst this;exact ⟨f,m,.inr ⟨rfl,rfl⟩⟩
theorem kC_ {T:List (List Str)}{P:Nat}{f:Nat×Nat}(h:f.2<rl T f.1){k:Nat}(hk:(f.2=0/\P<=f.1/\k+1=rl T f.1)\/(f.2=k+1)):Cr T P (f,false) (f.1,k) 1:=by
 refine .inr ⟨A9_ (A9_ (e0_ T P (f.1,k)).symm ?_) rfl,rfl⟩;unfold beh
 dsimp only
 rcases hk with ⟨h0,h1,h2⟩|h0
 ·rw [if_pos ⟨h1,h2⟩];exact h0
 ·rw [if_neg (fun z=>by lia)];exact h0
abbrev FX_:Stmt:=stN 28
theorem b1_:FF_ ["_law_turns_here", "_law_posts", "_law_mates_here", "_law_crossing", "_law_p", "_law_k", "_law_side", "_law_q", "_law_j", "_law_then"] ["_law_turns_here", "_law_posts", "_law_mates_here", "_law_crossing"] (Fy_ FX_):=⟨rfl,rfl,rfl,by rfl',rfl,by rfl',by rfl'⟩
theorem gz_:LK FX_ "_law_turns_here" .local:=by rfl'
theorem jX_:LK FX_ "_law_posts" .local:=by rfl'
theorem jY_:LK FX_ "_law_mates_here" .local:=by rfl'
theorem jZ_:LK FX_ "_law_crossing" .local:=by rfl'
theorem gA_:LK FX_ "_law_p" .local:=by rfl'
theorem gB_:LK FX_ "_law_k" .local:=by rfl'
theorem cY_:LK FX_ "_law_side" .local:=by rfl'
theorem bf_:LK FX_ "_law_q" .local:=by rfl'
theorem gC_:LK FX_ "_law_j" .local:=by rfl'
theorem ck_:LK FX_ "_law_then" .local:=by rfl'
theorem eW_:LK FX_ "len" .globalImplicit:=by rfl'
def GX_:Sp:=fun vs H Q _=>∃ (l m c:Addr)(as_:List Addr)(T:List (List Str))(P:Nat)(s b:Sd)(e:Nat×Nat)(sd:Nat)(x0:Str),vs=[.ref l,.int P,.ref m,.ref c]/\Tg V.str H l as_ T/\Gu_ H m T/\Tw T/\H c=some (crV e sd)/\Cr T P s e sd/\wi T e=some x0/\Gg T P s b /\
 (∀ q H' e' sd' x,Fx_ H H'->H' q=some (crV e' sd')->Cr T P b e' sd'->wi T e'=some x->Q (.ref q) H') /\
 (∀ (pl:Nat) H',Fx_ H H'->pl<2*P->wr T P b=none->tn b=stt T pl->Q (.int pl) H')
theorem lN_ (T:Txt K mg)(F:Fn0 K mg "_law_beyond" FX_):Cal P w K mg base "_law_beyond" ["_law_turns_here", "_law_posts", "_law_mates_here", "_law_crossing"] 1 GX_:=by
 refine a1_ F b1_ (fun _ _ _ _ _ _=>byL4 fun _ _ _ _=>rfl) ?len ?body
 case len=>rintro vs H Q E ⟨_,_,_,_,_,_,_,_,_,_,_,rfl,_⟩;rfl
 case body =>
  intro f cdv A outer s0 H vs Q E hr h;obtain ⟨l,m,c,as_,Tt,Pp,s,b,e,sd,x0,rfl,hT,hm,tw,hc,cr,hx0,gb,k1,k2⟩:=h;obtain ⟨f',mt,hfb⟩:=Lw_ tw hx0 cr gb;obtain ⟨kvs,hkv,hall⟩:=hm;obtain ⟨q,vq,hq⟩:=hall e f' mt;refine' ⟨_,?D,?R⟩
  case D =>
   refine' ai_ (eh_ (pv1 3 rfl jZ_) (aS_ (K:=K) (n:=3) rfl rfl (ak_ ?g6 (ak_ ?g8 (ak_ ?g10 aQ_))))) ?g2
   case g6=>exact ag_ (i:=4) b1_.nd rfl gA_
   case g8=>exact ag_ (i:=5) b1_.nd rfl gB_
   case g10=>exact ag_ (i:=6) b1_.nd rfl cY_
   case' g2=>refine' ai_ ?g12 (ai_ (ah_ (i:=9) b1_.nd rfl ck_ (Fz_ h1_ (Fz_ aK_ (pv1 8 rfl gC_) (Fz_ fs_ ad_ (pv1 6 rfl cY_))) ad_)) ?g29)
   case' g12=>refine' eh_ (c3_ (un1 hr.units) (pv1 2 rfl jY_) (aq_ (pa_c (pv1 4 rfl gA_) (pa_c (pv1 5 rfl gB_) ab_))) (fun _ _=>rfl)) (aS_ (K:=K) (n:=2) rfl rfl (ak_ ?g24 (ak_ ?g26 aQ_)))
   case g24=>exact ag_ (i:=7) b1_.nd rfl bf_
   case g26=>exact ag_ (i:=8) b1_.nd rfl gC_
   case' g29=>refine' ai_ (Gp_ (aG_ KB_ (pv1 7 rfl bf_) (pv1 1 rfl jX_) (FY_ _)) (aj_ (aB_ (aq_ ?g46))) aW_) ?g38
   case' g46=>refine' pa_c (pv1 7 rfl bf_) (pa_c (Fz_ aD_ (pv1 9 rfl ck_) (am_ ao_ eW_ T.n_len aX_ (pa_c (FG_ ar_ (pv1 0 rfl gz_) (pv1 7 rfl bf_) (fun _ _=>rfl)) ab_))) (pa_c (Fz_ h1_ ad_ (pv1 6 rfl cY_)) ab_))
   case' g38=>refine' ai_ (Gp_ (aG_ Iw_ (pv1 9 rfl ck_) ad_ (FY_ _)) (aj_ (aB_ (Fz_ aK_ (Fz_ fs_ ad_ (pv1 7 rfl bf_)) ad_))) aW_) ?g63
   case' g63=>refine' ai_ ?g75 (aj_ (aB_ (aq_ (pa_c (pv1 7 rfl bf_) (pa_c (pv1 9 rfl ck_) (pa_c (Fz_ h1_ ad_ (pv1 6 rfl cY_)) ab_))))))
   case' g75=>refine' Gp_ (aG_ G0_ (pv1 9 rfl ck_) (am_ ao_ eW_ T.n_len aX_ (pa_c (FG_ ar_ (pv1 0 rfl gz_) (pv1 7 rfl bf_) (fun _ _=>rfl)) ab_)) (FY_ _)) (aj_ (aB_ (Fz_ fs_ ad_ (pv1 7 rfl bf_)))) aW_
  case R =>
   nofun;refine ⟨_,SqT.of hc,rfl,_,_,rfl,_,_,rfl,_,_,rfl,rfl,by decide,fun p hp=>?_⟩;have s1:Fx_ H (upd H p (.tup [.int e.1,.int e.2])):=Fx_.new hp;generalize e1:upd H p (.tup [.int e.1,.int e.2])=H1 at s1 ⊢;have hp1:H1 p=some (cV e):=e1 ▸ aa_;have g:GP_ H1 m (.ref p) (some (.ref q)):=vq ▸ GP_.t (k:=cK e) (s1 _ _ hkv) hp1;have hT1:=hT.mono s1;obtain ⟨_,wf,_,hwf⟩:=id mt;have hfl:=F7_ hwf;obtain ⟨a,ea,at0,ra⟩:=hT1.at_ hfl.2;refine ⟨_,g,_,rfl,_,SqT.of (s1 _ _ hq),rfl,_,_,rfl,_,_,rfl,rfl,_,rfl,.inl (by decide),_,rfl,_,rfl,?_⟩;have ll:((Tt.getD f'.1 []).map V.str).length=rl Tt f'.1:=Ab_ _;have hit:∀ (k' sd':Nat)(z1 z2:Int),z1=k'->z2=sd'->Cr Tt Pp b (f'.1,k') sd'->k'<rl Tt f'.1->∀ p,H1 p=none->Q (.ref p) (upd H1 p (.tup [.int f'.1,.int z1,.int z2])):=fun k' sd' z1 z2 h1 h2 h3 h4 p np=>by subst h1 h2;obtain ⟨y,hy⟩:=cw_ (T:=Tt) (e:=(f'.1,k')) h4;exact k1 p _ (f'.1,k') sd' y (s1.trans (Fx_.new np)) aa_ h3 hy
   have plc:∀ (pl:Nat)(z:Int),z=pl->pl<2*Pp->tn b=stt Tt pl->Q (.int z) H1:=fun pl z h1 h2 h3=>by
    subst h1;refine k2 pl H1 s1 h2 ?_ h3;have:=bx_ (T:=Tt) h2
    rwa [<-h3,GZ_] at this
   have hf1:=hfl.1
   rcases hfb with ⟨rfl,rfl⟩|⟨rfl,rfl⟩
   ·refine ite2 (fun hP=>⟨_,_,rfl,hT1.top,_,at0,_,rfl,_,.inl ra,?_,_,rfl,by decide,?_⟩) (fun hP=>ite2 (fun h0=>⟨_,rfl,.inl (by decide),plc (2*f'.1+1) _ (by lia) (by lia) ?_⟩) (fun h0=>⟨_,_,rfl,hT1.top,_,at0,_,rfl,_,.inl ra,?_⟩))
    ·rw [ll];lia
    ·rw [ll];by_cases c0:f'.2=0
     ·refine hit (rl Tt f'.1-1) 1 _ _ ?_ rfl (kC_ hf1 (.inl ⟨c0,by lia,by lia⟩)) (by lia);rw [c0];rw [show ((0:Nat):Int)+2*((0:Nat):Int)-1 = -1 by rfl];rw [show (-1:Int)=(rl Tt f'.1-1:Nat)-(rl Tt f'.1:Int) by lia,Int.sub_emod_right,DS_ (by lia) (by lia)]
     ·refine hit (f'.2-1) 1 _ _ ?_ rfl (kC_ hf1 (.inr (by lia))) (by lia);rw [DS_ (by lia) (by lia)];lia
    ·have c0:f'.2=0:=by lia
     unfold stt;rw [if_neg (by lia),show (2*f'.1+1)/2=f'.1 by lia];exact A9_ (A9_ rfl c0) rfl
    ·rw [ll,if_neg (by lia)];exact ⟨_,rfl,by decide,hit (f'.2-1) 1 _ _ (by lia) rfl (kC_ hf1 (.inr (by lia))) (by lia)⟩
   ·have fw:∀ {k'},beh Tt Pp f'=(f'.1,k')->Cr Tt Pp (beh Tt Pp f',true) (f'.1,k') 0:=fun {k'} z=>.inl ⟨by rw [z],rfl⟩;refine ite2 (fun hP=>⟨_,_,rfl,hT1.top,_,at0,_,rfl,_,.inl ra,?_,_,rfl,by decide,?_⟩) (fun hP=>?_)
    ·rw [ll];lia
    ·rw [ll];by_cases c0:f'.2+1=rl Tt f'.1
     ·refine hit 0 0 _ _ ?_ rfl (fw (if_pos ⟨by lia,c0⟩)) (by lia);rw [show (f'.2:Int)+2*((1:Nat):Int)-1=(rl Tt f'.1:Int) by lia,Int.emod_self];rfl
     ·refine hit (f'.2+1) 0 _ _ ?_ rfl (fw (if_neg (fun z=>c0 z.2))) (by lia);rw [DS_ (by lia) (by lia)];lia
    rw [if_neg (by lia)];have bf:beh Tt Pp f'=(f'.1,f'.2+1):=if_neg (fun z=>hP (by lia));refine ⟨_,_,rfl,hT1.top,_,at0,_,rfl,_,.inl ra,ite2 (fun h1=>⟨_,rfl,.inl (by decide),plc (2*f'.1) _ (by lia) (by lia) ?_⟩) (fun h1=>?_)⟩
    ·rw [ll] at h1;rw [bf];unfold stt;rw [if_pos (by lia),show 2*f'.1/2=f'.1 by lia];exact A9_ (A9_ rfl (show f'.2+1=rl Tt f'.1 by lia)) rfl
    ·rw [ll] at h1;exact ⟨_,rfl,by decide,hit (f'.2+1) 0 _ _ (by lia) rfl (fw bf) (by lia)⟩
theorem ne_ (l:List Str):deq (.lst (l.map Dt.str)) (.lst [])=some (decide (l.length=0)):=by
 cases l with
 | nil=>rfl
 | cons a l=>simp [deq]
def JR_ (H:Hp)(T:List (List Str))(P:Nat)(x:Sd)(v:V):Prop:=(∃ c e sd y,v=.ref c/\H c=some (crV e sd)/\Cr T P x e sd/\wi T e=some y)\/(∃ j:Nat,v=.int j/\j<2*P/\wr T P x=none/\tn x=stt T j)
theorem JR_.tups {H H':Hp}{T:List (List Str)}{P:Nat}{x:Sd}{v:V}(h:JR_ H T P x v)(s:∀ b ys,H b=some (.tup ys)->H' b=some (.tup ys)):JR_ H' T P x v:=by
 rcases h with ⟨c,e,sd,y,h1,h2,h3⟩|h
 ·exact .inl ⟨c,e,sd,y,h1,s _ _ h2,h3⟩
 ·exact .inr h
theorem Cr.wr {T:List (List Str)}{P:Nat}{x:Sd}{e:Nat×Nat}{sd:Nat}{y:Str}(h:Cr T P x e sd)(hy:wi T e=some y):RimT.wr T P x=some y:=by
 rcases h with ⟨rfl,_⟩|⟨rfl,_⟩
 ·exact hy
 ·rw [kQ_ (F7_ hy).1];exact hy
abbrev FI_:Stmt:=stN 29
theorem bm_:FF_ ["_law_turns_here", "_law_posts", "_law_mates_here", "_law_place", "_law_post", "_law_here", "_law_found"] ["_law_turns_here", "_law_posts", "_law_mates_here", "_law_place"] (Fy_ FI_):=⟨rfl,rfl,rfl,by rfl',rfl,by rfl',by rfl'⟩
theorem cm_:LK FI_ "_law_turns_here" .local:=by rfl'
theorem gN_:LK FI_ "_law_posts" .local:=by rfl'
theorem gO_:LK FI_ "_law_mates_here" .local:=by rfl'
theorem bC_:LK FI_ "_law_place" .local:=by rfl'
theorem bk_:LK FI_ "_law_post" .local:=by rfl'
theorem aO_:LK FI_ "_law_here" .local:=by rfl'
theorem cn_:LK FI_ "_law_found" .local:=by rfl'
theorem eb_:LK FI_ "_law_beyond" .globalImplicit:=by rfl'
theorem fM_:LK FI_ "int" .globalImplicit:=by rfl'
theorem dh_:LK FI_ "isinstance" .globalImplicit:=by rfl'
theorem fN_:LK FI_ "len" .globalImplicit:=by rfl'
def CrA (H:Hp)(T:List (List Str))(P:Nat)(xs:List Addr)(mm:List Sd):Prop:=Paired (fun (x:Addr)(s:Sd)=>∃ e sd y,H x=some (crV e sd)/\Cr T P s e sd/\wi T e=some y) xs mm
theorem CrA.tups {H H':Hp}{T:List (List Str)}{P:Nat}{xs:List Addr}{mm:List Sd}(h:CrA H T P xs mm)(s:∀ b ys,H b=some (.tup ys)->H' b=some (.tup ys)):CrA H' T P xs mm:=Paired.mapP h fun _ _ ⟨e,sd,y,h1,h2⟩=>⟨e,sd,y,s _ _ h1,h2⟩
def Il_:Sp:=fun vs H Q _=>∃ (l m:Addr)(as_:List Addr)(T:List (List Str))(P pl:Nat),vs=[.ref l,.int P,.ref m,.int pl]/\Tg V.str H l as_ T/\Gu_ H m T/\Tw T/\P<=T.length/\pl<2*P/\P<=6/\(corners T P).length<=900 /\
 ∀ t F H' l xs x (j:Nat),Fx_ H H'->H' t=some (.tup [.int j,.ref F])->H' F=some (.lst (xs.map V.ref))->CrA H' T P xs l.dropLast->Ln T P (stt T pl) l->l.getLast?=some x->j<2*P->tn x=stt T j->Q (.ref t) H'
theorem hT_ (T:Txt K mg)(F:Fn0 K mg "_law_from_place" FI_) (G1_:Cal P w K mg base "_law_beyond" ["_law_turns_here", "_law_posts", "_law_mates_here", "_law_crossing"] 1 GX_):Cal P w K mg base "_law_from_place" ["_law_turns_here", "_law_posts", "_law_mates_here", "_law_place"] 2 Il_:=by
 refine a1_ F bm_ (fun _ _ _ _ _ _=>byL4 fun _ _ _ _=>rfl) ?len ?body
 case len=>rintro vs H Q E ⟨_,_,_,_,_,_,rfl,_⟩;rfl
 case body =>
  intro f cdv A outer s0 H vs Q E hr h;obtain ⟨l,m,as_,Tt,Pp,pl,rfl,hT,hm,tw,PT,hp,P6,c9,k⟩:=h;refine' ⟨_,?D,?R⟩
  case D =>
   refine' ac_ (ah_ (i:=4) bm_.nd rfl bk_ (Fz_ au_ (pv1 3 rfl bC_) ad_)) ?g2
   case' g2=>refine' ac_ ?g6 (ac_ ?g32 (ai_ ?g42 (ac_ (ah_ (i:=6) bm_.nd rfl cn_ (bo_ ab_)) ?g69)))
   case' g6=>refine' Gp_ (aG_ (oh_ (hr.units)) (FG_ ar_ (pv1 0 rfl cm_) (pv1 4 rfl bk_) (fun _ _=>rfl)) (bo_ ab_) (FY_ _)) (aj_ (aB_ ?g17)) aW_
   case' g17=>refine' aq_ (pa_c (Fz_ h1_ (Fz_ aK_ (pv1 3 rfl bC_) ad_) (Fz_ fs_ ad_ (Fz_ aD_ (pv1 3 rfl bC_) ad_))) (pa_c (bo_ ab_) ab_))
   case' g32=>refine' ah_ (i:=5) bm_.nd rfl aO_ (aq_ (pa_c (pv1 4 rfl bk_) (pa_c ad_ (pa_c ad_ ab_))))
   case' g42=>refine' hj_ (Gp_ (aG_ G0_ (Fz_ aD_ (pv1 3 rfl bC_) ad_) ad_ (FY_ _)) (aj_ (ah_ (i:=5) bm_.nd rfl aO_ ?g53)) aW_)
   case' g53=>refine' aq_ (pa_c (pv1 4 rfl bk_) (pa_c (Fz_ h1_ (am_ ao_ fN_ T.n_len aX_ (pa_c (FG_ ar_ (pv1 0 rfl cm_) (pv1 4 rfl bk_) (fun _ _=>rfl)) ab_)) ad_) (pa_c ad_ ab_)))
   case' g69=>refine' ai_ (eE_ AA_ ?g74 (ai_ (aA_ (Gi_ Az_ AC_ AD_ az_ (pv1 6 rfl cn_) (pa_c (pv1 5 rfl aO_) ab_))) ?g84)) ?g73
   case' g74=>refine' kU_ (i7_ (am_ gW_ dh_ T.n_isinstance cr_ (pa_c (pv1 5 rfl aO_) (pa_c ?g81 ab_))))
   case g81=>exact kY_ fM_ T.n_int ml_
   case' g84=>refine' aj_ (ah_ (i:=5) bm_.nd rfl aO_ (al_ G1_ (hr.mono (by decide)) eb_ (pa_c (pv1 0 rfl cm_) (pa_c (pv1 1 rfl gN_) (pa_c (pv1 2 rfl gO_) (pa_c (pv1 5 rfl aO_) ab_))))))
   case' g73=>refine' aj_ (aB_ (aq_ (pa_c (pv1 5 rfl aO_) (pa_c (pv1 6 rfl cn_) ab_))))
  case R =>
   nofun;have pT:pl/2<Tt.length:=by lia
   obtain ⟨a,ea,at0,ra⟩:=hT.at_ pT;have cst:(pl:Int)/2=((pl/2:Nat):Int):=by lia
   rw [cst];refine ⟨by decide,by decide,?_⟩;have ll:((Tt.getD (pl/2) []).map V.str).length=rl Tt (pl/2):=Ab_ _;have ic:=H1_ (T:=Tt) PT hp;have sf:=bx_ (T:=Tt) hp;nofun;refine ⟨_,hT.top,_,at0,Ay_ _,fun p0 n0=>?_⟩;have S0:=Fx_.new n0 (o:=HO.lst []);have hp0:=aa_ (H:=H) (a:=p0) (o:=HO.lst []);generalize upd H p0 (HO.lst [])=H0 at *;have hT0:=hT.mono S0;refine ⟨_,rfl,.lst ((Tt.getD (pl/2) []).map Dt.str),⟨_,_,rfl,S0 _ _ ra,bz_ _⟩,.lst [],⟨_,_,rfl,hp0,rfl⟩,decide (rl Tt (pl/2)=0),ne_ _,by have:=et_ (f:=Dt.str) (n:=0) (fun _=>Aj_ _) (Tt.getD (pl/2) []);rw [dep];lia,?_⟩;by_cases r0:rl Tt (pl/2)=0
   ·rw [if_pos (A5_ r0)];refine ⟨by decide,.inl (by decide),Ay_ _,fun p1 n1=>⟨by decide,fun p2 n2=>?_⟩⟩;have S1:=Fx_.new n1 (o:=HO.lst []);have hp1:=aa_ (H:=H0) (a:=p1) (o:=HO.lst []);generalize upd H0 p1 (HO.lst [])=H1 at *
    have e0:wr Tt Pp (stt Tt pl)=none:=by
     unfold stt;split
     ·unfold wr;rw [if_neg (by simp)]
      dsimp only
      rw [if_pos r0,if_neg (by lia)]
     ·exact Be_ (by show _<=0;exact Nat.le_of_eq r0)
    have ej:tn (stt Tt pl)=stt Tt (pl+1-2*(pl%2)):=by
     unfold stt tn;by_cases c:pl%2=0
     ·rw [if_pos c,if_neg (by lia),show (pl+1-2*(pl%2))/2=pl/2 by lia,r0];rfl
     ·rw [if_neg c,if_pos (by lia),show (pl+1-2*(pl%2))/2=pl/2 by lia,r0];rfl
    rw [show (pl:Int)+1-2*(pl%2)=((pl+1-2*(pl%2):Nat):Int) by lia];refine k p2 p1 _ [stt Tt pl] [] (stt Tt pl) _ ((S0.trans S1).trans (Fx_.new n2)) aa_ ((Fx_.new n2) _ _ hp1) ?_ ⟨pa1 _,rfl,fun y hy=>by cases hy;exact e0⟩ rfl (by lia) ej;exact .nil
   ·rw [if_neg (by simp [r0])];nofun;refine ⟨by decide,fun p1 n1=>?_⟩;have S1:=Fx_.new n1 (o:=HO.tup [V.int ((pl/2:Nat):Int),V.int 0,V.int 0]);have hp1:=aa_ (H:=H0) (a:=p1) (o:=HO.tup [V.int ((pl/2:Nat):Int),V.int 0,V.int 0]);generalize upd H0 p1 (HO.tup [V.int ((pl/2:Nat):Int),V.int 0,V.int 0])=H1 at *;have S01:=S0.trans S1;nofun;refine ⟨fun σ Hx=>∃ v,σ=[some (.ref l),some (.int Pp),some (.ref m),some (.int pl),some (.int ((pl/2:Nat):Int)),some v,none]/\Fx_ H Hx/\JR_ Hx Tt Pp (stt Tt pl) v,?_,?_⟩
    ·nofun;refine ⟨by decide,ite2 (fun c=>?_) (fun c=>⟨S01,?_⟩)⟩
     ·refine ⟨_,S01 _ _ hT.top,_,at0,_,rfl,_,.inl (S01 _ _ ra),by decide,fun p2 n2=>?_⟩;rw [ll];refine ⟨S01.trans (Fx_.new n2),.inl ⟨p2,(pl/2,rl Tt (pl/2)-1),1,_,rfl,?_,.inr ⟨?_,rfl⟩,(cw_ (T:=Tt) (e:=(pl/2,rl Tt (pl/2)-1)) (by dsimp only;lia)).choose_spec⟩⟩
      ·rw [aa_];show some (HO.tup [V.int _,V.int ((rl Tt (pl/2):Int)-1),V.int _])=some (HO.tup [V.int _,V.int ((rl Tt (pl/2)-1:Nat):Int),V.int _]);rw [show ((rl Tt (pl/2)-1:Nat):Int)=(rl Tt (pl/2):Int)-1 by lia];rfl
      ·unfold stt beh;rw [if_pos (by lia),if_neg (by dsimp only;lia)]
       dsimp only
       rw [show rl Tt (pl/2)-1+1=rl Tt (pl/2) by lia]
     ·refine .inl ⟨p1,(pl/2,0),0,_,rfl,hp1,.inl ⟨?_,rfl⟩,(cw_ (T:=Tt) (e:=(pl/2,0)) (by dsimp only;lia)).choose_spec⟩;unfold stt;rw [if_neg (by lia)]
    rintro σ Hx ⟨v,rfl,sx,hh⟩;nofun;refine ⟨Ay_ _,fun F0 nF=>?_⟩;have nF0:=sx.free nF;have SF:=Fx_.new nF (o:=HO.lst []);have hF:=aa_ (H:=Hx) (a:=F0) (o:=HO.lst []);generalize upd Hx F0 (HO.lst [])=H2 at *;nofun
    refine g0_ (fun σ Hy=>∃ (mm:List Sd)(x:Sd)(v:V)(xs:List Addr),σ=[some (.ref l),some (.int Pp),some (.ref m),some (.int pl),some (.int ((pl/2:Nat):Int)),some v,some (.ref F0)]/\Fx_ H Hy/\Hy F0=some (.lst (xs.map V.ref))/\CrA Hy Tt Pp xs mm/\xs.length=mm.length/\Pa (Gg Tt Pp) (mm++[x])/\(mm++[x])[0]?=some (stt Tt pl)/\JR_ Hy Tt Pp x v)
     (fun σ Hy=>match Hy F0 with|some (.lst xs)=>(corners Tt Pp).length+1-xs.length|_=>0) ⟨[],stt Tt pl,v,[],rfl,sx.trans SF,hF,.nil,rfl,pa1 _,rfl,hh.tups fun b ys e=>SF _ _ e⟩ ?_
    rintro σ Hy kb hkb G hG ⟨mm,x,v,xs,rfl,sy,hFy,cra,xl,pa,h0,hv⟩;refine hG ?_;have nd:=pa.nd_first tw h0 sf;have sh:=pa.short tw h0 ic nd;rw [Af_] at sh;nofun
    rcases hv with ⟨c,e,sd,y,rfl,hc,cr,hy⟩|⟨j,rfl,hj,hwr,ej⟩
    ·refine ⟨"tuple",by show (match Hy c with|some (.lst _)=>some "list" | some (.tup _)=>some "tuple" | _=>none)=_;rw [hc];rfl,?_⟩;rw [if_pos (by decide)];refine ⟨_,N_ok,.inl ⟨_,.inl (.inl hFy)⟩,_,hFy,Fw_ (by rw [Ab_];simp at sh;lia),?_⟩;have hwr:=cr.wr hy;have ix:=pa.allC h0 ic x (by simp);obtain ⟨b,gb⟩:=lY_ tw ix hwr;have keep:∀ d o,d≠F0->Hy d=some o->upd Hy F0 (HO.lst (xs.map V.ref++[V.ref c])) d=some o:=fun d o h1 h2=>by rw [af_ h1];exact h2
     have kt:∀ d ys,Hy d=some (.tup ys)->upd Hy F0 (HO.lst (xs.map V.ref++[V.ref c])) d=some (.tup ys):=fun d ys h=>keep d _ (fun z=>by rw [z,hFy] at h;cases h) h;have sy1:Fx_ H (upd Hy F0 (HO.lst (xs.map V.ref++[V.ref c]))):=fun d o h=>keep d o (ae_ h nF0) (sy _ _ h);have hF1:upd Hy F0 (HO.lst (xs.map V.ref++[V.ref c])) F0=some (.lst ((xs++[c]).map V.ref)):=by rw [aa_,Aq_];rfl
     have hc1:=kt _ _ hc;have cra1:CrA (upd Hy F0 (HO.lst (xs.map V.ref++[V.ref c]))) Tt Pp (xs++[c]) (mm++[x]):=Dt_ (cra.tups kt) ⟨e,sd,y,hc1,cr,hy⟩;generalize upd Hy F0 (HO.lst (xs.map V.ref++[V.ref c]))=H3 at *;refine ⟨l,m,c,as_,Tt,Pp,x,b,e,sd,y,rfl,hT.mono sy1,hm.mono sy1,tw,hc1,cr,hy,gb,fun q H' e' sd' x' s' hq' cr' hx'=>?_,fun pl' H' s' hpl hn ht=>?_⟩
     ·have hh:JR_ H' Tt Pp b (.ref q):=.inl ⟨q,e',sd',x',rfl,hq',cr',hx'⟩;refine ⟨⟨mm++[x],b,_,rfl,sy1.trans s',xs++[c],s' _ _ hF1,cra1.tups fun b ys z=>s' _ _ z,by rw [Af_,Af_,xl];rfl,pa.snoc gb,by rw [Al_ (by simp)];exact h0,hh⟩,?_⟩;rw [s' _ _ hF1,hFy];simp only [Ab_,Af_,AQ_] at sh ⊢;lia
     ·have hh:JR_ H' Tt Pp b (.int pl'):=.inr ⟨pl',rfl,hpl,hn,ht⟩;refine ⟨⟨mm++[x],b,_,rfl,sy1.trans s',xs++[c],s' _ _ hF1,cra1.tups fun b ys z=>s' _ _ z,by rw [Af_,Af_,xl];rfl,pa.snoc gb,by rw [Al_ (by simp)];exact h0,hh⟩,?_⟩;rw [s' _ _ hF1,hFy];simp only [Ab_,Af_,AQ_] at sh ⊢;lia
    ·refine ⟨"int",rfl,?_⟩;rw [if_neg (by decide)];refine hkb _ _ ?_;nofun;refine ⟨by decide,fun p np=>?_⟩;have sp:=Fx_.new np (o:=HO.tup [V.int j,V.ref F0]);refine k p F0 _ (mm++[x]) xs x j (sy.trans sp) aa_ (sp _ _ hFy) ?_ ⟨pa,h0,fun y hy=>?_⟩ (by simp) hj ej
     ·rw [EX_];exact cra.tups fun b ys z=>sp _ _ z
     ·rw [EW_] at hy;cases hy;exact hwr
def Ip_ (kt:List (List Key×V))(all:List (List Key)):Prop:=(kt.map (·.1)).Nodup/\∀ k∈kt.map (·.1),k∈all
theorem Ip_.len {kt:List (List Key×V)}{all:List (List Key)}(h:Ip_ kt all):kt.length<=all.length:=by
 have:=bJ_ h.1 h.2
 rwa [Ab_] at this
theorem Ip_.put {kt:List (List Key×V)}{all:List (List Key)}(h:Ip_ kt all){k:List Key}(hk:k∈all)(v:V):Ip_ (Ge_ kt k v) all:=by
 unfold Ip_;rw [jS_];split
 ·exact h
 ·next hn =>
  refine ⟨AK_.mpr ⟨h.1,by simp,fun a ha b hb e=>?_⟩,fun x hx=>?_⟩
  ·rw [Ak_.mp hb] at e;exact hn (e ▸ ha)
  ·rcases An_.mp hx with hx|hx
   ·exact h.2 x hx
   ·rw [Ak_.mp hx];exact hk
theorem Ip_.merge {all:List (List Key)}:∀ {more kt:List (List Key×V)},Ip_ kt all->(∀ q∈more,q.1∈all)->Ip_ (Gj_ kt more) all
 | [],kt,h,_=>h
 | p::more,kt,h,hm=>Ip_.merge (more:=more) (kt:=Ge_ kt p.1 p.2) (h.put (hm p At_) _) fun q hq=>hm q (Ar_ _ hq)
theorem ph_ (es:List (End Str))(e:End Str):((kvK es).any fun q=>decide (q.1=eK e))=decide (e∈es):=by have:=m6_ es e;rw [eN_] at this;exact this
abbrev Tr:=Option (Nat×Nat)×List Sd
def trF (t:Tr):V:=match t.1 with|some (p,_)=>.int p|none=>.non
def trL (t:Tr):V:=match t.1 with|some (_,j)=>.int j|none=>.non
def TrA (H0 H:Hp)(N:Net Str)(D:Addr)(ts:List Addr)(L:List Tr):Prop:=Paired (fun (q:Addr)(t:Tr)=>∃ C W,H q=some (.tup [trF t,trL t,.ref C,.ref W])/\H W=some (.lst ((wiL (trn N) (Pn N) t.2).map V.str))/\W≠D/\H0 W=none) ts L
def ClL (T:List (List Str))(P:Nat)(l:List Sd):Prop:=∃ s x,Pa (Gg T P) l/\l[0]?=some s/\l.getLast?=some x/\Gg T P x s
def opT (O:List (Nat×Nat×List Sd)):List Tr:=O.map fun t=>(some (t.1,t.2.1),t.2.2)
def clT (L:List (List Sd)):List Tr:=L.map fun l=>(none,l)
theorem LA_ {N:Net Str}(ok:FS_ N)(po:FH_ N){H:Hp}{qs:List Addr}(sa:StA H N qs)(ql:qs.length=2*Pn N){q2:Addr}{j:Nat}(kj:Gw_ H q2 (skN N (stt (trn N) j)))(hj:j<2*Pn N){Q:Nat->Prop}(k:Q j):∃ ds,F0_ H (qs.map V.ref) ds/\∃ d,Rep H (.ref q2) d/\(qs.map V.ref).length<=1000/\(∀ y,y∈qs.map V.ref->∃ q,y=V.ref q)/\∃ bs:Nat->Bool,(∀ (m:Nat) dm,ds[m]?=some dm->deq dm d=some (bs m)/\dep dm<=60)/\∃ j',j'<ds.length/\bs j'=true/\(∀ m,m<j'->bs m=false)/\Q j':=by
 have PT:Pn N<=(trn N).length:=by rw [a5_];unfold pts;rw [Af_];exact Bh_ _ _
 have lt:∀ {m},m<2*Pn N->(stt (trn N) m).1.1<(pts N).length:=fun {m} hm=>by rw [<-a5_];exact (H1_ (T:=trn N) PT hm).1
 have pl6:Pn N<=6:=ok.pl;have dl:((List.range' 0 qs.length).map fun i=>dSd (stt (trn N) i) N).length=2*Pn N:=by rw [Ab_,List.length_range',ql]
 refine ⟨(List.range' 0 qs.length).map fun i=>dSd (stt (trn N) i) N,nb_ _ qs 0 fun i q hi=>?_,_,iV_ kj,by rw [Ab_];lia,fun y hy=>?_,fun m=>decide (stt (trn N) m=stt (trn N) j),fun m dm hm=>?_,j,by rw [dl];exact hj,A5_ rfl,fun m hm=>AN_ fun z=>?_,k⟩
 ·rw [D0_];exact iV_ (sa i q hi)
 ·obtain ⟨q,_,e⟩:=Ap_.mp hy;exact ⟨q,e.symm⟩
 ·have hl:=(Ae_.mp hm).1;rw [dl] at hl;rw [Ag_,List.getElem?_range' (by lia)] at hm;cases hm;rw [D0_,Nat.one_mul];exact ⟨na_ ok po (lt hl) (lt hj),by simp [dSd,dE,dep,deps]⟩
 ·have:=il_ z;lia
theorem _root_.RimT.OpL.skip2 {N:Net Str}{i:Nat}{O:List (Nat×Nat×List Sd)}(tw:Tw (trn N))(hi:i<2*Pn N)(h:OpL (trn N) (Pn N) i O)(hn:(stt (trn N) i).1∈csO O):OpL (trn N) (Pn N) (i+1) O:=by
 obtain ⟨t,ht,hc⟩:=hd_.mp hn;obtain ⟨h1,h2,h3⟩:=h.in_ t ht
 rcases h3.hits tw hi hc with e|e
 ·lia
 ·have b:=h3.back tw (by lia);rw [<-e] at b;exact h.skip tw hi b hn
def csT (L:List Tr):List (Nat×Nat):=(L.map fun t=>cs t.2).flatten
theorem fO_ (L:List Tr)(t:Tr):csT (L++[t])=csT L++cs t.2:=by unfold csT;rw [Aq_,A4_];simp
theorem nf_ (O:List (Nat×Nat×List Sd)):csT (opT O)=csO O:=by unfold csT opT csO;rw [Bf_];rfl
theorem ng_ (O:List (Nat×Nat×List Sd))(L:List (List Sd)):csT (opT O++clT L)=csO O++(L.map cs).flatten:=by rw [<-nf_];unfold csT clT;rw [Aq_,A4_,Bf_];rfl
structure TrS (N:Net Str)(H0 B Hy:Hp)(tl D:Addr)(ts:List Addr)(kt:List (List Key×V))(L:List Tr):Prop where
 same:Fx_ B Hy
 hD:Hy D=some (.lst (ts.map V.ref))
 tr:TrA H0 Hy N D ts L
 ht:Hy tl=some (.dT kt)
 kto:Ip_ kt ((Gb_ N).map eK)
 seen:∀ c,IsC (trn N) (Pn N) c->(F9_ kt (eK (ph N c))).isSome=decide (c∈csT L)
 nd:(csT L).Nodup
 sh:HI_ (trn N) (Pn N) (csT L)
 ic:∀ c∈csT L,IsC (trn N) (Pn N) c
theorem TrS.mono {N:Net Str}{H0 B Hy H':Hp}{tl D:Addr}{ts:List Addr}{kt:List (List Key×V)}{L:List Tr}(h:TrS N H0 B Hy tl D ts kt L)(s:Fx_ Hy H'):TrS N H0 B H' tl D ts kt L:=⟨h.same.trans s,s _ _ h.hD,Paired.mapP h.tr fun q' t' ⟨C',W',z1,z2,z3⟩=>⟨C',W',s _ _ z1,s _ _ z2,z3⟩,s _ _ h.ht,h.kto,h.seen,h.nd,h.sh,h.ic⟩
theorem kD_ {H H':Hp}{N:Net Str}:∀ {xs:List Addr}{l:List (Nat×Nat)},Es H N xs l->(∀ b ys,H b=some (.tup ys)->H' b=some (.tup ys))->Es H' N xs l
 | [],[],_,_=>trivial
 | x::xs,c::l,h,s=>⟨s _ _ h.1,kD_ h.2 s⟩
theorem nh_ {N:Net Str}(ok:FS_ N)(po:FH_ N){l:List (Nat×Nat)}(nd:l.Nodup)(ic:∀ c∈l,IsC (trn N) (Pn N) c):l.length<=100:=by
 have:=bJ_ (l:=l) (m:=HL_ N) nd fun x hx=>(gU_ ok po).mpr (ic x hx);have ol:(HL_ N).length=(Gb_ N).length:=by rw [fd_ po,Ab_]
 have:=(dV_ ok).1;lia
theorem TrS.begun {N:Net Str}{H0 B Hy:Hp}{tl D:Addr}(s:Fx_ B Hy)(hD:Hy D=some (.lst []))(ht:Hy tl=some (.dT [])):TrS N H0 B Hy tl D [] [] []:=⟨s,hD,.nil,ht,⟨Bc_,fun k hk=>absurd hk AO_⟩,fun c _=>rfl,Bc_,fun a b g hb=>absurd hb AO_,fun c hc=>absurd hc AO_⟩
theorem GoI.mono {H H':Hp}{N:Net Str}{kg:List (Sk×V)}{E:Nat×Nat->Prop}(h:GoI H N kg E)(s:Fx_ H H'):GoI H' N kg E:=⟨fun e f x he m hx=>let ⟨v,q,z1,z2,z3⟩:=h.tt e f x he m hx;⟨v,q,z1,s _ _ z2,z3.mono s⟩,fun e f x he m hx=>let ⟨v,q,z1,z2,z3⟩:=h.ff e f x he m hx;⟨v,q,z1,s _ _ z2,z3.mono s⟩,h.no⟩
theorem TrS.add {N:Net Str}(ok:FS_ N)(po:FH_ N){H0 B Hy:Hp}{tl D:Addr}{ts:List Addr}{kt:List (List Key×V)}{L:List Tr}(h:TrS N H0 B Hy tl D ts kt L){t:Tr}{q C W:Addr}{H3 H5:Hp}(bt:B tl=none)(bD:B D=none)(tD:tl≠D)(s3:Fx_ Hy H3)(hq:H3 q=some (.tup [trF t,trL t,.ref C,.ref W]))(hW:H3 W=some (.lst ((wiL (trn N) (Pn N) t.2).map V.str)))(WD:W≠D)(bW:H0 W=none)(s5:Fx_ (upd H3 D (.lst (ts.map V.ref++[.ref q]))) H5)
  (ap:∀ c∈cs t.2,c∉csT L) (nd':(cs t.2).Nodup) (sh':HI_ (trn N) (Pn N) (cs t.2)) (ic':∀ c∈cs t.2,IsC (trn N) (Pn N) c):TrS N H0 B (upd H5 tl (.dT (Gj_ kt (kvK ((cs t.2).map (ph N)))))) tl D (ts++[q]) (Gj_ kt (kvK ((cs t.2).map (ph N)))) (L++[t]):=by
 have hD3:=s3 _ _ h.hD;have ht3:=s3 _ _ h.ht;have put:∀ b o,b≠D->b≠tl->H3 b=some o->upd H5 tl (.dT (Gj_ kt (kvK ((cs t.2).map (ph N))))) b=some o:=fun b o h1 h2 h3=>by rw [af_ h2];refine s5 _ _ ?_;rw [af_ h1];exact h3
 have tp:∀ b ys,H3 b=some (.tup ys)->upd H5 tl (.dT (Gj_ kt (kvK ((cs t.2).map (ph N))))) b=some (.tup ys):=fun b ys e=>put b _ (fun z=>by rw [z,hD3] at e;cases e) (fun z=>by rw [z,ht3] at e;cases e) e;have ls:∀ b ys,b≠D->H3 b=some (.lst ys)->upd H5 tl (.dT (Gj_ kt (kvK ((cs t.2).map (ph N))))) b=some (.lst ys):=fun b ys n e=>put b _ n (fun z=>by rw [z,ht3] at e;cases e) e;refine ⟨fun b o e=>put b o (ae_ e bD) (ae_ e bt) (s3 _ _ (h.same _ _ e)),?_,?_,aa_,h.kto.merge fun k hk=>?_,fun c hc=>?_,?_,?_,fun c hc=>?_⟩
 ·rw [af_ tD.symm,s5 _ _ aa_,Aq_];rfl
 ·exact Dt_ (Paired.mapP h.tr fun q' t' ⟨C',W',z1,z2,z3⟩=>⟨C',W',tp _ _ (s3 _ _ z1),ls _ _ z3.1 (s3 _ _ z2),z3⟩) ⟨C,W,tp _ _ hq,ls _ _ WD hW,WD,bW⟩
 ·unfold kvK at hk;obtain ⟨e,he,rfl⟩:=Ap_.mp hk;obtain ⟨c0,hc0,rfl⟩:=Ap_.mp he;refine Ap_.mpr ⟨_,?_,rfl⟩;rw [fd_ po];exact Ap_.mpr ⟨c0,(gU_ ok po).mpr (ic' c0 hc0),rfl⟩
 ·rw [eN_,h.seen c hc,ph_,fO_];have dlt:c.1<(pts N).length:=by rw [<-a5_];exact hc.1
  have e1:decide (ph N c∈(cs t.2).map (ph N))=decide (c∈cs t.2):=Ej_.mpr ⟨fun h=>by obtain ⟨c0,hc0,e0⟩:=Ap_.mp h;have:=hb_ ok po (by rw [<-a5_];exact (ic' c0 hc0).1) dlt e0;exact this ▸ hc0,fun h=>Ap_.mpr ⟨c,h,rfl⟩⟩;rw [e1,<-Bool.decide_or];exact Ej_.mpr (by simp)
 ·rw [fO_];exact AK_.mpr ⟨h.nd,nd',fun a ha b hb e=>ap b hb (e ▸ ha)⟩
 ·rw [fO_];exact h.sh.app sh'
 ·rw [fO_] at hc
  rcases An_.mp hc with hc|hc
  ·exact h.ic c hc
  ·exact ic' c hc
theorem j0_ {N:Net Str}{H7:Hp}{C:Addr}{xs:List Addr}{l:List Sd}{Q:VK}(hC:H7 C=some (.lst (xs.map V.ref)))(hes:Es H7 N xs (cs l))(c100:(cs l).length<=100)(k:∀ kl H8,Fx_ H7 H8->IM_ H8 kl (kvK ((cs l).map (ph N)))->Q (.ref kl) H8):HC_ (Itl K C) (G4_ 0) Kp_ (KR_ (It_ (Je_ 0) (It_ (L2.tC (V.bl true)) KQ_))) [none] H7 Q:=by
 have xl:=hes.len;refine dH_ (n:=xs.length) (B:=fun _=>none) (Pσ:=fun σ=>∃ e,σ=[e]) (ds:=((cs l).map (ph N)).map dKn) (fun b o e=>by cases e) ⟨_,rfl⟩ (by simp [xl]) (by lia) (fun j Hj hj sj=>⟨_,.ref (xs[j]),.inl (.inl (sj _ _ hC)),by simp [hj]⟩) (fun Hj sj=>⟨_,.inl (.inl (sj _ _ hC)),by simp⟩) ?_ ?_
 ·rintro Dc j x dd σ' H6 H6' hDc hDo hs6 hj hdj ⟨rfl,hy⟩ ⟨e,rfl⟩ R0 kR;obtain ⟨od,hDo⟩:=hDo;have hx:=hy _ (.inl (.inl (hs6 _ _ hC)));have hjc:j<(cs l).length:=by lia
  obtain ⟨y,hy1,hy2⟩:=hes.get (Aa_ hjc);rw [Ag_,hy1] at hx;cases hx;have hd:dd=dKn (ph N (cs l)[j]):=by rw [Ag_,Ag_,Aa_ hjc] at hdj;exact (Aw_ hdj).symm
  nofun;refine ⟨by decide,fun t nt=>kR _ _ _ ⟨_,rfl⟩ (Fx_.new nt) ?_⟩;rw [hd];have tD':t≠Dc:=(ae_ hDo nt).symm;have yD:y≠Dc:=ae_ hy2 hDc;have hq2:=(Fx_.new nt (o:=HO.tup [V.ref y,V.bl true])) _ _ (hs6 _ _ hy2);exact ⟨t,_,rfl,by rw [dG_ tD' rfl];exact aa_,_,_,rfl,⟨y,_,rfl,by rw [dG_ yD rfl];exact hq2,_,_,rfl,rfl,_,_,rfl,rfl,rfl⟩,_,_,rfl,rfl,rfl⟩
 ·intro kl H6 hkl s6 rep6;exact k kl H6 s6 (lM_ (Rep.mono fx_ _ rep6))
abbrev FE_:Stmt:=stN 10
theorem aU_:FF_ ["net", "goings", "starts", "passed", "trails", "place", "start", "gone", "corner"] ["net"] (Fy_ FE_):=⟨rfl,rfl,rfl,by rfl',rfl,by rfl',by rfl'⟩
theorem di_:LK FE_ "net" .local:=by rfl'
theorem dj_:LK FE_ "goings" .local:=by rfl'
theorem dk_:LK FE_ "starts" .local:=by rfl'
theorem bB_:LK FE_ "passed" .local:=by rfl'
theorem ca_:LK FE_ "trails" .local:=by rfl'
theorem eX_:LK FE_ "place" .local:=by rfl'
theorem dl_:LK FE_ "start" .local:=by rfl'
theorem aJ_:LK FE_ "gone" .local:=by rfl'
theorem dm_:LK FE_ "corner" .local:=by rfl'
theorem co_:LK FE_ "corners_in_order" .globalImplicit:=by rfl'
theorem ec_:LK FE_ "enumerate" .globalImplicit:=by rfl'
theorem ed_:LK FE_ "goings_of" .globalImplicit:=by rfl'
theorem bU_:LK FE_ "gone_from" .globalImplicit:=by rfl'
theorem ee_:LK FE_ "starts_of" .globalImplicit:=by rfl'
theorem fg_:LK FE_ "turned" .globalImplicit:=by rfl'
def Hw_:Sp:=fun vs H Q _=>∃ (v:V)(N:Net Str),vs=[v]/\Rep H v (HS_ N)/\FS_ N/\FH_ N/\∀ D ts H' O L,Fx_ H H'->H D=none->H' D=some (.lst (ts.map V.ref))->TrA H H' N D ts (opT O++clT L)->ts.length<=200->OpL (trn N) (Pn N) (2*Pn N) O->(∀ l∈L,ClL (trn N) (Pn N) l)->(csO O++(L.map cs).flatten).Nodup->(∀ c,IsC (trn N) (Pn N) c ↔ c∈csO O++(L.map cs).flatten)->Q (.ref D) H'
theorem j1_ (T:Txt K mg)(F:Fn0 K mg "trails_of" FE_) (H3_:Cal P w K mg base "starts_of" ["net"] 1 Hr_) (H4_:Cal P w K mg base "goings_of" ["net"] 3 (Kz_ P w)) (G2_:Cal P w K mg base "gone_from" ["start", "goings"] 1 (IX_ P w)) (Ju_:Cal P w K mg base "turned" ["standing"] 1 Hy_) (GN_:Cal P w K mg base "corners_in_order" ["net"] 1 IE_):Cal P w K mg base "trails_of" ["net"] 4 Hw_:=by
 refine a1_ F aU_ (fun _ _ _ _ _ _=>byL1 fun _=>rfl) ?len ?body
 case len=>rintro vs H Q E ⟨_,a,rfl,_⟩;rfl
 case body =>
  intro f cdv A outer s0 H vs Q E hr h;obtain ⟨v,N,rfl,hv,ok,po,k⟩:=h;have tw:=ha_ ok po;have PT:Pn N<=(trn N).length:=by rw [a5_];unfold pts;rw [Af_];exact Bh_ _ _
  have pl6:Pn N<=6:=ok.pl;refine' ⟨_,?D,?R⟩
  case D =>
   refine' ac_ (ah_ (i:=1) aU_.nd rfl dj_ (al_ H4_ (hr.mono (by decide)) ed_ (pa_c (pv1 0 rfl di_) ab_))) ?g2
   case' g2=>refine' ac_ (ah_ (i:=2) aU_.nd rfl dk_ (al_ H3_ (hr.mono (by decide)) ee_ (pa_c (pv1 0 rfl di_) ab_))) (ac_ ?g13 (ac_ (ah_ (i:=4) aU_.nd rfl ca_ (bo_ ab_)) ?g16))
   case g13=>exact ah_ (i:=3) aU_.nd rfl bB_ fz_
   case' g16=>refine' ac_ (aZ_ AA_ rfl (mA_ (K:=K) rfl ec_ T.n_enumerate (pa_c (pv1 2 rfl dk_) ab_)) (aS_ (K:=K) (n:=2) rfl rfl (ak_ ?g28 (ak_ ?g30 aQ_))) (aj_ ?g32)) ?g20
   case g28=>exact ag_ (i:=5) aU_.nd rfl eX_
   case g30=>exact ag_ (i:=6) aU_.nd rfl dl_
   case' g32=>refine' Gp_ (hf_ (ho_ (un1 hr.units) (FG_ ap_ (pv1 6 rfl dl_) ad_ (fun _ _=>rfl)) (pv1 3 rfl bB_))) (ac_ (ah_ (i:=7) aU_.nd rfl aJ_ (al_ G2_ (hr.mono (by decide)) bU_ (pa_c (pv1 6 rfl dl_) (pa_c (pv1 1 rfl dj_) ab_)))) ?g41) aW_
   case' g41=>refine' ac_ (aA_ (Gi_ Az_ AC_ AD_ az_ (pv1 4 rfl ca_) ?g52)) (aj_ (aA_ ?g78))
   case' g52=>refine' pa_c (aq_ (pa_c (pv1 5 rfl eX_) (pa_c ?g58 (pa_c (FG_ ap_ (pv1 7 rfl aJ_) ad_ (fun _ _=>rfl)) (pa_c (FG_ ap_ (pv1 7 rfl aJ_) ad_ (fun _ _=>rfl)) ab_))))) ab_
   case' g58=>refine' Gi_ Az_ PySem.F.slot_list_index PySem.F.type_list_index (mJ_ (hr.units)) (pv1 2 rfl dk_) (pa_c (al_ Ju_ (hr.mono (by decide)) fg_ (pa_c (FG_ ap_ (pv1 7 rfl aJ_) ad_ (fun _ _=>rfl)) ab_)) ab_)
   case' g78=>refine' Gi_ BZ_ Ek_ El_ (h7_ hr.units rfl) (pv1 3 rfl bB_) (pa_c (cA_ (N':=["corner"]) (ix:=[none]) rfl rfl (cB_ ?g83) (aR_ (K:=K) rfl (FG_ ap_ (pv1 7 rfl aJ_) ad_ (fun _ _=>rfl))) (fun _ _ _=>?g85) (fun _ _ _=>?g86) (fun _ _ _=>(aq_ (pa_c (pv1 0 rfl rfl) (pa_c GI_ ab_))))) ab_)
   case g83=>exact (by show Hx_ (Fy_ FE_) ["net", "goings", "starts", "passed", "trails", "place", "start", "gone", "corner"] _ _ _=true;decide +kernel)
   case g85=>exact ag_ (i:=0) (by show List.Nodup (["corner"]:List Str);decide +kernel) rfl rfl
   case g86=>exact d6_
   case' g20=>refine' ai_ (aZ_ AA_ rfl (aR_ (K:=K) rfl (al_ GN_ (hr.mono (by decide)) co_ (pa_c (pv1 0 rfl di_) ab_))) ?g99 (aj_ ?g105)) (aj_ (aB_ (pv1 4 rfl ca_)))
   case g99=>exact ag_ (i:=8) aU_.nd rfl dm_
   case' g105=>refine' Gp_ (hf_ (ho_ (un1 hr.units) (pv1 8 rfl dm_) (pv1 3 rfl bB_))) (ac_ ?g111 (ac_ (aA_ (Gi_ Az_ AC_ AD_ az_ (pv1 4 rfl ca_) ?g128)) (aj_ (aA_ ?g145)))) aW_
   case' g111=>refine' ah_ (i:=7) aU_.nd rfl aJ_ (al_ G2_ (hr.mono (by decide)) bU_ (pa_c (aq_ (pa_c (pv1 8 rfl dm_) (pa_c GI_ ab_))) (pa_c (pv1 1 rfl dj_) ab_)))
   case' g128=>refine' pa_c (aq_ (pa_c ?g132 (pa_c ?g134 (pa_c (FG_ ap_ (pv1 7 rfl aJ_) ad_ (fun _ _=>rfl)) (pa_c (FG_ ap_ (pv1 7 rfl aJ_) ad_ (fun _ _=>rfl)) ab_))))) ab_
   case g132=>exact he_
   case g134=>exact he_
   case' g145=>refine' Gi_ BZ_ Ek_ El_ (h7_ hr.units rfl) (pv1 3 rfl bB_) (pa_c (cA_ (N':=["member"]) (ix:=[none]) rfl rfl (cB_ ?g150) (aR_ (K:=K) rfl (FG_ ap_ (pv1 7 rfl aJ_) ad_ (fun _ _=>rfl))) (fun _ _ _=>?g152) (fun _ _ _=>?g153) (fun _ _ _=>(aq_ (pa_c (pv1 0 rfl rfl) (pa_c GI_ ab_))))) ab_)
   case g150=>exact (by show Hx_ (Fy_ FE_) ["net", "goings", "starts", "passed", "trails", "place", "start", "gone", "corner"] _ _ _=true;decide +kernel)
   case g152=>exact ag_ (i:=0) (by show List.Nodup (["member"]:List Str);decide +kernel) rfl rfl
   case g153=>exact d6_
  case R =>
   nofun;refine ⟨_,N,rfl,hv,ok,po,fun d kg H1 s1 dp gi nd=>?_⟩;nofun;refine ⟨_,N,rfl,Rep.mono s1 _ hv,ok,po,fun St qs H2 s2 nSt hSt ql sa=>?_⟩;nofun;intro tl ntl;nofun;refine ⟨Ay_ _,fun D nD=>?_⟩;nofun;have tD:tl≠D:=fun z=>by rw [<-z,aa_] at nD;cases nD
   have nD2:=(Fx_.new ntl (o:=HO.dT [])).free nD;have sB:=(Fx_.new ntl (o:=HO.dT [])).trans (Fx_.new nD (o:=HO.lst []));have b1:upd (upd H2 tl (HO.dT [])) D (HO.lst []) tl=some (.dT []):=by rw [af_ tD,aa_]
   have b2:upd (upd H2 tl (HO.dT [])) D (HO.lst []) D=some (.lst []):=aa_;generalize upd (upd H2 tl (HO.dT [])) D (HO.lst [])=H3 at *;refine ⟨⟨_,.inl (.inl (sB _ _ hSt))⟩,?_⟩;refine nL_ (xs:=qs.map V.ref) (fun i σ Hy=>∃ (e5 e6 e7 e8:Option V)(ts:List Addr)(kt:List (List Key×V))(O:List (Nat×Nat×List Sd)),σ=[some v,some (.ref d),some (.ref St),some (.ref tl),some (.ref D),e5,e6,e7,e8]/\TrS N H H2 Hy tl D ts kt (opT O)/\OpL (trn N) (Pn N) i O/\O.length<=i/\∀ p,p<i->(stt (trn N) p).1∈csO O) ⟨_,_,_,_,[],[],[],rfl,TrS.begun sB b2 b1,rfl,Aj_ _,fun p hp=>absurd hp (Bm_ _)⟩ ?_ ?_ ?_
   ·rintro i σ Hy hi ⟨e5,e6,e7,e8,ts,kt,O,rfl,tS,op,ol,all⟩;exact .inl (.inl (tS.same _ _ hSt))
   ·rintro i x T0 σ Hy hx kc kb hkc hkb G hG ⟨e5,e6,e7,e8,ts,kt,O,rfl,tS,op,ol,all⟩ nT0;refine hG ?_;have hi:i<2*Pn N:=by have:=(Ae_.mp hx).1;rw [Ab_] at this;lia
    rw [Ag_] at hx;obtain ⟨q,hq,rfl⟩:=AT_.mp hx;have ic:=H1_ (T:=trn N) PT hi;nofun;have S0:=Fx_.new nT0 (o:=HO.tup [V.int i,V.ref q]);have hT0:=aa_ (H:=Hy) (a:=T0) (o:=HO.tup [V.int i,V.ref q]);generalize upd Hy T0 (HO.tup [V.int i,V.ref q])=Y0 at *;refine ⟨_,SqT.of hT0,rfl,_,_,rfl,_,_,rfl,rfl,?_⟩;have kq:Gw_ H2 q (skN N (stt (trn N) i)):=sa i q hq;have kq0:=(kq.mono tS.same).mono S0;obtain ⟨pq,hq1,hq2⟩:=id kq0;nofun;refine ⟨_,hq1,_,Gt_,_,GP_.t (k:=eK (ph N (stt (trn N) i).1)) (S0 _ _ tS.ht) hq2,?_⟩;rw [tS.seen _ ic,nf_];by_cases hc:(stt (trn N) i).1∈csO O
    ·rw [if_neg (by rw [A5_ hc];decide)];refine hkc _ _ ⟨_,_,_,_,ts,kt,O,rfl,?_,op.skip2 tw hi hc,by lia,fun p hp=>?_⟩
     ·exact tS.mono S0
     ·by_cases e:p=i
      ·rw [e];exact hc
      ·exact all p (by lia)
    ·rw [if_pos (AN_ hc)];have sy0:=(s2.trans tS.same).trans S0;nofun;refine ⟨N,q,d,kg,stt (trn N) i,rfl,ok,po,kq0,ic,dp.mono sy0,gi.mono sy0,Ki_ ok po,fun t C W z H4 xs l s4 nt nC nW CW tC tW ht hC hW es pa h0 hs ed=>?_⟩;obtain ⟨x,j,hx,ln,hz,hj,ej⟩:=pg_ ok po hi pa h0 ed;have lp:LnP (trn N) (Pn N) i l j:=⟨ln,hj,x,hx,ej⟩;have sH:=tS.mono (S0.trans s4);nofun;have hSt4:=sH.same _ _ hSt;refine ⟨.inl ⟨_,.inl (.inl sH.hD)⟩,.inl ⟨_,.inl (.inl hSt4)⟩,_,ht,_,H0_,_,_,rfl,hz.mono s4,fun q2 H5 s5 hq2'=>⟨_,s5 _ _ hSt4,LA_ ok po (j:=j) (fun i' q' hi'=>(sa i' q' hi').mono (sH.same.trans s5)) ql (by rw [<-ej];exact hq2') hj ⟨_,s5 _ _ ht,_,Gt_,_,s5 _ _ ht,_,Gy_,by decide,fun p np=>?_⟩⟩⟩;have S6:=Fx_.new np (o:=HO.tup [V.int i,V.int j,V.ref C,V.ref W]);have hp6:=aa_ (H:=H5) (a:=p) (o:=HO.tup [V.int i,V.int j,V.ref C,V.ref W]);generalize upd H5 p (HO.tup [V.int i,V.int j,V.ref C,V.ref W])=H6 at *;have s46:=s5.trans S6;have sH6:=sH.mono s46;have tl9:ts.length=O.length:=by rw [By_ tS.tr];exact Ab_ _
     refine ⟨_,sH6.hD,Fw_ (by rw [Ab_];lia),?_⟩;have s7:∀ b o,b≠D->H6 b=some o->upd H6 D (HO.lst (ts.map V.ref++[V.ref p])) b=some o:=fun b o h1 h2=>by rw [af_ h1];exact h2
     have ht7:=s7 t _ (fun z=>by rw [z,(tS.mono S0).hD] at nt;cases nt) (s46 _ _ ht);have hC7:=s7 C _ (fun z=>by rw [z,(tS.mono S0).hD] at nC;cases nC) (s46 _ _ hC);have htl7:=s7 tl _ tD sH6.ht;have WD:W≠D:=fun z=>by rw [z,(tS.mono S0).hD] at nW;cases nW
     have es7:Es (upd H6 D (HO.lst (ts.map V.ref++[V.ref p]))) N xs (cs l):=kD_ es fun b ys e=>s7 _ _ (fun z=>by rw [z,(tS.mono S0).hD] at e;cases e) ((s4.trans s46) _ _ e);have add:=fun H8=>TrS.add ok po (t:=(some (i,j),l)) (q:=p) (C:=C) (W:=W) (H5:=H8) tS ntl nD2 tD ((S0.trans s4).trans s46) hp6 (s46 _ _ hW) WD ((((s1.trans s2).trans tS.same).trans S0).free nW);generalize upd H6 D (HO.lst (ts.map V.ref++[V.ref p]))=H7 at *;have nd':(cs l).Nodup:=pa.corners (Gh_ tw) (pa.nd_first tw h0 (bx_ hi));have icl:∀ c∈cs l,IsC (trn N) (Pn N) c:=fun c hc=>let ⟨x,hx,e⟩:=a0_.mp hc;e ▸ pa.allC h0 ic x hx;have c100:=nh_ ok po nd' icl;have ktl:=tS.kto.len;rw [Ab_] at ktl;have co:=(dV_ ok).1;nofun;refine ⟨.inr (.inr (.inl (.inr ⟨_,htl7⟩))),_,ht7,_,Gt_,_,rfl,⟨_,.inl (.inl hC7)⟩,j0_ hC7 es7 c100 fun kl H8 s8 pr=>⟨_,rfl,kt,s8 _ _ htl7,_,pr,by unfold kvK;rw [Ab_,Ab_];lia,hkc _ _ ⟨_,_,_,_,ts++[p],Gj_ kt (kvK ((cs l).map (ph N))),O++[(i,j,l)],rfl,?_,op.put tw hi lp hc,by rw [Af_];exact BN_ ol,fun p' hp'=>?_⟩⟩⟩
     ·rw [show opT (O++[(i,j,l)])=opT O++[(some (i,j),l)] by unfold opT;rw [Aq_];rfl];refine add H8 s8 (fun c hc' hm=>?_) nd' (ln.shut tw (bx_ hi)) icl;obtain ⟨x',hx',rfl⟩:=a0_.mp hc';obtain ⟨k',hk'⟩:=AS_.mp hx';exact tS.sh.apart pa h0 (by rw [nf_];exact hc) k' x' hk' hm
     ·unfold csO;rw [Aq_,A4_];by_cases e:p'=i
      ·rw [e];exact An_.mpr (.inr (by simpa using lp.first))
      ·exact An_.mpr (.inl (all p' (by lia)))
   ·rintro σ Hy ⟨e5,e6,e7,e8,ts,kt,O,rfl,tS,op,ol,all⟩;nofun;rw [Ab_,ql] at op all ol;have sS:=tS.same;refine ⟨v,N,rfl,Rep.mono ((s1.trans s2).trans sS) _ hv,ok,fun D1 H3' s3' rep3=>?_⟩;have tS3:=tS.mono s3';have ol6:O.length<=12:=by lia
    have tS0:=tS;clear tS;obtain ⟨_,us,e0,hD1',hus⟩:=rep3;cases e0;obtain ⟨nD1,hD1⟩:=bq_ hD1';have ul:us.length=(Gb_ N).length:=by rw [hus.length,Ab_]
    have ephi:=fd_ po;have oln:(HL_ N).length=(Gb_ N).length:=by rw [ephi,Ab_]
    have csn:∀ b o,H3' b=some o->(Hy b=none\/b≠tl/\b≠D)->b≠tl/\b≠D:=fun b o hb h=>h.elim (fun z=>⟨fun e=>absurd (z.symm.trans (e ▸ tS0.ht)) (by simp),fun e=>absurd (z.symm.trans (e ▸ tS0.hD)) (by simp)⟩) id
    let B2:Hp:=fun b=>if b=tl then none else if b=D then none else H3' b
    have B2t:B2 tl=none:=if_pos rfl;have B2D:B2 D=none:=by show (if D=tl then none else if D=D then none else H3' D)=none;rw [if_neg tD.symm,if_pos rfl]
    have B2i:∀ b o,b≠tl->b≠D->H3' b=some o->B2 b=some o:=fun b o h1 h2 e=>by show (if b=tl then none else if b=D then none else H3' b)=_;rw [if_neg h1,if_neg h2];exact e
    have B2s:Fx_ B2 H3':=fun b o e=>by
     have e':(if b=tl then none else if b=D then none else H3' b)=some o:=e;by_cases c1:b=tl
     ·rw [if_pos c1] at e';cases e'
     ·by_cases c2:b=D
      ·rw [if_neg c1,if_pos c2] at e';cases e'
      ·rw [if_neg c1,if_neg c2] at e';exact e'
    have s2B:Fx_ H2 B2:=fun b o e=>B2i b o (ae_ e ntl) (ae_ e nD2) (s3' _ _ (sS _ _ e));have nB:∀ b o,Hm_ Hy H3' b=some o->B2 b=some o:=fun b o e=>by obtain ⟨n1,n2⟩:=bq_ e;have:=csn b o n2 (.inl n1);exact B2i b o this.1 this.2 n2
    have D1B:B2 D1=some (.lst us):=nB _ _ hD1';have usB:F0_ B2 us ((Gb_ N).map dE):=F0_.mono nB _ hus;have tS4:TrS N H B2 H3' tl D ts kt (opT O++clT []):=by show TrS N H B2 H3' tl D ts kt (opT O++[]);rw [BC_];exact ⟨B2s,tS3.hD,tS3.tr,tS3.ht,tS3.kto,tS3.seen,tS3.nd,tS3.sh,tS3.ic⟩
    clear_value B2
    refine ⟨D1,rfl,⟨_,.inl (.inl hD1)⟩,?_⟩;refine eJ_ (xs:=us) (fun i σ Hy=>∃ (e5 e6 e7 e8:Option V)(ts:List Addr)(kt:List (List Key×V))(L:List (List Sd)),σ=[some v,some (.ref d),some (.ref St),some (.ref tl),some (.ref D),e5,e6,e7,e8]/\TrS N H B2 Hy tl D ts kt (opT O++clT L)/\(∀ l∈L,ClL (trn N) (Pn N) l)/\L.length<=i/\∀ m c,m<i->(HL_ N)[m]?=some c->c∈csT (opT O++clT L)) ⟨_,_,_,_,ts,kt,[],rfl,tS4,fun l hl=>absurd hl AO_,Aj_ _,fun m c hm=>absurd hm (Bm_ _)⟩ ?_ ?_ ?_
    ·rintro i σ Hy hi ⟨e5,e6,e7,e8,ts,kt,L,rfl,tS,cl,ll,all2⟩;exact .inl (.inl (tS.same _ _ D1B))
    ·rintro i x σ Hy hx kc kb hkc hkb G hG ⟨e5,e6,e7,e8,ts,kt,L,rfl,tS,cl,ll,all2⟩;refine hG ?_;have hi:i<(Gb_ N).length:=by have:=(Ae_.mp hx).1;lia
     obtain ⟨q,hq1,hq⟩:=n1_ usB hi;rw [hq1] at hx;cases hx;have hio:i<(HL_ N).length:=by lia
     have ec:(Gb_ N)[i]=ph N (HL_ N)[i]:=by
      have:(Gb_ N)[i]?=some (ph N (HL_ N)[i]):=by rw [ephi,Ag_,Aa_ hio];rfl
      rw [Aa_ hi] at this;exact Aw_ this
     rw [ec] at hq;have ic:IsC (trn N) (Pn N) (HL_ N)[i]:=(gU_ ok po).mp (A3_ hio);have hoi:(HL_ N)[i]?=some (HL_ N)[i]:=Aa_ hio;generalize (HL_ N)[i]=c at *;have hqy:=tS.same _ _ hq;nofun;refine ⟨_,GP_.t (k:=eK (ph N c)) tS.ht hqy,?_⟩;rw [tS.seen c ic];by_cases hc:c∈csT (opT O++clT L)
     ·rw [if_neg (by rw [A5_ hc];decide)];refine hkc _ _ ⟨_,_,_,_,ts,kt,L,rfl,tS,cl,by lia,fun m c' hm hc'=>?_⟩;by_cases e:m=i
      ·rw [e,hoi] at hc';cases hc';exact hc
      ·exact all2 m c' (by lia) hc'
     ·rw [if_pos (AN_ hc)];nofun;refine ⟨by decide,fun p0 np0=>?_⟩;have S0:=Fx_.new np0 (o:=HO.tup [V.ref q,V.bl true]);have hp0:=aa_ (H:=Hy) (a:=p0) (o:=HO.tup [V.ref q,V.bl true]);generalize upd Hy p0 (HO.tup [V.ref q,V.bl true])=Y0 at *;have sy0:=((s2.trans s2B).trans tS.same).trans S0;refine ⟨N,p0,d,kg,(c,true),rfl,ok,po,⟨q,hp0,S0 _ _ hqy⟩,ic,dp.mono sy0,gi.mono sy0,Ki_ ok po,fun t C W z H4 xs l s4 nt nC nW CW tC tW ht hC hW es pa h0 hs ed=>?_⟩;have apt:=tS.sh.apart pa h0 hc
      have cll:ClL (trn N) (Pn N) l:=by
       obtain ⟨x,hx,h⟩:=ed
       rcases h with ⟨h1,_⟩|⟨h1,_⟩
       ·obtain ⟨j,hj,ej⟩:=kR_ (pa.allC h0 ic x (BI_ hx)) h1;obtain ⟨k',hk'⟩:=AS_.mp (BI_ hx);refine absurd ?_ (apt k' x hk');have:=all j hj;rw [<-ej] at this;rw [ng_];exact An_.mpr (.inl this)
       ·exact ⟨_,x,pa,h0,hx,h1⟩
      have sH:=tS.mono (S0.trans s4);have tl9:ts.length=O.length+L.length:=by rw [By_ tS.tr,Af_];unfold opT clT;rw [Ab_,Ab_]
      have co:=(dV_ ok).1;nofun;refine ⟨.inl ⟨_,.inl (.inl sH.hD)⟩,_,ht,_,Gt_,_,ht,_,Gy_,by decide,fun p np=>?_⟩;have S6:=Fx_.new np (o:=HO.tup [V.non,V.non,V.ref C,V.ref W]);have hp6:=aa_ (H:=H4) (a:=p) (o:=HO.tup [V.non,V.non,V.ref C,V.ref W]);generalize upd H4 p (HO.tup [V.non,V.non,V.ref C,V.ref W])=H6 at *;have sH6:=sH.mono S6;refine ⟨_,sH6.hD,Fw_ (by rw [Ab_];lia),?_⟩;have s7:∀ b o,b≠D->H6 b=some o->upd H6 D (HO.lst (ts.map V.ref++[V.ref p])) b=some o:=fun b o h1 h2=>by rw [af_ h1];exact h2
      have ht7:=s7 t _ (fun z=>by rw [z,(tS.mono S0).hD] at nt;cases nt) (S6 _ _ ht);have hC7:=s7 C _ (fun z=>by rw [z,(tS.mono S0).hD] at nC;cases nC) (S6 _ _ hC);have htl7:=s7 tl _ tD sH6.ht;have WD:W≠D:=fun z=>by rw [z,(tS.mono S0).hD] at nW;cases nW
      have es7:Es (upd H6 D (HO.lst (ts.map V.ref++[V.ref p]))) N xs (cs l):=kD_ es fun b ys e=>s7 _ _ (fun z=>by rw [z,(tS.mono S0).hD] at e;cases e) ((s4.trans S6) _ _ e);have add:=fun H8=>TrS.add ok po (t:=(none,l)) (q:=p) (C:=C) (W:=W) (H5:=H8) tS B2t B2D tD ((S0.trans s4).trans S6) hp6 (S6 _ _ hW) WD ((s1.trans sy0).free nW);generalize upd H6 D (HO.lst (ts.map V.ref++[V.ref p]))=H7 at *;have nd':(cs l).Nodup:=pa.corners (Gh_ tw) (pa.nodup (Gh_ tw) h0 hs);have icl:∀ c∈cs l,IsC (trn N) (Pn N) c:=fun c hc=>let ⟨x,hx,e⟩:=a0_.mp hc;e ▸ pa.allC h0 ic x hx;have c100:=nh_ ok po nd' icl;have ktl:=tS.kto.len;rw [Ab_] at ktl;have eO:opT O++clT (L++[l])=(opT O++clT L)++[(none,l)]:=by unfold clT;rw [Aq_,Bp_];rfl
      nofun;refine ⟨.inr (.inr (.inl (.inr ⟨_,htl7⟩))),_,ht7,_,Gt_,_,rfl,⟨_,.inl (.inl hC7)⟩,j0_ hC7 es7 c100 fun kl H8 s8 pr=>⟨_,rfl,kt,s8 _ _ htl7,_,pr,by unfold kvK;rw [Ab_,Ab_];lia,hkc _ _ ⟨_,_,_,_,ts++[p],Gj_ kt (kvK ((cs l).map (ph N))),L++[l],rfl,?_,fun l' hl'=>?_,by rw [Af_];exact BN_ ll,fun m c' hm hc'=>?_⟩⟩⟩
      ·rw [eO];refine add H8 s8 (fun c hc' hm=>?_) nd' ?_ icl
       ·obtain ⟨x',hx',rfl⟩:=a0_.mp hc';obtain ⟨k',hk'⟩:=AS_.mp hx';exact apt k' x' hk' hm
       ·obtain ⟨s',x',z1,z2,z3,z4⟩:=cll;exact l0_ tw z1 z2 z3 z4
      ·rcases An_.mp hl' with h|h
       ·exact cl l' h
       ·rw [Ak_.mp h];exact cll
      ·rw [eO,fO_];by_cases e:m=i
       ·rw [e,hoi] at hc';cases hc';exact An_.mpr (.inr (a0_.mpr ⟨_,Am_ h0,rfl⟩))
       ·exact An_.mpr (.inl (all2 m c' (by lia) hc'))
    ·rintro σ Hy ⟨e5,e6,e7,e8,ts,kt,L,rfl,tS,cl,ll,all2⟩;nofun;have co:=(dV_ ok).1;have tl9:ts.length=O.length+L.length:=by rw [By_ tS.tr,Af_];unfold opT clT;rw [Ab_,Ab_]
     have sF:=(s1.trans (s2.trans s2B)).trans tS.same;refine k D ts Hy O L sF ((s1.trans s2).free nD2) tS.hD tS.tr (by lia) op cl ?_ fun c=>?_
     ·rw [<-ng_];exact tS.nd
     ·rw [<-ng_];refine ⟨fun h=>?_,fun h=>tS.ic c h⟩;obtain ⟨m,hm⟩:=AS_.mp ((gU_ ok po).mpr h);have:=(Ae_.mp hm).1;exact all2 m c (by lia) hm
abbrev FK_:Stmt:=stN 11
theorem cb_:FF_ ["wires", "backwards", "begun", "start"] ["wires"] (Fy_ FK_):=⟨rfl,rfl,rfl,by rfl',rfl,by rfl',by rfl'⟩
theorem bD_:LK FK_ "wires" .local:=by rfl'
theorem cp_:LK FK_ "backwards" .local:=by rfl'
theorem bE_:LK FK_ "begun" .local:=by rfl'
theorem bl_:LK FK_ "start" .local:=by rfl'
theorem fP_:LK FK_ "len" .globalImplicit:=by rfl'
theorem fh_:LK FK_ "list" .globalImplicit:=by rfl'
theorem fQ_:LK FK_ "min" .globalImplicit:=by rfl'
theorem eP_:LK FK_ "range" .globalImplicit:=by rfl'
theorem dY_:LK FK_ "reversed" .globalImplicit:=by rfl'
def GU_:Sp:=fun vs H Q _=>∃ (W:Addr)(ws:List Str),vs=[.ref W]/\H W=some (.lst (ws.map V.str))/\ws≠[]/\ws.length<=200/\∀ l (us:List Str) H',Fx_ H H'->H l=none->H' l=some (.lst (us.map V.str))->Lst ws us->Q (.ref l) H'
structure LB (ws:List Str)(B H:Hp)(D:Addr)(ls:List Addr)(tss:List (List Str)):Prop where
 same:Fx_ B H
 hD:H D=some (.lst (ls.map V.ref))
 la:JE_ H ls tss
 len:ls.length=tss.length
 ne:∀ l∈ls,l≠D
 pm:∀ t∈tss,Rd ws t
 nw:∀ l∈ls,B l=none
theorem LB.push {ws:List Str}{B H H':Hp}{D r:Addr}{ls:List Addr}{tss:List (List Str)}{us:List Str}(h:LB ws B H D ls tss)(bD:B D=none)(s:Fx_ H H')(hr:H' r=some (.lst (us.map V.str)))(nr:H r=none)(pu:Rd ws us):LB ws B (upd H' D (.lst (ls.map V.ref++[.ref r]))) D (ls++[r]) (tss++[us]):=by
 have rD:r≠D:=fun z=>by rw [z,h.hD] at nr;cases nr
 refine ⟨fun b o e=>by rw [af_ (ae_ e bD)];exact s _ _ (h.same _ _ e),by rw [aa_,Aq_];rfl,fun i l hl=>?_,by rw [Af_,Af_,h.len];rfl,fun l hl=>?_,fun t ht=>?_,fun l hl=>?_⟩
 ·by_cases c:i<ls.length
  ·rw [Al_ c] at hl;rw [af_ (h.ne l (Am_ hl)),Ad_,Al_ (by rw [<-h.len];exact c),<-Ad_];exact s _ _ (h.la i l hl)
  ·rw [Ao_ (by lia)] at hl;have e:i-ls.length=0:=by have:=(Ae_.mp hl).1;simp only [AQ_] at this;lia
   rw [e] at hl;cases hl;rw [af_ rD,Ad_,Ao_ (by rw [<-h.len];lia),<-h.len,e];exact hr
 ·rcases An_.mp hl with hl|hl
  ·exact h.ne l hl
  ·rw [Ak_.mp hl];exact rD
 ·rcases An_.mp ht with ht|ht
  ·exact h.pm t ht
  ·rw [Ak_.mp ht];exact pu
 ·rcases An_.mp hl with hl|hl
  ·exact h.nw l hl
  ·rw [Ak_.mp hl];exact h.same.free nr
theorem hU_ (T:Txt K mg)(F:Fn0 K mg "least_round" FK_):Cal P w K mg base "least_round" ["wires"] 1 GU_:=by
 refine a1_ F cb_ (fun _ _ _ _ _ _=>byL1 fun _=>rfl) ?len ?body
 case len=>rintro vs H Q E ⟨_,a,rfl,_⟩;rfl
 case body =>
  intro f cdv A outer s0 H vs Q E hr h;obtain ⟨W,ws,rfl,hW,ne,wl,k⟩:=h;refine' ⟨_,?D,?R⟩
  case D =>
   refine' ac_ (ah_ (i:=1) cb_.nd rfl cp_ (hr_ rfl fh_ T.n_list dY_ T.n_reversed (pa_c (pv1 0 rfl bD_) ab_))) ?g2
   case' g2=>refine' ac_ (ah_ (i:=2) cb_.nd rfl bE_ (bo_ ab_)) (ai_ ?g11 (aj_ (aB_ (am_ (h8_ rfl (hr.units)) fQ_ T.n_min og_ (pa_c (pv1 2 rfl bE_) ab_)))))
   case' g11=>refine' aZ_ AA_ rfl (aC_ eP_ T.n_range (pa_c (am_ ao_ fP_ T.n_len aX_ (pa_c (pv1 0 rfl bD_) ab_)) ab_)) ?g14 (ac_ ?g22 (aj_ ?g39))
   case g14=>exact ag_ (i:=3) cb_.nd rfl bl_
   case' g22=>refine' aA_ (Gi_ Az_ AC_ AD_ az_ (pv1 2 rfl bE_) (pa_c (Fz_ fu_ (bO_ ct_ (pv1 0 rfl bD_) (cl_ (pv1 3 rfl bl_)) ?g33) (bO_ ct_ (pv1 0 rfl bD_) ?g36 (cl_ (pv1 3 rfl bl_)))) ab_))
   case g33=>exact cz_
   case g36=>exact cz_
   case' g39=>refine' aA_ (Gi_ Az_ AC_ AD_ az_ (pv1 2 rfl bE_) (pa_c (Fz_ fu_ (bO_ ct_ (pv1 1 rfl cp_) (cl_ (pv1 3 rfl bl_)) ?g49) (bO_ ct_ (pv1 1 rfl cp_) ?g52 (cl_ (pv1 3 rfl bl_)))) ab_))
   case g49=>exact cz_
   case g52=>exact cz_
  case R =>
   nofun;refine ⟨_,hW,fun B nB=>?_⟩;have S1:=Fx_.new nB (o:=HO.lst (ws.map V.str).reverse);have hB:=aa_ (H:=H) (a:=B) (o:=HO.lst (ws.map V.str).reverse);generalize upd H B (HO.lst (ws.map V.str).reverse)=H1 at *;rw [<-List.map_reverse] at hB;nofun;refine ⟨Ay_ _,fun D nD=>?_⟩;have S2:=Fx_.new nD (o:=HO.lst []);have hD:=aa_ (H:=H1) (a:=D) (o:=HO.lst []);generalize upd H1 D (HO.lst [])=H2 at *;have s12:=S1.trans S2;nofun;have wn:(ws.map V.str).length=ws.length:=Ab_ _;refine ⟨_,.inl (s12 _ _ hW),by rw [wn];lia,by rw [wn];lia,?_⟩;rw [wn,AE_];refine a3_ (fun i σ Hy=>∃ (e3:Option V)(ls:List Addr)(tss:List (List Str)),σ=[some (.ref W),some (.ref B),some (.ref D),e3]/\LB ws H1 Hy D ls tss/\ls.length=2*i/\∀ j,j<i->ws.drop j++ws.take j∈tss/\ws.reverse.drop j++ws.reverse.take j∈tss) ⟨_,[],[],rfl,⟨S2,hD,(fun i l h=>by cases h),rfl,fun l hl=>absurd hl AO_,fun t ht=>absurd ht AO_,fun l hl=>absurd hl AO_⟩,rfl,fun j hj=>absurd hj (Bm_ _)⟩ ?_ ?_
   ·rintro i σ Hy hi kc kb hkc hkb G hG ⟨e3,ls,tss,rfl,lb,ll,al⟩;refine hG ?_;rw [show (0:Int)+(i:Int)=(i:Int) by lia];have cut:∀ us:List Str,us.length=ws.length->HJ_ (us.map V.str) (some (i:Int)) none=(us.drop i).map V.str/\HJ_ (us.map V.str) none (some (i:Int))=(us.take i).map V.str:=fun us hu=>⟨by rw [iw_ _ _ (by rw [Ab_];lia),DN_],by rw [k2_ _ _ (by rw [Ab_];lia),CN_]⟩;obtain ⟨c1,c2⟩:=cut ws rfl;have hW0:=lb.same _ _ (S1 _ _ hW);obtain ⟨c3,c4⟩:=cut ws.reverse (Ba_);nofun;refine ⟨.inl ⟨_,.inl (.inl lb.hD)⟩,_,hW0,fun p1 n1=>?_⟩;rw [c1] at *;have A1a:=Fx_.new n1 (o:=HO.lst ((ws.drop i).map V.str));have g1a:=aa_ (H:=Hy) (a:=p1) (o:=HO.lst ((ws.drop i).map V.str));generalize upd Hy p1 (HO.lst ((ws.drop i).map V.str))=Y1 at *;refine ⟨_,A1a _ _ hW0,fun p2 n2=>?_⟩;rw [c2] at *;have A2a:=Fx_.new n2 (o:=HO.lst ((ws.take i).map V.str));have g2a:=A2a _ _ g1a;generalize upd Y1 p2 (HO.lst ((ws.take i).map V.str))=Y2 at *;refine ⟨_,g2a,by rw [Ab_,Ab_,BM_,Bn_];exact AJ_ (Fw_ (by (try simp only [Ba_]);lia)),fun p3 n3=>?_⟩;rw [<-Aq_] at *;have A3a:=Fx_.new n3 (o:=HO.lst ((ws.drop i++ws.take i).map V.str));have g3a:=aa_ (H:=Y2) (a:=p3) (o:=HO.lst ((ws.drop i++ws.take i).map V.str));generalize upd Y2 p3 (HO.lst ((ws.drop i++ws.take i).map V.str))=Y3 at *;have a13a:=A1a.trans (A2a.trans A3a);refine ⟨_,a13a _ _ lb.hD,Fw_ (by rw [Ab_];lia),?_⟩;have lb2:=lb.push nD a13a g3a ((A1a.trans A2a).free n3) (.inl (Jn_ ws i));generalize upd Y3 D (HO.lst (ls.map V.ref++[V.ref p3]))=Z at *;have hB2:=lb2.same _ _ hB;have ll2:(ls++[p3]).length=2*i+1:=by rw [Af_,ll];rfl
    generalize ls++[p3]=ls2 at *;have al2:ws.drop i++ws.take i∈tss++[ws.drop i++ws.take i]/\∀ t∈tss,t∈tss++[ws.drop i++ws.take i]:=⟨by simp,fun t ht=>AL_ _ ht⟩;generalize tss++[ws.drop i++ws.take i]=tss2 at *;nofun;refine ⟨.inl ⟨_,.inl (.inl lb2.hD)⟩,_,hB2,fun q1 n1=>?_⟩;rw [c3] at *;have A1b:=Fx_.new n1 (o:=HO.lst ((ws.reverse.drop i).map V.str));have g1b:=aa_ (H:=Z) (a:=q1) (o:=HO.lst ((ws.reverse.drop i).map V.str));generalize upd Z q1 (HO.lst ((ws.reverse.drop i).map V.str))=Y1 at *;refine ⟨_,A1b _ _ hB2,fun q2 n2=>?_⟩;rw [c4] at *;have A2b:=Fx_.new n2 (o:=HO.lst ((ws.reverse.take i).map V.str));have g2b:=A2b _ _ g1b;generalize upd Y1 q2 (HO.lst ((ws.reverse.take i).map V.str))=Y2 at *;refine ⟨_,g2b,by rw [Ab_,Ab_,BM_,Bn_];exact AJ_ (Fw_ (by (try simp only [Ba_]);lia)),fun q3 n3=>?_⟩;rw [<-Aq_] at *;have A3b:=Fx_.new n3 (o:=HO.lst ((ws.reverse.drop i++ws.reverse.take i).map V.str));have g3b:=aa_ (H:=Y2) (a:=q3) (o:=HO.lst ((ws.reverse.drop i++ws.reverse.take i).map V.str));generalize upd Y2 q3 (HO.lst ((ws.reverse.drop i++ws.reverse.take i).map V.str))=Y6 at *;have a13b:=A1b.trans (A2b.trans A3b);refine ⟨_,a13b _ _ lb2.hD,Fw_ (by rw [Ab_];lia),?_⟩;have lb3:=lb2.push nD a13b g3b ((A1b.trans A2b).free n3) (.inr (Jn_ ws.reverse i))
    exact hkc _ _ ⟨_,_,_,rfl,lb3,by rw [Af_,ll2];simp;lia,fun j hj=>by
     by_cases e:j=i
     ·subst e;exact ⟨AL_ _ al2.1,by simp⟩
     ·exact ⟨AL_ _ (al2.2 _ (al j (by lia)).1),AL_ _ (al2.2 _ (al j (by lia)).2)⟩⟩
   ·rintro σ Hy ⟨e3,ls,tss,rfl,lb,ll,al⟩;nofun;have nz:ws.length≠0:=fun z=>ne (AY_ z);refine ⟨ls,lb.hD,(fun z=>by rw [z] at ll;simp at ll;lia),tss,lb.la,fun i l hl le=>?_⟩;have hi:=(Ae_.mp hl).1;have mem:∀ {j:Nat},j<ls.length->tss.getD j []∈tss:=fun {j} hj=>by rw [Ad_,Aa_ (by rw [<-lb.len];exact hj)];exact A3_ _
    refine k l (tss.getD i []) Hy (S1.trans lb.same) (S1.free (lb.nw l (Am_ hl))) (lb.la i l hl) (on_ ne (mem hi) lb.pm al fun t ht=>?_);obtain ⟨j,hj,rfl⟩:=AB_.mp ht;have:=le j (by rw [lb.len];exact hj)
    rwa [Ad_,Aa_ hj] at this
theorem cN_ {α β:Type}{F:α->β->Prop}:∀ {l:List α}{m:List β}{i:Nat}{a:α},Paired F l m->l[i]?=some a->∃ b,m[i]?=some b/\F a b
 | _::_,_::_,0,_,.cons h _,e=>by cases e;exact ⟨_,rfl,h⟩
 | _::_,_::_,i+1,_,.cons _ t,e=>by obtain ⟨b,h1,h2⟩:=cN_ (i:=i) t e;exact ⟨b,h1,h2⟩
theorem hL_ {α β:Type}{F:α->β->Prop}:∀ {l:List α}{m:List β},l.length=m.length->(∀ (i:Nat) a b,l[i]?=some a->m[i]?=some b->F a b)->Paired F l m
 | [],[],_,_=>.nil
 | a::l,b::m,h,k=>.cons (k 0 a b rfl rfl) (hL_ (by simpa using h) fun i x y hx hy=>k (i+1) x y hx hy)
theorem KD_ {O:List (Nat×Nat×List Sd)}{L:List (List Sd)}{i:Nat}{t:Tr}(h:(opT O++clT L)[i]?=some t):(i<O.length/\∃ o,O[i]?=some o/\t=(some (o.1,o.2.1),o.2.2))\/(O.length<=i/\t.1=none/\L[i-O.length]?=some t.2):=by
 have ol:(opT O).length=O.length:=Ab_ _;by_cases c:i<O.length
 ·rw [Al_ (by lia)] at h;unfold opT at h;rw [Ag_,Aa_ c] at h;cases h;exact .inl ⟨c,_,Aa_ c,rfl⟩
 ·rw [Ao_ (by lia),ol] at h;unfold clT at h;rw [Ag_] at h;obtain ⟨l,h1,rfl⟩:=AT_.mp h;exact .inr ⟨by lia,rfl,h1⟩
theorem Lr_ {H0 H:Hp}{N:Net Str}{D:Addr}{ts:List Addr}{L:List Tr}(h:TrA H0 H N D ts L):∃ Wl:List Addr,Wl.length=ts.length/\∀ (i:Nat) q t,ts[i]?=some q->L[i]?=some t->∃ C W,Wl[i]?=some W/\H q=some (.tup [trF t,trL t,.ref C,.ref W])/\H W=some (.lst ((wiL (trn N) (Pn N) t.2).map V.str))/\H0 W=none:=by
 unfold TrA at h
 induction h with
 | nil=>exact ⟨[],rfl,fun i q t h=>by cases h⟩
 | @cons q t qs tts h _ ih =>
  obtain ⟨C,W,h1,h2,_,h3⟩:=h;obtain ⟨Wl,g1,g2⟩:=ih;refine ⟨W::Wl,by simp [g1],fun i q' t' hq ht=>?_⟩;cases i with
  | zero=>cases hq;cases ht;exact ⟨C,W,rfl,h1,h2,h3⟩
  | succ i=>exact g2 i q' t' hq ht
abbrev LD:=Option (Nat×Nat)×List Str
def ldF (t:LD):V:=match t.1 with|some (p,_)=>.int p|none=>.non
def ldL (t:LD):V:=match t.1 with|some (_,j)=>.int j|none=>.non
def LA (H0 H:Hp)(ts:List Addr)(ls:List LD):Prop:=Paired (fun (q:Addr)(t:LD)=>∃ W,H q=some (.tup [ldF t,ldL t,.ref W])/\H W=some (.lst (t.2.map V.str))/\H0 W=none) ts ls
def opD (T:List (List Str))(P:Nat)(O:List (Nat×Nat×List Sd)):List LD:=O.map fun t=>(some (t.1,t.2.1),wiL T P t.2.2)
def clD (uss:List (List Str)):List LD:=uss.map fun u=>(none,u)
theorem kE_:∀ {L:List (List Sd)},(∀ l∈L,l≠[])->L.length<=((L.map cs).flatten).length
 | [],_=>Ay_ _
 | l::L,h=>by have:=kE_ (L:=L) fun m hm=>h m (Ar_ _ hm);have h1:=Bx_.mpr (h l At_);rw [AG_,AP_,Af_,AZ_];have:(cs l).length=l.length:=Ab_ _;lia
theorem I4_ {N:Net Str}(ok:FS_ N)(po:FH_ N):(corners (trn N) (Pn N)).length<=40:=by
 have h:=eZ_ (T:=trn N) (P:=Pn N)
 have e:(trn N).flatten.length=N.all.length:=by
  have h1:((N.rows.map (·.1)).map (GW_ N))=N.rows.map (·.2):=by rw [Bf_];exact Bw_ fun r hr=>b3_ ok hr
  have h2:=(ef_ ((gT_ ok po).map (GW_ N))).length_eq;rw [h1] at h2;exact h2
 have h3:=ok.tot;have h5:Pn N<=6:=ok.pl;lia
def Pt (zs:List Addr)(i:Nat)(vs:List V)(H:Hp):Prop:=∃ qs:List Addr,vs=qs.map V.ref/\qs.length=i/\∀ (k:Nat) q,qs[k]?=some q->∃ W,zs[k]?=some W/\H q=some (.tup [.non,.non,.ref W])
def Pj (O:List (Nat×Nat×List Sd))(Wl:List Addr)(i:Nat)(vs:List V)(H:Hp):Prop:=∃ ts:List Addr,vs=ts.map V.ref/\ts.length=min i O.length/\∀ (k:Nat) q,ts[k]?=some q->∃ o W,O[k]?=some o/\Wl[k]?=some W/\H q=some (.tup [.int o.1,.int o.2.1,.ref W])
def Pc (H0:Hp)(T:List (List Str))(P:Nat)(L:List (List Sd))(n i:Nat)(vs:List V)(H:Hp):Prop:=∃ (ls:List Addr)(uss:List (List Str)),vs=ls.map V.ref/\ls.length=i-n/\ls.length=uss.length/\JE_ H ls uss/\(∀ l∈ls,H0 l=none)/\uss=((L.take (i-n)).map fun l=>lw (wiL T P l))/\∀ l∈L.take (i-n),∃ u,Lst (wiL T P l) u
abbrev FW_:Stmt:=stN 12
theorem dZ_:FF_ ["net", "trails", "joining", "closed"] ["net"] (Fy_ FW_):=⟨rfl,rfl,rfl,by rfl',rfl,by rfl',by rfl'⟩
theorem iX_:LK FW_ "net" .local:=by rfl'
theorem d0_:LK FW_ "trails" .local:=by rfl'
theorem fR_:LK FW_ "joining" .local:=by rfl'
theorem fS_:LK FW_ "closed" .local:=by rfl'
theorem fT_:LK FW_ "sorted" .globalImplicit:=by rfl'
theorem ew_:LK FW_ "trails_of" .globalImplicit:=by rfl'
def Ih_:Sp:=fun vs H Q _=>∃ (v:V)(N:Net Str),vs=[v]/\Rep H v (HS_ N)/\FS_ N/\FH_ N/\∀ D (ts:List Addr) (uss:List (List Str)) H' (O:List (Nat×Nat×List Sd)) (L:List (List Sd)),Fx_ H H'->H D=none->H' D=some (.lst (ts.map V.ref))->LA H H' ts (opD (trn N) (Pn N) O++clD uss)->ts.length<=200->OpL (trn N) (Pn N) (2*Pn N) O->(∀ l∈L,ClL (trn N) (Pn N) l)->(csO O++(L.map cs).flatten).Nodup->(∀ c,IsC (trn N) (Pn N) c ↔ c∈csO O++(L.map cs).flatten)->(∀ l∈L,∃ u,Lst (wiL (trn N) (Pn N) l) u)->uss.Perm (L.map fun l=>lw (wiL (trn N) (Pn N) l))->uss.Pairwise (fun x y=>Gx_ y x=false)->Q (.ref D) H'
theorem kF_ (T:Txt K mg)(F:Fn0 K mg "lines_of" FW_) (H5_:Cal P w K mg base "trails_of" ["net"] 4 Hw_) (Hi_:Cal P w K mg base "least_round" ["wires"] 1 GU_):Cal P w K mg base "lines_of" ["net"] 5 Ih_:=by
 refine a1_ F dZ_ (fun _ _ _ _ _ _=>byL1 fun _=>rfl) ?len ?body
 case len=>rintro vs H Q E ⟨_,a,rfl,_⟩;rfl
 case body =>
  intro f cdv A outer s0 H vs Q E hr h;obtain ⟨v,N,rfl,hv,ok,po,k⟩:=h;refine' ⟨_,?D,?R⟩
  case D =>
   refine' ac_ (ah_ (i:=1) dZ_.nd rfl d0_ (al_ H5_ (hr.mono (by decide)) ew_ (pa_c (pv1 0 rfl iX_) ab_))) ?g2
   case' g2=>refine' ac_ ?g7 (ac_ ?g33 (aj_ (aB_ (Fz_ fu_ (pv1 2 rfl fR_) ?g58))))
   case' g7=>refine' it_ (i:=2) (N':=["first", "last", "corners", "wires"]) (ix:=[none,none,none,none]) rfl rfl dZ_.nd rfl fR_ rfl (cB_ ?g9) (aR_ (K:=K) rfl (pv1 1 rfl d0_)) (fun _ _ _=>?g11) (fun _ _ _=>(mm_ (hf_ (oH_ (pv1 0 rfl rfl))))) (fun _ _ _=>(aq_ (pa_c (pv1 0 rfl rfl) (pa_c (pv1 1 rfl rfl) (pa_c (pv1 3 rfl rfl) ab_)))))
   case g9=>exact (by show Hx_ (Fy_ FW_) ["net", "trails", "joining", "closed"] _ _ _=true;decide +kernel)
   case' g11=>refine' aS_ (K:=K) (n:=4) rfl rfl (ak_ ?g16 (ak_ ?g18 (ak_ ?g20 (ak_ ?g22 aQ_))))
   case g16=>exact ag_ (i:=0) (by show List.Nodup (["first", "last", "corners", "wires"]:List Str);decide +kernel) rfl rfl
   case g18=>exact ag_ (i:=1) (by show List.Nodup (["first", "last", "corners", "wires"]:List Str);decide +kernel) rfl rfl
   case g20=>exact ag_ (i:=2) (by show List.Nodup (["first", "last", "corners", "wires"]:List Str);decide +kernel) rfl rfl
   case g22=>exact ag_ (i:=3) (by show List.Nodup (["first", "last", "corners", "wires"]:List Str);decide +kernel) rfl rfl
   case' g33=>refine' it_ (i:=3) (N':=["first", "last", "corners", "wires"]) (ix:=[none,none,none,none]) rfl rfl dZ_.nd rfl fS_ rfl (cB_ ?g35) (aR_ (K:=K) rfl (pv1 1 rfl d0_)) (fun _ _ _=>?g37) (fun _ _ _=>(mm_ (hf_ (ps_ (pv1 0 rfl rfl))))) (fun _ _ _=>(al_ Hi_ (hr.mono (by decide)) rfl (pa_c (pv1 3 rfl rfl) ab_)))
   case g35=>exact (by show Hx_ (Fy_ FW_) ["net", "trails", "joining", "closed"] _ _ _=true;decide +kernel)
   case' g37=>refine' aS_ (K:=K) (n:=4) rfl rfl (ak_ ?g42 (ak_ ?g44 (ak_ ?g46 (ak_ ?g48 aQ_))))
   case g42=>exact ag_ (i:=0) (by show List.Nodup (["first", "last", "corners", "wires"]:List Str);decide +kernel) rfl rfl
   case g44=>exact ag_ (i:=1) (by show List.Nodup (["first", "last", "corners", "wires"]:List Str);decide +kernel) rfl rfl
   case g46=>exact ag_ (i:=2) (by show List.Nodup (["first", "last", "corners", "wires"]:List Str);decide +kernel) rfl rfl
   case g48=>exact ag_ (i:=3) (by show List.Nodup (["first", "last", "corners", "wires"]:List Str);decide +kernel) rfl rfl
   case' g58=>refine' cA_ (N':=["wires"]) (ix:=[none]) rfl rfl (cB_ ?g59) (aR_ (K:=K) rfl (am_ (lE_ (hr.units)) fT_ T.n_sorted fw_ (pa_c (pv1 3 rfl fS_) ab_))) (fun _ _ _=>?g61) (fun _ _ _=>?g62) (fun _ _ _=>(aq_ (pa_c ?g69 (pa_c ?g71 (pa_c (pv1 0 rfl rfl) ab_)))))
   case g59=>exact (by show Hx_ (Fy_ FW_) ["net", "trails", "joining", "closed"] _ _ _=true;decide +kernel)
   case g61=>exact ag_ (i:=0) (by show List.Nodup (["wires"]:List Str);decide +kernel) rfl rfl
   case g62=>exact d6_
   case g69=>exact he_
   case g71=>exact he_
  case R =>
   nofun;refine ⟨_,N,rfl,hv,ok,po,fun D ts H1 O L s1 nD hD tra t200 op cl nd all=>?_⟩;nofun;have tl:ts.length=O.length+L.length:=by rw [By_ tra,Af_];unfold opT clT;rw [Ab_,Ab_]
   obtain ⟨Wl,wl,wh⟩:=Lr_ tra;refine ⟨⟨_,.inl (.inl hD)⟩,?_⟩;refine ei_ (n:=ts.length) (Pσ:=fun σ=>∃ a b c e,σ=[a,b,c,e]) (Pj O Wl) ⟨_,_,_,_,rfl⟩ (by lia) ⟨[],rfl,by simp,(fun k q h=>by cases h)⟩ (fun i vs H1 H2 s ⟨ts,z1,z2,z3⟩=>⟨ts,z1,z2,fun k q hq=>let ⟨o,W,y1,y2,y3⟩:=z3 k q hq;⟨o,W,y1,y2,s _ _ y3⟩⟩) (fun i vs H1 ⟨ts,z1,z2,z3⟩=>by rw [z1,Ab_,z2];exact Nat.min_le_left _ _) (fun j Hj hj sj=>⟨_,.ref (ts[j]),.inl (.inl (sj _ _ hD)),by simp [hj]⟩) (fun Hj sj=>⟨_,.inl (.inl (sj _ _ hD)),by simp⟩) ?_ ?_
   ·rintro Dc i x σ' H2 H2' vs nDc ⟨od,hDc⟩ s2 hi ⟨rfl,hy⟩ ⟨a,b,c,e,rfl⟩ ⟨ts',rfl,tl',all'⟩ Y R kY kR;have hx:=hy _ (.inl (.inl (s2 _ _ hD)));rw [Ag_,Aa_ hi] at hx;cases hx;obtain ⟨t,ht,_⟩:=cN_ tra (Aa_ hi);obtain ⟨C,W,hWl,hq,hW,_⟩:=wh i _ t (Aa_ hi) ht;nofun;refine ⟨_,SqT.of (s2 _ _ hq),rfl,_,_,rfl,_,_,rfl,_,_,rfl,_,_,rfl,rfl,?_⟩
    rcases KD_ ht with ⟨c,o,ho,rfl⟩|⟨c,e,_⟩
    ·rw [if_pos (by simp [trF])];refine ⟨by decide,fun r nr=>kY _ _ _ ⟨_,_,_,_,rfl⟩ (Fx_.new nr) ⟨ts'++[r],by rw [Aq_];rfl,by rw [Af_,tl'];simp;lia,fun k' q hq'=>?_⟩⟩;have rD:r≠Dc:=(ae_ hDc nr).symm;by_cases ck:k'<ts'.length
     ·rw [Al_ ck] at hq';obtain ⟨o',W',y1,y2,z⟩:=all' k' q hq';exact ⟨o',W',y1,y2,gX_ (Fx_.new nr) _ _ z⟩
     ·rw [Ao_ (by lia)] at hq';have e0:k'-ts'.length=0:=by have:=(Ae_.mp hq').1;simp only [AQ_] at this;lia
      rw [e0] at hq';cases hq';have ki:k'=i:=by lia
      rw [ki];exact ⟨o,W,ho,hWl,by rw [jq_ rD];exact aa_⟩
    ·have ef:trF t=.non:=by unfold trF;rw [e]
     rw [ef,if_neg (by simp)];exact kR _ _ ⟨_,_,_,_,rfl⟩ (Fx_.refl _) ⟨ts',rfl,by rw [tl'];lia,all'⟩
   ·rintro J H2 vs nJ s2 hJ ⟨js,rfl,jl,jall⟩;have jl':js.length=O.length:=by rw [jl];lia
    nofun;refine ⟨⟨_,.inl (.inl (s2 _ _ hD))⟩,?_⟩;refine ei_ (n:=ts.length) (Pσ:=fun σ=>∃ a b c e,σ=[a,b,c,e]) (Pc H (trn N) (Pn N) L O.length) ⟨_,_,_,_,rfl⟩ (by lia) ⟨[],[],rfl,by simp,rfl,(fun i l h=>by cases h),fun l hl=>absurd hl AO_,by simp,by simp⟩ (fun i vs H1 H2 s ⟨ls,uss,z1,z2,z3,z4,z5⟩=>⟨ls,uss,z1,z2,z3,fun i l hl=>s _ _ (z4 i l hl),z5⟩) (fun i vs H1 ⟨ls,uss,z1,z2,_⟩=>by rw [z1,Ab_,z2];lia) (fun j Hj hj sj=>⟨_,.ref (ts[j]),.inl (.inl ((s2.trans sj) _ _ hD)),by simp [hj]⟩) (fun Hj sj=>⟨_,.inl (.inl ((s2.trans sj) _ _ hD)),by simp⟩) ?_ ?_
    ·rintro Dc i x σ' H3 H3' vs nDc ⟨od,hDc⟩ s3 hi ⟨rfl,hy⟩ ⟨a,b,c,e,rfl⟩ ⟨ls,uss,rfl,ll,lu,la,ln0,pm,ex⟩ Y R kY kR;have s23:=s2.trans s3;have hx:=hy _ (.inl (.inl (s23 _ _ hD)));rw [Ag_,Aa_ hi] at hx;cases hx;obtain ⟨t,ht,_⟩:=cN_ tra (Aa_ hi);obtain ⟨C,W,hWl,hq,hW,_⟩:=wh i _ t (Aa_ hi) ht;nofun;refine ⟨_,SqT.of (s23 _ _ hq),rfl,_,_,rfl,_,_,rfl,_,_,rfl,_,_,rfl,rfl,?_⟩
     rcases KD_ ht with ⟨c,o,ho,rfl⟩|⟨c,e,hL⟩
     ·rw [if_neg (by simp [trF])];exact kR _ _ ⟨_,_,_,_,rfl⟩ (Fx_.refl _) ⟨ls,uss,rfl,by lia,lu,la,ln0,by rw [show i+1-O.length=i-O.length by lia];exact ⟨pm,ex⟩⟩
     ·have ef:trF t=.non:=by unfold trF;rw [e]
      rw [ef,if_pos rfl];have lm:=Am_ hL;obtain ⟨s',x',z1,z2,z3,z4⟩:=cl _ lm;have ndl:(cs t.2).Nodup:=((AK_.mp nd).2.1.sublist (CF_ (Ap_.mpr ⟨_,lm,rfl⟩)));have l100:=nh_ ok po ndl fun c hc=>(all c).mpr (An_.mpr (.inr (BF_.mpr ⟨_,Ap_.mpr ⟨_,lm,rfl⟩,hc⟩)));have wl:(wiL (trn N) (Pn N) t.2).length<=100:=AM_ (BA_ _ _) (by unfold cs at l100;rwa [Ab_] at l100);have wne:wiL (trn N) (Pn N) t.2≠[]:=fun z=>by obtain ⟨w',hw,_⟩:=Jo_ z4;have:w'∈wiL (trn N) (Pn N) t.2:=Cb_.mpr ⟨x',BI_ z3,hw⟩;rw [z] at this;cases this
      refine ⟨W,_,rfl,s23 _ _ hW,wne,by lia,fun l us H4 s4 nl hl pu=>kY _ _ _ ⟨_,_,_,_,rfl⟩ s4 ⟨ls++[l],uss++[us],by rw [Aq_];rfl,by rw [Af_,ll];simp;lia,by rw [Af_,Af_,lu];rfl,fun k' l' hl'=>?_,fun l' hl'=>?_,?_⟩⟩
      ·have lD:l≠Dc:=(ae_ hDc nl).symm;by_cases ck:k'<ls.length
       ·rw [Al_ ck] at hl';rw [Ad_,Al_ (by rw [<-lu];exact ck),<-Ad_];exact gX_ s4 _ _ (la k' l' hl')
       ·rw [Ao_ (by lia)] at hl';have e0:k'-ls.length=0:=by have:=(Ae_.mp hl').1;simp only [AQ_] at this;lia
        rw [e0] at hl';cases hl';rw [jq_ lD,Ad_,Ao_ (by rw [<-lu];lia),<-lu,e0];exact hl
      ·rcases An_.mp hl' with h|h
       ·exact ln0 _ h
       ·rw [Ak_.mp h];exact (s1.trans s23).free nl
      ·rw [show i+1-O.length=(i-O.length)+1 by lia,BO_,hL,Aq_,pm];refine ⟨by rw [<-I1_ pu];rfl,fun l' hl'=>?_⟩
       rcases An_.mp hl' with h|h
       ·exact ex _ h
       ·rw [Ak_.mp h];exact ⟨us,pu⟩
    ·rintro Cd H3 vs nCd s3 hCd ⟨ls,uss,rfl,ll,lu,la,ln0,pm,ex⟩;rw [show ts.length-O.length=L.length by lia,C3_] at pm ex;have ll':ls.length=L.length:=by lia
     nofun
     have l64:L.length<=40:=by
      have h1:=kE_ (L:=L) fun l hl z=>by obtain ⟨s',x',z1,z2,z3,z4⟩:=cl l hl;rw [z] at z2;cases z2
      have h2:=bJ_ (l:=(L.map cs).flatten) (m:=corners (trn N) (Pn N)) (AK_.mp nd).2.1 fun c hc=>bp_.mpr ((all c).mpr (An_.mpr (.inr hc)));have h3:=I4_ ok po;lia
     refine ⟨ls,hCd,uss,lu,by lia,fun i l hl=>k3_ _ _ (la i l hl),fun Z zs uss2 nZ zl zin za zp srt=>?_⟩;have S4:=Fx_.new nZ (o:=HO.lst (zs.map V.ref));have hZ:=aa_ (H:=H3) (a:=Z) (o:=HO.lst (zs.map V.ref));generalize upd H3 Z (HO.lst (zs.map V.ref))=H4 at *;have zl40:zs.length=L.length:=by rw [zl,zp.length_eq,<-lu,ll']
     refine ⟨⟨_,.inl (.inl hZ)⟩,?_⟩;refine ei_ (n:=zs.length) (Pσ:=fun σ=>∃ a,σ=[a]) (Pt zs) ⟨_,rfl⟩ (by lia) ⟨[],rfl,rfl,(fun k q h=>by cases h)⟩ (fun i vs H1 H2 s ⟨qs,z1,z2,z3⟩=>⟨qs,z1,z2,fun k q hq=>let ⟨W,y1,y2⟩:=z3 k q hq;⟨W,y1,s _ _ y2⟩⟩) (fun i vs H1 ⟨qs,z1,z2,_⟩=>by rw [z1,Ab_,z2];exact Aj_ _) (fun j Hj hj sj=>⟨_,.ref (zs[j]),.inl (.inl (sj _ _ hZ)),by simp [hj]⟩) (fun Hj sj=>⟨_,.inl (.inl (sj _ _ hZ)),by simp⟩) ?_ ?_
     ·rintro Dc i x σ' H5 H5' vs nDc ⟨od,hDc⟩ s5 hi ⟨rfl,hy⟩ ⟨a,rfl⟩ ⟨qs,rfl,ql,qa⟩ Y R kY kR;have hx:=hy _ (.inl (.inl (s5 _ _ hZ)));rw [Ag_,Aa_ hi] at hx;cases hx;nofun;refine ⟨by decide,fun r nr=>kY _ _ _ ⟨_,rfl⟩ (Fx_.new nr) ⟨qs++[r],by rw [Aq_];rfl,by rw [Af_,ql];rfl,fun k' q hq=>?_⟩⟩;have rD:r≠Dc:=(ae_ hDc nr).symm;by_cases ck:k'<qs.length
      ·rw [Al_ ck] at hq;obtain ⟨W,y1,y2⟩:=qa k' q hq;exact ⟨W,y1,gX_ (Fx_.new nr) _ _ y2⟩
      ·rw [Ao_ (by lia)] at hq;have e0:k'-qs.length=0:=by have:=(Ae_.mp hq).1;simp only [AQ_] at this;lia
       rw [e0] at hq;cases hq;refine ⟨zs[i],by rw [show k'=i by lia];exact Aa_ hi,?_⟩;rw [jq_ rD];exact aa_
     ·rintro R0 H5 vs nR s5 hR ⟨qs,rfl,ql,qa⟩;have s35:=S4.trans s5;have s25:=s3.trans s35;refine ⟨R0,rfl,_,s25 _ _ hJ,_,hR,by rw [Ab_,Ab_];exact AJ_ (Fw_ (by lia)),fun p np=>?_⟩;have s6:=Fx_.new np (o:=HO.lst (js.map V.ref++qs.map V.ref));have h6:=aa_ (H:=H5) (a:=p) (o:=HO.lst (js.map V.ref++qs.map V.ref));generalize upd H5 p (HO.lst (js.map V.ref++qs.map V.ref))=H6 at *;have sall:=s1.trans (s2.trans s25);have ol:(opD (trn N) (Pn N) O).length=O.length:=Ab_ _;have ul:(clD uss2).length=uss2.length:=Ab_ _;refine k p (js++qs) uss2 H6 O L (sall.trans s6) (sall.free np) (by rw [h6,Aq_]) (hL_ (by rw [Af_,Af_,jl',ql,zl,ol,ul]) fun i q t hq ht=>?_) (by rw [Af_];lia) op cl nd all ex (by rw [<-pm];exact zp) srt;by_cases c:i<js.length
      ·rw [Al_ c] at hq;rw [Al_ (by lia)] at ht;obtain ⟨o,W,y1,y2,z⟩:=jall i q hq;unfold opD at ht;rw [Ag_,y1] at ht;cases ht;have ht1:(opT O++clT L)[i]?=some (some (o.1,o.2.1),o.2.2):=by have ol:(opT O).length=O.length:=Ab_ _;rw [Al_ (by lia)];unfold opT;rw [Ag_,y1];rfl
       obtain ⟨C,W',x1,x2,x3,x4⟩:=wh i _ _ (Aa_ (show i<ts.length by lia)) ht1;rw [y2] at x1;cases x1;exact ⟨W,(s25.trans s6) _ _ (k3_ _ _ z),(s2.trans (s25.trans s6)) _ _ x3,x4⟩
      ·rw [Ao_ (by lia),show i-js.length=i-O.length by lia] at hq;rw [Ao_ (by lia),ol] at ht;obtain ⟨W,y1,y2⟩:=qa _ q hq;unfold clD at ht;rw [Ag_] at ht;obtain ⟨u,hu,rfl⟩:=AT_.mp ht;have:=za _ W y1;rw [Ad_,hu] at this;exact ⟨W,s6 _ _ (k3_ _ _ y2),(s35.trans s6) _ _ this,ln0 _ (zin _ (Am_ y1))⟩
abbrev FO_:Stmt:=stN 30
theorem bS_:FF_ ["_law_row", "_law_rounds", "_law_one"] ["_law_row"] (Fy_ FO_):=⟨rfl,rfl,rfl,by rfl',rfl,by rfl',by rfl'⟩
theorem dx_:LK FO_ "_law_row" .local:=by rfl'
theorem bv_:LK FO_ "_law_rounds" .local:=by rfl'
theorem dy_:LK FO_ "_law_one" .cell:=by rfl'
theorem fi_:LK FO_ "len" .globalImplicit:=by rfl'
theorem fj_:LK FO_ "min" .globalImplicit:=by rfl'
theorem ex_:LK FO_ "range" .globalImplicit:=by rfl'
theorem hM_ (T:Txt K mg)(F:Fn0 K mg "_law_least_round" FO_):Cal P w K mg base "_law_least_round" ["_law_row"] 1 GU_:=by
 refine a1_ F bS_ (fun _ _ _ _ _ _=>byL1 fun _=>rfl) ?len ?body
 case len=>rintro vs H Q E ⟨_,a,rfl,_⟩;rfl
 case body =>
  intro f cdv A outer s0 H vs Q E hr h;obtain ⟨W,ws,rfl,hW,ne,wl,k⟩:=h;refine' ⟨_,?D,?R⟩
  case D =>
   refine' ac_ (ah_ (i:=1) bS_.nd rfl bv_ (bo_ ab_)) (ai_ ?g5 (aj_ (aB_ (am_ (h8_ rfl (hr.units)) fj_ T.n_min og_ (pa_c (pv1 1 rfl bv_) ab_)))))
   case' g5=>refine' aZ_ AA_ rfl (oS_ (K:=K) rfl (aq_ (pa_c (pv1 0 rfl dx_) (pa_c (pO_ (pv1 0 rfl dx_) (cl_ (Lp_ pA_ ad_))) ab_)))) ?g8 ?g9
   case g8=>exact eH_ (i:=2) bS_.nd rfl dy_ rfl
   case' g9=>refine' aj_ (ah_ (i:=1) bS_.nd rfl bv_ (Fz_ fu_ (pv1 1 rfl bv_) (cA_ (N':=["_law_k", "_law_one"]) (ix:=[none,some 2]) rfl rfl (cB_ ?g23) (aC_ ex_ T.n_range (pa_c (am_ ao_ fi_ T.n_len aX_ (pa_c (pvc 2 rfl dy_) ab_)) ab_)) (fun _ _ _=>?g25) (fun _ _ _=>?g26) (fun _ _ _=>?g27))))
   case g23=>exact (by show Hx_ (Fy_ FO_) ["_law_row", "_law_rounds", "_law_one"] _ _ _=true;decide +kernel)
   case g25=>exact ag_ (i:=0) (by show List.Nodup (["_law_k", "_law_one"]:List Str);decide +kernel) rfl rfl
   case g26=>exact d6_
   case' g27=>refine' Fz_ fu_ (bO_ ct_ (pvc 1 rfl rfl) (cl_ (pv1 0 rfl rfl)) ?g38) (bO_ ct_ (pvc 1 rfl rfl) ?g41 (cl_ (pv1 0 rfl rfl)))
   case g38=>exact cz_
   case g41=>exact cz_
  case R =>
   nofun;refine ⟨Ay_ _,fun D nD=>?_⟩;have S2:=Fx_.new nD (o:=HO.lst []);have hD:=aa_ (H:=H) (a:=D) (o:=HO.lst []);generalize upd H D (HO.lst [])=H2 at *;nofun;unfold LN_;nofun;refine ⟨_,S2 _ _ hW,fun R nR=>⟨by decide,fun p np=>⟨⟨_,SqT.of aa_⟩,?_⟩⟩⟩;rw [<-List.map_reverse] at *;have S3:=Fx_.new nR (o:=HO.lst (ws.reverse.map V.str));have hR:=aa_ (H:=H2) (a:=R) (o:=HO.lst (ws.reverse.map V.str));generalize upd H2 R (HO.lst (ws.reverse.map V.str))=H3 at *;have S4:=Fx_.new np (o:=HO.tup [V.ref W,V.ref R]);have hp:=aa_ (H:=H3) (a:=p) (o:=HO.tup [V.ref W,V.ref R]);generalize upd H3 p (HO.tup [V.ref W,V.ref R])=H4 at *;have s34:=S3.trans S4;have s24:=S2.trans s34;refine o6_ (xs:=[V.ref W,V.ref R]) (fun t σ Hy=>∃ (e2:Option V)(Rl:Addr)(ls:List Addr)(tss:List (List Str)),σ=[some (.ref W),some (.ref Rl),e2]/\Fx_ H4 Hy/\Hy Rl=some (.lst (ls.map V.ref))/\JE_ Hy ls tss/\ls.length=tss.length/\ls.length=t*ws.length/\(∀ l∈ls,H l=none)/\(∀ u∈tss,Rd ws u)/\(1<=t->∀ j,j<ws.length->ws.drop j++ws.take j∈tss)/\(2<=t->∀ j,j<ws.length->ws.reverse.drop j++ws.reverse.take j∈tss)) ⟨_,D,[],[],rfl,Fx_.refl _,s34 _ _ hD,(fun i l h=>by cases h),rfl,by simp,fun l hl=>absurd hl AO_,fun u hu=>absurd hu AO_,fun h=>absurd h (by decide),fun h=>absurd h (by decide)⟩ ?_ ?_ ?_
   ·rintro t σ Hy ht ⟨e2,Rl,ls,tss,rfl,sy,_⟩;exact SqT.of (sy _ _ hp)
   ·rintro t x σ Hy hx kc kb hkc hkb G hG ⟨e2,Rl,ls,tss,rfl,sy,hRl,la,lt,ll,ln,rd,a1,a2⟩;refine hG ?_
    obtain ⟨X,us,rfl,hX,ul,rdu,t2,ea,eb⟩:∃ (X:Addr)(us:List Str),x=.ref X/\Hy X=some (.lst (us.map V.str))/\us.length=ws.length/\(∀ j,Rd ws (us.drop j++us.take j))/\t<=1/\(t=0->us=ws)/\(t=1->us=ws.reverse):=by
     match t,hx with
     | 0,hx=>cases hx;exact ⟨W,ws,rfl,sy _ _ (s24 _ _ hW),rfl,fun j=>.inl (Jn_ ws j),by decide,fun _=>rfl,fun h=>by cases h⟩
     | 1,hx=>cases hx;exact ⟨R,ws.reverse,rfl,sy _ _ (S4 _ _ hR),Ba_,fun j=>.inr (Jn_ _ j),by decide,(fun h=>by cases h),fun _=>rfl⟩
    nofun;have um:(us.map V.str).length=us.length:=Ab_ _;refine ⟨_,.inl hX,by rw [um];lia,by rw [um];lia,?_⟩;rw [um,AE_];refine ei_ (n:=us.length) (Pσ:=fun σ=>∃ a,σ=[a,some (.ref X)]) (fun i vs Hc=>∃ ls2:List Addr,vs=ls2.map V.ref/\ls2.length=i/\(∀ l∈ls2,Hy l=none)/\∀ (j:Nat) l,ls2[j]?=some l->Hc l=some (.lst ((us.drop j++us.take j).map V.str))) ⟨_,rfl⟩ (by lia) ⟨[],rfl,rfl,fun l hl=>absurd hl AO_,(fun j l h=>by cases h)⟩ (fun i vs H1 H2 s ⟨ls2,z1,z2,z3,z4⟩=>⟨ls2,z1,z2,z3,fun j l hl=>s _ _ (z4 j l hl)⟩) (fun i vs H1 ⟨ls2,z1,z2,_⟩=>by rw [z1,Ab_,z2];exact Aj_ _) (fun j Hj hj sj=>hj) (fun Hj sj=>Aj_ _) ?_ ?_
    ·rintro Dc i x σ' H5 H5' vs nDc ⟨od,hDc⟩ s5 hi ⟨rfl,rfl⟩ ⟨a,rfl⟩ ⟨ls2,rfl,l2,l3,l4⟩ Y R' kY kR;rw [show (0:Int)+(i:Int)=(i:Int) by lia];have c1:HJ_ (us.map V.str) (some (i:Int)) none=(us.drop i).map V.str:=by rw [iw_ _ _ (by rw [Ab_];lia),DN_]
     have c2:HJ_ (us.map V.str) none (some (i:Int))=(us.take i).map V.str:=by rw [k2_ _ _ (by rw [Ab_];lia),CN_]
     nofun;have hX5:=s5 _ _ hX;refine ⟨_,hX5,fun p1 n1=>?_⟩;rw [c1] at *;have A1:=Fx_.new n1 (o:=HO.lst ((us.drop i).map V.str));have g1:=aa_ (H:=H5') (a:=p1) (o:=HO.lst ((us.drop i).map V.str));generalize upd H5' p1 (HO.lst ((us.drop i).map V.str))=Y1 at *;refine ⟨_,A1 _ _ hX5,fun p2 n2=>?_⟩;rw [c2] at *;have A2:=Fx_.new n2 (o:=HO.lst ((us.take i).map V.str));have g2:=A2 _ _ g1;generalize upd Y1 p2 (HO.lst ((us.take i).map V.str))=Y2 at *;refine ⟨_,g2,by rw [Ab_,Ab_,BM_,Bn_];exact AJ_ (Fw_ (by lia)),fun p3 n3=>?_⟩;rw [<-Aq_];have a12:=A1.trans A2;have n3':=a12.free n3;have pD:p3≠Dc:=(ae_ hDc n3').symm;refine kY _ _ _ ⟨_,rfl⟩ (a12.trans (Fx_.new n3)) ⟨ls2++[p3],by rw [Aq_];rfl,by rw [Af_,l2];rfl,fun l hl=>?_,fun j l hl=>?_⟩
     ·rcases An_.mp hl with h|h
      ·exact l3 l h
      ·rw [Ak_.mp h];exact s5.free n3'
     ·by_cases ck:j<ls2.length
      ·rw [Al_ ck] at hl;exact gX_ (a12.trans (Fx_.new n3)) _ _ (l4 j l hl)
      ·rw [Ao_ (by lia)] at hl;have e0:j-ls2.length=0:=by have:=(Ae_.mp hl).1;simp only [AQ_] at this;lia
       rw [e0] at hl;cases hl;rw [jq_ pD,show j=i by lia];exact aa_
    ·rintro C H5 vs nC s5 hC ⟨ls2,rfl,l2,l3,l4⟩;refine ⟨C,rfl,_,s5 _ _ hRl,_,hC,by rw [Ab_,Ab_,ll,l2];exact AJ_ (Fw_ (by have:t*ws.length<=1*ws.length:=Nat.mul_le_mul_right _ t2;lia)),fun p' np'=>hkc _ _ ⟨_,p',ls++ls2,tss++(List.range us.length).map (fun j=>us.drop j++us.take j),rfl,sy.trans (s5.trans (Fx_.new np')),by rw [aa_,Aq_],fun i l hl=>?_,?_,?_,fun l hl=>?_,fun u hu=>?_,fun h j hj=>?_,fun h j hj=>?_⟩⟩
     ·have Sn:=Fx_.new np' (o:=HO.lst (ls.map V.ref++ls2.map V.ref));by_cases ck:i<ls.length
      ·rw [Al_ ck] at hl;rw [Ad_,Al_ (by lia),<-Ad_];exact Sn _ _ (s5 _ _ (la i l hl))
      ·rw [Ao_ (by lia)] at hl;have hj:=(Ae_.mp hl).1;rw [Ad_,Ao_ (by lia),<-lt,Ag_,B2_ (by lia)];exact Sn _ _ (k3_ _ _ (l4 _ l hl))
     ·rw [Af_,Af_,lt,Ab_,Bl_,l2]
     ·rw [Af_,ll,l2,ul,Nat.succ_mul]
     ·rcases An_.mp hl with h|h
      ·exact ln l h
      ·exact (s24.trans sy).free (l3 l h)
     ·rcases An_.mp hu with h|h
      ·exact rd u h
      ·obtain ⟨j,_,rfl⟩:=Ap_.mp h;exact rdu j
     ·by_cases t0:t=0
      ·rw [ea t0] at ul ⊢;exact AH_ _ (Ap_.mpr ⟨j,AX_.mpr hj,rfl⟩)
      ·exact AL_ _ (a1 (by lia) j hj)
     ·have t1:t=1:=by lia
      rw [eb t1];exact AH_ _ (Ap_.mpr ⟨j,AX_.mpr (by rw [Ba_];exact hj),rfl⟩)
   ·rintro σ Hy ⟨e2,Rl,ls,tss,rfl,sy,hRl,la,lt,ll,ln,rd,a1,a2⟩;nofun;have nz:ws.length≠0:=fun z=>ne (AY_ z);have l2:ls.length=2*ws.length:=ll;refine ⟨ls,hRl,(fun z=>by rw [z] at l2;simp at l2;lia),tss,la,fun i l hl le=>?_⟩;have mem:∀ {j:Nat},j<ls.length->tss.getD j []∈tss:=fun {j} hj=>by rw [Ad_,Aa_ (by rw [<-lt];exact hj)];exact A3_ _
    have hi:=(Ae_.mp hl).1;refine k l (tss.getD i []) Hy (s24.trans sy) (ln l (Am_ hl)) (la i l hl) (on_ ne (mem hi) rd (fun j hj=>⟨a1 (by simp) j hj,a2 (by simp) j hj⟩) fun t ht=>?_);obtain ⟨j,hj,rfl⟩:=AB_.mp ht;have:=le j (by rw [lt];exact hj)
    rwa [Ad_,Aa_ hj] at this
def k3 (e:Nat×Nat)(sd:Nat):List Key:=[.inl e.1,.inl e.2,.inl sd]
def stC (T:List (List Str))(P:Nat)(e:Nat×Nat)(sd:Nat):Sd:=if sd=0 then (e,true) else (beh T P e,false)
theorem Cr.st {T:List (List Str)}{P:Nat}{x:Sd}{e:Nat×Nat}{sd:Nat}(h:Cr T P x e sd):sd<=1/\x=stC T P e sd:=by
 rcases h with ⟨rfl,rfl⟩|⟨rfl,rfl⟩
 ·exact ⟨by decide,rfl⟩
 ·exact ⟨by decide,rfl⟩
theorem KK_ {T:List (List Str)}{P:Nat}{e:Nat×Nat}{sd:Nat}(h:sd<=1):Cr T P (stC T P e sd) e sd:=by
 by_cases c:sd=0
 ·exact .inl ⟨if_pos c,c⟩
 ·exact .inr ⟨if_neg c,by lia⟩
theorem pi_ {T:List (List Str)}{P:Nat}{e e':Nat×Nat}{sd sd':Nat}{y y':Str}(h:wi T e=some y)(h':wi T e'=some y')(s:sd<=1)(s':sd'<=1)(z:stC T P e sd=stC T P e' sd'):e=e'/\sd=sd':=by
 unfold stC at z;by_cases c:sd=0 <;> by_cases c':sd'=0
 ·rw [if_pos c,if_pos c'] at z;exact ⟨congrArg Prod.fst z,by lia⟩
 ·rw [if_pos c,if_neg c'] at z;cases congrArg Prod.snd z
 ·rw [if_neg c,if_pos c'] at z;cases congrArg Prod.snd z
 ·rw [if_neg c,if_neg c'] at z;exact ⟨hc_ (F7_ h).1 (F7_ h').1 (congrArg Prod.fst z),by lia⟩
theorem Lz_ {T:List (List Str)}{P:Nat}{x:Sd}{e f:Nat×Nat}{sd:Nat}(h:Cr T P x e sd)(m:G3_ T e f):Gg T P x (tn (stC T P f sd)):=by
 rcases h with ⟨rfl,rfl⟩|⟨rfl,rfl⟩
 ·exact ⟨e,f,m,.inl ⟨rfl,rfl⟩⟩
 ·exact ⟨e,f,m,.inr ⟨rfl,rfl⟩⟩
def Ka_ (T:List (List Str))(P:Nat):List (List Key):=((corners T P).map fun c=>k3 c 0)++(corners T P).map fun c=>k3 c 1
theorem Ll_ {T:List (List Str)}{P:Nat}{e:Nat×Nat}{sd:Nat}{y:Str}(h:wi T e=some y)(s:sd<=1):k3 e sd∈Ka_ T P:=by
 have ic:e∈corners T P:=bp_.mpr ⟨(F7_ h).2,AI_ (F7_ h).1 (Bh_ _ _)⟩;by_cases c:sd=0
 ·rw [c];exact AL_ _ (Ap_.mpr ⟨e,ic,rfl⟩)
 ·rw [show sd=1 by lia];exact AH_ _ (Ap_.mpr ⟨e,ic,rfl⟩)
def Sn (H:Hp)(T:List (List Str))(P:Nat)(d:Addr)(A:Sd->Prop):Prop:=∃ kvs,H d=some (.dT kvs)/\Ip_ kvs (Ka_ T P)/\∀ e sd y,wi T e=some y->sd<=1->((F9_ kvs (k3 e sd)).isSome=true ↔ A (stC T P e sd))
theorem Sn.mono {H H':Hp}{T:List (List Str)}{P:Nat}{d:Addr}{A:Sd->Prop}(h:Sn H T P d A)(s:Fx_ H H'):Sn H' T P d A:=let ⟨kvs,h1,h2⟩:=h;⟨kvs,s _ _ h1,h2⟩
theorem Sn.imp {H:Hp}{T:List (List Str)}{P:Nat}{d:Addr}{A B:Sd->Prop}(h:Sn H T P d A)(s:∀ z,A z ↔ B z):Sn H T P d B:=let ⟨kvs,h1,h2,h3⟩:=h;⟨kvs,h1,h2,fun e sd y he hs=>(h3 e sd y he hs).trans (s _)⟩
theorem Sn.put {H':Hp}{T:List (List Str)}{P:Nat}{d:Addr}{kvs:List (List Key×V)}{A:Sd->Prop}{e:Nat×Nat}{sd:Nat}{y:Str}{v:V}(h2:Ip_ kvs (Ka_ T P))(h3:∀ e sd y,wi T e=some y->sd<=1->((F9_ kvs (k3 e sd)).isSome=true ↔ A (stC T P e sd)))(he:wi T e=some y)(hs:sd<=1)(hd:H' d=some (.dT (Ge_ kvs (k3 e sd) v))):Sn H' T P d fun z=>A z\/z=stC T P e sd:=by
 refine ⟨_,hd,h2.put (Ll_ he hs) v,fun e' sd' y' he' hs'=>?_⟩;rw [aE_];by_cases c:k3 e' sd'=k3 e sd
 ·rw [if_pos c];unfold k3 at c;simp only [List.cons.injEq,Sum.inl.injEq,Int.natCast_inj,and_true] at c;have e1:e'=e:=A9_ c.1 c.2.1;rw [e1,c.2.2];exact ⟨fun _=>.inr rfl,fun _=>rfl⟩
 ·rw [if_neg c,h3 e' sd' y' he' hs'];refine ⟨.inl,fun h=>h.elim id fun z=>?_⟩;obtain ⟨rfl,rfl⟩:=pi_ he' he hs' hs z;exact absurd rfl c
theorem gh_ (O:List (Nat×Nat×List Sd))(L:List (List Sd))(mm:List Sd):csO O++((L++[mm]).map cs).flatten=(csO O++(L.map cs).flatten)++cs mm:=by rw [Aq_,A4_];simp
theorem iY_ {T:List (List Str)}{P:Nat}:∀ {mm:List Sd}{x:Sd},Pa (Gg T P) (mm++[x])->(wiL T P mm).length=mm.length
 | [],_,_=>rfl
 | a::mm,x,p=>by
  have ih:=iY_ (mm:=mm) (x:=x) (j6_ p)
  have g:∃ b,Gg T P a b:=by
   cases mm with
   | nil=>exact ⟨x,p 0 a x rfl rfl⟩
   | cons b mm=>exact ⟨b,p 0 a b rfl rfl⟩
  obtain ⟨b,g⟩:=g;obtain ⟨w,h,_⟩:=Jo_ g;unfold wiL at ih ⊢;rw [BE_,h];simp [ih]
abbrev FL_:Stmt:=stN 31
theorem bn_:FF_ ["_law_turns_here", "_law_posts", "_law_mates_here", "_law_seen", "_law_found", "_law_p", "_law_k", "_law_side", "_law_here", "_law_row", "_law_q", "_law_j"] ["_law_turns_here", "_law_posts", "_law_mates_here", "_law_seen"] (Fy_ FL_):=⟨rfl,rfl,rfl,by rfl',rfl,by rfl',by rfl'⟩
theorem cZ_:LK FL_ "_law_turns_here" .local:=by rfl'
theorem j2_:LK FL_ "_law_posts" .local:=by rfl'
theorem gD_:LK FL_ "_law_mates_here" .local:=by rfl'
theorem ey_:LK FL_ "_law_seen" .local:=by rfl'
theorem ez_:LK FL_ "_law_found" .local:=by rfl'
theorem eA_:LK FL_ "_law_p" .local:=by rfl'
theorem gE_:LK FL_ "_law_k" .local:=by rfl'
theorem gF_:LK FL_ "_law_side" .local:=by rfl'
theorem aV_:LK FL_ "_law_here" .local:=by rfl'
theorem c0_:LK FL_ "_law_row" .local:=by rfl'
theorem fU_:LK FL_ "_law_q" .local:=by rfl'
theorem fV_:LK FL_ "_law_j" .local:=by rfl'
theorem fW_:LK FL_ "_law_beyond" .globalImplicit:=by rfl'
theorem d1_:LK FL_ "_law_least_round" .globalImplicit:=by rfl'
theorem eY_:LK FL_ "len" .globalImplicit:=by rfl'
theorem cq_:LK FL_ "range" .globalImplicit:=by rfl'
theorem gi_:LK FL_ "sorted" .globalImplicit:=by rfl'
def hid (H:Hp)(d:Addr):Hp:=fun b=>if b=d then none else H b
theorem Iv_ {H:Hp}{d:Addr}:hid H d d=none:=if_pos rfl
theorem c1_ {H:Hp}{d b:Addr}{o:HO}(h:H b=some o)(n:b≠d):hid H d b=some o:=(if_neg n).trans h
theorem iZ_ {H:Hp}{d:Addr}:Fx_ (hid H d) H:=fun b o e=>by
 by_cases c:b=d
 ·rw [c,Iv_] at e;cases e
 ·exact (if_neg c).symm.trans e
theorem ll_ {H:Hp}{d b:Addr}(h:H b=none):hid H d b=none:=by
 by_cases c:b=d
 ·rw [c];exact Iv_
 ·exact (if_neg c).trans h
abbrev So_ (O:List (Nat×Nat×List Sd))(L:List (List Sd)):List (Nat×Nat):=csO O++(L.map cs).flatten
structure CS (T:List (List Str))(P:Nat)(O:List (Nat×Nat×List Sd))(Hm Hy:Hp)(d D0:Addr)(ts:List Addr)(L:List (List Sd)):Prop where
 same:Fx_ Hm Hy
 hD:Hy D0=some (.lst (ts.map V.ref))
 len:ts.length=L.length
 tl:∀ (i:Nat) t l,ts[i]?=some t->L[i]?=some l->∃ W,Hy t=some (.tup [.non,.non,.ref W])/\Hy W=some (.lst ((lw (wiL T P l)).map V.str))/\W≠D0
 sn:Sn Hy T P d fun z=>z.1∈So_ O L
 cl:∀ l∈L,ClL T P l
 lst:∀ l∈L,∃ u,Lst (wiL T P l) u
 nd:(So_ O L).Nodup
 sh:HI_ T P (So_ O L)
 ic:∀ c∈So_ O L,IsC T P c
theorem CS.few {T:List (List Str)}{P:Nat}{O:List (Nat×Nat×List Sd)}{Hm Hy:Hp}{d D0:Addr}{ts:List Addr}{L:List (List Sd)}(h:CS T P O Hm Hy d D0 ts L)(c40:(corners T P).length<=40):L.length<=40:=by
 have h1:=kE_ (L:=L) fun l hl z=>by obtain ⟨s',x',z1,z2,z3,z4⟩:=h.cl l hl;rw [z] at z2;cases z2
 have h2:=bJ_ (l:=(L.map cs).flatten) (m:=corners T P) (AK_.mp h.nd).2.1 fun c hc=>bp_.mpr (h.ic c (An_.mpr (.inr hc)));lia
def Ho_ (Pt:Addr):Sp:=fun vs H Q _=>∃ (l m d:Addr)(as_:List Addr)(T:List (List Str))(Pp:Nat)(O:List (Nat×Nat×List Sd)),vs=[.ref l,.int Pp,.ref m,.ref d]/\H Pt=some (.tbl #[])/\Tg V.str H l as_ T/\Gu_ H m T/\m≠d/\Tw T/\Pp<=T.length/\T.length<=40/\(∀ p,rl T p<=40)/\(corners T Pp).length<=40/\Sn H T Pp d (fun z=>z.1∈csO O)/\(csO O).Nodup/\HI_ T Pp (csO O)/\(∀ c∈csO O,IsC T Pp c)/\(∀ pl,pl<2*Pp->(stt T pl).1∈csO O) /\
 ∀ D zs uss L H',(∀ b o,b≠d->b≠Pt->H b=some o->H' b=some o)->(∃ o,H' Pt=some o)->H D=none->H' D=some (.lst (zs.map V.ref))->Jg_ H' zs uss->zs.length=uss.length->(∀ l∈L,ClL T Pp l)->(So_ O L).Nodup->(∀ c,IsC T Pp c ↔ c∈So_ O L)->(∀ l∈L,∃ u,Lst (wiL T Pp l) u)->uss.Perm (L.map fun l=>lw (wiL T Pp l))->uss.Pairwise (fun x y=>Gx_ y x=false)->L.length<=40->Q (.ref D) H'
theorem lO_ {c Pt:Addr}(LM:Lam mg base c Pt)(T:Txt K mg)(F:FnC K mg "_law_closed" FL_ c) (G1_:Cal P w K mg base "_law_beyond" ["_law_turns_here", "_law_posts", "_law_mates_here", "_law_crossing"] 1 GX_) (G8_:Cal P w K mg base "_law_least_round" ["_law_row"] 1 GU_):Cal P w K mg base "_law_closed" ["_law_turns_here", "_law_posts", "_law_mates_here", "_law_seen"] 4 (Ho_ Pt):=by
 refine o5_ F bn_ (fun _ _ _ _ _ _=>byL4 fun _ _ _ _=>rfl) ?len ?body
 case len=>rintro vs H Q E ⟨_,_,_,_,_,_,_,rfl,_⟩;rfl
 case body =>
  intro f A outer s0 H vs Q E hr h;obtain ⟨l,m,d,as_,Tt,Pp,O,rfl,hPt,hT,hm,md,tw,PT,T40,r40,c40,sn,ndO,shO,icO,allO,k⟩:=h;obtain ⟨kv0,hd0,kt0,sn0⟩:=id sn;have dn:∀ {b:Addr}{o:HO},H b=some o->(∀ kv,o≠.dT kv)->b≠d:=fun h1 h2 z=>by rw [z,hd0] at h1;exact h2 _ (Aw_ h1).symm
  have hTm:Tg V.str (hid H d) l as_ Tt:=⟨c1_ hT.top (dn hT.top (by simp)),hT.len,fun p a h=>c1_ (hT.row p a h) (dn (hT.row p a h) (by simp))⟩;have hmm:Gu_ (hid H d) m Tt:=by obtain ⟨kvs,h1,h2⟩:=hm;refine ⟨kvs,c1_ h1 md,fun a b mt=>?_⟩;obtain ⟨q,z1,z2⟩:=h2 a b mt;exact ⟨q,z1,c1_ z2 (dn z2 (by unfold cV;simp))⟩
  refine' ⟨_,?D,?R⟩
  case D =>
   refine' ac_ (ah_ (i:=4) bn_.nd rfl ez_ (bo_ ab_)) (ai_ ?g5 (aj_ (aB_ (nR_ (k:=0) (hr.mono (by decide)) gi_ T.n_sorted (pa_c (pv1 4 rfl ez_) ab_) rfl LM rfl rfl ⟨rfl,rfl,rfl,by rfl',rfl,by rfl',by rfl'⟩ (fun _ _ _ _ _ _=>rfl) (fun _ _ _ _ _ _ _=>FG_ ap_ (pv 0) ad_ (fun _ _=>rfl))))))
   case' g5=>refine' aZ_ AA_ rfl (aC_ cq_ T.n_range (pa_c (am_ ao_ eY_ T.n_len aX_ (pa_c (pv1 0 rfl cZ_) ab_)) ab_)) ?g8 ?g9
   case g8=>exact ag_ (i:=5) bn_.nd rfl eA_
   case' g9=>refine' aj_ (aZ_ AA_ rfl ?g17 ?g18 (aj_ (aZ_ AA_ rfl (aC_ cq_ T.n_range (pa_c ad_ ab_)) ?g30 ?g31)))
   case' g17=>refine' aC_ cq_ T.n_range (pa_c (am_ ao_ eY_ T.n_len aX_ (pa_c (FG_ ar_ (pv1 0 rfl cZ_) (pv1 5 rfl eA_) (fun _ _=>rfl)) ab_)) ab_)
   case g18=>exact ag_ (i:=6) bn_.nd rfl gE_
   case g30=>exact ag_ (i:=7) bn_.nd rfl gF_
   case' g31=>refine' ac_ (ah_ (i:=8) bn_.nd rfl aV_ (aq_ (pa_c (pv1 5 rfl eA_) (pa_c (pv1 6 rfl gE_) (pa_c (pv1 7 rfl gF_) ab_))))) ?g36
   case' g36=>refine' ac_ (ah_ (i:=9) bn_.nd rfl c0_ (bo_ ab_)) (ac_ (eE_ AA_ (hf_ (ho_ (un1 hr.units) (pv1 8 rfl aV_) (pv1 3 rfl ey_))) ?g52) ?g50)
   case' g52=>refine' ac_ (c4_ (un1 hr.units) (pv1 3 rfl ey_) (pv1 8 rfl aV_) GI_ rfl) (ac_ (eh_ ?g62 (aS_ (K:=K) (n:=2) rfl rfl (ak_ ?g76 (ak_ ?g78 aQ_)))) ?g61)
   case' g62=>refine' c3_ (un1 hr.units) (pv1 2 rfl gD_) (aq_ (pa_c (FG_ ap_ (pv1 8 rfl aV_) ad_ (fun _ _=>rfl)) (pa_c (FG_ ap_ (pv1 8 rfl aV_) ad_ (fun _ _=>rfl)) ab_))) (fun _ _=>rfl)
   case g76=>exact ag_ (i:=10) bn_.nd rfl fU_
   case g78=>exact ag_ (i:=11) bn_.nd rfl fV_
   case' g61=>refine' ac_ (c4_ (un1 hr.units) (pv1 3 rfl ey_) (aq_ (pa_c (pv1 10 rfl fU_) (pa_c (pv1 11 rfl fV_) (pa_c (FG_ ap_ (pv1 8 rfl aV_) ad_ (fun _ _=>rfl)) ab_)))) GI_ rfl) ?g81
   case' g81=>refine' ac_ (aA_ (Gi_ Az_ AC_ AD_ az_ (pv1 9 rfl c0_) (pa_c (FG_ ar_ (FG_ ar_ (pv1 0 rfl cZ_) (FG_ ap_ (pv1 8 rfl aV_) ad_ (fun _ _=>rfl)) (fun _ _=>rfl)) (FG_ ap_ (pv1 8 rfl aV_) ad_ (fun _ _=>rfl)) (fun _ _=>rfl)) ab_))) ?g95
   case' g95=>refine' aj_ (ah_ (i:=8) bn_.nd rfl aV_ (al_ G1_ (hr.mono (by decide)) fW_ (pa_c (pv1 0 rfl cZ_) (pa_c (pv1 1 rfl j2_) (pa_c (pv1 2 rfl gD_) (pa_c (pv1 8 rfl aV_) ab_))))))
   case' g50=>refine' aj_ (Gp_ (aG_ (jn_ (hr.units)) (pv1 9 rfl c0_) (bo_ ab_) (FY_ _)) (aj_ (aA_ ?g128)) aW_)
   case' g128=>refine' Gi_ Az_ AC_ AD_ az_ (pv1 4 rfl ez_) (pa_c (aq_ (pa_c ?g134 (pa_c ?g136 (pa_c (al_ G8_ (hr.mono (by decide)) d1_ (pa_c (pv1 9 rfl c0_) ab_)) ab_)))) ab_)
   case g134=>exact he_
   case g136=>exact he_
  case R =>
   nofun;refine ⟨Ay_ _,fun D0 nD0=>?_⟩;have S1:=Fx_.new nD0 (o:=HO.lst []);have hD0:=aa_ (H:=H) (a:=D0) (o:=HO.lst []);generalize upd H D0 (HO.lst [])=H1 at *;have D0d:D0≠d:=fun z=>by rw [z,hd0] at nD0;cases nD0
   have D0m:hid H d D0=none:=ll_ nD0;have s1m:Fx_ (hid H d) H1:=iZ_.trans S1
   have cs0:CS Tt Pp O (hid H d) H1 d D0 [] []:=⟨s1m,hD0,rfl,(fun i t l h=>by cases h),by
    have:=sn.mono S1;simpa [So_] using this,fun l hl=>absurd hl AO_,fun l hl=>absurd hl AO_,by simpa [So_] using ndO,by simpa [So_] using shO,by simpa [So_] using icO⟩
   nofun;refine ⟨_,.inl (S1 _ _ hT.top),by rw [Ab_,hT.len];lia,by rw [Ab_,hT.len];lia,?_⟩;rw [Ab_,hT.len,AE_];refine a3_ (fun p σ Hy=>∃ (e5 e6 e7 e8 e9 e10 e11:Option V)(ts:List Addr)(L:List (List Sd)),σ=[some (.ref l),some (.int Pp),some (.ref m),some (.ref d),some (.ref D0),e5,e6,e7,e8,e9,e10,e11]/\CS Tt Pp O (hid H d) Hy d D0 ts L/\∀ e y,wi Tt e=some y->e.1<p->e∈So_ O L) ⟨_,_,_,_,_,_,_,[],[],rfl,cs0,fun e y _ h=>absurd h (Bm_ _)⟩ ?_ ?_
   ·rintro p σ Hy hp kc kb hkc hkb G hG ⟨e5,e6,e7,e8,e9,e10,e11,ts,L,rfl,cs1,vis⟩;refine hG ?_;rw [show (0:Int)+(p:Int)=(p:Int) by lia];nofun;obtain ⟨a,ea,at0,ra⟩:=(hTm.mono cs1.same).at_ hp;have al:((Tt.getD p []).map V.str).length=rl Tt p:=Ab_ _;have:=r40 p;refine ⟨_,(hTm.mono cs1.same).top,_,at0,_,rfl,_,.inl ra,by rw [al];lia,by rw [al];lia,?_⟩;rw [al,AE_];refine a3_ (fun k' σ Hy=>∃ (e6 e7 e8 e9 e10 e11:Option V)(ts:List Addr)(L:List (List Sd)),σ=[some (.ref l),some (.int Pp),some (.ref m),some (.ref d),some (.ref D0),some (.int p),e6,e7,e8,e9,e10,e11]/\CS Tt Pp O (hid H d) Hy d D0 ts L/\∀ e y,wi Tt e=some y->e.1<p\/(e.1=p/\e.2<k')->e∈So_ O L) ⟨_,_,_,_,_,_,ts,L,rfl,cs1,fun e y h z=>vis e y h (by lia)⟩ ?_ ?_
    ·rintro k' σ Hy hk' kc2 kb2 hkc2 hkb2 G2 hG2 ⟨e6,e7,e8,e9,e10,e11,ts,L,rfl,cs1,vis⟩;refine hG2 ?_;rw [show (0:Int)+(k':Int)=(k':Int) by lia];nofun;refine ⟨by decide,by decide,?_⟩;rw [show Int.toNat 2=2 from rfl];refine a3_ (fun sd σ Hy=>∃ (e7 e8 e9 e10 e11:Option V)(ts:List Addr)(L:List (List Sd)),σ=[some (.ref l),some (.int Pp),some (.ref m),some (.ref d),some (.ref D0),some (.int p),some (.int k'),e7,e8,e9,e10,e11]/\CS Tt Pp O (hid H d) Hy d D0 ts L/\(∀ e y,wi Tt e=some y->e.1<p\/(e.1=p/\e.2<k')->e∈So_ O L)/\(1<=sd->(p,k')∈So_ O L)) ⟨_,_,_,_,_,ts,L,rfl,cs1,vis,fun h=>absurd h (by decide)⟩ ?_ ?_
     ·rintro sd σ Hy hsd kc3 kb3 hkc3 hkb3 G3 hG3 ⟨e7,e8,e9,e10,e11,ts,L,rfl,cs1,vis,v1⟩;refine hG3 ?_;rw [show (0:Int)+(sd:Int)=(sd:Int) by lia];nofun;refine ⟨by decide,fun c0 nc0=>?_⟩;have S2:=Fx_.new nc0 (o:=HO.tup [V.int p,V.int k',V.int sd]);have hc0:upd Hy c0 (HO.tup [V.int p,V.int k',V.int sd]) c0=some (crV (p,k') sd):=aa_;generalize upd Hy c0 (HO.tup [V.int p,V.int k',V.int sd])=Y0 at *;nofun;refine ⟨Ay_ _,fun R0 nR0=>?_⟩;have S3:=Fx_.new nR0 (o:=HO.lst []);have hR0:=aa_ (H:=Y0) (a:=R0) (o:=HO.lst []);generalize upd Y0 R0 (HO.lst [])=Y1 at *;have B1:Fx_ (hid Y0 d) Y1:=iZ_.trans S3;obtain ⟨y0,hy0⟩:=cw_ (T:=Tt) (e:=(p,k')) hk';have sd1:sd<=1:=by lia
      have cr0:=KK_ (T:=Tt) (P:=Pp) (e:=(p,k')) sd1
      have s0ic:IsC Tt Pp (stC Tt Pp (p,k') sd).1:=by
       rcases cr0 with ⟨z1,_⟩|⟨z1,_⟩
       ·rw [z1];exact ⟨(F7_ hy0).2,AI_ (F7_ hy0).1 (Bh_ _ _)⟩
       ·rw [z1];exact KH_ hy0
      have snY:=cs1.sn.mono (S2.trans S3);obtain ⟨kvy,hdy,kty,sny⟩:=id cs1.sn;have mB:Fx_ (hid H d) (hid Y0 d):=fun b o e=>c1_ (S2 _ _ (cs1.same _ _ e)) fun z=>by rw [z,Iv_] at e;cases e
      have ndB:hid Y0 d R0=none:=ll_ nR0;have R0d:R0≠d:=fun z=>by rw [z,S2 _ _ hdy] at nR0;cases nR0
      nofun
      refine g0_ (fun σ Hz=>∃ (mm:List Sd)(x:Sd)(c:Addr)(e:Nat×Nat)(sdx:Nat)(y:Str)(e10 e11:Option V),σ=[some (.ref l),some (.int Pp),some (.ref m),some (.ref d),some (.ref D0),some (.int p),some (.int k'),some (.int sd),some (.ref c),some (.ref R0),e10,e11]/\Fx_ (hid Y0 d) Hz/\Hz R0=some (.lst ((wiL Tt Pp mm).map V.str))/\Hz c=some (crV e sdx)/\Cr Tt Pp x e sdx/\wi Tt e=some y/\Pa (Gg Tt Pp) (mm++[x])/\(mm++[x])[0]?=some (stC Tt Pp (p,k') sd)/\mm.Nodup/\(mm≠[]->(stC Tt Pp (p,k') sd).1∉So_ O L)/\Sn Hz Tt Pp d fun z=>z.1∈So_ O L\/z∈mm\/∃ u∈mm,Gg Tt Pp u (tn z))
       (fun σ Hz=>match Hz R0 with|some (.lst xs)=>(corners Tt Pp).length+1-xs.length|_=>0) ⟨[],stC Tt Pp (p,k') sd,c0,(p,k'),sd,y0,_,_,rfl,B1,hR0,S3 _ _ hc0,cr0,hy0,pa1 _,rfl,Bc_,fun h=>absurd rfl h,?_⟩ ?_
      ·exact snY.imp fun z=>⟨.inl,fun h=>h.elim id fun z=>by simp at z⟩
      rintro σ Hz kb4 hkb4 G4 hG4 ⟨mm,x,c,e,sdx,y,e10,e11,rfl,sz,hRz,hcz,cr,hy,pa,h0,nd,ns,snz⟩;refine hG4 ?_;obtain ⟨kvz,hdz,ktz,snz'⟩:=id snz;obtain ⟨sx,ex⟩:=cr.st;nofun;refine ⟨_,GP_.t (k:=k3 e sdx) hdz hcz,?_⟩;have mP:(hid Y0 d) D0=some (.lst (ts.map V.ref)):=c1_ (S2 _ _ cs1.hD) D0d;have ktl:=ktz.len;have al2:(Ka_ Tt Pp).length=(corners Tt Pp).length+(corners Tt Pp).length:=by unfold Ka_;rw [Af_,Ab_,Ab_]
      by_cases hs:(F9_ kvz (k3 e sdx)).isSome=true
      ·rw [if_neg (by rw [hs];decide)];refine hkb4 _ _ ?_;have seen:=(snz' e sdx y hy sx).mp hs;rw [<-ex] at seen;have wlen:=iY_ pa;have pam:Pa (Gg Tt Pp) mm:=fun i a b ha hb=>pa i a b (by rw [cx_ (Nat.lt_of_succ_lt (Ae_.mp hb).1)];exact ha) (by rw [cx_ (Ae_.mp hb).1];exact hb);nofun;refine ⟨Ay_ _,fun p1 n1=>?_⟩;have S5:=Fx_.new n1 (o:=HO.lst []);have hp1:=aa_ (H:=Hz) (a:=p1) (o:=HO.lst []);generalize upd Hz p1 (HO.lst [])=Z1 at *;have dle:dep (.lst ((wiL Tt Pp mm).map Dt.str))<=60:=by have:=et_ (f:=Dt.str) (n:=0) (fun _=>Aj_ _) (wiL Tt Pp mm);rw [dep];lia
       refine ⟨.lst ((wiL Tt Pp mm).map Dt.str),⟨_,_,rfl,S5 _ _ hRz,bz_ _⟩,.lst [],⟨_,_,rfl,hp1,rfl⟩,decide ((wiL Tt Pp mm).length=0),ne_ _,dle,?_⟩;rw [wlen];by_cases m0:mm=[]
       ·subst m0;rw [if_neg (by simp)];have e0:x=stC Tt Pp (p,k') sd:=by simpa using h0
        have inS:x.1∈So_ O L:=by rcases seen with z|z|⟨u,z,_⟩;exact z;cases z;cases z
        refine hkc3 _ _ ⟨_,_,_,_,_,ts,L,rfl,⟨(mB.trans sz).trans S5,S5 _ _ (sz _ _ mP),cs1.len,fun i t l h1 h2=>?_,?_,cs1.cl,cs1.lst,cs1.nd,cs1.sh,cs1.ic⟩,vis,fun _=>?_⟩
        ·obtain ⟨W,y1,y2,y3⟩:=cs1.tl i t l h1 h2;exact ⟨W,S5 _ _ (sz _ _ (c1_ (S2 _ _ y1) (fun z=>by rw [z,hdy] at y1;cases y1))),S5 _ _ (sz _ _ (c1_ (S2 _ _ y2) (fun z=>by rw [z,hdy] at y2;cases y2))),y3⟩
        ·exact (snz.mono S5).imp fun z=>⟨fun h=>h.elim id fun z=>by simp at z,.inl⟩
        ·by_cases sd0:sd=0
         ·rw [e0,sd0] at inS;exact inS
         ·exact v1 (by lia)
       ·have l0:mm.length≠0:=fun z=>m0 (AY_ z);rw [if_pos (by simpa using l0)];have nS:=ns m0;have apt:=cs1.sh.apart pa h0 nS;have nxS:x.1∉So_ O L:=apt mm.length x (by rw [Ao_ (Aj_ _),Ca_];rfl)
        have xm:x∈mm:=by
         rcases seen with z|z|⟨u,hu,g⟩
         ·exact absurd z nxS
         ·exact z
         ·exact (oC_ tw pa hu g).elim
        have m00:=l2_ tw pa nd xm;have ri:=oD_ pa m00;have h0m:mm[0]?=some (stC Tt Pp (p,k') sd):=by rw [cx_ (by lia)] at h0;exact h0
        have sh:=pam.short tw h0m s0ic nd;refine ⟨.inl ⟨_,.inl (.inl (S5 _ _ (sz _ _ mP)))⟩,R0,_,rfl,S5 _ _ hRz,fun z=>l0 (by rw [<-wlen,z];rfl),by lia,fun lr us H6 s6 nl hl pu=>⟨by decide,fun p2 n2=>?_⟩⟩;have S7:=Fx_.new n2 (o:=HO.tup [V.non,V.non,V.ref lr]);have hp2:=aa_ (H:=H6) (a:=p2) (o:=HO.tup [V.non,V.non,V.ref lr]);have zD0:=sz _ _ mP;have p2D:p2≠D0:=(ae_ (s6 _ _ (S5 _ _ zD0)) n2).symm;generalize upd H6 p2 (HO.tup [V.non,V.non,V.ref lr])=H7 at *;have s57:=S5.trans (s6.trans S7);have lrD:lr≠D0:=(ae_ (S5 _ _ zD0) nl).symm;have L40:=cs1.few c40;have ln:=cs1.len;have k7:∀ {b:Addr}{o:HO},b≠D0->H7 b=some o->upd H7 D0 (HO.lst (ts.map V.ref++[V.ref p2])) b=some o:=fun h1 h2=>by rw [af_ h1];exact h2
        have hSm:Sn Hz Tt Pp d fun z=>z.1∈So_ O (L++[mm]):=snz.imp fun z=>by show _ ↔ z.1∈csO O++((L++[mm]).map cs).flatten;rw [gh_,lo_ tw ri];exact An_.symm
        obtain ⟨kv8,d8,k8,i8⟩:=hSm;refine ⟨_,s57 _ _ zD0,Fw_ (by rw [Ab_];lia),hkc3 _ _ ⟨_,_,_,_,_,ts++[p2],L++[mm],rfl,⟨fun b o e=>k7 (ae_ e D0m) (s57 _ _ (sz _ _ (mB _ _ e))),by rw [aa_,Aq_];rfl,by rw [Af_,Af_,ln];rfl,fun i t l h1 h2=>?_,⟨kv8,k7 D0d.symm (s57 _ _ d8),k8,i8⟩,fun l hl=>?_,fun l hl=>?_,?_,?_,fun c hc=>?_⟩,fun e y he z=>?_,fun _=>?_⟩⟩
        ·by_cases ci:i<ts.length
         ·rw [Al_ ci] at h1;rw [Al_ (by lia)] at h2;obtain ⟨W,y1,y2,y3⟩:=cs1.tl i t l h1 h2;have tD:t≠D0:=fun z=>by rw [z,cs1.hD] at y1;cases y1
          exact ⟨W,k7 tD (s57 _ _ (sz _ _ (c1_ (S2 _ _ y1) (fun z=>by rw [z,hdy] at y1;cases y1)))),k7 y3 (s57 _ _ (sz _ _ (c1_ (S2 _ _ y2) (fun z=>by rw [z,hdy] at y2;cases y2)))),y3⟩
         ·rw [Ao_ (by lia)] at h1;rw [Ao_ (by lia),<-ln] at h2;have e0:i-ts.length=0:=by have:=(Ae_.mp h1).1;simp only [AQ_] at this;lia
          rw [e0] at h1 h2;cases h1;cases h2;rw [I1_ pu];exact ⟨lr,k7 p2D hp2,k7 lrD (S7 _ _ hl),lrD⟩
        ·rcases An_.mp hl with h|h
         ·exact cs1.cl l h
         ·rw [Ak_.mp h];exact ri
        ·rcases An_.mp hl with h|h
         ·exact cs1.lst l h
         ·rw [Ak_.mp h];exact ⟨us,pu⟩
        ·show (csO O++((L++[mm]).map cs).flatten).Nodup;rw [gh_];refine AK_.mpr ⟨cs1.nd,pam.corners (Gh_ tw) nd,fun a ha b hb z=>?_⟩;obtain ⟨u,hu,eu⟩:=a0_.mp hb;obtain ⟨k9,hk9⟩:=AS_.mp hu;exact apt k9 u (by rw [cx_ (Ae_.mp hk9).1];exact hk9) (by rw [eu,<-z];exact ha)
        ·show HI_ Tt Pp (csO O++((L++[mm]).map cs).flatten);rw [gh_];obtain ⟨s',x',z1,z2,z3,z4⟩:=ri;exact cs1.sh.app (l0_ tw z1 z2 z3 z4)
        ·rw [show So_ O (L++[mm])=_ from gh_ O L mm] at hc
         rcases An_.mp hc with h|h
         ·exact cs1.ic c h
         ·obtain ⟨u,hu,rfl⟩:=a0_.mp h;exact pam.allC h0m s0ic u hu
        ·rw [show So_ O (L++[mm])=_ from gh_ O L mm];exact AL_ _ (vis e y he z)
        ·rw [show So_ O (L++[mm])=_ from gh_ O L mm];by_cases sd0:sd=0
         ·rw [sd0] at h0m;exact AH_ _ (a0_.mpr ⟨_,Am_ h0m,rfl⟩)
         ·exact AL_ _ (v1 (by lia))
      ·have hs0:(F9_ kvz (k3 e sdx)).isSome=false:=by simpa using hs
       rw [if_pos hs0];refine ⟨_,N_ok,?_⟩;have uns:=fun z=>hs ((snz' e sdx y hy sx).mpr z);rw [<-ex] at uns;nofun;refine ⟨_,Hq_.t (k:=k3 e sdx) hdz hcz (Fw_ (by lia)),?_⟩;have sn1:Sn (upd Hz d (.dT (Ge_ kvz (k3 e sdx) (.bl true)))) Tt Pp d _:=Sn.put (A:=fun z=>z.1∈So_ O L\/z∈mm\/∃ u∈mm,Gg Tt Pp u (tn z)) ktz snz' hy sx aa_;have sz1:Fx_ (hid Y0 d) (upd Hz d (.dT (Ge_ kvz (k3 e sdx) (.bl true)))):=aL_ sz Iv_;have k1:∀ {b:Addr}{o:HO},b≠d->Hz b=some o->upd Hz d (.dT (Ge_ kvz (k3 e sdx) (.bl true))) b=some o:=fun h1 h2=>by rw [af_ h1];exact h2
       have cd:c≠d:=fun z=>by rw [z,hdz] at hcz;cases hcz
       have hc1:=k1 cd hcz;have hR1:=k1 R0d hRz;generalize upd Hz d (.dT (Ge_ kvz (k3 e sdx) (.bl true)))=Z1 at *;obtain ⟨f',mt⟩:=ig_ tw hy;obtain ⟨kvm,hkm,hmt⟩:=hmm.mono (mB.trans sz1);obtain ⟨q,vq,hq⟩:=hmt e f' mt;obtain ⟨_,wf,_,hwf⟩:=id mt;nofun;refine ⟨_,hc1,_,Gt_,_,hc1,_,Gy_,by decide,fun p1 n1=>?_⟩;have S6:=Fx_.new n1 (o:=HO.tup [V.int e.1,V.int e.2]);have hp1:upd Z1 p1 (HO.tup [V.int e.1,V.int e.2]) p1=some (cV e):=aa_;generalize upd Z1 p1 (HO.tup [V.int e.1,V.int e.2])=Z2 at *;have g:GP_ Z2 m (.ref p1) (some (.ref q)):=vq ▸ GP_.t (k:=cK e) (S6 _ _ hkm) hp1;refine ⟨_,g,q,rfl,_,SqT.of (S6 _ _ hq),rfl,_,_,rfl,_,_,rfl,rfl,?_⟩;nofun;have hc2:=S6 _ _ hc1;refine ⟨_,hc2,_,H0_,by decide,fun p2 n2=>?_⟩;have S7:=Fx_.new n2 (o:=HO.tup [V.int f'.1,V.int f'.2,V.int sdx]);have hp2:upd Z2 p2 (HO.tup [V.int f'.1,V.int f'.2,V.int sdx]) p2=some (crV f' sdx):=aa_;generalize upd Z2 p2 (HO.tup [V.int f'.1,V.int f'.2,V.int sdx])=Z3 at *;obtain ⟨kv3,hd3,kt3,sn3⟩:=sn1.mono (S6.trans S7);have kl3:=kt3.len;refine ⟨_,Hq_.t (k:=k3 f' sdx) hd3 hp2 (Fw_ (by lia)),?_⟩;have sn4:=Sn.put (A:=fun z=>(z.1∈So_ O L\/z∈mm\/∃ u∈mm,Gg Tt Pp u (tn z))\/z=stC Tt Pp e sdx) (v:=.bl true) kt3 sn3 hwf sx (aa_ (H:=Z3) (a:=d));have sz4:Fx_ (hid Y0 d) (upd Z3 d (.dT (Ge_ kv3 (k3 f' sdx) (.bl true)))):=aL_ (sz1.trans (S6.trans S7)) Iv_;have k4:∀ {b:Addr}{o:HO},b≠d->Z1 b=some o->upd Z3 d (.dT (Ge_ kv3 (k3 f' sdx) (.bl true))) b=some o:=fun h1 h2=>by rw [af_ h1];exact (S6.trans S7) _ _ h2
       have hc4:=k4 cd hc1;have hR4:=k4 R0d hR1;generalize upd Z3 d (.dT (Ge_ kv3 (k3 f' sdx) (.bl true)))=Z4 at *;nofun;have hT4:=hTm.mono (mB.trans sz4);have hm4:=hmm.mono (mB.trans sz4);have el:=F7_ hy;obtain ⟨ar,ea2,at2,ra2⟩:=hT4.at_ el.2;have xm:x∉mm:=fun z=>uns (.inr (.inl z));have nd2:(mm++[x]).Nodup:=AK_.mpr ⟨nd,by simp,fun a ha b hb z=>xm (by rw [<-Ak_.mp hb,<-z];exact ha)⟩;have sh:=pa.short tw h0 s0ic nd2;rw [Af_] at sh;have wle:(wiL Tt Pp mm).length<=mm.length:=BA_ _ _;have hwr:=cr.wr hy;have ix:=pa.allC h0 s0ic x (by simp);obtain ⟨b,gb⟩:=lY_ tw ix hwr
       have nS:(stC Tt Pp (p,k') sd).1∉So_ O L:=by
        by_cases m0:mm=[]
        ·subst m0;have e0:x=stC Tt Pp (p,k') sd:=by simpa using h0
         rw [<-e0];exact fun z=>uns (.inl z)
        ·exact ns m0
       have pab:=pa.snoc gb;have h0b:(mm++[x]++[b])[0]?=some (stC Tt Pp (p,k') sd):=by rw [Al_ (by simp)];exact h0
       have nb:b.1∉So_ O L:=cs1.sh.apart pab h0b nS (mm++[x]).length b (by rw [Ao_ (Aj_ _),Ca_];rfl);refine ⟨.inl ⟨_,.inl (.inl hR4)⟩,_,hc4,_,Gt_,_,_,rfl,hT4.top,_,at2,_,hc4,_,Gy_,ar,rfl,_,_,rfl,ra2,.str y,kb_ (by rw [Ag_,show (Tt.getD e.1 [])[e.2]?=some y from hy];rfl),_,hR4,Fw_ (by rw [Ab_];lia),?_⟩;have sz5:Fx_ (hid Y0 d) (upd Z4 R0 (HO.lst ((wiL Tt Pp mm).map V.str++[V.str y]))):=aL_ sz4 ndB;have hR5:upd Z4 R0 (HO.lst ((wiL Tt Pp mm).map V.str++[V.str y])) R0=some (.lst ((wiL Tt Pp (mm++[x])).map V.str)):=by rw [aa_,f2_,Aq_];unfold wiL;rw [BE_,hwr];rfl
       have k5:∀ {b:Addr}{o:HO},b≠R0->Z4 b=some o->upd Z4 R0 (HO.lst ((wiL Tt Pp mm).map V.str++[V.str y])) b=some o:=fun h1 h2=>by rw [af_ h1];exact h2
       have hc5:=k5 (fun z=>by rw [z,hR4] at hc4;cases hc4) hc4;obtain ⟨kv5,d5,kt5,i5⟩:=sn4;have d5':=k5 R0d.symm d5;generalize upd Z4 R0 (HO.lst ((wiL Tt Pp mm).map V.str++[V.str y]))=Z5 at *
       have sn5:Sn Z5 Tt Pp d fun z=>z.1∈So_ O L\/z∈mm++[x]\/∃ u∈mm++[x],Gg Tt Pp u (tn z):=Sn.imp (A:=fun z=>((z.1∈So_ O L\/z∈mm\/∃ u∈mm,Gg Tt Pp u (tn z))\/z=stC Tt Pp e sdx)\/z=stC Tt Pp f' sdx) ⟨kv5,d5',kt5,i5⟩ fun z=>by
        have gz:=Lz_ cr mt;have q1:Gg Tt Pp x (tn z) ↔ z=stC Tt Pp f' sdx:=⟨fun g=>by have:=(Gh_ tw).one g gz;rw [<-GZ_ z,this,GZ_],fun g=>by rw [g];exact gz⟩;rw [<-ex,<-q1];constructor
        ·rintro (((h|h|⟨u,hu,g⟩)|h)|h)
         ·exact .inl h
         ·exact .inr (.inl (AL_ _ h))
         ·exact .inr (.inr ⟨u,AL_ _ hu,g⟩)
         ·exact .inr (.inl (by simp [h]))
         ·exact .inr (.inr ⟨x,by simp,h⟩)
        ·rintro (h|h|⟨u,hu,g⟩)
         ·exact .inl (.inl (.inl h))
         ·rcases An_.mp h with h|h
          ·exact .inl (.inl (.inr (.inl h)))
          ·exact .inl (.inr (Ak_.mp h))
         ·rcases An_.mp hu with h|h
          ·exact .inl (.inl (.inr (.inr ⟨u,h,g⟩)))
          ·rw [Ak_.mp h] at g;exact .inr g
       nofun;refine ⟨l,m,c,as_,Tt,Pp,x,b,e,sdx,y,rfl,hTm.mono (mB.trans sz5),hmm.mono (mB.trans sz5),tw,hc5,cr,hy,gb,fun q' H' e' sd' x' s' hq' cr' hx'=>?_,fun pl H' s' hpl hn ht=>?_⟩
       ·refine ⟨⟨mm++[x],b,q',rfl,sz5.trans s',s' _ _ hR5,e',sd',hq',cr',x',hx',pab,h0b,nd2,fun _=>nS,sn5.mono s'⟩,?_⟩;rw [s' _ _ hR5,hRz];show (corners Tt Pp).length+1-((wiL Tt Pp (mm++[x])).map V.str).length<(corners Tt Pp).length+1-((wiL Tt Pp mm).map V.str).length;have l1:=iY_ pab;have l2:=iY_ pa;simp only [Ab_,Af_,AQ_] at sh l1 ⊢;lia
       ·refine absurd ?_ nb;have:=allO pl hpl;rw [<-ht] at this;exact AL_ _ this
     ·rintro σ Hy ⟨e7,e8,e9,e10,e11,ts,L,rfl,cs1,vis,v1⟩;refine hkc2 _ _ ⟨_,_,_,_,_,_,ts,L,rfl,cs1,fun e y h z=>?_⟩;by_cases c:e.1=p/\e.2=k'
      ·rw [show e=(p,k') from A9_ c.1 c.2];exact v1 (by decide)
      ·exact vis e y h (by lia)
    ·rintro σ Hy ⟨e6,e7,e8,e9,e10,e11,ts,L,rfl,cs1,vis⟩;refine hkc _ _ ⟨_,_,_,_,_,_,_,ts,L,rfl,cs1,fun e y h z=>vis e y h ?_⟩;have:=(F7_ h).1;by_cases c:e.1=p
     ·rw [c] at this;exact .inr ⟨c,this⟩
     ·exact .inl (by lia)
   ·rintro σ Hy ⟨e5,e6,e7,e8,e9,e10,e11,ts,L,rfl,cs1,vis⟩;have hPy:=cs1.same _ _ (c1_ hPt (dn hPt (by simp)));have L40:=cs1.few c40;have ln:=cs1.len;obtain ⟨kvy,hdy,_⟩:=cs1.sn;nofun;refine ⟨hPy,ts,cs1.hD,L.map (fun l=>lw (wiL Tt Pp l)),by rw [Ab_,ln],by lia,fun i t hi=>?_,fun ps D zs uss nD zl tl zp srt=>?_⟩
    ·have hl:=(Ae_.mp hi).1;obtain ⟨W,y1,y2,_⟩:=cs1.tl i t _ hi (Aa_ (show i<L.length by lia));refine ⟨W,y1,?_⟩;rw [Ad_,Ag_,Aa_ (show i<L.length by lia)];exact y2
    ·have up:∀ {b:Addr}{o:HO},Hy b=some o->b≠Pt->upd (upd Hy Pt (HO.tbl ps)) D (HO.lst (zs.map V.ref)) b=some o:=fun h1 h2=>by rw [af_ (ae_ h1 nD),af_ h2];exact h1
     have nP:∀ {b:Addr}{o:HO},Hy b=some o->(∀ z,o≠.tbl z)->b≠Pt:=fun h1 h2 z=>by rw [z,hPy] at h1;exact h2 _ (Aw_ h1).symm
     refine k D zs uss L _ (fun b o h1 h2 h3=>up (cs1.same _ _ (c1_ h3 h1)) h2) ⟨_,by rw [af_ (ae_ hPy nD),aa_]⟩ ?_ aa_ (fun i t hi=>?_) zl cs1.cl cs1.nd (fun c=>⟨fun ic=>?_,cs1.ic c⟩) cs1.lst zp srt L40
     ·have Dd:D≠d:=fun z=>by rw [z,hdy] at nD;cases nD
      have:=cs1.same.free nD;exact (if_neg Dd).symm.trans this
     ·obtain ⟨W,y1,y2⟩:=tl i t hi;exact ⟨W,up y1 (nP y1 (by simp)),up y2 (nP y2 (by simp))⟩
     ·by_cases cw:c.2<rl Tt c.1
      ·obtain ⟨y,hy⟩:=cw_ (T:=Tt) (e:=c) cw;exact vis c y hy ic.1
      ·have h2:=ic.2;have cP:c.1<Pp:=Cy_.mp fun z=>by rw [if_neg z] at h2;lia
       rw [if_pos cP] at h2;have:=allO (2*c.1) (by lia);unfold stt at this;rw [if_pos (by lia),show 2*c.1/2=c.1 by lia] at this;refine AL_ _ ?_
       rwa [show c=(c.1,rl Tt c.1) from A9_ rfl (by show c.2=rl Tt c.1;lia)]
theorem ov_ {N:Net Str}(ok:FS_ N)(po:FH_ N)(rfew:∀ r∈N.rows,r.2.length<=30)(p:Nat):rl (trn N) p<=30:=by
 unfold rl;by_cases hp:p<(pts N).length
 ·obtain ⟨r,hr,er⟩:=Ap_.mp ((dB_ po).mp (A3_ hp));rw [f1_ (Aa_ hp),<-er,b3_ ok hr];exact rfew r hr
 ·rw [Ad_,Be_ (by rw [a5_];lia)];exact Ay_ _
theorem Sn.imp2 {H:Hp}{T:List (List Str)}{P:Nat}{d:Addr}{A B:Sd->Prop}(h:Sn H T P d A)(s:∀ z y,wr T P z=some y->(A z ↔ B z)):Sn H T P d B:=let ⟨kvs,h1,h2,h3⟩:=h;⟨kvs,h1,h2,fun e sd y he hs=>(h3 e sd y he hs).trans (s _ y ((KK_ hs).wr he))⟩
structure OS (T:List (List Str))(P i:Nat)(B Hy:Hp)(d F0:Addr)(ts:List Addr)(O:List (Nat×Nat×List Sd)):Prop where
 same:Fx_ B Hy
 hF:Hy F0=some (.lst (ts.map V.ref))
 len:ts.length=O.length
 tl:∀ (n:Nat) q o,ts[n]?=some q->O[n]?=some o->∃ W,Hy q=some (.tup [.int o.1,.int o.2.1,.ref W])/\Hy W=some (.lst ((wiL T P o.2.2).map V.str))/\W≠F0
 sn:Sn Hy T P d fun z=>∃ pl,pl<i/\∃ l j,LnP T P pl l j/\z∈l
 op:OpL T P i O
 few:O.length<=i
theorem OS.mono {T:List (List Str)}{P i:Nat}{B Hy Hz:Hp}{d F0:Addr}{ts:List Addr}{O:List (Nat×Nat×List Sd)}(h:OS T P i B Hy d F0 ts O)(s:Fx_ Hy Hz):OS T P i B Hz d F0 ts O:=⟨h.same.trans s,s _ _ h.hF,h.len,fun n q o h1 h2=>let ⟨W,y1,y2,y3⟩:=h.tl n q o h1 h2;⟨W,s _ _ y1,s _ _ y2,y3⟩,h.sn.mono s,h.op,h.few⟩
theorem n2_ {l:List Sd}{x:Sd}(h:l.getLast?=some x):l.dropLast++[x]=l:=by
 cases l with
 | nil=>cases h
 | cons a l =>rw [Dn_ (by simp)] at h;cases h;exact CA_ _
abbrev FP_:Stmt:=stN 32
theorem bd_:FF_ ["_law_net", "_law_points", "_law_turns_here", "_law_posts", "_law_mates_here", "_law_seen", "_law_found", "_law_place", "_law_last", "_law_crossings", "_law_p", "_law_k", "_law_side"] ["_law_net"] (Fy_ FP_):=⟨rfl,rfl,rfl,by rfl',rfl,by rfl',by rfl'⟩
theorem hN_:LK FP_ "_law_net" .local:=by rfl'
theorem kG_:LK FP_ "_law_points" .local:=by rfl'
theorem d2_:LK FP_ "_law_turns_here" .cell:=by rfl'
theorem d3_:LK FP_ "_law_posts" .local:=by rfl'
theorem fk_:LK FP_ "_law_mates_here" .local:=by rfl'
theorem fl_:LK FP_ "_law_seen" .local:=by rfl'
theorem fm_:LK FP_ "_law_found" .local:=by rfl'
theorem d4_:LK FP_ "_law_place" .local:=by rfl'
theorem fn_:LK FP_ "_law_last" .local:=by rfl'
theorem fo_:LK FP_ "_law_crossings" .local:=by rfl'
theorem gG_:LK FP_ "_law_p" .local:=by rfl'
theorem gH_:LK FP_ "_law_k" .local:=by rfl'
theorem gI_:LK FP_ "_law_side" .local:=by rfl'
theorem gj_:LK FP_ "_law_closed" .globalImplicit:=by rfl'
theorem eB_:LK FP_ "_law_from_place" .globalImplicit:=by rfl'
theorem gP_:LK FP_ "_law_mates" .globalImplicit:=by rfl'
theorem gQ_:LK FP_ "_law_turns" .globalImplicit:=by rfl'
theorem i0_:LK FP_ "len" .globalImplicit:=by rfl'
theorem hO_:LK FP_ "range" .globalImplicit:=by rfl'
def Hv_ (Pt:Addr):Sp:=fun vs H Q _=>∃ (v:V)(N:Net Str),vs=[v]/\Rep H v (HS_ N)/\FS_ N/\FH_ N/\H Pt=some (.tbl #[])/\∀ D (ts:List Addr) (uss:List (List Str)) H' (O:List (Nat×Nat×List Sd)) (L:List (List Sd)),(∀ b o,b≠Pt->H b=some o->H' b=some o)->H D=none->H' D=some (.lst (ts.map V.ref))->LA (fun _=>none) H' ts (opD (trn N) (Pn N) O++clD uss)->OpL (trn N) (Pn N) (2*Pn N) O->(∀ l∈L,ClL (trn N) (Pn N) l)->(csO O++(L.map cs).flatten).Nodup->(∀ c,IsC (trn N) (Pn N) c ↔ c∈csO O++(L.map cs).flatten)->(∀ l∈L,∃ u,Lst (wiL (trn N) (Pn N) l) u)->uss.Perm (L.map fun l=>lw (wiL (trn N) (Pn N) l))->uss.Pairwise (fun x y=>Gx_ y x=false)->Q (.ref D) H'
theorem ni_ {Pt:Addr}(T:Txt K mg)(F:Fn0 K mg "_law_lines" FP_) (Jv_:Cal P w K mg base "_law_turns" ["_law_net"] 1 Ik_) (Hh_:Cal P w K mg base "_law_mates" ["_law_turns_here"] 1 Hf_) (Hj_:Cal P w K mg base "_law_from_place" ["_law_turns_here", "_law_posts", "_law_mates_here", "_law_place"] 2 Il_) (I7_:Cal P w K mg base "_law_closed" ["_law_turns_here", "_law_posts", "_law_mates_here", "_law_seen"] 4 (Ho_ Pt)):Cal P w K mg base "_law_lines" ["_law_net"] 5 (Hv_ Pt):=by
 refine a1_ F bd_ (fun _ _ _ _ _ _=>byL1 fun _=>rfl) ?len ?body
 case len=>rintro vs H Q E ⟨_,_,rfl,_⟩;rfl
 case body =>
  intro f cdv A outer s0 H vs Q E hr h;obtain ⟨v,N,rfl,rep1,ok,po,hPt,k⟩:=h;obtain ⟨few,rfew⟩:=dV_ ok;have tw:=ha_ ok po;have PT:Pn N<=(trn N).length:=by rw [a5_];unfold pts;rw [Af_];exact Bh_ _ _
  have pl6:Pn N<=6:=ok.pl;have c40:=I4_ ok po;refine' ⟨_,?D,?R⟩
  case D =>
   refine' ac_ ?g1 (ac_ (ah_ (i:=3) bd_.nd rfl d3_ (am_ ao_ i0_ T.n_len aX_ (pa_c (FG_ ap_ (pv1 0 rfl hN_) ad_ (fun _ _=>rfl)) ab_))) ?g14)
   case' g1=>refine' eh_ (al_ Jv_ (hr.mono (by decide)) gQ_ (pa_c (pv1 0 rfl hN_) ab_)) (aS_ (K:=K) (n:=2) rfl rfl (ak_ ?g9 (ak_ ?g11 aQ_)))
   case g9=>exact ag_ (i:=1) bd_.nd rfl kG_
   case g11=>exact eH_ (i:=2) bd_.nd rfl d2_ rfl
   case' g14=>refine' ac_ (ah_ (i:=4) bd_.nd rfl fk_ (al_ Hh_ (hr.mono (by decide)) gP_ (pa_c (pvc 2 rfl d2_) ab_))) (ac_ ?g27 ?g28)
   case g27=>exact ah_ (i:=5) bd_.nd rfl fl_ fz_
   case' g28=>refine' ac_ (ah_ (i:=6) bd_.nd rfl fm_ (bo_ ab_)) (ac_ (aZ_ AA_ rfl (aC_ hO_ T.n_range (pa_c (Fz_ fs_ ad_ (pv1 3 rfl d3_)) ab_)) ?g36 ?g37) ?g34)
   case g36=>exact ag_ (i:=7) bd_.nd rfl d4_
   case' g37=>refine' ac_ (eh_ ?g45 (aS_ (K:=K) (n:=2) rfl rfl (ak_ ?g57 (ak_ ?g59 aQ_)))) ?g44
   case' g45=>refine' al_ Hj_ (hr.mono (by decide)) eB_ (pa_c (pvc 2 rfl d2_) (pa_c (pv1 3 rfl d3_) (pa_c (pv1 4 rfl fk_) (pa_c (pv1 7 rfl d4_) ab_))))
   case g57=>exact ag_ (i:=8) bd_.nd rfl fn_
   case g59=>exact ag_ (i:=9) bd_.nd rfl fo_
   case' g44=>refine' ac_ ?g61 (aj_ (Gp_ (aG_ Iw_ (pv1 7 rfl d4_) (pv1 8 rfl fn_) (FY_ _)) ?g87 aW_))
   case' g61=>refine' aZ_ AA_ rfl (aR_ (K:=K) rfl (pv1 9 rfl fo_)) (aS_ (K:=K) (n:=3) rfl rfl (ak_ ?g68 (ak_ ?g70 (ak_ ?g72 aQ_)))) ?g65
   case g68=>exact ag_ (i:=10) bd_.nd rfl gG_
   case g70=>exact ag_ (i:=11) bd_.nd rfl gH_
   case g72=>exact ag_ (i:=12) bd_.nd rfl gI_
   case' g65=>refine' aj_ (c4_ (un1 hr.units) (pv1 5 rfl fl_) (aq_ (pa_c (pv1 10 rfl gG_) (pa_c (pv1 11 rfl gH_) (pa_c (pv1 12 rfl gI_) ab_)))) GI_ rfl)
   case' g87=>refine' aj_ (aA_ (Gi_ Az_ AC_ AD_ az_ (pv1 6 rfl fm_) (pa_c (aq_ (pa_c (pv1 7 rfl d4_) (pa_c (pv1 8 rfl fn_) (pa_c ?g102 ab_)))) ab_)))
   case' g102=>refine' cA_ (N':=["_law_p", "_law_k", "_law_side", "_law_turns_here"]) (ix:=[none,none,none,some 2]) rfl rfl (cB_ ?g104) (aR_ (K:=K) rfl (pv1 9 rfl fo_)) (fun _ _ _=>(aS_ (K:=K) (n:=3) rfl rfl (ak_ ?g111 (ak_ ?g113 (ak_ ?g115 aQ_))))) (fun _ _ _=>?g107) (fun _ _ _=>(FG_ ar_ (FG_ ar_ (pvc 3 rfl rfl) (pv1 0 rfl rfl) (fun _ _=>rfl)) (pv1 1 rfl rfl) (fun _ _=>rfl)))
   case g104=>exact (by show Hx_ (Fy_ FP_) ["_law_net", "_law_points", "_law_turns_here", "_law_posts", "_law_mates_here", "_law_seen", "_law_found", "_law_place", "_law_last", "_law_crossings", "_law_p", "_law_k", "_law_side"] _ _ _=true;decide +kernel)
   case g111=>exact ag_ (i:=0) (by show List.Nodup (["_law_p", "_law_k", "_law_side", "_law_turns_here"]:List Str);decide +kernel) rfl rfl
   case g113=>exact ag_ (i:=1) (by show List.Nodup (["_law_p", "_law_k", "_law_side", "_law_turns_here"]:List Str);decide +kernel) rfl rfl
   case g115=>exact ag_ (i:=2) (by show List.Nodup (["_law_p", "_law_k", "_law_side", "_law_turns_here"]:List Str);decide +kernel) rfl rfl
   case g107=>exact d6_
   case' g34=>refine' aj_ (aB_ (Fz_ fu_ (pv1 6 rfl fm_) (al_ I7_ (hr.mono (by decide)) gj_ (pa_c (pvc 2 rfl d2_) (pa_c (pv1 3 rfl d3_) (pa_c (pv1 4 rfl fk_) (pa_c (pv1 5 rfl fl_) ab_)))))))
  case R =>
   nofun;refine ⟨v,N,rfl,rep1,ok,po,fun t0 pl0 tl0 as0 H2 s2 ht0 hpl0 hT=>?_⟩;obtain ⟨pn,p0,p1,p2,rs,ws,rfl,hn,h0,h1,r1,h2,r2⟩:=c6_ rep1;nofun;refine ⟨_,SqT.of ht0,rfl,_,_,rfl,_,_,rfl,rfl,?_⟩;nofun;refine ⟨_,s2 _ _ hn,_,Gt_,p0,rfl,_,.inl (s2 _ _ h0),?_⟩;rw [Ab_];nofun;have plen:=lT_ ok po;have rfw:=ok.few;refine ⟨Str,_,V.str,fun x=>.inr x,tl0,as0,trn N,rfl,fun _=>rfl,fun a b h=>Cw_ h,hT,tw,by rw [a5_];lia,ov_ ok po rfew,fun m H3 s3 nm hm=>?_⟩;nofun;intro d nd;have S4:=Fx_.new nd (o:=HO.dT []);have hd:=aa_ (H:=H3) (a:=d) (o:=HO.dT []);generalize upd H3 d (HO.dT [])=H4 at *;nofun;refine ⟨Ay_ _,fun F0 nF0=>?_⟩;have S5:=Fx_.new nF0 (o:=HO.lst []);have hF0:=aa_ (H:=H4) (a:=F0) (o:=HO.lst []);have F0d:F0≠d:=fun z=>by rw [z,hd] at nF0;cases nF0
   have nF3:=S4.free nF0;generalize upd H4 F0 (HO.lst [])=H5 at *;have s35:=S4.trans S5;have hT3:=hT.mono s3;have hpp:(N.posts.length:Int)=(Pn N:Int):=rfl;have os0:OS (trn N) (Pn N) 0 H3 H5 d F0 [] []:=⟨s35,hF0,rfl,(fun n q o h=>by cases h),⟨[],S5 _ _ hd,⟨Bc_,fun k hk=>absurd hk AO_⟩,fun e sd y _ _=>⟨(fun h=>by cases h),fun ⟨pl,h,_⟩=>absurd h (Bm_ _)⟩⟩,rfl,Aj_ _⟩;nofun;refine ⟨.inl (by decide),by lia,by lia,?_⟩;rw [show (2*(N.posts.length:Int)).toNat=2*Pn N by lia];refine a3_ (fun i σ Hy=>∃ (e7 e8 e9 e10 e11 e12:Option V)(ts:List Addr)(O:List (Nat×Nat×List Sd)),σ=[some (.ref pn),some (.ref pl0),some (.ref tl0),some (.int (Pn N)),some (.ref m),some (.ref d),some (.ref F0),e7,e8,e9,e10,e11,e12]/\OS (trn N) (Pn N) i H3 Hy d F0 ts O) ⟨_,_,_,_,_,_,[],[],rfl,os0⟩ ?_ ?_
   ·rintro i σ Hy hi kc kb hkc hkb G hG ⟨e7,e8,e9,e10,e11,e12,ts,O,rfl,os⟩;refine hG ?_;rw [show (0:Int)+(i:Int)=(i:Int) by lia];nofun;refine ⟨tl0,m,as0,trn N,Pn N,i,rfl,hT3.mono os.same,hm.mono os.same,tw,PT,hi,pl6,Ki_ ok po,fun t' F' H7 l xs x j s7 ht' hF' cra ln hx hj ej=>?_⟩;have lp:LnP (trn N) (Pn N) i l j:=⟨ln,hj,x,hx,ej⟩;have os7:=os.mono s7;have ecat:=n2_ hx;have wx:=ln.ed x hx;have xl:xs.length=l.dropLast.length:=By_ cra;have lsh:=ln.pa.short tw ln.hd (H1_ (T:=trn N) PT hi) (ln.pa.nd_first tw ln.hd (bx_ hi));have dl:l.dropLast.length<=l.length:=by rw [List.length_dropLast];lia
    obtain ⟨kv7,hd7,kt7,sn7⟩:=os7.sn;nofun;refine ⟨_,SqT.of ht',rfl,_,_,rfl,_,_,rfl,rfl,?_⟩;nofun;refine ⟨⟨_,.inl (.inl hF')⟩,?_⟩;have B7:Fx_ (hid H7 d) H7:=iZ_;have dn:∀ {b:Addr}{o:HO},H7 b=some o->(∀ kv,o≠.dT kv)->hid H7 d b=some o:=fun h1 h2=>c1_ h1 fun z=>by rw [z,hd7] at h1;exact h2 _ (Aw_ h1).symm
    refine eJ_ (xs:=xs.map V.ref) (fun n σ Hz=>∃ (e10 e11 e12:Option V),σ=[some (.ref pn),some (.ref pl0),some (.ref tl0),some (.int (Pn N)),some (.ref m),some (.ref d),some (.ref F0),some (.int i),some (.int j),some (.ref F'),e10,e11,e12]/\Fx_ (hid H7 d) Hz/\Sn Hz (trn N) (Pn N) d fun z=>(∃ pl,pl<i/\∃ l j,LnP (trn N) (Pn N) pl l j/\z∈l)\/z∈l.dropLast.take n) ⟨_,_,_,rfl,B7,os7.sn.imp fun z=>⟨.inl,fun h=>h.elim id fun z=>by simp at z⟩⟩ ?_ ?_ ?_
    ·rintro n σ Hz hn' ⟨e10,e11,e12,rfl,sz,_⟩;exact .inl (.inl (sz _ _ (dn hF' (by simp))))
    ·rintro n x0 σ Hz hx0 kc2 kb2 hkc2 hkb2 G2 hG2 ⟨e10,e11,e12,rfl,sz,snz⟩;refine hG2 ?_;have hn':n<xs.length:=by have:=(Ae_.mp hx0).1;rwa [Ab_] at this
     rw [Ag_,Aa_ hn'] at hx0;cases hx0;obtain ⟨u,hu,e,sd,y,he,cr,hy⟩:=cN_ cra (Aa_ hn');obtain ⟨sd1,ex⟩:=cr.st;have he2:=sz _ _ (dn he (by unfold crV;simp));obtain ⟨kvz,hdz,ktz,snz'⟩:=id snz;have ktl:=ktz.len;have al2:(Ka_ (trn N) (Pn N)).length=(corners (trn N) (Pn N)).length+(corners (trn N) (Pn N)).length:=by unfold Ka_;rw [Af_,Ab_,Ab_]
     nofun;refine ⟨_,SqT.of he2,rfl,_,_,rfl,_,_,rfl,_,_,rfl,rfl,by decide,fun p np=>?_⟩;have Sp:=Fx_.new np (o:=HO.tup [V.int e.1,V.int e.2,V.int sd]);have hp:upd Hz p (HO.tup [V.int e.1,V.int e.2,V.int sd]) p=some (crV e sd):=aa_;generalize upd Hz p (HO.tup [V.int e.1,V.int e.2,V.int sd])=Z1 at *;refine ⟨_,Hq_.t (k:=k3 e sd) (Sp _ _ hdz) hp (Fw_ (by lia)),hkc2 _ _ ⟨_,_,_,rfl,aL_ (sz.trans Sp) Iv_,Sn.imp (Sn.put (A:=fun z=>(∃ pl,pl<i/\∃ l j,LnP (trn N) (Pn N) pl l j/\z∈l)\/z∈l.dropLast.take n) (v:=.bl true) ktz snz' hy sd1 aa_) fun z=>?_⟩⟩;rw [BO_,hu,<-ex];show _ ↔ _\/z∈l.dropLast.take n++[u];rw [An_,Ak_,or_assoc]
    ·rintro σ Hz ⟨e10,e11,e12,rfl,sz,snz⟩;rw [Ab_,xl,C3_] at snz
     have sn':Sn Hz (trn N) (Pn N) d fun z=>∃ pl,pl<i+1/\∃ l j,LnP (trn N) (Pn N) pl l j/\z∈l:=snz.imp2 fun z y hz=>by
      constructor
      ·rintro (⟨pl,h1,h2⟩|h)
       ·exact ⟨pl,by lia,h2⟩
       ·exact ⟨i,by lia,l,j,lp,by rw [<-ecat];exact AL_ _ h⟩
      ·rintro ⟨pl,h1,l',j',h2,h3⟩;by_cases e:pl=i
       ·subst e;obtain ⟨rfl,_⟩:=h2.one tw lp;rw [<-ecat] at h3
        rcases An_.mp h3 with h|h
        ·exact .inr h
        ·rw [Ak_.mp h,wx] at hz;cases hz
       ·exact .inl ⟨pl,by lia,l',j',h2,h3⟩
     have opn:OpL (trn N) (Pn N) (i+1) (if i<j then O++[(i,j,l)] else O):=⟨O,l,j,os.op,lp,rfl⟩;have sm:Fx_ H3 Hz:=fun b o e=>sz _ _ (c1_ (os7.same _ _ e) (ae_ e nd));have hFz:=sz _ _ (dn os7.hF (by simp));have tlz:∀ (n:Nat) q o,ts[n]?=some q->O[n]?=some o->∃ W,Hz q=some (.tup [.int o.1,.int o.2.1,.ref W])/\Hz W=some (.lst ((wiL (trn N) (Pn N) o.2.2).map V.str))/\W≠F0:=fun n q o h1 h2=>let ⟨W,y1,y2,y3⟩:=os7.tl n q o h1 h2;⟨W,sz _ _ (dn y1 (by simp)),sz _ _ (dn y2 (by simp)),y3⟩;have olen:=os.len;have ofew:=os.few;have hFz':=sz _ _ (dn hF' (by simp));nofun;by_cases cj:i<j
     ·rw [if_pos cj] at opn;rw [if_pos (by lia)];refine ⟨.inl ⟨_,.inl (.inl hFz)⟩,⟨_,.inl (.inl hFz')⟩,?_⟩;have hTz:=hT3.mono sm;refine ei_ (n:=xs.length) (Pσ:=fun σ=>∃ a b c,σ=[a,b,c,some (.ref tl0)]) (fun n vs H=>vs=(wiL (trn N) (Pn N) (l.dropLast.take n)).map V.str) ⟨_,_,_,rfl⟩ (by lia) (by simp [wiL]) (fun i vs H1 H2 s z=>z) (fun i vs H1 z=>by rw [z,Ab_];exact AM_ (BA_ _ _) (List.length_take_le _ _)) (fun j Hj hj sj=>⟨_,.ref (xs[j]),.inl (.inl (sj _ _ hFz')),by simp [hj]⟩) (fun Hj sj=>⟨_,.inl (.inl (sj _ _ hFz')),by simp⟩) ?_ ?_
      ·rintro Dc n x0 σ' H8 H8' vs nDc ⟨od,hDc⟩ s8 hn' ⟨rfl,hy'⟩ ⟨a',b',c',rfl⟩ rfl Y R kY kR;have hx0:=hy' _ (.inl (.inl (s8 _ _ hFz')));rw [Ag_,Aa_ hn'] at hx0;cases hx0;obtain ⟨u,hu,e,sd,y,he,cr,hy⟩:=cN_ cra (Aa_ hn');have el:=F7_ hy;obtain ⟨ar,ea,at0,ra⟩:=(hTz.mono s8).at_ el.2;nofun;refine ⟨_,SqT.of (s8 _ _ (sz _ _ (dn he (fun kv z=>by cases z)))),rfl,_,_,rfl,_,_,rfl,_,_,rfl,rfl,?_⟩;refine ⟨_,_,rfl,(hTz.mono s8).top,_,at0,_,rfl,_,_,rfl,ra,.str y,kb_ (by rw [Ag_,show ((trn N).getD e.1 [])[e.2]?=some y from hy];rfl),kY _ _ _ ⟨_,_,_,rfl⟩ (Fx_.refl _) ?_⟩;rw [BO_,hu,f2_,Aq_];show _=_++(wiL (trn N) (Pn N) [u]).map V.str;unfold wiL;rw [BE_,cr.wr hy];rfl
      ·rintro Du H8 vs nDu s8 hDu rfl
       rw [xl,C3_,show wiL (trn N) (Pn N) l.dropLast=wiL (trn N) (Pn N) l by
        conv=>rhs;rw [<-ecat]
        rw [f2_];unfold wiL;rw [BE_,wx];simp] at hDu
       refine ⟨by decide,fun p np=>?_⟩;have S9:=Fx_.new np (o:=HO.tup [V.int i,V.int j,V.ref Du]);have hp9:=aa_ (H:=H8) (a:=p) (o:=HO.tup [V.int i,V.int j,V.ref Du]);have pF:p≠F0:=(ae_ (s8 _ _ hFz) np).symm;have DF:Du≠F0:=(ae_ hFz nDu).symm;generalize upd H8 p (HO.tup [V.int i,V.int j,V.ref Du])=H9 at *;have s89:=s8.trans S9;have k9:∀ {b:Addr}{o:HO},b≠F0->H9 b=some o->upd H9 F0 (HO.lst (ts.map V.ref++[V.ref p])) b=some o:=fun h1 h2=>by rw [af_ h1];exact h2
       obtain ⟨kvs,d1,d2⟩:=sn';refine ⟨_,s89 _ _ hFz,Fw_ (by rw [Ab_];lia),hkc _ _ ⟨_,_,_,_,_,_,ts++[p],O++[(i,j,l)],rfl,⟨aL_ (sm.trans s89) nF3,by rw [aa_,Aq_];rfl,by rw [Af_,Af_,olen];rfl,fun n q o h1 h2=>?_,⟨kvs,k9 F0d.symm (s89 _ _ d1),d2⟩,opn,by rw [Af_];exact BN_ ofew⟩⟩⟩;by_cases ci:n<ts.length
       ·rw [Al_ ci] at h1;rw [Al_ (by lia)] at h2;obtain ⟨W,y1,y2,y3⟩:=tlz n q o h1 h2;exact ⟨W,k9 (fun z=>by rw [z,hFz] at y1;cases y1) (s89 _ _ y1),k9 y3 (s89 _ _ y2),y3⟩
       ·rw [Ao_ (by lia)] at h1;rw [Ao_ (by lia),<-olen] at h2;have e0:n-ts.length=0:=by have:=(Ae_.mp h1).1;simp only [AQ_] at this;lia
        rw [e0] at h1 h2;cases h1;cases h2;exact ⟨Du,k9 pF hp9,k9 DF (S9 _ _ hDu),DF⟩
     ·rw [if_neg cj] at opn;rw [if_neg (by lia)];exact hkc _ _ ⟨_,_,_,_,_,_,ts,O,rfl,sm,hFz,olen,tlz,sn',opn,by lia⟩
   ·rintro σ Hy ⟨e7,e8,e9,e10,e11,e12,ts,O,rfl,os⟩;obtain ⟨f1,f2,f3⟩:=os.op.facts tw PT (Aj_ _);have md:m≠d:=fun z=>by obtain ⟨kv,h,_⟩:=hm;rw [z,nd] at h;cases h
    nofun;refine ⟨tl0,m,d,as0,trn N,Pn N,O,rfl,os.same _ _ ((s2.trans s3) _ _ hPt),hT3.mono os.same,hm.mono os.same,md,tw,PT,by rw [a5_];lia,fun p=>AM_ (ov_ ok po rfew p) (by decide),c40,os.sn.imp fun z=>os.op.seen tw z,f1,f2,f3,fun pl h=>os.op.places tw h,fun D zs uss L H' keep hP' nD hD tl zl cl nd' all lst pm srt L40=>?_⟩;have hP3:=(s2.trans s3) _ _ hPt;have F0P:F0≠Pt:=(ae_ hP3 nF3).symm;have olen:=os.len;have ofew:=os.few;obtain ⟨oP,hP'⟩:=hP';have hk:∀ b o,b≠Pt->H b=some o->H' b=some o:=fun b o h1 h2=>keep b o (ae_ ((s2.trans s3) _ _ h2) nd) h1 (os.same _ _ ((s2.trans s3) _ _ h2));refine ⟨D,rfl,_,keep _ _ F0d F0P os.hF,_,hD,by rw [Ab_,Ab_];exact AJ_ (Fw_ (by rw [zl,pm.length_eq,Ab_];lia)),fun p np=>?_⟩;have Sp:=Fx_.new np (o:=HO.lst (ts.map V.ref++zs.map V.ref));have hp:=aa_ (H:=H') (a:=p) (o:=HO.lst (ts.map V.ref++zs.map V.ref));generalize upd H' p (HO.lst (ts.map V.ref++zs.map V.ref))=H9 at *;have ol:(opD (trn N) (Pn N) O).length=O.length:=Ab_ _;have ul:(clD uss).length=uss.length:=Ab_ _;refine k p (ts++zs) uss H9 O L (fun b o h1 h2=>Sp _ _ (hk b o h1 h2)) ?_ (by rw [hp,Aq_]) (hL_ (by rw [Af_,Af_,olen,zl,ol,ul]) fun n q t hq ht=>?_) os.op cl nd' all lst pm srt
    ·cases e:H p with
     | none=>rfl
     | some o =>
      by_cases z:p=Pt
      ·rw [z,hP'] at np;cases np
      ·rw [hk p o z e] at np;cases np
    ·have okp:∀ {b:Addr}{o:HO},Hy b=some o->(∀ kv,o≠.dT kv)->(∀ kv,o≠.tbl kv)->H9 b=some o:=fun {b o} h1 h2 h3=>Sp _ _ (keep b o (fun z=>by obtain ⟨kv,e,_⟩:=os.sn;rw [z,e] at h1;exact h2 _ (Aw_ h1).symm) (fun z=>by rw [z,os.same _ _ hP3] at h1;exact h3 _ (Aw_ h1).symm) h1);by_cases c:n<ts.length
     ·rw [Al_ c] at hq;rw [Al_ (by lia)] at ht;unfold opD at ht;rw [Ag_] at ht;obtain ⟨o,ho,rfl⟩:=AT_.mp ht;obtain ⟨W,y1,y2,_⟩:=os.tl n q o hq ho;exact ⟨W,okp y1 (by simp) (by simp),okp y2 (by simp) (by simp),rfl⟩
     ·rw [Ao_ (by lia)] at hq;rw [Ao_ (by lia),ol,<-olen] at ht;unfold clD at ht;rw [Ag_] at ht;obtain ⟨u,hu,rfl⟩:=AT_.mp ht;obtain ⟨W,y1,y2⟩:=tl _ q hq;rw [Ad_,hu] at y2;exact ⟨W,Sp _ _ y1,Sp _ _ y2,rfl⟩
mutual
theorem i1_ {H H':Hp}{Pt:Addr}{ps:Array Value}(hP:H Pt=some (.tbl ps))(e:∀ b o,b≠Pt->H b=some o->H' b=some o):∀ {v:V}(d:Dt),Rep H v d->Rep H' v d
 | v,.non,h=>h
 | v,.bl b,h=>h
 | v,.int i,h=>h
 | v,.str x,h=>h
 | v,.tup ds,⟨p,xs,h1,h2,h3⟩=>⟨p,xs,h1,e _ _ (fun z=>by rw [z,hP] at h2;cases h2) h2,hP_ hP e ds h3⟩
 | v,.lst ds,⟨p,xs,h1,h2,h3⟩=>⟨p,xs,h1,e _ _ (fun z=>by rw [z,hP] at h2;cases h2) h2,hP_ hP e ds h3⟩
theorem hP_ {H H':Hp}{Pt:Addr}{ps:Array Value}(hP:H Pt=some (.tbl ps))(e:∀ b o,b≠Pt->H b=some o->H' b=some o):∀ {xs:List V}(ds:List Dt),F0_ H xs ds->F0_ H' xs ds
 | xs,[],h=>h
 | xs,d::ds,⟨x,r,h1,h2,h3⟩=>⟨x,r,h1,i1_ hP e d h2,hP_ hP e ds h3⟩
end
def dO (o:Option (Nat×Nat)):Dt×Dt:=match o with|some (p,j)=>(.int p,.int j)|none=>(.non,.non)
def dLD (t:LD):Dt:=.tup [(dO t.1).1,(dO t.1).2,.lst (t.2.map Dt.str)]
theorem kH_ {H0 H:Hp}:∀ {ts:List Addr}{ls:List LD},LA H0 H ts ls->F0_ H (ts.map V.ref) (ls.map dLD)
 | [],[],_=>rfl
 | q::ts,t::ls,.cons ⟨W,h1,h2,_⟩ h=>⟨_,_,rfl,⟨q,_,rfl,h1,_,_,rfl,by
  obtain ⟨o,us⟩:=t;cases o with
  | none=>rfl
  | some o=>rfl,_,_,rfl,by
  obtain ⟨o,us⟩:=t;cases o with
  | none=>rfl
  | some o=>rfl,_,_,rfl,⟨W,_,rfl,h2,bz_ _⟩,rfl⟩,kH_ h⟩
theorem pj_ (ls:List LD):dep (.lst (ls.map dLD))<=60:=by
 have h:deps (ls.map dLD)<=3:=by
  induction ls with
  | nil=>exact Ay_ _
  | cons t ls ih =>
   obtain ⟨o,us⟩:=t;have:=et_ (f:=Dt.str) (n:=0) (fun _=>Aj_ _) us
   have hd:dep (dLD (o,us))<=3:=by
    cases o with
    | none=>simp only [dLD,dO,dep,deps];lia
    | some o=>obtain ⟨p,j⟩:=o;simp only [dLD,dO,dep,deps];lia
   rw [AG_,deps];lia
 rw [dep];lia
theorem p7_ {a b:List Str}(r:Rd a b):lw a=lw b:=by
 by_cases h:∃ u,Lst a u
 ·exact Lt_ h r
 ·have h2:¬ ∃ u,Lst b u:=fun ⟨u,k1,k2⟩=>h ⟨u,r.trans k1,fun v hv=>k2 v (r.symm.trans hv)⟩;unfold lw;rw [dif_neg h,dif_neg h2]
theorem pk_ {T:List (List Str)}{P:Nat}(tw:Tw T){O:List (Nat×Nat×List Sd)}{L L':List (List Sd)}{us us':List (List Str)}(c1:∀ l∈L,ClL T P l)(c2:∀ l∈L',ClL T P l)(n1:(csO O++(L.map cs).flatten).Nodup)(n2:(csO O++(L'.map cs).flatten).Nodup)(a1:∀ c,IsC T P c ↔ c∈csO O++(L.map cs).flatten)(a2:∀ c,IsC T P c ↔ c∈csO O++(L'.map cs).flatten)(p1:us.Perm (L.map fun l=>lw (wiL T P l)))(p2:us'.Perm (L'.map fun l=>lw (wiL T P l)))(s1:us.Pairwise fun x y=>Gx_ y x=false)(s2:us'.Pairwise fun x y=>Gx_ y x=false):us=us':=by
 have half:∀ {L L':List (List Sd)},(csO O++(L.map cs).flatten).Nodup->(∀ c,IsC T P c ↔ c∈csO O++(L.map cs).flatten)->(∀ c,IsC T P c ↔ c∈csO O++(L'.map cs).flatten)->∀ c,c∈(L.map cs).flatten->c∈(L'.map cs).flatten:=fun {L L'} n a b c hc=>by
  rcases An_.mp ((b c).mp ((a c).mpr (AH_ _ hc))) with h|h
  ·exact absurd rfl ((AK_.mp n).2.2 c h c hc)
  ·exact h
 have:=h0_ (P:=P) tw (f:=fun l=>lw (wiL T P l)) (fun l m r=>p7_ r) (L:=L) (M:=L') c1 c2 (AK_.mp n1).2.1 (AK_.mp n2).2.1 fun c=>⟨half n1 a1 a2 c,half n2 a2 a1 c⟩;exact o2_ (p1.trans (this.trans p2.symm)) s1 s2
theorem n3_ {N:Net Str}{O:List (Nat×Nat×List Sd)}{L:List (List Sd)}{uss:List (List Str)}(tw:Tw (trn N))(PT:Pn N<=(trn N).length)(c40:(corners (trn N) (Pn N)).length<=40)(op:OpL (trn N) (Pn N) (2*Pn N) O)(nd:(csO O++(L.map cs).flatten).Nodup)(all:∀ c,IsC (trn N) (Pn N) c ↔ c∈csO O++(L.map cs).flatten)(ex:∀ l∈L,∃ u,Lst (wiL (trn N) (Pn N) l) u)(pm:uss.Perm (L.map fun l=>lw (wiL (trn N) (Pn N) l))):∀ t∈opD (trn N) (Pn N) O++clD uss,t.2.length<=40:=fun t ht=>by
 rcases An_.mp ht with h|h
 ·obtain ⟨o,ho,rfl⟩:=Ap_.mp h;obtain ⟨h1,_,h3⟩:=op.in_ o ho;have sh:=h3.ln.pa.short tw h3.ln.hd (H1_ (T:=trn N) PT h1) (h3.ln.pa.nd_first tw h3.ln.hd (bx_ h1));exact AM_ (BA_ _ _) (by lia)
 ·obtain ⟨u,hu,rfl⟩:=Ap_.mp h;obtain ⟨l,hl,rfl⟩:=Ap_.mp (pm.mem_iff.mp hu);obtain ⟨u,hu'⟩:=ex l hl;rw [I1_ hu']
  have le:u.length=(wiL (trn N) (Pn N) l).length:=by
   rcases hu'.1 with ⟨x,y,h1,h2⟩|⟨x,y,h1,h2⟩
   ·rw [h1,h2,Af_,Af_,Dl_]
   ·have:=congrArg List.length h1;rw [Ba_] at this;rw [this,h2,Af_,Af_,Dl_]
  have h2:=bJ_ (l:=cs l) (m:=corners (trn N) (Pn N)) ((AK_.mp nd).2.1.sublist (CF_ (Ap_.mpr ⟨_,hl,rfl⟩))) fun c hc=>bp_.mpr ((all c).mpr (AH_ _ (BF_.mpr ⟨_,Ap_.mpr ⟨_,hl,rfl⟩,hc⟩)));have h3:(cs l).length=l.length:=Ab_ _;have h4:(wiL (trn N) (Pn N) l).length<=l.length:=BA_ _ _;show u.length<=40;lia
abbrev GB_:Stmt:=stN 33
theorem hQ_:FF_ ["_law_script", "_law_net", "_law_handed", "_law_due", "_law_turn", "_law_found", "_law_line"] ["_law_script"] (Fy_ GB_):=⟨rfl,rfl,rfl,by rfl',rfl,by rfl',by rfl'⟩
theorem n4_:LK GB_ "_law_script" .local:=by rfl'
theorem g1_:LK GB_ "_law_net" .local:=by rfl'
theorem i2_:LK GB_ "_law_handed" .local:=by rfl'
theorem lm_:LK GB_ "_law_due" .local:=by rfl'
theorem n5_:LK GB_ "_law_turn" .local:=by rfl'
theorem fX_:LK GB_ "_law_found" .local:=by rfl'
theorem g2_:LK GB_ "_law_line" .local:=by rfl'
theorem gJ_:LK GB_ "_law_copy" .globalImplicit:=by rfl'
theorem i3_:LK GB_ "_law_lines" .globalImplicit:=by rfl'
theorem hV_:LK GB_ "_law_net_by" .globalImplicit:=by rfl'
theorem b2_:LK GB_ "isinstance" .globalImplicit:=by rfl'
theorem hR_:LK GB_ "lines_of" .globalImplicit:=by rfl'
theorem hS_:LK GB_ "list" .globalImplicit:=by rfl'
theorem j3_:LK GB_ "range" .globalImplicit:=by rfl'
theorem j4_:LK GB_ "tuple" .globalImplicit:=by rfl'
def If_ (K:PySem.W.Frag)(Pt:Addr):Sp:=fun vs H Q _=>∃ (a:Addr)(ns:List Int),vs=[.ref a]/\SqL K H a (ns.map V.int)/\H Pt=some (.tbl #[])/\∀ H',Q (.bl true) H'
theorem p8_ {Pt:Addr}{f:Addr}{fd:FuncData}(T:Txt K mg)(F:Fun K "law" "law" GB_ f fd) (I8_:Cal P w K mg base "_law_net_by" ["_law_script", "_law_at", "_law_most"] 4 (JG_ K)) (I9_:Cal P w K mg base "_law_copy" ["_law_net"] 1 II_) (Jw_:Cal P w K mg base "_law_lines" ["_law_net"] 5 (Hv_ Pt)) (Iy_:Cal P w K mg base "lines_of" ["net"] 5 Ih_):HK_ P w K mg base CX0 6 f fd ["_law_script"] (If_ K Pt):=by
 refine F.ok hQ_ ?len ?body
 case len=>rintro vs H Q E ⟨a,b,rfl,_⟩;rfl
 case body =>
  intro cdv A outer s H vs Q E hr h;obtain ⟨a,ns,rfl,hS,hPt,k⟩:=h;refine' ⟨_,?D,?R⟩
  case D =>
   refine' ac_ (ah_ (i:=1) hQ_.nd rfl g1_ (al_ I8_ (hr.mono (by decide)) hV_ (pa_c (pv1 0 rfl n4_) (pa_c ad_ (pa_c ad_ ab_))))) ?g2
   case' g2=>refine' ac_ (ah_ (i:=2) hQ_.nd rfl i2_ (al_ I9_ (hr.mono (by decide)) gJ_ (pa_c (pv1 1 rfl g1_) ab_))) (ac_ (ah_ (i:=3) hQ_.nd rfl lm_ (al_ Jw_ (hr.mono (by decide)) i3_ (pa_c (pv1 1 rfl g1_) ab_))) ?g18)
   case' g18=>refine' ai_ (aZ_ AA_ rfl (aC_ j3_ T.n_range (pa_c ad_ ab_)) ?g26 ?g27) (aj_ (aB_ GI_))
   case g26=>exact ag_ (i:=4) hQ_.nd rfl n5_
   case' g27=>refine' ac_ (ah_ (i:=5) hQ_.nd rfl fX_ (al_ Iy_ (hr.mono (by decide)) hR_ (pa_c (pv1 2 rfl i2_) ab_))) (ac_ (Gp_ ?g39 (aj_ (aB_ GI_)) aW_) ?g38)
   case' g39=>refine' PW.pt (Km_ (kU_ (i7_ (am_ gW_ b2_ T.n_isinstance cr_ (pa_c (pv1 5 rfl fX_) (pa_c ?g50 ab_))))) ?g44)
   case g50=>exact kY_ hS_ T.n_list dC_
   case' g44=>refine' Km_ (aG_ (jn_ (hr.units)) (pv1 5 rfl fX_) (pv1 3 rfl lm_) (FY_ _)) (oa_ (aG_ (jn_ (hr.units)) (pv1 2 rfl i2_) (al_ I9_ (hr.mono (by decide)) gJ_ (pa_c (pv1 1 rfl g1_) ab_)) (FY_ _)))
   case' g38=>refine' ac_ ?g64 (aj_ (aA_ (Gi_ Az_ AC_ AD_ az_ (pv1 5 rfl fX_) (pa_c ?g109 ab_))))
   case' g64=>refine' aZ_ AA_ rfl (aR_ (K:=K) rfl (pv1 5 rfl fX_)) ?g67 (ac_ (Gp_ ?g72 (aj_ (aB_ GI_)) aW_) ?g71)
   case g67=>exact ag_ (i:=6) hQ_.nd rfl g2_
   case' g72=>refine' PW.pt (Km_ (kU_ (i7_ (am_ gW_ b2_ T.n_isinstance cr_ (pa_c (pv1 6 rfl g2_) (pa_c ?g83 ab_))))) ?g77)
   case g83=>exact kY_ j4_ T.n_tuple nx_
   case' g77=>refine' oa_ (kU_ (i7_ (am_ gW_ b2_ T.n_isinstance cr_ (pa_c (FG_ ap_ (pv1 6 rfl g2_) ad_ (fun _ _=>rfl)) (pa_c ?g93 ab_)))))
   case g93=>exact kY_ hS_ T.n_list dC_
   case' g71=>refine' aj_ (aA_ (Gi_ Az_ AC_ AD_ az_ (FG_ ap_ (pv1 6 rfl g2_) ad_ (fun _ _=>rfl)) (pa_c l7_ ab_)))
   case g109=>exact he_
  case R =>
   nofun;refine ⟨a,ns,rfl,hS,fun v N H1 s1 rep1 ok po wo rise=>?_⟩;have tw:=ha_ ok po;have c40:=I4_ ok po;have PT:Pn N<=(trn N).length:=by rw [a5_];unfold pts;rw [Af_];exact Bh_ _ _
   nofun;refine ⟨_,N,rfl,rep1,ok,fun v1 H2 s2 rep2=>?_⟩;nofun;have hP2:=(s1.trans s2) _ _ hPt;refine ⟨_,N,rfl,Rep.mono s2 _ rep1,ok,po,hP2,fun D0 ts0 us0 H3 O0 L0 keep nD0 hD0 la0 op0 cl0 nd0 all0 ex0 pm0 srt0=>?_⟩;have repN:=i1_ hP2 keep _ (Rep.mono s2 _ rep1);have repH:=i1_ hP2 keep _ rep2;have repD:Rep H3 (.ref D0) (.lst ((opD (trn N) (Pn N) O0++clD us0).map dLD)):=⟨D0,_,rfl,hD0,kH_ la0⟩;nofun;refine ⟨by decide,by decide,?_⟩;rw [show Int.toNat 2=2 from rfl];refine a3_ (fun i σ Hy=>∃ (e4 e5 e6:Option V),σ=[some (.ref a),some v,some v1,some (.ref D0),e4,e5,e6]/\Fx_ H3 Hy) ⟨_,_,_,rfl,Fx_.refl _⟩ ?_ ?_
   ·rintro i σ Hy hi kc kb hkc hkb G hG ⟨e4,e5,e6,rfl,sy⟩;refine hG ?_;rw [show (0:Int)+(i:Int)=(i:Int) by lia];nofun;refine ⟨_,N,rfl,Rep.mono sy _ repH,ok,po,fun D ts uss H5 O L s5 nD hD la t200 op cl nd all ex pm srt=>?_⟩;have eO:=op.one tw op0;subst eO;have eU:=pk_ tw cl cl0 nd nd0 all all0 pm pm0 srt srt0;subst eU;nofun;refine ⟨"list",by show (match H5 D with|some (.lst _)=>some "list" | some (.tup _)=>some "tuple" | _=>none)=_;rw [hD],?_⟩;rw [if_neg (by decide)];refine ⟨.lst ((opD (trn N) (Pn N) O++clD uss).map dLD),⟨D,_,rfl,hD,kH_ la⟩,_,Rep.mono (sy.trans s5) _ repD,true,iQ_ _,pj_ _,?_⟩;rw [if_neg (by decide)];have s35:=sy.trans s5;refine ⟨_,N,rfl,Rep.mono s35 _ repN,ok,fun v2 H6 s6 rep6=>?_⟩;obtain ⟨pu,_,_,_,_,_,eu,_⟩:=c6_ rep2;obtain ⟨pv,_,_,_,_,_,ev,_⟩:=c6_ rep6;refine ⟨pu,eu,pv,ev,_,Rep.mono (s35.trans s6) _ repH,_,rep6,true,iQ_ _,pd_ N,?_⟩;rw [if_neg (by decide)];have sh:=n3_ tw PT c40 op nd all ex pm;nofun;have hD6:=s6 _ _ hD;refine ⟨⟨_,.inl (.inl hD6)⟩,?_⟩;refine eJ_ (xs:=ts.map V.ref) (fun n σ Hz=>∃ (e6:Option V),σ=[some (.ref a),some v,some v1,some (.ref D0),some (.int i),some (.ref D),e6]/\Fx_ Hy Hz/\Hz D=some (.lst (ts.map V.ref))/\(∀ b xs,H6 b=some (.tup xs)->Hz b=some (.tup xs))/\∀ (k:Nat) q x y W,ts[k]?=some q->H6 q=some (.tup [x,y,.ref W])->∃ xs,Hz W=some (.lst xs)/\xs.length<=40+n) ⟨_,rfl,s5.trans s6,hD6,fun b xs h=>h,fun k' q x y W hq hW=>?_⟩ ?_ ?_ ?_
    ·obtain ⟨t,ht,W',g1,g2,_⟩:=cN_ la hq;rw [s6 _ _ g1] at hW;cases hW;exact ⟨_,s6 _ _ g2,by rw [Ab_];exact sh t (Am_ ht)⟩
    ·rintro n σ Hz hn ⟨e6,rfl,sz,hDz,_⟩;exact .inl (.inl hDz)
    ·rintro n x0 σ Hz hx0 kc2 kb2 hkc2 hkb2 G2 hG2 ⟨e6,rfl,sz,hDz,tp,wz⟩;refine hG2 ?_;have hn:n<ts.length:=by have:=(Ae_.mp hx0).1;rwa [Ab_] at this
     rw [Ag_] at hx0;obtain ⟨q,hq,rfl⟩:=AT_.mp hx0;obtain ⟨t,ht,W,g1,g2,g3⟩:=cN_ la hq;have hqz:=tp _ _ (s6 _ _ g1);obtain ⟨xs,hWz,xl⟩:=wz n q _ _ W hq (s6 _ _ g1)
     have WD:W≠D:=fun z=>by
      rw [z,hD] at g2;cases ts with
      | nil=>cases hn
      | cons b ts =>
       have:=HO.lst.inj (Aw_ g2);cases h:t.2 with
       | nil=>rw [h] at this;cases this
       | cons c cs'=>rw [h] at this;cases this
     nofun;refine ⟨"tuple",by show (match Hz q with|some (.lst _)=>some "list" | some (.tup _)=>some "tuple" | _=>none)=_;rw [hqz],?_⟩;rw [if_neg (by decide)];refine ⟨_,hqz,_,H0_, "list",by show (match Hz W with|some (.lst _)=>some "list" | some (.tup _)=>some "tuple" | _=>none)=_;rw [hWz],?_⟩;rw [if_neg (by decide)];nofun;refine ⟨_,hqz,_,H0_,.inl ⟨_,.inl (.inl hWz)⟩,W,rfl,_,hWz,Fw_ (by lia),hkc2 _ _ ⟨_,rfl,aL_ sz g3,by rw [af_ WD.symm];exact hDz,fun b ys hb=>?_,fun k' q' x y W' hq' hW'=>?_⟩⟩
     ·rw [af_ (fun z=>by have:=tp _ _ hb;rw [z,hWz] at this;cases this)];exact tp _ _ hb
     ·obtain ⟨ys,h1,h2⟩:=wz k' q' x y W' hq' hW';by_cases z:W'=W
      ·rw [z,aa_];exact ⟨_,rfl,by rw [Af_];simp;lia⟩
      ·rw [af_ z];exact ⟨ys,h1,by lia⟩
    ·rintro σ Hz ⟨e6,rfl,sz,hDz,tp,wz⟩;nofun;exact ⟨.inl ⟨_,.inl (.inl hDz)⟩,_,hDz,Fw_ (by rw [Ab_];lia),hkc _ _ ⟨_,_,_,rfl,aL_ (sy.trans sz) (sy.free nD)⟩⟩
   ·rintro σ Hy ⟨e4,e5,e6,rfl,sy⟩;nofun;exact k _
open PySem PySem.Spec PyProof.Rows L2
theorem p9_ {l:PySem.W.OpenLaw}{w:World}{K:PySem.W.Frag}{mg:Str->Option Value}{fa c Pt:Addr}(hfa:mg "law" = some (.ref fa)) (T:Txt K mg)  (G9_:Fn0 K mg "ends_by_wire" FN_) (HH_:Fn0 K mg "other_ends" F5_) (GO_:Fn0 K mg "corners_in_order" FB_) (Jx_:Fn0 K mg "turned" GV_) (GH_:Fn0 K mg "corners_behind_ends" FA_) (H6_:Fn0 K mg "goings_of" FR_) (H7_:Fn0 K mg "starts_of" F3_) (H8_:Fn0 K mg "gone_from" F4_) (H9_:Fn0 K mg "trails_of" FE_) (Hk_:Fn0 K mg "least_round" FK_) (Iz_:Fn0 K mg "lines_of" FW_) (IA_:Fn0 K mg "_law_cell_at" Gq_) (KM_:Fn0 K mg "_law_big" Gv_) (KN_:Fn0 K mg "_law_low" GS_) (Ia_:Fn0 K mg "_law_worth_of" Gc_) (Jy_:Fn0 K mg "_law_mates" Gf_) (IB_:Fn0 K mg "_law_corners" FZ_) (GT_:Fn0 K mg "_law_corner_behind" FD_) (Ja_:Fn0 K mg "_law_region" Ga_) (Jz_:Fn0 K mg "_law_grown" FQ_) (JA_:Fn0 K mg "_law_names" FU_) (JB_:Fn0 K mg "_law_begun" Gm_) (Jb_:Fn0 K mg "_law_net_by" FC_) (Ko_:Fn0 K mg "_law_copy" GQ_) (JC_:Fn0 K mg "_law_turns" Gg_) (Jc_:Fn0 K mg "_law_beyond" FX_) (Hl_:Fn0 K mg "_law_from_place" FI_) (Ha_:Fn0 K mg "_law_least_round" FO_) (Jd_:FnC K mg "_law_closed" FL_ c) (JD_:Fn0 K mg "_law_lines" FP_) (LB_:Fn0 K mg "law" GB_) :
  ∃ fd:FuncData,(∀ (s:Shared)(v:Value),BindsTo s fd ⟨[v],[]⟩ [("_law_script",v)])/\∀ base:Heap,K.In base->base.Ns mainGlobals mg->Lam mg base c Pt->HK_ l.prog w K mg base CX0 6 fa fd ["_law_script"] (If_ K Pt):=by
 obtain ⟨f,fd,FL,m⟩:=LB_;have e:=hfa.symm.trans m;cases e;refine ⟨fd,?_,fun base _ _ LM=>?_⟩
 ·obtain ⟨oc,od,kV,doc,pm,an,cdv,ct,osl,rfl,lk,hcd⟩:=FL.ex;exact fun s v=>.of_eq rfl
 ·have c1:=hE_ (P:=l.prog) (w:=w) (base:=base) T G9_ ;have c2:=iR_ T HH_ c1;have c3:=fc_ (P:=l.prog) (w:=w) (base:=base) T GO_ ;have c4:=m8_ (P:=l.prog) (w:=w) (base:=base) T Jx_ ;have c5:=ea_ (P:=l.prog) (w:=w) (base:=base) T GH_ ;have c6:=jU_ T H6_ c5 c2;have c7:=jV_ (P:=l.prog) (w:=w) (base:=base) T H7_ ;have c8:=jW_ (P:=l.prog) (w:=w) (base:=base) T H8_ ;have c9:=j1_ T H9_ c7 c6 c8 c4 c3;have c10:=hU_ (P:=l.prog) (w:=w) (base:=base) T Hk_ ;have c12:=kF_ T Iz_ c9 c10;have d1:=kq_ (P:=l.prog) (w:=w) (base:=base) T IA_ ;have d2:=o8_ T KM_ d1;have d3:=o9_ (P:=l.prog) (w:=w) (base:=base) T KN_ ;have d4:=jO_ T Ia_ d3;have d5:=mU_ (P:=l.prog) (w:=w) (base:=base) T Jy_ ;have d6:=kt_ (P:=l.prog) (w:=w) (base:=base) T IB_ ;have d7:=f8_ (P:=l.prog) (w:=w) (base:=base) T GT_ ;have d8:=lI_ T Ja_ d7;have d9:=mV_ T Jz_ d6 d5 d8;have d10:=mY_ (P:=l.prog) (w:=w) (base:=base) T JA_ ;have d11:=m1_ (P:=l.prog) (w:=w) (base:=base) T JB_ ;have d12:=lJ_ T Jb_ d2 d9 d10 d11 d4;have d13:=nZ_ (P:=l.prog) (w:=w) (base:=base) T Ko_ ;have d14:=nd_ (P:=l.prog) (w:=w) (base:=base) T JC_ ;have d15:=lN_ (P:=l.prog) (w:=w) (base:=base) T Jc_ ;have d16:=hT_ T Hl_ d15;have d17:=hM_ (P:=l.prog) (w:=w) (base:=base) T Ha_ ;have d18:=lO_ LM T Jd_ d15 d17;have d19:=ni_ T JD_ d14 d5 d16 d18;exact p8_ T FL d12 d13 d19 c12
theorem walk {l:PySem.W.OpenLaw}{q:Program}{loose:List Str}{XP:(Str->Option Value)->Heap->Prop}{YP:World->Heap->Prop}{d:DefRec}{K:Params->PySem.W.Frag}{c Pt:Addr}(hn:l.most=some 63)(hdf:d.params.defaults=[])
  (hY:∀ (w:World)(h:Heap),YP w h->(K w.params).In h/\h.get? Pt=some (PySem.W.tabObj #[])) (hKP:∀ p,(K p).lookup Pt=none) (hcd:∀ (p:Params)(base:Heap),(K p).In base->PySem.W.CodeHd base c Pt)
  (F:∀ (w:World)(mg:Str->Option Value)(fa:Addr)(h:Heap),(K w.params).In h->h.Ns mainGlobals mg->mg d.name=some (.ref fa) ->
   ∃ fd:FuncData,(∀ (s:Shared)(u:Value),BindsTo s fd ⟨[u],[]⟩ [("_law_script",u)])/\∀ base:Heap,(K w.params).In base->base.Ns mainGlobals mg->Lam mg base c Pt->HK_ l.prog w (K w.params) mg base CX0 6 fa fd ["_law_script"] (If_ (K w.params) Pt)) :
  PySem.W.WalkO q loose XP YP l.row.toRowW d [] (fun f vs=>PySem.call f vs) :=
 L2.nS_ (n:=63) (k:=6) (x := "_law_script") (sp:=fun w=>If_ (K w.params) Pt) hn (by decide) hdf ⟨rfl,by decide,by decide⟩ hY hKP hcd F (fun _ _ a ns _ hP hS=>⟨a,ns,rfl,hS,hP,fun _=>rfl⟩)
end Rim25
namespace PySem.W.Fast
def tw16670892661790729154:=0
def tw5710218358678107239:=0
def tw15782079089088027289:=0
def tw1185480529333147316:=0
def tw13850759524670627772:=0
def tw16262902786917424295:=0
def tw9123294192909582617:=0
def tw8975441361505088683:=0
def tw6790674112711231005:=0
def tw16982179516257047738:=0
def tw13982521469322112330:=0
def tw13250898088631954728:=0
def tw17466696017656729056:=0
def tw6439388209171656128:=0
def tw17447568046543880015:=0
def tw4220816455892643819:=0
def tw11181804103885768693:=0
def tw12271317467324175230:=0
def tw18057886201342498048:=0
def tw9445484758491563829:=0
def tw5828496585383618651:=0
def tw5539170222323783166:=0
def tw12944685354289986813:=0
def tw17690208680058957484:=0
def tw18392647383050839144:=0
def tw7064466089983684544:=0
def tw5290762423098627192:=0
def tw13516759034836124855:=0
def tw16965376315990065703:=0
def tw2219038414527911980:=0
def tw3438406135532488008:=0
def tw8476994316897496847:=0
def tw13709449926784800344:=0
def tw11823124197539183826:=0
def tw73781323617145926:=0
def tw17060722300652234222:=0
def tw10135675184681774592:=0
def tw7839325844717954844:=0
def tw4032544502801097820:=0
def tw4169639826611466036:=0
def tw14888941287511024023:=0
def tw7464576574721529158:=0
def tw4416862534035967534:=0
def tw10362992663208500309:=0
def tw9391303842987067827:=0
def tw13535541569501768758:=0
def tw16273616054074797247:=0
def tw8531269365670454220:=0
def tw9148495289725897148:=0
def tw11110479257296357970:=0
def tw4545392695034810471:=0
def tw4926145423614272594:=0
def tw3567416690908562470:=0
def tw1647379101540304930:=0
def tw2330131919609547520:=0
def tw3897735100087448181:=0
def tw12544983064906096415:=0
def tw16789521405182243315:=0
def tw3303975537981193041:=0
def tw5330222419436319370:=0
def tw14735174265886348622:=0
def tw13836583684600563359:=0
def tw6055060061336644780:=0
def tw12497741033011186010:=0
def tw8537408409276945797:=0
def tw10559167817650861873:=0
def tw12906327709323458773:=0
def tw13825697063951154891:=0
def tw13330142857933182490:=0
def tw15606769594397430769:=0
def tw13346667003930326672:=0
def tw3056544901380194717:=0
def tw5335602313880485776:=0
def tw16394330105890570529:=0
def tw8059074552220190833:=0
def tw17206692760456906052:=0
def tw11955716009849903399:=0
def tw11587098687904424488:=0
def tw3630786696013877342:=0
def tw18141072529522998619:=0
def tw6949064640902942678:=0
def tw2092682848003721:=0
def tw17516867641733762096:=0
def tw18303270365755372491:=0
def tw4549865371168321137:=0
def tw6055256086169046934:=0
def tw14466017927059218989:=0
def tw2023316875703915745:=0
def tw13678707627958320309:=0
def tw12049441544526440191:=0
def tw7917512284710890517:=0
def tw15919974408708685775:=0
def tw11004834059766790454:=0
def tw5674043190433781000:=0
def tw15158928827866408370:=0
def tw12104295087668700633:=0
def tw7154466513971164827:=0
def tw13835641214512436818:=0
def tw1366197920927289540:=0
def tw7347448572127858167:=0
def tw8633196897744311433:=0
def tw1014649430330284268:=0
def tw7379999002204722609:=0
def tw630022984794724577:=0
def tw17915802285558496643:=0
def tw9975416472095315737:=0
def tw1239916515765122799:=0
def tw3252376209629283331:=0
def tw11249828846822603417:=0
def tw5897668025983560836:=0
def tw11526399140807231223:=0
def tw3383421525497740982:=0
def tw16577312832847967576:=0
def tw15631107633800807793:=0
def tw1940445059920894:=0
def tw10857819236630286329:=0
def tw989414384714307069:=0
def tw3967390128758710574:=0
def tw13205428252524605239:=0
def tw16724936481557001865:=0
def tw11778312928456728013:=0
def tw17075432948039573079:=0
def tw14129981884329760789:=0
def tw15115610650348113834:=0
def tw9041653984503044289:=0
def tw2514682055104887050:=0
def tw5955740720326967903:=0
def tw5414444235301032629:=0
def tw14084785243058133442:=0
def tw13146716664142033336:=0
def tw3097794267400108197:=0
def tw982493972190975652:=0
def tw8859873276320530028:=0
def tw5453247044088015530:=0
def tw13196613518394812804:=0
def tw14842582100294886379:=0
def tw13174361836751928527:=0
def tw5735594588415165491:=0
def tw6696869419391970350:=0
def tw16791151918152904494:=0
def tw4660902038683135518:=0
def tw16535996711141855204:=0
def tw1081801346088348558:=0
def tw623282395188909825:=0
def tw1630123183333504383:=0
def tw8088771754088816662:=0
def tw4584743209589216218:=0
def tw18091119069954151383:=0
def tw15746560910285843915:=0
def tw136001778058579084:=0
def tw9973852235325775081:=0
def tw3549807507724020830:=0
def tw9877991897681718572:=0
def tw13149582943285818751:=0
def tw765231903743009757:=0
def tw468567806453312642:=0
def tw741752082713867824:=0
def tw1683953229681652924:=0
def tw3677160983554130058:=0
def tw7065101524049547677:=0
def tw10347641320097464526:=0
def tw9956797432782534681:=0
def tw2278572135936272768:=0
def tw17747254536303828411:=0
def tw12455273675993071542:=0
def tw12966644118346050737:=0
def tw5686884709950723172:=0
def tw8044037189732419154:=0
def tw15123622026162575731:=0
def tw12488163170746164126:=0
def tw7302406360451464826:=0
def tw16434711390767908969:=0
def tw6556339945339811391:=0
def tw2370818187437320002:=0
def tw757137715695439043:=0
def tw3449394525883763759:=0
def tw11294628457690352113:=0
def tw7195184557812762405:=0
def tw2168708854626594237:=0
def tw16994274032456519727:=0
def tw7930522361775172869:=0
def tw7709524955813191308:=0
def tw5205595626298919968:=0
def tw1331963810945917441:=0
end PySem.W.Fast
open PySem PySem.W PyProof.Rows
set_option maxRecDepth 100000 in
set_option maxHeartbeats 0 in
theorem PySem.Challenge.cw_rimread_k25_lines_holds : PySem.Challenge.rw_rimread_k25_lines.Holds := by
 w_on; o_law; k_head; (case hw=>w_witness2)
 k_fill
 refine Rim25.walk (l:=PySem.Challenge.rw_rimread_k25_lines) (c:=196) (Pt:=192) rfl rfl (fun w h Y=>⟨PySem.W.km_in_of Y,PySem.W.km_tabs_of Y 192 (List.mem_singleton.mpr rfl)⟩) (fun p=>rfl) (fun p base h=>⟨_,_,_,_,_,_,_,_,_,h 196 _ rfl,rfl,rfl,rfl,rfl,rfl,rfl,rfl,rfl,by decide⟩) ?F
 case F =>
  intro w mg fa h KX G hmg;refine Rim25.p9_  hmg ⟨?n_abs,?n_max,?n_min,?n_ValueError,?n_dict,?n_len,?n_range,?n_list,?n_isinstance,?n_int,?n_bool,?n_tuple,?n_str,?n_enumerate,?n_sorted,?n_set,?n_reversed⟩ ?f_ends_by_wire ?f_other_ends ?f_corners_in_order ?f_turned ?f_corners_behind_ends ?f_goings_of ?f_starts_of ?f_gone_from ?f_trails_of ?f_least_round ?f_lines_of ?f_Lcell_at ?f_Lbig ?f_Llow ?f_Lworth_of ?f_Lmates ?f_Lcorners ?f_Lcorner_behind ?f_Lregion ?f_Lgrown ?f_Lnames ?f_Lbegun ?f_Lnet_by ?f_Lcopy ?f_Lturns ?f_Lbeyond ?f_Lfrom_place ?f_Lleast_round ?f_Lclosed ?f_Llines ?f_law
  case n_abs | n_max | n_min | n_ValueError | n_dict | n_len | n_range | n_list | n_isinstance | n_int | n_bool | n_tuple | n_str | n_enumerate | n_sorted | n_set | n_reversed=>refine' PySem.W.mg_none_of KX G ?a; (case a=>k_is)
  case f_ends_by_wire | f_other_ends | f_corners_in_order | f_turned | f_corners_behind_ends | f_goings_of | f_starts_of | f_gone_from | f_trails_of | f_least_round | f_lines_of | f_Lcell_at | f_Lbig | f_Llow | f_Lworth_of | f_Lmates | f_Lcorners | f_Lcorner_behind | f_Lregion | f_Lgrown | f_Lnames | f_Lbegun | f_Lnet_by | f_Lcopy | f_Lturns | f_Lbeyond | f_Lfrom_place | f_Lleast_round | f_Llines | f_law=>refine' L2.pG_ KX G ?a ?l ?c ?k; (case a=>k_is); (case l=>k_is); (case c=>k_is); (case k=>k_is)
  case f_Lclosed=>refine' L2.pW_ KX G ?a ?l ?c ?k; (case a=>k_is); (case l=>k_is); (case c=>k_is); (case k=>k_is)
