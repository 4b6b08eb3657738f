import PyProof.Rows.All
import Wide.All
import OpenK.AllK
import Wide.FinOn
import Lean
import PyProof.EqAt
import PyProof.EqKinds
import PyProof.TupleCall
import PySem.Challenge.RW_rimread_k19_flows_at_posts
local macro_rules|`(tactic|show $t:term)=>`(tactic|refine $t)
local macro_rules | `(tactic|rfl')=> `(tactic|decide +kernel)
local macro_rules | `(tactic|lia)=>`(tactic|first|lia -verbose|omega)
theorem o_{p:Prop}(h:p:=by lia):p:=h
theorem d_{p:Prop}(h:p:=by decide):p:=h
theorem r_{p:Prop}(h:p:=by rfl'):p:=h
theorem s_{p:Prop}(h:p:=by simp):p:=h
set_option Elab.async false
set_option linter.all false
set_option maxRecDepth 100000
set_option maxHeartbeats 4000000
set_option compiler.extract_closed false
def Aa_:=@List.getD_eq_getElem?_getD
def Ab_:=@List.length_map
def Ac_:=@List.getElem?_eq_getElem
def Ad_:=@List.getElem?_map
def Ae_:=@PySem.wpAny_bind
def Af_:=@Nat.le_refl
def Ag_:=@List.mem_cons_of_mem
def Ah_:=@List.mem_cons_self
def Ai_:=@List.mem_of_getElem?
def Aj_:=@List.mem_map
def Ak_:=@Option.some.inj
def Al_:=@PySem.Heap.get?_push_of_some
def Am_:=@Nat.le_trans
def An_:=@List.mem_singleton
def Ao_:=@PySem.wpAny_pure
def Ap_:=@PySem.Heap.lt_size
def Aq_:=@List.mem_cons
def Ar_:=@List.getElem?_eq_some_iff
def As_:=@List.size_toArray
def At_:=@List.length_append
def Au_:=@List.map_append
def Av_:=@List.map_cons
def Aw_:=@Nat.pow_le_pow_right
def Ax_:=@Int.emod_lt_of_pos
def Ay_:=@List.mem_iff_getElem
def Az_:=@PyProof.Rows.bits_of_natAbs_le
def AA_:=@PySem.Heap.get?_push_size
def AB_:=@List.mem_append
def AC_:=@Int.emod_nonneg
def AD_:=@Nat.zero_le
def AE_:=@Nat.ne_of_lt
def AF_:=@List.getElem?_append_left
def AG_:=@PySem.PassesOwn.never
def AH_:=@List.length_cons
def AI_:=@List.mem_append_right
def AJ_:=@List.getElem?_append_right
def AK_:=@Bool.false_ne_true
def AL_:=@Nat.lt_of_lt_of_le
def AM_:=@Int.toNat_natCast
def AN_:=@Nat.le_of_lt
def AO_:=@List.getElem_mem
def AP_:=@List.mem_range
def AQ_:=@Int.mul_comm
def AR_:=@List.take_of_length_le
def AS_:=@Array.length_toList
def AT_:=@Int.natAbs_mul
def AU_:=@PySem.F.plainAttrs_list
def AV_:=@PyProof.Rows.callWith_type1
def AW_:=@Int.mul_ne_zero
def AX_:=@Nat.mul_le_mul
def AY_:=@Int.eq_of_mul_eq_mul_left
def AZ_:=@List.length_take
def A0_:=@List.append_assoc
def A1_:=@List.flatten_cons
def A2_:=@PySem.wpAny_holding
def A3_:=@List.sum_cons
def A4_:=@Nat.pow_add
def A5_:=@List.nodup_cons
def A6_:=@Option.some.injEq
def A7_:=@PySem.Around.in1_units
def A8_:=@PySem.F.slot_list_append
def A9_:=@PySem.F.type_list_append
def Ba_:=@List.not_mem_nil
def Bb_:=@of_decide_eq_true
def Bc_:=@List.length_range
def Bd_:=@List.mem_append_left
def Be_:=@Int.mul_pos
def Bf_:=@decide_eq_false
def Bg_:=@Int.mul_assoc
def Bh_:=@Int.mul_zero
def Bi_:=@PySem.mem_of_lookup
def Bj_:=@List.map_congr_left
def Bk_:=@List.getElem?_set
def Bl_:=@List.length_eq_zero_iff
def Bm_:=@Nat.lt_irrefl
def Bn_:=@List.take_succ
def Bo_:=@List.map_map
def Bp_:=@exists_eq_left'
def Bq_:=@List.getElem?_range
def Br_:=@List.nodup_append
def Bs_:=@List.getElem?_eq_none
def Bt_:=@List.take_append_drop
def Bu_:=@PySem.wpAny_mono
def Bv_:=@Int.one_mul
def Bw_:=@Nat.mod_lt
def Bx_:=@Nat.lt_succ_of_lt
def By_:=@List.append_nil
def Bz_:=@List.length_set
def BA_:=@Array.perm_iff_toList_perm
def BB_:=@List.length_drop
def BC_:=@Prod.ext
def BD_:=@List.mem_filterMap
def BE_:=@PySem.wpAny_Call_Name_kw
def BF_:=@Nat.lt_of_le_of_lt
def BG_:=@List.count_pos_iff
def BH_:=@List.mem_iff_getElem?
def BI_:=@Int.natAbs_ediv_le_natAbs
def BJ_:=@List.mem_filter
def BK_:=@Int.zero_add
def BL_:=@PySem.Around.under_plainId
def BM_:=@List.getLast?_append
def BN_:=@List.count_append
def BO_:=@List.getElem?_inj
def BP_:=@List.flatten_append
def BQ_:=@decide_eq_true
def BR_:=@List.lookup_cons
def BS_:=@List.nodup_nil
def BT_:=@PySem.sizeLine_eq
def BU_:=@PySem.Heap.get?_update_other
def BV_:=@PySem.wpAny_passesOwn
def BW_:=@PySem.codeAny_builtin
def BX_:=@Int.gcd_dvd_right
def BY_:=@PySem.Heap.size_push
def BZ_:=@Nat.succ_le_succ
def B0_:=@Nat.sub_self
def B1_:=@Nat.mod_eq_of_lt
def B2_:=@beq_eq_false_iff_ne
def B3_:=@PySem.Heap.SameBut.update
def B4_:=@PySem.F.plainAttrs_dict
def B5_:=@List.getElem?_cons_succ
def B6_:=@Int.fdiv_eq_ediv_of_dvd
def B7_:=@Option.map_some
def B8_:=@PySem.Calls.spliced_cons
def B9_:=@List.range_succ
def Ca_:=@List.find?_cons
def Cb_:=@Int.pow_ne_zero
def Cc_:=@List.sum_append
def Cd_:=@Sum.inr.inj
def Ce_:=@PySem.Calls.callWith_builtin
def Cf_:=@or_false
def Cg_:=@Int.mul_neg
def Ch_:=@List.length_eq_one_iff
def Ci_:=@List.eq_nil_of_length_eq_zero
def Cj_:=@PySem.wpAny_truthy_bool
def Ck_:=@PySem.Heap.get?_push_ne
def Cl_:=@Int.mul_left_comm
def Cm_:=@List.pairwise_map
def Cn_:=@List.length_singleton
def Co_:=@Int.pow_succ
def Cp_:=@Int.le_of_lt
def Cq_:=@PySem.F.slot_dict_setdefault
def Cr_:=@PySem.wpAny_seqItems
def Cs_:=@PyProof.Rows.bits_mul
def Ct_:=@PyProof.Rows.bits_add
def Cu_:=@Int.ediv_eq_of_eq_mul_right
def Cv_:=@List.getElem_inj
def Cw_:=@Bool.and_eq_true
def Cx_:=@Nat.not_lt
def Cy_:=@Nat.le_add_right
def Cz_:=@Int.gcd_dvd_left
def CA_:=@List.ext_getElem
def CB_:=@Nat.mul_le_mul_right
def CC_:=@List.any_cons
def CD_:=@Int.ediv_pos_of_pos_of_dvd
def CE_:=@Int.eq_of_mul_eq_mul_right
def CF_:=@Int.neg_mul
def CG_:=@Int.le_refl
def CH_:=@List.filterMap_cons
def CI_:=@List.length_zipWith
def CJ_:=@Nat.min_eq_left
def CK_:=@List.nil_append
def CL_:=@List.count_cons
def CM_:=@Classical.byContradiction
def CN_:=@List.mem_or_eq_of_mem_set
def CO_:=@List.map_nil
def CP_:=@if_false
def CQ_:=@PyProof.noPylong_of_log2
def CR_:=@Int.sub_eq_add_neg
def CS_:=@PySem.tupleKind_room_in1
def CT_:=@List.set_cons_succ
def CU_:=@Bool.false_eq_true
def CV_:=@of_decide_eq_false
def CW_:=@Int.le_trans
def CX_:=@List.getElem?_replicate
def CY_:=@PySem.Calls.spliced_nil
def CZ_:=@PySem.wpAny_pyNext_list_item
def C0_:=@Int.mul_add
def C1_:=@Array.getElem?_eq_none
def C2_:=@Int.add_mul
def C3_:=@PySem.wpAny_field
def C4_:=@PySem.plainId_quiet
def C5_:=@List.map_drop
def C6_:=@Nat.succ_lt_succ
def C7_:=@List.take_length
def C8_:=@PySem.wpAny_pyNext_list_end
def C9_:=@List.length_replicate
def Da_:=@List.contains_iff_mem
def Db_:=@PySem.F.slot_dict_get
def Dc_:=@Int.natAbs_dvd_natAbs
def Dd_:=@List.getElem?_zipWith
def De_:=@PySem.wpAny_execs_nil
def Df_:=@Bool.eq_iff_iff
def Dg_:=@PySem.codeAny_mono
def Dh_:=@PySem.SeqAt.EqAt.same
def Di_:=@PySem.pushCells_keeps
def Dj_:=@Int.pow_zero
def Dk_:=@Nat.add_comm
def Dl_:=@Int.mul_eq_zero
def Dm_:=@Int.gcd_comm
def Dn_:=@PyProof.Rows.get?_update_seq
def Do_:=@PySem.wpAny_typeOf
def Dp_:=@PySem.F.slot_zip_next
def Dq_:=@List.getElem_zipWith
def Dr_:=@Int.ediv_mul_cancel
def Ds_:=@List.dropLast_concat_getLast
def Dt_:=@Int.mul_nonneg
def Du_:=@Int.natAbs_neg
def Dv_:=@Int.mul_one
def Dw_:=@Nat.log2_lt
def Dx_:=@PyProof.Rows.assignInOrder_cons
def Dy_:=@PySem.SeqAt.EqAt.of_refs
def Dz_:=@List.filter_append
def DA_:=@List.getElem?_drop
def DB_:=@List.set_cons_zero
def DC_:=@List.count_eq_zero
def DD_:=@PySem.Calls.Name_function_global
def DE_:=@PySem.wpAny_standAt
def DF_:=@PyProof.Rows.listUpdate_at
def DG_:=@PySem.wpAny_newList
def DH_:=@Int.dvd_trans
def DI_:=@Int.le_of_dvd
def DJ_:=@List.map_take
def DK_:=@PySem.call_meets
def DL_:=@List.getElem?_eq_none_iff
def DM_:=@Nat.ne_of_gt
def DN_:=@Option.isSome_iff_exists
def DO_:=@List.getElem?_take_of_lt
def DP_:=@PySem.wpAny_comprehension_free
def DQ_:=@List.all_eq_true
def DR_:=@PySem.wpAny_pyIter_zip
def DS_:=@PySem.call_meetsIn
def DT_:=@Nat.succ_pos
def DU_:=@Int.mul_ediv_cancel_left
def DV_:=@PySem.wpAny_call_entry
def DW_:=@List.Pairwise.imp_of_mem
def DX_:=@PySem.stored_length_le
def DY_:=@Int.pos_of_mul_pos_right
def DZ_:=@Int.natCast_emod
def D0_:=@PySem.F.slot_list_insert
def D1_:=@PySem.F.type_list_insert
def D2_:=@PySem.wpAny_Call_method0_late
def D3_:=@PySem.F.args_dict_get_3
def D4_:=@PySem.F.slot_dict_items
def D5_:=@PySem.wpAny_callSpecial?_slot
def D6_:=@Int.eq_ofNat_of_zero_le
def D7_:=@Int.gcd_natCast_natCast
def D8_:=@List.of_mem_zip
def D9_:=@List.forIn_cons
def Ea_:=@PySem.Heap.DictOf.new
def Eb_:=@PySem.am_miss_of_fast
def Ec_:=@List.getElem?_set_self
def Ed_:=@PySem.wpAny_pyNext_range_end
def Ee_:=@PySem.wpAny_pyIter_rangeiter
def Ef_:=@PySem.W.cellsFrom_some
def Eg_:=@PySem.seqIndex_of
def Eh_:=@PyProof.Rows.subscriptTail_builtinR
def Ei_:=@Nat.le_succ
def Ej_:=@PySem.F.entry_dict_get
def Ek_:=@Int.one_dvd
def El_:=@List.length_pos_of_mem
def Em_:=@PyProof.Rows.seqEpoch_at
def En_:=@Nat.add_mul
def Eo_:=@PySem.wpAny_nextOf_list_item
def Ep_:=@Nat.one_mul
def Eq_:=@PySem.wpAny_isTrue_Compare1
def Er_:=@PySem.wpAny_pyNext_zip_item
def Es_:=@List.length_filter_le
def Et_:=@PySem.wpAny_newTuple
def Eu_:=@List.getElem_set_self
def Ev_:=@PySem.wpAny_notOrdered_dict
def Ew_:=@List.zipWith_nil_left
def Ex_:=@List.take_zero
def Ey_:=@PySem.Heap.get?_none_of_le
def Ez_:=@List.getElem?_set_ne
def EA_:=@PySem.wpAny_rule
def EB_:=@PyProof.Rows.boot_range
def EC_:=@PySem.SeqAt.EqAt.bool_bool
def ED_:=@PySem.Calls.evalArgs_plain
def EE_:=@bne_iff_ne
def EF_:=@PySem.wpAny_pyNext_zip_end
def EG_:=@PySem.F.kt_typeCall_dict_1
def EH_:=@List.replicate_succ'
def EI_:=@PySem.Paired.length
def EJ_:=@List.all_cons
def EK_:=@PySem.W.mg_of
def EL_:=@List.cons.inj
def EM_:=@Nat.le_of_dvd
def EN_:=@PySem.evalArgs_none
def EO_:=@List.length_reverse
def EP_:=@PySem.IsiPair.tuple_tuple
def EQ_:=@Int.neg_ediv_of_dvd
def ER_:=@List.getD_cons_zero
def ES_:=@List.getD_cons_succ
def ET_:=@List.flatMap_append
def EU_:=@List.getElem_set_ne
def EV_:=@PySem.wpAny_dictSet_pairs
def EW_:=@List.length_pos_iff
def EX_:=@PySem.seqIndex_neg
def EY_:=@List.take_sublist
def EZ_:=@decide_eq_true_eq
def E0_:=@PySem.IsRange.new
def E1_:=@Int.one_pow
def E2_:=@Int.neg_gcd
def E3_:=@Int.sub_mul
def E4_:=@Int.pow_pos
def E5_:=@List.eraseIdxIfInBounds_toArray
def E6_:=@List.idxOf_lt_length_of_mem
def E7_:=@List.length_eraseIdx_of_lt
def E8_:=@Int.zero_mul
def E9_:=@Int.add_zero
def Fa_:=@List.range_succ_eq_map
def Fb_:=@PySem.F.slot_list_pop
def Fc_:=@PySem.F.type_list_pop
def Fd_:=@List.getElem_idxOf
def Fe_:=@List.filter_cons
def Ff_:=@decide_eq_decide
def Fg_:=@List.filter_map
def Fh_:=@Nat.le_of_eq
def Fi_:=@List.all_map
def Fj_:=@Int.mul_sub
def Fk_:=@PySem.F.slot_list_index
def Fl_:=@PySem.F.type_list_index
namespace L2
open PySem PySem.Spec PyProof.Rows
abbrev Key:=Sum Int Str
def IE_:Key->Value->Bool
 | .inl k,v=>Value.isInt k v
 | .inr x,v=>Value.isStrOf x v
def keyH(w:World):Key->Int
 | .inl k=>hashInt k
 | .inr x=>hashStr w x
theorem a3_:∀{k:Key}{v:Value},IE_ k v=true->(∃i t,k=Sum.inl i/\v=Value.int i t)\/(∃x t,k=Sum.inr x/\v=Value.str x t)
 | .inl i,v,h=>by
  obtain⟨t,e⟩:=Value.isInt_shape (k:=i) (v:=v) h;show .inl ⟨i,t,rfl,e⟩
 | .inr x,v,h=>by obtain⟨t,e⟩:=Value.isStrOf_shape (x:=x) (v:=v) h;show .inr ⟨x,t,rfl,e⟩
theorem nf_(i:Int)(t:Tok):IE_ (.inl i) (.int i t)=true:=by simp[IE_,Value.isInt]
theorem ng_(x:Str)(t:Tok):IE_ (.inr x) (.str x t)=true:=by simp[IE_,Value.isStrOf]
theorem ri_(a b:Int):decide ((Sum.inl a:Key)=Sum.inl b)=(a == b):=by
 by_cases e:a=b
 .subst e;simp
 .have h:¬ (Sum.inl a:Key)=Sum.inl b:=λq=>e (Sum.inl.inj q);rw[Bf_ h];show(B2_.mpr e).symm
theorem rj_(a b:Str):decide ((Sum.inr a:Key)=Sum.inr b)=decide (a=b):=by
 by_cases e:a=b
 .subst e;simp
 .have h:¬ (Sum.inr a:Key)=Sum.inr b:=λq=>e (Cd_ q);rw[Bf_ h,Bf_ e]
theorem rk_(a:Int)(b:Str):decide ((Sum.inl a:Key)=Sum.inr b)=false:=Bf_ (λq=>nomatch q)
theorem rl_(a:Str)(b:Int):decide ((Sum.inr a:Key)=Sum.inl b)=false:=Bf_ (λq=>nomatch q)
def FK_(prog:Program)(w:World):PySem.KeyKind prog w Key where
 is:=IE_
 hash:=keyH w
 inj:=λv a b ha hb=>by
  rcases a3_ ha with⟨i,t,rfl,rfl⟩|⟨x,t,rfl,rfl⟩
  .rcases a3_ hb with⟨j,u,rfl,e⟩|⟨y,u,rfl,e⟩
   .injection e with e1 _;rw[e1]
   .show nomatch e
  .rcases a3_ hb with⟨j,u,rfl,e⟩|⟨y,u,rfl,e⟩
   .show nomatch e
   .injection e with e1 _;rw[e1]
 byValue:=λk v h=>by rcases a3_ h with⟨i,t,rfl,rfl⟩|⟨x,t,rfl,rfl⟩ <;> rfl
 pyHash:=λhv h=>by
  rcases a3_ hv with⟨i,t,rfl,rfl⟩|⟨x,t,rfl,rfl⟩
  .show wpAny_pyHash_int h
  .show wpAny_pyHash_str h
 eqBool:=λhu hv h=>by
  rcases a3_ hu with⟨i,t,rfl,rfl⟩|⟨x,t,rfl,rfl⟩
  .rcases a3_ hv with⟨j,u,rfl,rfl⟩|⟨y,u,rfl,rfl⟩
   .rw[ri_]at h;show wpAny_eqBool_int h
   .rw[rk_]at h;show SeqAt.EqAt.int_str i t y u _ _ _ _ h
  .rcases a3_ hv with⟨j,u,rfl,rfl⟩|⟨y,u,rfl,rfl⟩
   .rw[rl_]at h;show SeqAt.EqAt.str_int x t j u _ _ _ _ h
   .rw[rj_]at h;show wpAny_eqBool_str h
 «strs»:=λk x t v h=>by
  rcases a3_ h with⟨i,u,rfl,e⟩|⟨y,u,rfl,e⟩
  .show nomatch e
  .injection e with e1 _
   subst e1;cases v <;> rfl
theorem lg_(prog:Program)(w:World)(i:Int)(t:Tok):(FK_ prog w).is (.inl i) (.int i t)=true:=nf_ i t
theorem lh_(prog:Program)(w:World)(x:Str)(t:Tok):(FK_ prog w).is (.inr x) (.str x t)=true:=ng_ x t
inductive V where
 |non|bl (b:Bool)|int (i:Int)|str (x:Str)|byt (b:Array UInt8)|flt (b:UInt64)|ref (a:Addr)|ty (n:String)
 deriving DecidableEq
def FY_:V->Value->Prop
 | .non,u=>u=Value.none
 | .bl b,u=>u=Value.bool b
 | .int i,u=>∃t,u=Value.int i t
 | .str x,u=>∃t,u=Value.str x t
 | .byt b,u=>∃t,u=Value.bytes b t
 | .flt b,u=>∃t,u=Value.float b t
 | .ref a,u=>u=Value.ref a
 | .ty n,u=>u=Value.type n
abbrev FR_:List V->List Value->Prop:=Paired FY_
theorem FR_.length{xs:List V}{us:List Value}(r:FR_ xs us):xs.length=us.length:=EI_ r
theorem FR_.get:∀{xs:List V}{us:List Value}{i:Nat}{x:V},FR_ xs us->xs[i]?=some x->∃u,us[i]?=some u/\FY_ x u
 |_,_,_,_,.nil,e=>by simp at e
 |_,_,0,_,.cons r _,e=>by simp at e;subst e;show⟨_,rfl,r⟩
 |_,_,i+1,x,.cons _ t,e=>by obtain⟨u,h1,h2⟩:=FR_.get (i:=i) (x:=x) t (by simpa using e);show⟨u,by simpa using h1,h2⟩
theorem FR_.set{x:V}{u:Value}(r:FY_ x u):∀{xs:List V}{us:List Value}(i:Nat),FR_ xs us->FR_ (xs.set i x) (us.set i u)
 |_,_,_,.nil=>.nil
 |_,_,0,.cons _ t=>.cons r t
 |_,_,i+1,.cons q t=>.cons q (FR_.set r i t)
theorem FR_.append:∀{xs ys:List V}{us ws:List Value},FR_ xs us->FR_ ys ws->FR_ (xs++ys) (us++ws)
 |_,_,_,_,.nil,s=>s
 |_,_,_,_,.cons r t,s=>.cons r (FR_.append t s)
theorem FR_.take:∀{xs:List V}{us:List Value}(n:Nat),FR_ xs us->FR_ (xs.take n) (us.take n)
 |_,_,0,_=>.nil
 |_,_,_+1,.nil=>.nil
 |_,_,n+1,.cons r t=>.cons r (FR_.take n t)
theorem FR_.drop:∀{xs:List V}{us:List Value}(n:Nat),FR_ xs us->FR_ (xs.drop n) (us.drop n)
 |_,_,0,r=>r
 |_,_,_+1,.nil=>.nil
 |_,_,n+1,.cons _ t=>FR_.drop n t
def IV_:Option V->Option Value->Prop
 |some v,some u=>FY_ v u
 |none,none=>True
 |_,_=>False
def KV{κ:Type}:List (κ×V)->List (κ×Value)->Prop:=Paired λ(p:κ×V)(q:κ×Value)=>p.1=q.1/\FY_ p.2 q.2
def kV:Key->V
 | .inl i=>.int i
 | .inr x=>.str x
inductive HO where
 |lst (xs:List V)
 |tup (xs:List V)
 |dK (kvs:List (Key×V))|dT (kvs:List (List Key×V))
 |set (S:Int->Bool) (n:Nat)
 |ins (C dx:Addr) (fs:List (Str×V))
 |own (x:Addr)
 |xd (fs:List (Str×V))
 |met (f x:Addr)
 |rng (lo hi:Int)
 |frz (o:Obj) (u:HO)
 |tbl (ps:Array Value)
 |ext (φ:Heap->Prop)
abbrev Hp:=Addr->Option HO
def upd(H:Hp)(a:Addr)(o:HO):Hp:=λb=>if b=a then some o else H b
variable{H:Hp}{a:Addr}{o:HO}
theorem ab_:upd H a o a=some o:=by unfold upd;rw[if_pos rfl]
variable{b:Addr}
theorem aj_(h:b≠a):upd H a o b=H b:=by unfold upd;rw[if_neg h]
theorem fg_{u:HO}:upd (upd H a o) a u=upd H a u:=by funext b;unfold upd;split <;> rfl
theorem Mk_{u:HO}(h:H a=some o)(h':H b=some u)(d:o≠u):a≠b:=by intro e;subst e;rw[h]at h';show d (Ak_ h')
theorem ae_(h:H a=some o)(h':H b=none):a≠b:=by intro e;subst e;rw[h]at h';cases h'
section
variable (P:Program)(w:World)
def Gc_(H:Hp)(h:Heap)(a:Addr):HO->Prop
 | .lst xs=>xs.length<=sizeLine/\∃(its:List Value)(n:Nat),FR_ xs its/\h.get? a=some {cls:=.type "list",data:=.seq its.toArray n}
 | .tup xs=>xs.length<=sizeLine/\∃its:List Value,FR_ xs its/\IsTup h a its.toArray
 | .dK kvs=>kvs.length<=sizeLine/\(a == sysModules)=false/\∃vs,KV kvs vs/\h.DictOf (FK_ P w) a vs
 | .dT kvs=>kvs.length<=sizeLine/\(a == sysModules)=false/\∃xs:List (List Key×Addr×Value),
   Paired (λ(p:List Key×V)(q:List Key×Addr×Value)=>p.1=q.1/\H q.2.1=some (.tup (p.1.map kV))/\FY_ p.2 q.2.2) kvs xs /\
   ∃o es ep,h.get? a=some o/\o.ExactDict/\o.data=.dict es ep/\es.toList=xs.map (entryOfKey (tupleKind (FK_ P w)))/\(xs.map (·.1)).Nodup
 | .set S n=>h.SetOf (intKind P w) a S n
 | .ins C dx fs=>H dx=some (.own a)/\fs.length<=1000/\dx≠a/\h.get? a=some (PySem.W.instObj C dx) /\
   ∃mA,h.Ns1 dx mA/\(∀f,IV_ (fs.lookup f) (mA f))/\PySem.Within mA (fs.map (·.1))
 | .own _=>∃o,h.get? a=some o
 | .xd fs=>∃mA,h.Ns1 a mA/\∀f,IV_ (fs.lookup f) (mA f)
 | .rng lo hi=>∃t u v,h.get? a=some {cls:=.type "range",data:=.fields #[.int lo t,.int hi u,.int 1 v]}
 | .frz o u=>h.get? a=some o/\Gc_ H h a u
 | .tbl ps=>h.get? a=some {cls:=.none,data:=.fields ps}
 | .met f x=>h.get? a=some (PySem.W.methodObj (.ref f) (.ref x))
 | .ext φ=>φ h/\(∃o,h.get? a=some o)/\∀h1 h2:Heap,φ h1->(∀o,h1.get? a=some o->h2.get? a=some o)->φ h2
def HOk(H:Hp)(h:Heap):Prop:=∀a o,H a=some o->Gc_ P w H h a o
end
variable {P:Program}{w:World}{H H':Hp}{h h':Heap}{a:Addr}{o:HO}
theorem Gc_.lt(x:Gc_ P w H h a o):a<h.objs.size:=by
 cases o with
 |lst xs=>obtain⟨_,_,_,_,e⟩:=x;show Ap_ e
 |tup xs=>obtain⟨_,_,_,p⟩:=x;show p.lt
 |dK kvs=>obtain⟨_,_,_,_,o,_,_,e,_⟩:=x;show Ap_ e
 |dT kvs=>obtain⟨_,_,_,_,o,_,_,e,_⟩:=x;show Ap_ e
 |set S n=>obtain⟨o,_,_,_,e,_⟩:=x;show Ap_ e
 |ins C dx fs=>obtain⟨_,_,_,e,_⟩:=x;show Ap_ e
 |own y=>obtain⟨_,e⟩:=x;show Ap_ e
 |xd fs=>obtain⟨_,⟨_,_,_,e,_⟩,_⟩:=x;show Ap_ e
 |rng lo hi=>obtain⟨_,_,_,e⟩:=x;show Ap_ e
 |frz ob u=>obtain⟨e,_⟩:=x;show Ap_ e
 |tbl ps=>show Ap_ (show h.get? a=some _ from x)
 |met f y=>show Ap_ (show h.get? a=some _ from x)
 |ext φ=>obtain⟨_,⟨_,e⟩,_⟩:=x;show Ap_ e
theorem Paired.mapP{α β:Type}{F G:α->β->Prop}:∀{l₁:List α}{l₂:List β},Paired F l₁ l₂->(∀a b,F a b->G a b)->Paired G l₁ l₂
 |_,_,.nil,_=>.nil
 |_,_,.cons r t,f=>.cons (f _ _ r) (Paired.mapP t f)
theorem Gc_.stay(x:Gc_ P w H h a o)(k:∀b u,(b=a\/H b=some (.own a))->h.get? b=some u->h'.get? b=some u)
  (ho:∀b,H b=some (.own a)->H' b=some (.own a)) (ht:∀b xs,H b=some (.tup xs)->H' b=some (.tup xs)):Gc_ P w H' h' a o:=by
 induction o with
 |lst xs=>obtain⟨z,its,n,r,e⟩:=x;show⟨z,its,n,r,k _ _ (.inl rfl) e⟩
 |tup xs=>obtain⟨z,its,r,ob,e,c⟩:=x;show⟨z,its,r,ob,k _ _ (.inl rfl) e,c⟩
 |dK kvs=>obtain⟨z,y,vs,r,ob,es,ep,e,c⟩:=x;show⟨z,y,vs,r,ob,es,ep,k _ _ (.inl rfl) e,c⟩
 |dT kvs =>
  obtain⟨z,y,xs,r,ob,es,ep,e,c⟩:=x;show⟨z,y,xs,Paired.mapP r λp q z=>⟨z.1,ht _ _ z.2.1,z.2.2⟩,ob,es,ep,k _ _ (.inl rfl) e,c⟩
 |set S n=>obtain⟨ob,es,ep,t,e,c⟩:=x;show⟨ob,es,ep,t,k _ _ (.inl rfl) e,c⟩
 |ins C dx fs =>
  obtain⟨d,z,ne,e,mA,⟨od,es,ep,e2,c⟩,r⟩:=x;show⟨ho _ d,z,ne,k _ _ (.inl rfl) e,mA,⟨od,es,ep,k _ _ (.inr d) e2,c⟩,r⟩
 |own y=>obtain⟨ob,e⟩:=x;show⟨ob,k _ _ (.inl rfl) e⟩
 |xd fs=>obtain⟨mA,⟨od,es,ep,e,c⟩,r⟩:=x;show⟨mA,⟨od,es,ep,k _ _ (.inl rfl) e,c⟩,r⟩
 |rng lo hi=>obtain⟨t,u,v,e⟩:=x;show⟨t,u,v,k _ _ (.inl rfl) e⟩
 |frz ob u ih=>obtain⟨e,q⟩:=x;show⟨k _ _ (.inl rfl) e,ih q⟩
 |tbl ps =>
  have e:h.get? a=some {cls:=.none,data:=.fields ps}:=x;change h'.get? a=some {cls:=.none,data:=.fields ps};show k a _ (.inl rfl) e
 |met f y =>
  have e:h.get? a=some (PySem.W.methodObj (.ref f) (.ref y)):=x;change h'.get? a=some (PySem.W.methodObj (.ref f) (.ref y));show k a _ (.inl rfl) e
 |ext φ=>obtain⟨p,⟨o,e⟩,st⟩:=x;show⟨st _ _ p λo q=>k _ _ (.inl rfl) q,⟨o,k _ _ (.inl rfl) e⟩,st⟩
theorem HOk.lt(x:HOk P w H h)(e:H a=some o):a<h.objs.size:=(x a o e).lt
theorem HOk.fresh(x:HOk P w H h)(e:h.objs.size<=a):H a=none:=by
 cases q:H a with
 |none=>rfl
 |some u=>show absurd (AL_ (x.lt q) e) (Bm_ _)
theorem HOk.kept(x:HOk P w H h)(k:∀b u,h.get? b=some u->h'.get? b=some u):HOk P w H h':=λa o e =>
 (x a o e).stay (λb u _ q=>k b u q) (λ_ q=>q) λ_ _ q=>q
theorem HOk.laid(x:HOk P w H h)(k:∀b u,h.get? b=some u->h'.get? b=some u)(hp:h.objs.size<=a)(new:Gc_ P w (upd H a o) h' a o):HOk P w (upd H a o) h':=λb u e=>by
 have hn:=x.fresh hp;by_cases hb:b=a
 .subst hb;rw[ab_]at e;cases e;show new
 .rw[aj_ hb]at e;show(x b u e).stay (λc v _ q=>k c v q) (λc q=>by rw[aj_ (ae_ q hn)];show q) λc xs q=>by rw[aj_ (ae_ q hn)];show q
def Rd(H:Hp)(a:Addr)(u:HO):Prop:=H a=some u\/∃o,H a=some (.frz o u)
theorem Rd.ok{u:HO}(r:Rd H a u)(x:HOk P w H h):Gc_ P w H h a u:=by
 rcases r with r|⟨o,r⟩
 .show x a u r
 .obtain⟨_,q⟩:=x a _ r;show q
def Mut:Option HO->Prop
 |some (.lst _)=>True
 |some (.dK _)=>True
 |some (.dT _)=>True
 |some (.set _ _)=>True
 |some (.ins _ _ _)=>True
 |some (.ext _)=>True
 |_=>False
variable {x e:Addr}{o':HO}
theorem HOk.write(ok:HOk P w H h)(mu:Mut (H x))(he:e=x\/H e=some (.own x))(k:∀b u,b≠e->h.get? b=some u->h'.get? b=some u)(heo:∃u,h'.get? e=some u)
  (new:Gc_ P w (upd H x o') h' x o'):HOk P w (upd H x o') h':=λb u q=>by
 have nown:∀c y,H c=some (.own y)->c≠x:=λc y r z=>by subst z;rw[r]at mu;show mu
 have ntup:∀c xs,H c=some (.tup xs)->c≠x:=λc xs r z=>by subst z;rw[r]at mu;show mu
 by_cases hb:b=x
 .subst hb;rw[ab_]at q;cases q;show new
 .rw[aj_ hb]at q;by_cases hbe:b=e
  .have q':H b=some (.own x):=by
    rcases he with z|z
    .show absurd (hbe.trans z) hb
    .rw[hbe];show z
   rw[q]at q';cases q';obtain⟨v,hv⟩:=heo;show⟨v,by rw[hbe];show hv⟩
  .show(ok b u q).stay (λc v hc r=>k c v ?_ r) (λc r=>by rw[aj_ (nown c b r)];show r) λc xs r=>by rw[aj_ (ntup c xs r)];show r
   rcases hc with rfl|hc
   .show hbe
   .rintro rfl
    rcases he with z|z
    .show nown c b hc z
    .rw[hc]at z;cases z;show hb rfl
structure Un(fs ex:List Addr)(H H':Hp)(h h':Heap):Prop where
 keep:∀b o,h.get? b=some o->H b=none->b∉fs->b∉ex->h'.get? b=some o
 slot:∀b o,h.get? b=some o->H b=none->b∈fs->b∉ex->∃sl,h'.get? b=some {o with slots:=sl}
 free:∀b o,h.get? b=some o->H b=none->b∉ex->H' b=none
 there:∀b o,h.get? b=some o->b∉ex->∃o',h'.get? b=some o'
 tups:∀b xs,H b=some (.tup xs)->H' b=some (.tup xs)
 frzs:∀b o u,H b=some (.frz o u)->H' b=some (.frz o u)
 tbls:∀b ps,H b=some (.tbl ps)->∃more,H' b=some (.tbl (ps++more))
section
variable {fs fs' ex ex':List Addr}{H1 H2:Hp}{h1 h2:Heap}
theorem Un.any(u:Un fs ex H H1 h h1){ob:Obj}(q:h.get? b=some ob)(n:H b=none)(hx:b∉ex):∃sl,h1.get? b=some {ob with slots:=sl}:=by
 by_cases hb:b∈fs
 .show u.slot b ob q n hb hx
 .show⟨ob.slots,u.keep b ob q n hb hx⟩
theorem Un.kept(k:∀b u,h.get? b=some u->h'.get? b=some u):Un fs ex H H h h' :=
 ⟨λb ob q _ _ _=>k b ob q,λb ob q _ _ _=>⟨ob.slots,k b ob q⟩,λ_ _ _ n _=>n,λb ob q _=>⟨ob,k b ob q⟩,λ_ _ q=>q,λ_ _ _ q=>q,λ_ ps q=>⟨#[],by rw[q];simp⟩⟩
theorem Un.refl:Un fs ex H H h h:=Un.kept λ_ _ q=>q
theorem Un.laid(k:∀b u,h.get? b=some u->h'.get? b=some u)(hp:h.objs.size<=a)(hn:H a=none):Un fs ex H (upd H a o) h h' where
 keep:=λb u q _ _ _=>k b u q
 slot:=λb u q _ _ _=>⟨u.slots,k b u q⟩
 free:=λb u q n _=>by rw[aj_ (AE_ (AL_ (Ap_ q) hp))];show n
 there:=λb u q _=>⟨u,k b u q⟩
 tups:=λb xs q=>by rw[aj_ (ae_ q hn)];show q
 frzs:=λb u xs q=>by rw[aj_ (ae_ q hn)];show q
 tbls:=λb ps q=>⟨#[],by rw[aj_ (ae_ q hn),q];simp⟩
theorem Un.write(mu:Mut (H x))(he:e=x\/H e=some (.own x))(k:∀b u,b≠e->h.get? b=some u->h'.get? b=some u)(heo:∃u,h'.get? e=some u):Un fs ex H (upd H x o) h h':=by
 have hx:∀b,H b=none->b≠x:=λb n z=>by subst z;rw[n]at mu;show mu
 have hb:∀b,H b=none->b≠e:=λb n z=>by
  subst z
  rcases he with r|r
  .show hx b n r
  .rw[n]at r;cases r
 have hm:∀b u,H b=some u->¬ Mut (some u)->b≠x:=λb u q nm z=>by subst z;rw[q]at mu;show nm mu
 show⟨λb u q n _ _=>k b u (hb b n) q,λb u q n _ _=>⟨u.slots,k b u (hb b n) q⟩,λb u q n _=>by rw[aj_ (hx b n)];show n,λb u q _=>?_,
  λb xs q=>by rw[aj_ (hm b _ q λz=>z)];show q,λb u xs q=>by rw[aj_ (hm b _ q λz=>z)];show q,λb ps q=>⟨#[],by rw[aj_ (hm b _ q λz=>z),q];simp⟩⟩
 by_cases hbe:b=e
 .subst hbe;show heo
 .show⟨u,k b u hbe q⟩
end
def trk(h:Heap)(H:Hp):List Addr:=(List.range h.objs.size).filter λa=>(H a).isSome
def Jt_(h:Heap)(H:Hp):Heap:=PySem.W.hideAll h (trk h H)
theorem nh_(h:Heap)(H:Hp):(Jt_ h H).objs.size=h.objs.size:=PySem.W.hideAll_size _ _
theorem oU_{o:Obj}(e:h.get? b=some o)(n:H b=none):(Jt_ h H).get? b=some o :=
 PySem.W.hideAll_get _ e λhm=>by have q:(H b).isSome=true:=(BJ_.mp hm).2;rw[n]at q;simp at q
theorem qh_{o:Obj}(e:(Jt_ h H).get? b=some o):h.get? b=some o/\H b=none:=by
 have e':h.get? b=some o:=PySem.W.of_hideAll (trk h H) e;show⟨e',?_⟩;cases q:H b with
 |none=>rfl
 |some x =>have hm:b∈trk h H:=BJ_.mpr ⟨AP_.mpr (Ap_ e'),by simp[q]⟩;have z:(Jt_ h H).get? b=none:=PySem.W.hideAll_none (trk h H) hm;rw[z]at e;cases e
def Gn_(g h:Heap)(L:Addr):List (Addr×Obj):=(List.range h.objs.size).filterMap λa=>if a=L\/(g.get? a).isSome=true then none else(h.get? a).map λo=>(a,o)
theorem dD_{g:Heap}{L:Addr}{o:Obj}(h1:a≠L)(h2:g.get? a=none)(h3:h.get? a=some o):(a,o)∈Gn_ g h L :=
 BD_.mpr ⟨a,AP_.mpr (Ap_ h3),by simp[h1,h2,h3]⟩
theorem iH_{g:Heap}{L:Addr}{p:Addr×Obj}(hp:p∈Gn_ g h L):p.1≠L/\g.get? p.1=none/\h.get? p.1=some p.2:=by
 obtain⟨b,_,e⟩:=BD_.mp hp;split at e
 .cases e
 .rename_i hn;cases q:h.get? b with
  |none=>rw[q]at e;simp at e
  |some u =>
   rw[q]at e;simp only[B7_,A6_]at e;subst e;show⟨λz=>hn (.inl z),?_,q⟩;change g.get? b=none;cases r:g.get? b with
   |none=>rfl
   |some v=>show(hn (.inr (by simp[r]))).elim
def rest(g h:Heap)(L d:Addr):List (Addr×Obj):=(Gn_ g h L).filter λp=>decide (p.1≠d)
theorem jd_{g:Heap}{L:Addr}:News g L h (Gn_ g h L):=λp hp=>let⟨a,b,c⟩:=iH_ hp;⟨c,a,b⟩
structure Mod(K:PySem.W.Frag)(mg:Str->Option Value)(base:Heap):Prop where
 kin:K.In base
 glob:base.Ns mainGlobals mg
 blt:∃mb,base.Ns builtinsNs mb/\∀x:Str,x ≠ "__name__" -> mb x=bootBuiltins x
 nolimit:base.NoLimit
structure Cx where
 prog:Program
 w:World
 K:PySem.W.Frag
 mg:Str->Option Value
 base:Heap
 A:Around
 N:List Str
 s₀:Shared
 H₀:Hp
 env:Env
 outer:List Env
 stack:List Env
 ex:List Addr
 fn:Str->Bool
 calm:Bool
 pn:List (Addr×Obj)
 xe:Value->Shared->Prop
def frs(l:List Env):List Addr:=l.filterMap (·.frame)
abbrev Cx.fs(X:Cx):List Addr:=frs X.outer
def Vis(sc:Scope)(x:Str):Prop:=sc.names.lookup x=some .local\/sc.names.lookup x=some .cell\/sc.names.lookup x=some .free
def Loc(sc:Scope)(x:Str):Prop:=sc.names.lookup x=some .local\/sc.names.lookup x=some .cell
def Look(env:Env)(h:Heap)(m:Str->Option Value)(x:Str)(u:Value):Prop :=
 (env.kindOf x=some .local/\m x=some u)\/((env.kindOf x=some .cell\/env.kindOf x=some .free)/\∃c,env.cells.lookup x=some c/\h.IsCell c (some u))
structure Cx.Ok(X:Cx):Prop where
 mod:Mod X.K X.mg X.base
 kind:X.env.scope.kind=.function
 glob:X.env.globals=mainGlobals
 blt:X.env.builtins=builtinsNs
 above:X.s₀.heap.objs.size<=X.env.locals
 inj:∀x y c,X.env.cells.lookup x=some c->X.env.cells.lookup y=some c->x=y
 has:∀x,(X.env.kindOf x=some .cell\/X.env.kindOf x=some .free)->∃c,X.env.cells.lookup x=some c
 cab:∀x c,X.fn x=true->X.env.cells.lookup x=some c->X.s₀.heap.objs.size<=c
 hd:X.calm=true->X.A.handled=none
 frames:X.A.frames=some X.stack
 stk:X.stack=X.outer\/(X.stack=X.env::X.outer/\X.env.frame=some X.env.locals)
 exf:∀b∈X.ex,b≠X.env.locals/\∀x c,X.env.cells.lookup x=some c->c≠b
 bs:∀b o,X.base.get? b=some o->X.s₀.heap.get? b=some o/\X.H₀ b=none
 bsz:X.base.objs.size<=X.s₀.heap.objs.size
 noex:∀b o,X.base.get? b=some o->b∉X.ex
 exfs:∀b∈X.ex,b∉X.fs
 funs:X.s₀.heap.FunFrames X.base X.outer
 frf:∀b∈X.fs,X.H₀ b=none
structure Inv(X:Cx)(pins:List (Addr×Obj))(σ:List (Option V))(H:Hp)(s:Shared):Prop where
 ok:X.Ok
 os:s.os=X.s₀.os
 bare:AllBare s.gens
 base:Un X.fs X.ex X.H₀ H X.s₀.heap s.heap
 loc:∃m,s.heap.Ns X.env.locals m/\∀(i:Nat)(x:Str)(v:V),X.N[i]?=some x->σ[i]?=some (some v)->Vis X.env.scope x->∃u,FY_ v u/\Look X.env s.heap m x u
 cell:∀x c,X.env.cells.lookup x=some c->∃v,s.heap.IsCell c v
 free:H X.env.locals=none
 freeC:∀x c,X.env.cells.lookup x=some c->H c=none
 pin:∀p∈X.pn++pins,s.heap.get? p.1=some p.2/\H p.1=none/\p.1≠X.env.locals/\p.1∉X.fs/\∀v,p.2.data≠.cell v
 hok:HOk X.prog X.w H s.heap
 len:σ.length=X.N.length
variable {X:Cx}{pins:List (Addr×Obj)}{σ:List (Option V)}{s:Shared}
theorem Cx.Ok.nofr(ok:X.Ok){o:Obj}(e:X.base.get? b=some o):b∉X.fs:=λhb=>by have:=(ok.funs.mem hb).1;rw[e]at this;cases this
theorem Inv.bs(I:Inv X pins σ H s):∀b o,X.base.get? b=some o->s.heap.get? b=some o/\H b=none:=λb o e =>⟨I.base.keep b o (I.ok.bs b o e).1 (I.ok.bs b o e).2 (I.ok.nofr e) (I.ok.noex b o e),I.base.free b o (I.ok.bs b o e).1 (I.ok.bs b o e).2 (I.ok.noex b o e)⟩
theorem Inv.bk(I:Inv X pins σ H s):∀b o,X.base.get? b=some o->s.heap.get? b=some o:=λb o e=>(I.bs b o e).1
theorem Inv.mod(I:Inv X pins σ H s):Mod X.K X.mg X.base:=I.ok.mod
theorem Inv.kIn(I:Inv X pins σ H s):X.K.In s.heap:=I.ok.mod.kin.keeps I.bk
theorem Inv.lt(I:Inv X pins σ H s):X.env.locals<s.heap.objs.size:=let⟨_,hn,_⟩:=I.loc;hn.lt
theorem Inv.sz(I:Inv X pins σ H s):X.s₀.heap.objs.size<=s.heap.objs.size:=Am_ I.ok.above (AN_ I.lt)
theorem Inv.nofs(I:Inv X pins σ H s)(h:s.heap.objs.size<=a):a∉X.fs:=λhb=>by obtain⟨_,o,ho,_⟩:=I.ok.funs.mem hb;show absurd (AL_ (Ap_ ho) (Am_ I.sz h)) (Bm_ _)
theorem Inv.cne(I:Inv X pins σ H s):∀x c,X.env.cells.lookup x=some c->c≠X.env.locals:=λx c e z=>by obtain⟨v,o,ho,hd⟩:=I.cell x c e;obtain⟨m,⟨o',es,ep,ho',hd',_⟩,_⟩:=I.loc;rw[z,ho']at ho;cases ho;rw[hd']at hd;cases hd
theorem Inv.funs(I:Inv X pins σ H s):s.heap.FunFrames X.base X.outer:=by
 have all:∀(l:List Env),(∀b∈frs l,b∈X.fs)->X.s₀.heap.FunFrames X.base l->s.heap.FunFrames X.base l:=by
  intro l
  induction l with
  |nil=>intro _ _;trivial
  |cons env r ih =>intro hs hl;obtain⟨hk,⟨L,o,hf,hn,ho,hd⟩,hr⟩:=hl;have hL:L∈X.fs:=hs L (by unfold frs;rw[CH_,hf];show Ah_);obtain⟨sl,e⟩:=I.base.slot L o ho (I.ok.frf L hL) hL λz=>I.ok.exfs L z hL;show⟨hk,⟨L,_,hf,hn,e,hd⟩,ih (λb hb=>hs b (by unfold frs;rw[CH_,hf];show Ag_ _ hb)) hr⟩
 show all X.outer (λ_ hb=>hb) I.ok.funs
theorem Inv.stack(I:Inv X pins σ H s):s.heap.FunFrames X.base X.stack:=by
 rcases I.ok.stk with e|⟨e,hf⟩
 .rw[e];show I.funs
 .rw[e];obtain⟨m,hn,_⟩:=I.loc;show .cons (by rw[I.ok.kind];decide) hf hn ?_ I.funs;show Ey_ (Am_ I.ok.bsz I.ok.above)
theorem Inv.stkSub(I:Inv X pins σ H s):∀b∈frs X.stack,b∈X.env.locals::X.fs:=λb hb=>by
 rcases I.ok.stk with e|⟨e,hf⟩
 .rw[e]at hb;show Ag_ _ hb
 .rw[e]at hb;unfold frs at hb;rw[CH_,hf]at hb;show hb
theorem Inv.stkFree(I:Inv X pins σ H s):∀b∈frs X.stack,H b=none:=λb hb=>by
 rcases Aq_.mp (I.stkSub b hb)with e|hb
 .rw[e];show I.free
 .obtain⟨_,o,ho,_⟩:=I.ok.funs.mem hb;show I.base.free b o ho (I.ok.frf b hb) λz=>I.ok.exfs b z hb
theorem Inv.step{g':Array GenState}{t':Nat}{d':Drawn}{ch:List Addr}(I:Inv X pins σ H s)
  (hch:∀b∈ch,(b∈X.ex\/X.s₀.heap.objs.size<=b)/\b≠X.env.locals/\(∀x c,X.env.cells.lookup x=some c->c≠b)/\∀p∈X.pn++pins,p.1≠b)
  (keep:∀b o,b≠X.env.locals->b∉X.fs->b∉ch->s.heap.get? b=some o->H b=none->h'.get? b=some o)
  (slot:∀b o,b≠X.env.locals->b∈X.fs->b∉ch->s.heap.get? b=some o->H b=none->∃sl,h'.get? b=some {o with slots:=sl}) (free:∀b o,b∉ch->s.heap.get? b=some o->H b=none->H' b=none)
  (there:∀b o,b∉ch->s.heap.get? b=some o->∃o',h'.get? b=some o')
  (tups:∀b xs,H b=some (.tup xs)->H' b=some (.tup xs)) (frzs:∀b o u,H b=some (.frz o u)->H' b=some (.frz o u)) (tbls:∀b ps,H b=some (.tbl ps)->∃more,H' b=some (.tbl (ps++more)))
  (ns:∀m,s.heap.Ns X.env.locals m->h'.Ns X.env.locals m) (hok:HOk X.prog X.w H' h') (hg:AllBare g'):
  Inv X pins σ H' {s with heap:=h',gens:=g',drawn:=d',toks:=t'}:=by
 have neL:∀b o,X.s₀.heap.get? b=some o->b≠X.env.locals:=λb o e=>AE_ (AL_ (Ap_ e) I.ok.above)
 have neC:∀b o,X.s₀.heap.get? b=some o->b∉X.ex->b∉ch:=λb o e hx hb=>by
  rcases(hch b hb).1 with z|z
  .show hx z
  .show absurd (AL_ (Ap_ e) z) (Bm_ _)
 have cellK:∀x c,X.env.cells.lookup x=some c->∀v,s.heap.IsCell c v->h'.IsCell c v:=λx c e v ⟨o,ho,hd⟩=>by
  have nch:c∉ch:=λz=>(hch c z).2.2.1 x c e rfl;by_cases hc:c∈X.fs
  .obtain⟨sl,q⟩:=slot c o (I.cne x c e) hc nch ho (I.freeC x c e);show⟨_,q,hd⟩
  .show⟨o,keep c o (I.cne x c e) hc nch ho (I.freeC x c e),hd⟩
 show⟨I.ok,I.os,hg,⟨λb o e n hb hx=>?_,λb o e n hb hx=>?_,λb o e n hx=>?_,λb o e hx=>?_,λb xs e=>tups b xs (I.base.tups b xs e),λb o xs e=>frzs b o xs (I.base.frzs b o xs e),λb ps e=>?_⟩,?_,λx c e=>?_,?_,λx c e=>?_,λp hp=>?_,hok,I.len⟩
 .show keep b o (neL b o e) hb (neC b o e hx) (I.base.keep b o e n hb hx) (I.base.free b o e n hx)
 .obtain⟨sl,e1⟩:=I.base.slot b o e n hb hx;obtain⟨sl',e2⟩:=slot b _ (neL b o e) hb (neC b o e hx) e1 (I.base.free b o e n hx);show⟨sl',e2⟩
 .obtain⟨o',e1⟩:=I.base.there b o e hx;show free b o' (neC b o e hx) e1 (I.base.free b o e n hx)
 .obtain⟨o',e1⟩:=I.base.there b o e hx;show there b o' (neC b o e hx) e1
 .obtain⟨m1,e1⟩:=I.base.tbls b ps e;obtain⟨m2,e2⟩:=tbls b _ e1;show⟨m1++m2,by rw[e2,Array.append_assoc]⟩
 .obtain⟨m,hn,hl⟩:=I.loc;show⟨m,ns m hn,λi x v e1 e2 e3=>?_⟩;obtain⟨u,r,l⟩:=hl i x v e1 e2 e3;show⟨u,r,?_⟩
  rcases l with l|⟨k,c,e,z⟩
  .show .inl l
  .show .inr ⟨k,c,e,cellK x c e _ z⟩
 .obtain⟨v,z⟩:=I.cell x c e;show⟨v,cellK x c e v z⟩
 .obtain⟨m,⟨o,_,_,ho,_⟩,_⟩:=I.loc;show free _ o (λz=>(hch _ z).2.1 rfl) ho I.free
 .obtain⟨v,o,ho,hd⟩:=I.cell x c e;show free c o (λz=>(hch c z).2.2.1 x c e rfl) ho (I.freeC x c e)
 .obtain⟨e,n,ne,nf,d⟩:=I.pin p hp;have nch:p.1∉ch:=λz=>(hch p.1 z).2.2.2 p hp rfl;show⟨keep p.1 p.2 ne nf nch e n,free p.1 p.2 nch e n,ne,nf,d⟩
theorem Inv.un{t':Nat}(I:Inv X pins σ H s)(u:Un X.fs [] H H' s.heap h')(hok:HOk X.prog X.w H' h'):Inv X pins σ H' {s with heap:=h',toks:=t'}:=by
 obtain⟨m,⟨o,es,ep,ho,r⟩,_⟩:=id I.loc;obtain⟨sl,hL⟩:=u.any ho I.free s_;show I.step (g':=s.gens) (d':=s.drawn) (ch:=[]) (λ_ z=>nomatch z) (λb o _ hb _ e n=>u.keep b o e n hb s_) (λb o _ hb _ e n=>u.slot b o e n hb s_) (λb o _ e n=>u.free b o e n s_) (λb o _ e=>u.there b o e s_) u.tups u.frzs u.tbls (λm' hm=>by obtain⟨o',es',ep',ho',r'⟩:=hm;rw[ho]at ho';cases ho';show⟨_,es',ep',hL,r'⟩) hok I.bare
theorem Inv.call{g':Array GenState}{t':Nat}{d':Drawn}{ch:List Addr}(I:Inv X pins σ H s)(u:Un (frs X.stack) ch H H' s.heap h')(hok:HOk X.prog X.w H' h')(hg:AllBare g')
  (hch:∀b∈ch,(b∈X.ex\/X.s₀.heap.objs.size<=b)/\b≠X.env.locals/\(∀x c,X.env.cells.lookup x=some c->c≠b)/\∀p∈X.pn++pins,p.1≠b):
  Inv X pins σ H' {s with heap:=h',gens:=g',drawn:=d',toks:=t'}:=by
 obtain⟨m,⟨o,es,ep,ho,r⟩,_⟩:=id I.loc;obtain⟨sl,hL⟩:=u.any ho I.free λz=>(hch _ z).2.1 rfl;show I.step (ch:=ch) hch (λb o hL hb hc e n=>u.keep b o e n (λz=>(Aq_.mp (I.stkSub b z)).elim hL hb) hc) (λb o _ _ hc e n=>u.any e n hc) (λb o hc e n=>u.free b o e n hc) (λb o hc e=>u.there b o e hc) u.tups u.frzs u.tbls (λm' hm=>by obtain⟨o',es',ep',ho',r'⟩:=hm;rw[ho]at ho';cases ho';show⟨_,es',ep',hL,r'⟩) hok hg
theorem Inv.turned{t':Nat}{it:Addr}(I:Inv X pins σ H s)(k:∀b o,b≠it->s.heap.get? b=some o->h'.get? b=some o)(hn:H it=none)(hL:it≠X.env.locals)
  (h1:it∈X.ex\/X.s₀.heap.objs.size<=it) (h2:∀x c,X.env.cells.lookup x=some c->c≠it) (h3:∀p∈X.pn++pins,p.1≠it):Inv X pins σ H {s with heap:=h',toks:=t'}:=by
 have nit:∀b u,H b=some u->b≠it:=λb u e z=>by rw[z,hn]at e;cases e
 show I.step (g':=s.gens) (d':=s.drawn) (ch:=[it]) (λb hb=>?_) (λb o _ _ hc e _=>k b o (λz=>hc (by simp[z])) e) (λb o _ _ hc e _=>⟨o.slots,k b o (λz=>hc (by simp[z])) e⟩) (λ_ _ _ _ n=>n)
  (λb o hc e=>⟨o,k b o (λz=>hc (by simp[z])) e⟩) (λ_ _ e=>e) (λ_ _ _ e=>e) (λb ps e=>⟨#[],by rw[e];simp⟩) (λm hm=>?_) (λb u e=>?_) I.bare
 .have e:b=it:=by simpa using hb
  subst e;show⟨h1,hL,h2,h3⟩
 .obtain⟨o,es,ep,ho,r⟩:=hm;show⟨o,es,ep,k _ o (Ne.symm hL) ho,r⟩
 .show(I.hok b u e).stay (λc v hc q=>k c v ?_ q) (λ_ q=>q) λ_ _ q=>q
  rcases hc with z|z
  .rw[z];show nit b u e
  .show nit c _ z
theorem Inv.tok(I:Inv X pins σ H s)(t:Nat):Inv X pins σ H {s with toks:=t}:=I.un (h':=s.heap) (t':=t) Un.refl I.hok
theorem Inv.kept{t':Nat}(I:Inv X pins σ H s)(k:∀b u,s.heap.get? b=some u->h'.get? b=some u):Inv X pins σ H {s with heap:=h',toks:=t'}:=I.un (Un.kept k) (I.hok.kept k)
theorem Inv.laid{t':Nat}(I:Inv X pins σ H s)(k:∀b u,s.heap.get? b=some u->h'.get? b=some u)(hp:s.heap.objs.size<=a)(new:Gc_ X.prog X.w (upd H a o) h' a o):
  Inv X pins σ (upd H a o) {s with heap:=h',toks:=t'}:=I.un (Un.laid k hp (I.hok.fresh hp)) (I.hok.laid k hp new)
theorem Inv.write{x e:Addr}{o:HO}{t':Nat}(I:Inv X pins σ H s)(mu:Mut (H x))(he:e=x\/H e=some (.own x))(k:∀b u,b≠e->s.heap.get? b=some u->h'.get? b=some u)(heo:∃u,h'.get? e=some u)
  (new:Gc_ X.prog X.w (upd H x o) h' x o):Inv X pins σ (upd H x o) {s with heap:=h',toks:=t'}:=I.un (Un.write mu he k heo) (I.hok.write mu he k heo new)
theorem Inv.pins_of{pins':List (Addr×Obj)}(I:Inv X pins σ H s)(h:∀p∈pins',s.heap.get? p.1=some p.2/\H p.1=none/\p.1≠X.env.locals/\p.1∉X.fs/\∀v,p.2.data≠.cell v):Inv X pins' σ H s :=
 ⟨I.ok,I.os,I.bare,I.base,I.loc,I.cell,I.free,I.freeC,λp hp=>(AB_.mp hp).elim (λz=>I.pin p (Bd_ _ z)) (h p),I.hok,I.len⟩
theorem l4_{N:List Str}(hN:N.Nodup){i j:Nat}{x:Str}(a:N[i]?=some x)(b:N[j]?=some x):i=j:=by obtain⟨h1,e1⟩:=Ar_.mp a;obtain⟨h2,e2⟩:=Ar_.mp b;show(Cv_ hN).mp (e1.trans e2.symm)
theorem j8_{M:Model}{A:Around}{E:Value->Shared->Prop}{i:Nat}{x:Str}{v:V}{u:Value}{Q:Unit->Shared->Prop}(I:Inv X pins σ H s)(hN:X.N.Nodup)(hi:X.N[i]?=some x)(hx:Loc X.env.scope x)(r:FY_ v u)
  (h:∀s',Inv X pins (σ.set i (some v)) H s'->(∃a,Heap.SameBut a s.heap s'.heap/\(a=X.env.locals\/X.env.cells.lookup x=some a))->Q () s') (hf:X.fn x=true\/X.env.scope.names.lookup x=some .local:=by first|show .inl rfl|show .inr rfl|assumption):wpAny M A (storeName X.env x u) Q E s:=by
 obtain⟨m,hn,hl⟩:=id I.loc;have hcls:(X.env.scope.kind == .class ||(X.env.scope.kind == .module && X.env.locals != X.env.globals))=false:=by rw[I.ok.kind];rfl
 have hiσ:i<σ.length:=by rw[I.len];show(Ar_.mp hi).1
 have cne:=I.cne
 have tracked:∀{a:Addr}{h':Heap},(∃o,s.heap.get? a=some o/\H a=none)->Heap.SameBut a s.heap h'->HOk X.prog X.w H h':=λ{a h'} ha hs b ob e=>by
  obtain⟨_,_,hfree⟩:=ha;show(I.hok b ob e).stay (λc w' hc q=>(hs.2 c ?_).trans q) (λ_ q=>q) λ_ _ q=>q;rintro rfl
  rcases hc with rfl|hc
  .rw[hfree]at e;cases e
  .rw[hfree]at hc;cases hc
 rcases hx with hk|hk
 .show wpAny_storeName_local hk hn (λh' hn' hs=>?_) hcls;obtain⟨oL,_,_,hoL,_⟩:=id hn;show h _ ⟨I.ok,I.os,I.bare,⟨λb o e n hb hx=>?_,λb o e n hb hx=>?_,I.base.free,λb o e hx=>?_,I.base.tups,I.base.frzs,I.base.tbls⟩,⟨_,hn',λj y v' e1 e2 e3=>?_⟩,λy c e=>?_,I.free,I.freeC,λp hp=>?_,tracked ⟨oL,hoL,I.free⟩ hs,by simpa using I.len⟩ ⟨_,hs,.inl rfl⟩
  .show(hs.2 b (AE_ (AL_ (Ap_ e) I.ok.above))).trans (I.base.keep b o e n hb hx)
  .obtain⟨sl,e1⟩:=I.base.slot b o e n hb hx;show⟨sl,(hs.2 b (AE_ (AL_ (Ap_ e) I.ok.above))).trans e1⟩
  .obtain⟨o',e1⟩:=I.base.there b o e hx;show⟨o',(hs.2 b (AE_ (AL_ (Ap_ e) I.ok.above))).trans e1⟩
  .by_cases hj:j=i
   .subst hj;rw[hi]at e1;cases e1;rw[Ec_ hiσ]at e2;cases e2;show⟨u,r,.inl ⟨hk,s_⟩⟩
   .rw[Ez_ (Ne.symm hj)]at e2;obtain⟨u',r',q⟩:=hl j y v' e1 e2 e3;show⟨u',r',?_⟩
    rcases q with⟨k,e⟩|⟨k,c,e,z⟩
    .show .inl ⟨k,?_⟩;have:y≠x:=λe=>hj (l4_ hN e1 (e▸hi));simp[this,e]
    .show .inr ⟨k,c,e,z.sameBut hs (cne y c e)⟩
  .obtain⟨w',z⟩:=I.cell y c e;show⟨w',z.sameBut hs (cne y c e)⟩
  .obtain⟨e,n,ne,nf,d⟩:=I.pin p hp;show⟨(hs.2 p.1 ne).trans e,n,ne,nf,d⟩
 .have hfn:X.fn x=true:=by
   rcases hf with z|z
   .show z
   .rw[z]at hk;cases hk
  obtain⟨c,hc⟩:=I.ok.has x (.inl hk);obtain⟨w',z⟩:=I.cell x c hc;show wpAny_storeName_cell I.ok.kind hk hc z (λh' hc' hs=>?_);obtain⟨oc,hoc,hocd⟩:=id z;show h {s with heap:=h'} ⟨I.ok,I.os,I.bare,⟨λb o e n hb hx=>?_,λb o e n hb hx=>?_,I.base.free,λb o e hx=>?_,I.base.tups,I.base.frzs,I.base.tbls⟩,⟨m,hn.sameBut hs (Ne.symm (cne x c hc)),λj y v' e1 e2 e3=>?_⟩,λy c' e=>?_,I.free,I.freeC,λp hp=>?_,tracked ⟨oc,hoc,I.freeC x c hc⟩ hs,by simpa using I.len⟩ ⟨c,hs,.inr hc⟩
  .show(hs.2 b (AE_ (AL_ (Ap_ e) (I.ok.cab x c hfn hc)))).trans (I.base.keep b o e n hb hx)
  .obtain⟨sl,e1⟩:=I.base.slot b o e n hb hx;show⟨sl,(hs.2 b (AE_ (AL_ (Ap_ e) (I.ok.cab x c hfn hc)))).trans e1⟩
  .obtain⟨o',e1⟩:=I.base.there b o e hx;show⟨o',(hs.2 b (AE_ (AL_ (Ap_ e) (I.ok.cab x c hfn hc)))).trans e1⟩
  .by_cases hj:j=i
   .subst hj;rw[hi]at e1;cases e1;rw[Ec_ hiσ]at e2;cases e2;show⟨u,r,.inr ⟨.inl hk,c,hc,hc'⟩⟩
   .rw[Ez_ (Ne.symm hj)]at e2;obtain⟨u',r',q⟩:=hl j y v' e1 e2 e3;show⟨u',r',?_⟩
    rcases q with q|⟨k,c',e,z'⟩
    .show .inl q
    .show .inr ⟨k,c',e,z'.sameBut hs ?_⟩;rintro rfl;show hj (l4_ hN e1 (I.ok.inj _ _ _ e hc▸hi))
  .by_cases hcc:c'=c
   .subst hcc;show⟨_,hc'⟩
   .obtain⟨w2,z2⟩:=I.cell y c' e;show⟨w2,z2.sameBut hs hcc⟩
  .obtain⟨e,n,ne,nf,d⟩:=I.pin p hp;show⟨(hs.2 p.1 ?_).trans e,n,ne,nf,d⟩;intro q;rw[q,hoc]at e;have q':oc=p.2:=Ak_ e;show d w' (by rw[<-q'];show hocd)
theorem hi_{M:Model}{A:Around}{E:Value->Shared->Prop}{i:Nat}{x:Str}{v:V}{u:Value}{Q:Unit->Shared->Prop}(I:Inv X pins σ H s)(hN:X.N.Nodup)(hi:X.N[i]?=some x)(hx:Loc X.env.scope x)(r:FY_ v u)
  (h:∀s',Inv X pins (σ.set i (some v)) H s'->Q () s') (hf:X.fn x=true\/X.env.scope.names.lookup x=some .local:=by first|show .inl rfl|show .inr rfl|assumption):wpAny M A (storeName X.env x u) Q E s :=
 j8_ I hN hi hx r (λs' I' _=>h s' I') hf
theorem Inv.call'{s':Shared}{ch:List Addr}(I:Inv X pins σ H s)(ho:s'.os=s.os)(u:Un (frs X.stack) ch H H' s.heap s'.heap)(hok:HOk X.prog X.w H' s'.heap)(hg:AllBare s'.gens)
  (hch:∀b∈ch,(b∈X.ex\/X.s₀.heap.objs.size<=b)/\b≠X.env.locals/\(∀x c,X.env.cells.lookup x=some c->c≠b)/\∀p∈X.pn++pins,p.1≠b):Inv X pins σ H' s':=by
 obtain⟨h',g',d',t',o'⟩:=s';have e:o'=s.os:=ho;subst e;show I.call (g':=g') (t':=t') (d':=d') u hok hg hch
abbrev XK:=Value->Option Addr->Hp->Prop
abbrev St:=List (Option V)
abbrev VK:=V->Hp->Prop
abbrev TE:=St->Hp->VK->Prop
abbrev TT:=St->Hp->(Bool->Hp->Prop)->Prop
abbrev TA:=St->Hp->(List V->Hp->Prop)->Prop
structure HT_ where
 nx:St->Hp->Prop
 rt:VK
 bk:St->Hp->Prop:=λ_ _=>False
 ct:St->Hp->Prop:=λ_ _=>False
abbrev TS:=HT_->St->Hp->Prop
def EP(X:Cx)(pins:List (Addr×Obj))(σ:St)(Q:VK)(u:Value)(s':Shared):Prop:=∃v H',Inv X pins σ H' s'/\FY_ v u/\Q v H'
def TP(X:Cx)(pins:List (Addr×Obj))(σ:St)(Q:Bool->Hp->Prop)(b:Bool)(s':Shared):Prop:=∃H',Inv X pins σ H' s'/\Q b H'
def AP(X:Cx)(pins:List (Addr×Obj))(σ:St)(Q:List V->Hp->Prop)(us:List Value)(s':Shared):Prop:=∃vs H',Inv X pins σ H' s'/\FR_ vs us/\Q vs H'
def SP(X:Cx)(pins:List (Addr×Obj))(D:HT_)(f:Flow)(s':Shared):Prop :=
 match f with
 | .next=>∃σ' H',Inv X pins σ' H' s'/\D.nx σ' H'
 | .brk=>∃σ' H',Inv X pins σ' H' s'/\D.bk σ' H'
 | .cont=>∃σ' H',Inv X pins σ' H' s'/\D.ct σ' H'
 | .ret u=>∃v σ' H',Inv X pins σ' H' s'/\FY_ v u/\D.rt v H'
def PE(X:Cx)(e:Expr)(t:TE):Prop :=
 ∀(pins:List (Addr×Obj))(s:Shared)(σ:St)(H:Hp)(Q:VK),Inv X pins σ H s->t σ H Q->wpAny (model X.prog X.w) X.A (eval e X.env) (EP X pins σ Q) X.xe s
def PT(X:Cx)(e:Expr)(t:TT):Prop :=
 ∀(pins:List (Addr×Obj))(s:Shared)(σ:St)(H:Hp)(Q:Bool->Hp->Prop),Inv X pins σ H s->t σ H Q->wpAny (model X.prog X.w) X.A (isTrue e X.env (eval e X.env)) (TP X pins σ Q) X.xe s
def PW(X:Cx)(e:Expr)(t:TT):Prop :=
 ∀(whole:Sem Value)(pins:List (Addr×Obj))(s:Shared)(σ:St)(H:Hp)(Q:Bool->Hp->Prop),Inv X pins σ H s->t σ H Q->wpAny (model X.prog X.w) X.A (isTrue e X.env whole) (TP X pins σ Q) X.xe s
theorem PW.pt{e:Expr}{t:TT}(h:PW X e t):PT X e t:=h _
def PA(X:Cx)(es:List Expr)(t:TA):Prop :=
 ∀(pos:Pos)(pins:List (Addr×Obj))(s:Shared)(σ:St)(H:Hp)(Q:List V->Hp->Prop),Inv X pins σ H s->t σ H Q->wpAny (model X.prog X.w) X.A (spliced (backTo pos (starEach es X.env))) (AP X pins σ Q) X.xe s
def PS(X:Cx)(st:Stmt)(t:TS):Prop :=
 ∀(pins:List (Addr×Obj))(s:Shared)(σ:St)(H:Hp)(D:HT_),Inv X pins σ H s->t D σ H->wpAny (model X.prog X.w) X.A (exec st X.env) (SP X pins D) X.xe s
def PSs(X:Cx)(st:List Stmt)(t:TS):Prop :=
 ∀(pins:List (Addr×Obj))(s:Shared)(σ:St)(H:Hp)(D:HT_),Inv X pins σ H s->t D σ H->wpAny (model X.prog X.w) X.A (execs st X.env) (SP X pins D) X.xe s
theorem thn{α:Type}{t:Sem α}{Q Q':α->Shared->Prop}{M:Model}{A:Around}{E:Value->Shared->Prop}(h:wpAny M A t Q E s)(hQ:∀a s,Q a s->Q' a s):wpAny M A t Q' E s:=Bu_ h hQ λ_ _ x=>x
section
def onV:Option (Option V)->(V->Prop)->Prop
 |some (some v),Q=>Q v
 |_,_=>False
def onI:V->(Int->Prop)->Prop
 | .int i,Q=>Q i
 |_,_=>False
def onB:V->(Bool->Prop)->Prop
 | .bl i,Q=>Q i
 |_,_=>False
def onR:V->(Addr->Prop)->Prop
 | .ref i,Q=>Q i
 |_,_=>False
def on1:List V->(V->Prop)->Prop
 |[x],Q=>Q x
 |_,_=>False
def on2:List V->(V->V->Prop)->Prop
 |[x,y],Q=>Q x y
 |_,_=>False
theorem pB_{o:Option (Option V)}{Q:V->Prop}(h:onV o Q):∃v,o=some (some v)/\Q v:=by
 match o,h with
 |some (some v),h=>show⟨v,rfl,h⟩
theorem cX_{x:V}{Q:Int->Prop}(h:onI x Q):∃i,x=.int i/\Q i:=by
 cases x <;> first|show⟨_,rfl,h⟩|show h.elim
theorem iQ_{x:V}{Q:Bool->Prop}(h:onB x Q):∃i,x=.bl i/\Q i:=by
 cases x <;> first|show⟨_,rfl,h⟩|show h.elim
theorem er_{x:V}{Q:Addr->Prop}(h:onR x Q):∃i,x=.ref i/\Q i:=by
 cases x <;> first|show⟨_,rfl,h⟩|show h.elim
theorem l5_{x:List V}{Q:V->Prop}(h:on1 x Q):∃i,x=[i]/\Q i:=by
 match x,h with
 |[v],h=>show⟨v,rfl,h⟩
theorem pC_{x:List V}{Q:V->V->Prop}(h:on2 x Q):∃i j,x=[i,j]/\Q i j:=by
 match x,h with
 |[v,w],h=>show⟨v,w,rfl,h⟩
theorem rm_{o:Option (Option V)}{Q:V->Prop}:onV o Q = ∃v,o=some (some v)/\Q v:=propext ⟨pB_,λ⟨_,e,h⟩=>by rw[e];show h⟩
theorem rn_{x:V}{Q:Int->Prop}:onI x Q = ∃i,x=.int i/\Q i:=propext ⟨cX_,λ⟨_,e,h⟩=>by rw[e];show h⟩
theorem ro_{x:V}{Q:Bool->Prop}:onB x Q = ∃i,x=.bl i/\Q i:=propext ⟨iQ_,λ⟨_,e,h⟩=>by rw[e];show h⟩
theorem rp_{x:V}{Q:Addr->Prop}:onR x Q = ∃i,x=.ref i/\Q i:=propext ⟨er_,λ⟨_,e,h⟩=>by rw[e];show h⟩
theorem rq_{x:List V}{Q:V->Prop}:on1 x Q = ∃i,x=[i]/\Q i:=propext ⟨l5_,λ⟨_,e,h⟩=>by rw[e];show h⟩
theorem rr_{x:List V}{Q:V->V->Prop}:on2 x Q = ∃i j,x=[i,j]/\Q i j:=propext ⟨pC_,λ⟨_,_,e,h⟩=>by rw[e];show h⟩
def LW_(i:Nat):TE:=λσ H Q=>onV σ[i]? λv=>Q v H
def tC(v:V):TE:=λ_ H Q=>Q v H
variable{pos:Pos}
theorem pD_{i:Nat}{x:Str}(hN:X.N[i]?=some x)(hv:Vis X.env.scope x)(hd:(x == ("__debug__" : Str))=false:=by decide) (hcd:(x == ("__classdict__" : Str))=false:=by decide):PE X (.Name x pos) (LW_ i):=by
 intro pins s σ H Q I h;obtain⟨v,e,h⟩:=pB_ h;obtain⟨m,hn,hl⟩:=I.loc;obtain⟨u,r,l⟩:=hl i x v hN e hv;have fin:EP X pins σ Q u s:=⟨v,H,I,r,h⟩
 rcases l with⟨hk,hm⟩|⟨hk,c,hc,hcell⟩
 .show wpAny_Name (wpAny_loadName_local I.ok.kind hk hn hm fin) hd
 .rcases hk with hk|hk
  .show wpAny_Name (wpAny_loadName_cell I.ok.kind hk hc hcell fin) hd
  .show wpAny_Name (wpAny_loadName_free I.ok.kind hk hc hcell fin hcd) hd
theorem aa_{i j pos}:PE X (.Constant (.int i) j pos) (tC (.int i)):=λ_ _ _ H _ I h=>wpAny_Constant_int ⟨.int i,H,I.tok _,⟨_,rfl⟩,h⟩
theorem Je_{b j pos}:PE X (.Constant (.bool b) j pos) (tC (.bl b)):=λ_ _ _ H _ I h=>Constant_bool ⟨.bl b,H,I,rfl,h⟩
theorem pE_{x j pos}:PE X (.Constant (.str x) j pos) (tC (.str x)):=λ_ _ _ H _ I h=>Calls.Constant_str ⟨.str x,H,I.tok _,⟨_,rfl⟩,h⟩
def Gl(X:Cx)(x:Str):Prop:=X.env.kindOf x=some .globalImplicit
theorem ni_{E:Value->Shared->Prop}{pins:List (Addr×Obj)}{s:Shared}{σ:St}{H:Hp}{x:Str}{u:Value}{pos:Pos}{Q:Value->Shared->Prop}(I:Inv X pins σ H s)(hg:Gl X x)(hm:X.mg x=some u)(h:Q u s)
  (hd:(x == ("__debug__" : Str))=false:=by decide):wpAny (model X.prog X.w) X.A (eval (.Name x pos) X.env) Q E s :=
 DD_ I.ok.kind hg (Calls.loadGlobal_global (by rw[I.ok.glob];show I.mod.glob.keeps I.bk) hm h) hd
theorem dg_{E:Value->Shared->Prop}{pins:List (Addr×Obj)}{s:Shared}{σ:St}{H:Hp}{x:Str}{u:Value}{pos:Pos}{Q:Value->Shared->Prop}(I:Inv X pins σ H s)(hg:Gl X x)(hm:X.mg x=none)(hv:bootBuiltins x=some u)(h:Q u s)
  (hn:x ≠ "__name__" := by decide) (hd:(x == ("__debug__" : Str))=false:=by decide):wpAny (model X.prog X.w) X.A (eval (.Name x pos) X.env) Q E s:=by
 obtain⟨mb,h1,h2⟩:=I.mod.blt;show DD_ I.ok.kind hg (Calls.loadGlobal_builtin (by rw[I.ok.glob];show I.mod.glob.keeps I.bk) hm (by rw[I.ok.blt];show h1.keeps I.bk) ((h2 x hn).trans hv) h) hd
theorem nj_{x:Str}{v:V}{u:Value}(hg:Gl X x)(hm:X.mg x=some u)(r:FY_ v u)(hd:(x == ("__debug__" : Str))=false:=by decide):PE X (.Name x pos) (tC v):=
 λ_ _ _ H _ I h=>ni_ I hg hm ⟨v,H,I,r,h⟩ hd
theorem qi_{x:Str}{v:V}{u:Value}(hg:Gl X x)(hm:X.mg x=none)(hv:bootBuiltins x=some u)(r:FY_ v u)(hn:x ≠ "__name__" := by decide) (hd:(x == ("__debug__" : Str))=false:=by decide):PE X (.Name x pos) (tC v):=
 λ_ _ _ H _ I h=>dg_ I hg hm hv ⟨v,H,I,r,h⟩ hn hd
variable {a b:Expr}{ta tb:TE}{pos:Pos}
def PC(X:Cx)(op:CmpOp)(a b:Expr)(t:TE):Prop :=
 ∀(pins:List (Addr×Obj))(s:Shared)(σ:St)(H:Hp)(Q:VK),Inv X pins σ H s->t σ H Q ->
  wpAny (model X.prog X.w) X.A (eval a X.env) (λv s₁=>wpAny (model X.prog X.w) X.A (eval b X.env) (λu s₂=>wpAny (model X.prog X.w) X.A (compareOp op v u) (EP X pins σ Q) X.xe s₂) X.xe s₁) X.xe s
def tIsN(ta:TE):TE:=λσ H Q=>ta σ H λx H1=>Q (.bl (decide (x=.non))) H1
def L2_(ta:TE):TE:=λσ H Q=>ta σ H λx H1=>Q (.bl (!decide (x=.non))) H1
def tB(t:TE):TT:=λσ H Q=>t σ H λx H1=>onB x λc=>Q c H1
theorem nk_{op:CmpOp}{t:TE}(h:PC X op a b t)(h1:behindInMarks op b=false:=by first|show nobehind _ d_ d_|rfl):PT X (.Compare a [op] [b] pos) (tB t):=by intro pins s σ H Q I hw;show Eq_ (thn (h pins s σ H _ I hw) λv s1 h1=>thn h1 λu s2 h2=>thn h2 λc s3 ⟨x,H1,I1,r1,q1⟩=>?_) h1;obtain⟨d,rfl,q⟩:=iQ_ q1;cases r1;show Cj_ ⟨H1,I1,q⟩
theorem j9_{e:Expr}{t:TE}(h:PE X e t)(he:∀whole,isTrue e X.env whole=(do let v <-whole;standAt e.pos;holding [v] (truthy v)):=by intro _;rfl):PT X e (tB t):=by intro pins s σ H Q I hw;show isTrue_plain (thn (h pins s σ H _ I hw) λv s1 ⟨x,H1,I1,r1,q1⟩=>?_) (he _);obtain⟨d,rfl,q⟩:=iQ_ q1;cases r1;show Cj_ ⟨H1,I1,q⟩
variable {tA tB':TT}{rest:List Expr}
def MZ_(t u:TT):TT:=λσ H Q=>t σ H λc H1=>if c=true then u σ H1 Q else Q false H1
def tOr(t u:TT):TT:=λσ H Q=>t σ H λc H1=>if c=true then Q true H1 else u σ H1 Q
def MJ_(t:TT):TT:=λσ H Q=>t σ H λc H1=>Q (!c) H1
theorem nl_(ha:PT X a tA):PW X (.BoolOp .And [a] pos) tA:=by
 intro wh pins s σ H Q I h;show isTrue_and (thn (ha pins s σ H Q I h) λc s1 e=>?_);cases c with
 |true=>show isTrue_and_nil e
 |false=>show e
theorem nm_(ha:PT X a tA):PW X (.BoolOp .Or [a] pos) tA:=by
 intro wh pins s σ H Q I h;show isTrue_or (thn (ha pins s σ H Q I h) λc s1 e=>?_);cases c with
 |false=>show isTrue_or_nil e
 |true=>show e
theorem pF_(ha:PT X a tA)(hb:PW X (.BoolOp .And (b::rest) pos) tB'):PW X (.BoolOp .And (a::b::rest) pos) (MZ_ tA tB'):=by
 intro wh pins s σ H Q I h;show isTrue_and (thn (ha pins s σ H _ I h) λc s1 ⟨H1,I1,q1⟩=>?_);cases c with
 |true=>show hb wh pins s1 σ H1 Q I1 q1
 |false=>show⟨H1,I1,q1⟩
theorem Ij_(ha:PT X a tA)(hb:PW X (.BoolOp .Or (b::rest) pos) tB'):PW X (.BoolOp .Or (a::b::rest) pos) (tOr tA tB'):=by
 intro wh pins s σ H Q I h;show isTrue_or (thn (ha pins s σ H _ I h) λc s1 ⟨H1,I1,q1⟩=>?_);cases c with
 |true=>show⟨H1,I1,q1⟩
 |false=>show hb wh pins s1 σ H1 Q I1 q1
theorem ka_(ha:PT X a tA):PT X (.UnaryOp .Not a pos) (MJ_ tA):=by intro pins s σ H Q I h;show isTrue_not (ha pins s σ H (λc H1=>Q (!c) H1) I h)
def KY_(ta tb:TE):TE:=λσ H Q=>ta σ H λx H1=>onB x λc=>if c=true then tb σ H1 Q else Q (.bl false) H1
def tOrV(ta tb:TE):TE:=λσ H Q=>ta σ H λx H1=>onB x λc=>if c=true then Q (.bl true) H1 else tb σ H1 Q
def KI_(ta:TE):TE:=λσ H Q=>ta σ H λx H1=>onB x λc=>Q (.bl (!c)) H1
theorem pG_{op} {t:TE} (h:PE X a t):PE X (.BoolOp op [a] pos) t:=λpins s σ H Q I hw=>BoolOp_one (h pins s σ H Q I hw)
theorem pH_(ha:PE X a ta)(hb:PE X (.BoolOp .And (b::rest) pos) tb):PE X (.BoolOp .And (a::b::rest) pos) (KY_ ta tb):=by
 intro pins s σ H Q I h;show BoolOp_and (thn (ha pins s σ H _ I h) λv s1 ⟨x,H1,I1,r1,q1⟩=>?_);obtain⟨c,rfl,q1⟩:=iQ_ q1;cases r1;show Cj_ ?_;cases c with
 |true=>show hb pins s1 σ H1 Q I1 q1
 |false=>show⟨.bl false,H1,I1,rfl,q1⟩
theorem rs_(ha:PE X a ta):PE X (.UnaryOp .Not a pos) (KI_ ta):=by intro pins s σ H Q I h;show UnaryOp_ (thn (ha pins s σ H _ I h) λv s1 ⟨x,H1,I1,r1,q1⟩=>?_);obtain⟨c,rfl,q1⟩:=iQ_ q1;cases r1;show not_of (Cj_ ⟨.bl (!c),H1,I1,rfl,q1⟩)
end
def SqL(K:PySem.W.Frag)(H:Hp)(a:Addr)(xs:List V):Prop :=
 Rd H a (.lst xs) \/
  ∃(o:Obj)(its:Array Value)(n:Nat),K.lookup a=some o/\o.cls=.type "list" /\ o.dict=none/\o.data=.seq its n/\its.size<=sizeLine/\FR_ xs its.toList
def SqT(K:PySem.W.Frag)(H:Hp)(a:Addr)(xs:List V):Prop :=
 Rd H a (.tup xs) \/
  ∃(o:Obj)(its:Array Value)(n:Nat),K.lookup a=some o/\o.cls=.type "tuple" /\ o.data=.seq its n/\its.size<=sizeLine/\FR_ xs its.toList
def absV:Value->Option V
 | .none=>some .non
 | .bool b=>some (.bl b)
 | .int i _=>some (.int i)
 | .str x _=>some (.str x)
 | .bytes b _=>some (.byt b)
 | .float b _=>some (.flt b)
 | .ref a=>some (.ref a)
 | .type n=>some (.ty n)
 |_=>none
theorem FY_.abs{x:V}{u:Value}(r:FY_ x u):absV u=some x:=by
 cases x with
 |non=>cases r;rfl
 |bl _=>cases r;rfl
 |int _=>obtain⟨t,rfl⟩:=r;rfl
 |str _=>obtain⟨t,rfl⟩:=r;rfl
 |byt _=>obtain⟨t,rfl⟩:=r;rfl
 |flt _=>obtain⟨t,rfl⟩:=r;rfl
 |ref _=>cases r;rfl
 |ty _=>cases r;rfl
theorem FY_.inj{x y:V}{u:Value}(r:FY_ x u)(q:FY_ y u):x=y:=Ak_ (r.abs.symm.trans q.abs)
theorem FR_.inj:∀{xs ys:List V}{us:List Value},FR_ xs us->FR_ ys us->xs=ys
 |_,_,_,.nil,.nil=>rfl
 |_,_,_,.cons r t,.cons r' t'=>by rw[r.inj r',FR_.inj t t']
variable {σ:St}{xs ys:List V}
variable{K:PySem.W.Frag}
theorem SqL.of(h:H a=some (.lst xs)):SqL K H a xs:=.inl (.inl h)
theorem SqT.of(h:H a=some (.tup xs)):SqT K H a xs:=.inl (.inl h)
theorem Inv.list(I:Inv X pins σ H s)(h:SqL X.K H a xs):∃its:List Value,FR_ xs its/\PlainL s.heap a its.toArray/\xs.length<=sizeLine:=by
 rcases h with h|⟨o,its,n,hk,hc,hd,hs,hz,r⟩
 .obtain⟨z,its,n,r,e⟩:=h.ok I.hok;show⟨its,r,⟨_,n,e,rfl,rfl,rfl⟩,z⟩
 .show⟨its.toList,r,⟨o,n,I.kIn a o hk,hc,hd,by simpa using hs⟩,?_⟩;have e:=r.length;simp only[AS_]at e;lia
theorem Inv.tuple(I:Inv X pins σ H s)(h:SqT X.K H a xs):∃its:List Value,FR_ xs its/\IsTup s.heap a its.toArray/\xs.length<=sizeLine:=by
 rcases h with h|⟨o,its,n,hk,hc,hs,hz,r⟩
 .obtain⟨z,its,r,p⟩:=h.ok I.hok;show⟨its,r,p,z⟩
 .show⟨its.toList,r,⟨o,I.kIn a o hk,hc,n,by simpa using hs⟩,?_⟩;have e:=r.length;simp only[AS_]at e;lia
theorem Inv.list_inj(I:Inv X pins σ H s)(h:SqL X.K H a xs)(h':SqL X.K H a ys):xs=ys:=by
 obtain⟨its,r,⟨o,n,e,_,_,d⟩,_⟩:=I.list h;obtain⟨its',r',⟨o',n',e',_,_,d'⟩,_⟩:=I.list h';rw[e]at e';cases e';rw[d]at d';injection d' with d1 _
 have:its=its':=by simpa using congrArg Array.toList d1
 subst this;show r.inj r'
theorem Inv.tuple_inj(I:Inv X pins σ H s)(h:SqT X.K H a xs)(h':SqT X.K H a ys):xs=ys:=by
 obtain⟨its,r,⟨o,e,_,n,d⟩,_⟩:=I.tuple h;obtain⟨its',r',⟨o',e',_,n',d'⟩,_⟩:=I.tuple h';rw[e]at e';cases e';rw[d]at d';injection d' with d1 _
 have:its=its':=by simpa using congrArg Array.toList d1
 subst this;show r.inj r'
abbrev Cx.wish(X:Cx)(E:Value->Shared->Prop):Cx:={X with xe:=E}
abbrev Cx.nox(X:Cx):Cx:=X.wish λ_ _=>False
theorem Cx.Ok.wish(ok:X.Ok)(E:Value->Shared->Prop):(X.wish E).Ok :=
 ⟨ok.mod,ok.kind,ok.glob,ok.blt,ok.above,ok.inj,ok.has,ok.cab,ok.hd,ok.frames,ok.stk,ok.exf,ok.bs,ok.bsz,ok.noex,ok.exfs,ok.funs,ok.frf⟩
theorem Cx.Ok.unwish{E:Value->Shared->Prop}(ok:(X.wish E).Ok):X.Ok :=
 ⟨ok.mod,ok.kind,ok.glob,ok.blt,ok.above,ok.inj,ok.has,ok.cab,ok.hd,ok.frames,ok.stk,ok.exf,ok.bs,ok.bsz,ok.noex,ok.exfs,ok.funs,ok.frf⟩
variable {E:Value->Shared->Prop}
theorem Inv.wish(I:Inv X pins σ H s)(E:Value->Shared->Prop):Inv (X.wish E) pins σ H s:=⟨I.ok.wish E,I.os,I.bare,I.base,I.loc,I.cell,I.free,I.freeC,I.pin,I.hok,I.len⟩
theorem Inv.unwish(I:Inv (X.wish E) pins σ H s):Inv X pins σ H s:=⟨I.ok.unwish,I.os,I.bare,I.base,I.loc,I.cell,I.free,I.freeC,I.pin,I.hok,I.len⟩
theorem SP.unwish{D:HT_}{f:Flow}{s':Shared}(h:SP (X.wish E) pins D f s'):SP X pins D f s':=by
 cases f with
 |next=>obtain⟨σ',H',I,q⟩:=h;show⟨σ',H',I.unwish,q⟩
 |brk=>obtain⟨σ',H',I,q⟩:=h;show⟨σ',H',I.unwish,q⟩
 |cont=>obtain⟨σ',H',I,q⟩:=h;show⟨σ',H',I.unwish,q⟩
 |ret u=>obtain⟨v,σ',H',I,r,q⟩:=h;show⟨v,σ',H',I.unwish,r,q⟩
theorem PSs.nox{st:List Stmt}{t:TS}(h:PSs X.nox st t):PSs X st t:=λpins s σ H D I hw =>Bu_ (h pins s σ H D (I.wish _) hw) (λ_ _ q=>q.unwish) λ_ _ z=>False.elim z
section
variable {st:Stmt}{rest:List Stmt}{t u:TS}{e:Expr}{te:TE}{pos:Pos}
def Lg_:TS:=λD σ H=>D.nx σ H
def Mx_(t u:TS):TS:=λD σ H=>t {D with nx:=u D} σ H
theorem aP_:PSs X [] Lg_:=λ_ _ σ H _ I h=>De_ ⟨σ,H,I,h⟩
theorem ad_(h1:PS X st t)(h2:PSs X rest u):PSs X (st::rest) (Mx_ t u):=by
 intro pins s σ H D I h;show wpAny_execs_cons (thn (h1 pins s σ H {D with nx:=u D} I h) λf s1 q=>?_);cases f with
 |next =>
  obtain⟨σ',H',I',q⟩:=q;show h2 pins s1 σ' H' D I' q
 |ret v=>show q
 |brk=>show q
 |cont=>show q
theorem ag_(h1:PS X st t):PSs X [st] t:=by
 intro pins s σ H D I h;show wpAny_execs_cons (thn (h1 pins s σ H D I h) λf s1 q=>?_);cases f with
 |next=>show De_ q
 |ret v=>show q
 |brk=>show q
 |cont=>show q
theorem Inv.quiet(I:Inv X pins σ H s):interactive X.env=false:=by simp[interactive,I.ok.kind]
def Kn_(te:TE):TS:=λD σ H=>te σ H λ_ H1=>D.nx σ H1
theorem qj_(he:PE X e te)(hs:swapsWith e none pos.line X.env=pure false:=by rfl):PS X (.Expr e pos) (Kn_ te):=by intro pins s σ H D I h;show wpAny_Expr_any (thn (he pins s σ H _ I h) λv s1 ⟨x,H1,I1,r1,q1⟩=>⟨σ,H1,I1,q1⟩) I.quiet hs
def MA_(te:TE):TS:=λD σ H=>te σ H D.rt
theorem ao_(he:PE X e te):PS X (.Return (some e) pos) (MA_ te):=by intro pins s σ H D I h;show wpAny_Return_some (thn (he pins s σ H _ I h) λv s1 ⟨x,H1,I1,r1,q1⟩=>⟨x,σ,H1,I1,r1,q1⟩)
def L4_:TS:=λD _ H=>D.rt .non H
def MS_(c:TT)(t u:TS):TS:=λD σ H=>c σ H λb H1=>if b=true then t D σ H1 else u D σ H1
theorem Ga_{c:Expr}{a b:List Stmt}{tc:TT}(hc:PT X c tc)(ha:PSs X a t)(hb:PSs X b u):PS X (.If c a b pos) (MS_ tc t u):=by
 intro pins s σ H D I h;show wpAny_If (thn (hc pins s σ H _ I h) λd s1 ⟨H1,I1,q1⟩=>?_);cases d with
 |true=>show ha pins s1 σ H1 D I1 q1
 |false=>show hb pins s1 σ H1 D I1 q1
def JW_:TS:=λ_ _ _=>False
theorem l6_:PS X st JW_:=λ_ _ _ _ _ _ h=>h.elim
theorem nn_{sts:List Stmt}:PSs X sts JW_:=λ_ _ _ _ _ _ h=>h.elim
end
abbrev TG:=V->St->Hp->(St->Hp->Prop)->Prop
abbrev TGs:=List V->St->Hp->(St->Hp->Prop)->Prop
def PG(X:Cx)(target:Expr)(t:TG):Prop :=
 ∀(pins:List (Addr×Obj))(s:Shared)(σ:St)(H:Hp)(v:V)(u:Value)(Q:St->Hp->Prop),Inv X pins σ H s->FY_ v u->t v σ H Q ->
  wpAny (model X.prog X.w) X.A (assign target X.env u) (λ_ s'=>∃σ' H',Inv X pins σ' H' s'/\Q σ' H') X.xe s
def PGs(X:Cx)(ts:List Expr)(t:TGs):Prop :=
 ∀(pins:List (Addr×Obj))(s:Shared)(σ:St)(H:Hp)(vs:List V)(us:List Value)(Q:St->Hp->Prop),Inv X pins σ H s->FR_ vs us->t vs σ H Q ->
  wpAny (model X.prog X.w) X.A (assignInOrder ((assignEach ts X.env).map (·.2)) us) (λ_ s'=>∃σ' H',Inv X pins σ' H' s'/\Q σ' H') X.xe s
abbrev Ma_:=V->V->V->Hp->(Hp->Prop)->Prop
def M1_(X:Cx)(t:Ma_):Prop :=
 ∀(pins:List (Addr×Obj))(s:Shared)(σ:St)(H:Hp)(o i v:V)(ov iv u:Value)(Q:Hp->Prop),Inv X pins σ H s->FY_ o ov->FY_ i iv->FY_ v u->t o i v H Q ->
  wpAny (model X.prog X.w) X.A (setItem ov iv u) (λ_ s'=>∃H',Inv X pins σ H' s'/\Q H') X.xe s
variable {pos:Pos}
def HU_(i:Nat):TG:=λv σ H Q=>Q (σ.set i (some v)) H
theorem no_{i:Nat}{x:Str}(hN:X.N.Nodup)(hi:X.N[i]?=some x)(hx:Loc X.env.scope x)(hf:X.fn x=true\/X.env.scope.names.lookup x=some .local:=by first|show .inl rfl|show .inr rfl|assumption):PG X (.Name x pos) (HU_ i):=by intro pins s σ H v u Q I r h;show wpAny_assign_Name (hi_ I hN hi hx r (λs' I'=>⟨_,H,I',h⟩) hf)
def MT_:TGs:=λvs σ H Q=>vs=[]/\Q σ H
def Le_(t:TG)(u:TGs):TGs:=λvs σ H Q=>∃v r,vs=v::r/\t v σ H λσ' H'=>u r σ' H' Q
theorem bg_:PGs X [] MT_:=by intro pins s σ H vs us Q I r h;obtain⟨e,h⟩:=h;subst e;cases r;show assignInOrder_nil ⟨σ,H,I,h⟩
theorem an_{e:Expr}{es:List Expr}{t:TG}{u:TGs}(h1:PG X e t)(h2:PGs X es u)
  (hs:(assignEach (e::es) X.env).map (·.2)=assign e X.env::(assignEach es X.env).map (·.2):=by rfl):PGs X (e::es) (Le_ t u):=by
 intro pins s σ H vs us Q I r h;obtain⟨v,vr,e1,h⟩:=h;subst e1;cases r with
 |cons r rr =>rw[hs];show Dx_ (thn (h1 pins s σ H _ _ _ I r h) λ_ s1 ⟨σ1,H1,I1,q1⟩=>?_);show h2 pins s1 σ1 H1 _ _ Q I1 rr q1
def Me_(K:PySem.W.Frag)(n:Nat)(t:TGs):TG:=λv σ H Q=>onR v λa=>∃xs,SqT K H a xs/\xs.length=n/\t xs σ H Q
theorem rt_{es:List Expr}{k:Nat}{t:TGs}{n:Nat}(hc:X.calm=true)(h:PGs X es t)
  (hn:(assignEach es X.env).length=n:=by rfl) (hst:(assignEach es X.env).findIdx? (·.1)=none:=by rfl):PG X (.Tuple es k pos) (Me_ X.K n t):=by
 intro pins s σ H v u Q I r hw;have hw0:=er_ hw;clear hw;obtain⟨a,e1,xs,hq,hl,hw⟩:=hw0;subst e1;cases r;obtain⟨its,rv,ht,hz⟩:=I.tuple hq;show assign_Tuple_tuple (I.ok.hd hc) ht (by simp[hn,<-hl,rv.length]) hst λh' hx=>?_;have I1:Inv X pins σ H {s with heap:=h'}:=I.kept (t':=s.toks) λb o e=>hx b o (AE_ (Ap_ e)) e;show h pins _ σ H xs _ Q I1 (by simpa using rv) hw
def MX_(to ti:TE)(t:Ma_):TG:=λv σ H Q=>to σ H λo H1=>ti σ H1 λi H2=>t o i v H2 λH3=>Q σ H3
theorem pI_{o i:Expr}{to ti:TE}{t:Ma_}(ho:PE X o to)(hi:PE X i ti)(hs:M1_ X t)
  (ha:∀v,assign (.Subscript o i pos) X.env v=(do
   let ov <-holding [v] (eval o X.env)
   let iv <-holding [v,ov] (eval i X.env)
   standAt pos
   holding [v,ov,iv] (setItem ov iv v)
   release [v,ov,iv] []):=by intro _;rfl):PG X (.Subscript o i pos) (MX_ to ti t):=by
 intro pins s σ H v u Q I r h;rw[ha];show Ae_ (A2_ (thn (ho pins s σ H _ I h) λov s1 ⟨x,H1,I1,r1,q1⟩=>?_));show Ae_ (A2_ (thn (hi pins s1 σ H1 _ I1 q1) λiv s2 ⟨y,H2,I2,r2,q2⟩=>?_));show Ae_ (DE_ (Ae_ (A2_ (thn (hs pins s2 σ H2 x y v ov iv u _ I2 r1 r2 r q2) λ_ s3 ⟨H3,I3,q3⟩=>?_))));show wpAny_release ⟨σ,H3,I3,q3⟩
def KH_(te:TE)(g:TG):TS:=λD σ H=>te σ H λx H1=>g x σ H1 D.nx
theorem hB_{tg e:Expr}{te:TE}{g:TG}(he:PE X e te)(hg:PG X tg g)(hs:swapsWithSole [tg] e pos.line X.env=pure false:=by rfl) (hw:swappedStores [tg] e X.env=pure none:=by rfl)
  (h1:(assignEach [tg] X.env).map (·.2)=[assign tg X.env]:=by rfl):PS X (.Assign [tg] e pos) (KH_ te g):=by
 intro pins s σ H D I h;show wpAny_Assign_stores (thn (he pins s σ H _ I h) λv s1 ⟨x,H1,I1,r1,q1⟩=>?_) hs hw;rw[h1];show thn (hg pins s1 σ H1 x v _ I1 r1 q1) λ_ s2 q=>q
theorem pJ_{i:Nat}{x:Str}{e:Expr}{te:TE}{pos':Pos}(hN:X.N.Nodup)(hi:X.N[i]?=some x)(hx:Loc X.env.scope x)(he:PE X e te)(hs:swapsWith e (some (.Name x pos')) pos.line X.env=pure false:=by rfl) (hf:X.fn x=true\/X.env.scope.names.lookup x=some .local:=by first|show .inl rfl|show .inr rfl|assumption):
  PS X (.Assign [.Name x pos'] e pos) (KH_ te (HU_ i)):=by
 intro pins s σ H D I h;show wpAny_Assign_Name (thn (he pins s σ H _ I h) λv s1 ⟨y,H1,I1,r1,q1⟩=>?_) hs;show hi_ I1 hN hi hx r1 (λs2 I2=>⟨_,H1,I2,q1⟩) hf
def MY_(i j:Nat)(ta:TA):TS:=λD σ H=>ta σ H λvs H1=>∃v w,vs=[v,w]/\D.nx ((σ.set i (some v)).set j (some w)) H1
theorem pK_{i j:Nat}{x y:Str}{a b:Expr}{ta:TA}{px py pt:Pos}{kt k2 pt2} (hc:X.calm=true) (hN:X.N.Nodup) (hi:X.N[i]?=some x) (hj:X.N[j]?=some y) (hij:i≠j)
  (hx:X.env.scope.names.lookup x=some .local) (hy:X.env.scope.names.lookup y=some .local) (ha:PA X [a,b] ta)
  (hw:swappedStores [.Tuple [.Name x px,.Name y py] kt pt] (.Tuple [a,b] k2 pt2) X.env=pure (some [x,y]))
  (hs:swapsWithSole [.Tuple [.Name x px,.Name y py] kt pt] (.Tuple [a,b] k2 pt2) pos.line X.env=pure false:=by rfl):
  PS X (.Assign [.Tuple [.Name x px,.Name y py] kt pt] (.Tuple [a,b] k2 pt2) pos) (MY_ i j ta):=by
 intro pins s σ H D I h;rw[exec_Assign_arm];show Ae_ (DE_ ?_);rw[hs];show Ae_ (Ao_ ?_);rw[if_neg d_];show Ae_ (Tuple_ (thn (ha _ pins s σ H _ I h) λus s1 ⟨vs,H1,I1,r1,q1⟩=>?_));obtain⟨v,w,e1,q1⟩:=q1;subst e1
 obtain⟨u1,u2,rfl,rv,rw'⟩:∃u1 u2,us=[u1,u2]/\FY_ v u1/\FY_ w u2:=by
  cases r1 with
  |cons p q =>
   cases q with
   |cons p' q' =>
    cases q';show⟨_,_,rfl,p,p'⟩
 show wpAny_newObj_type ?_ (by change 2<=sizeLine;decide);have I2:Inv X pins σ H1 {s1 with heap:=s1.heap.push {cls:=.type "tuple",data:=.seq [u1,u2].toArray}}:=I1.kept (t':=s1.toks) λb o e=>Al_ _ e;rw[hw];show Ae_ (Ao_ ?_);change wpAny (model X.prog X.w) X.A (do rule "assign.swapped-stores";let items <-unpackItems (.ref s1.heap.objs.size) 2 none;assignInOrder [λv=>bindName X.env y v,λv=>bindName X.env x v] items.reverse;pure Flow.next) _ _ _;show Ae_ (EA_ (Ae_ (unpackItems_tuple (items:=#[u1,u2]) (I.ok.hd hc) (IsTup.new s1.heap _) λh' hx'=>?_)));have I3:=I2.kept (h':=h') (t':=s1.toks) λb o e=>hx' b o (AE_ (Ap_ e)) e;change wpAny _ _ (assignInOrder [λv=>bindName X.env y v,λv=>bindName X.env x v] [u2,u1] >>= λ_=>pure Flow.next) _ _ _;show Ae_ (Dx_ (wpAny_bindName (hi_ I3 hN hj (.inl hy) rw' (λs2 I4=>?_) (.inr hy))));show Dx_ (wpAny_bindName (hi_ I4 hN hi (.inl hx) rv (λs3 I5=>assignInOrder_nil (Ao_ ?_)) (.inr hx)));rw[List.set_comm _ _ (Ne.symm hij)]at I5;show⟨_,H1,I5,q1⟩
def IZ_(c:TT)(tb:TS):TS:=λD σ H=>∃W:Nat->St->Hp->Prop,(∃m,W m σ H)/\∀m σ H,W m σ H ->
 c σ H λb H1=>if b=true then ∃N:St->Hp->Prop,(∀σ' H',N σ' H'->∃m',m'<m/\W m' σ' H')/\tb {D with nx:=N,ct:=N,bk:=D.nx} σ H1 else D.nx σ H1
theorem fK_{c:Expr}{body:List Stmt}{tc:TT}{tb:TS}(hp:PassesOwn (model X.prog X.w) X.A X.env X.xe)(hc:PT X c tc)(hb:PSs X body tb):PS X (.While c body [] pos) (IZ_ tc tb):=by
 intro pins s σ H D I h;obtain⟨W,⟨m0,w0⟩,turn⟩:=h;show wpAny_While (codeAny_whileLoop (λn s'=>∃σ' H',Inv X pins σ' H' s'/\W n σ' H') ?_ m0 ⟨σ,H,I,w0⟩);rintro n s1 ⟨σ1,H1,I1,w1⟩;show BV_ hp (thn (hc pins s1 σ1 H1 _ I1 (turn n σ1 H1 w1)) λb s2 ⟨H2,I2,q2⟩=>?_);cases b with
 |true =>
  obtain⟨N,hN,q2⟩:=q2;rw[if_pos rfl];show BV_ hp (thn (hb pins s2 σ1 H2 _ I2 q2) λf s3 q3=>?_);cases f with
  |next =>
   obtain⟨σ3,H3,I3,n3⟩:=q3;obtain⟨m',hm,w3⟩:=hN σ3 H3 n3;show⟨m',hm,σ3,H3,I3,w3⟩
  |cont =>
   obtain⟨σ3,H3,I3,n3⟩:=q3;obtain⟨m',hm,w3⟩:=hN σ3 H3 n3;show⟨m',hm,σ3,H3,I3,w3⟩
  |brk=>show q3
  |ret v=>show q3
 |false =>rw[if_neg AK_];show De_ ⟨σ1,H2,I2,q2⟩
structure It where
 go:Nat->Hp->Prop
 yld:Nat->Hp->V->Hp->Prop
 stop:Nat->Hp->Prop
def HY_(X:Cx)(pins:List (Addr×Obj))(H:Hp)(b:Addr):Prop :=
 H b=none/\b≠X.env.locals/\b∉X.fs/\(b∈X.ex\/X.s₀.heap.objs.size<=b)/\(∀x c,X.env.cells.lookup x=some c->c≠b)/\∀p∈X.pn++pins,p.1≠b
theorem Inv.fpOk(I:Inv X pins σ H s)(hb:s.heap.objs.size<=b)(hn:H' b=none):HY_ X pins H' b:=by
 show⟨hn,DM_ (AL_ I.lt hb),I.nofs hb,.inr (Am_ I.sz hb),λx c e z=>?_,λp hp z=>?_⟩
 .obtain⟨v,q⟩:=I.cell x c e;show absurd (AL_ q.lt (by rw[z];show hb)) (Bm_ _)
 .show absurd (AL_ (Ap_ (I.pin p hp).1) (by rw[z];show hb)) (Bm_ _)
structure J6_(P:Program)(w:World)(K:PySem.W.Frag)(tg:Expr)(J:It)(fp:List Addr)(it:Addr)(tn:Nat->Heap->Prop):Prop where
 mem:it∈fp
 obj:∀i h,tn i h->∀b∈fp,∃o,h.get? b=some o/\∀v,o.data≠.cell v
 keep:∀i h h',tn i h->(∀b∈fp,∀o,h.get? b=some o->h'.get? b=some o)->tn i h'
 item:∀(X:Cx),X.prog=P->X.w=w->X.K=K->X.calm=true->∀(i:Nat)(pins:List (Addr×Obj))(s:Shared)(σ:St)(H:Hp)(E:Value->Shared->Prop),Inv X pins σ H s->(∀b∈fp,HY_ X pins H b)->tn i s.heap->J.go i H ->
  wpAny (model P w) X.A (pyNext (.ref it)) (λr s1=>∃u,r=some u /\
   wpAny (model P w) X.A (letOwnedTupleGo tg (.ref it) u) (λ_ s2=>∃x H',Inv X pins σ H' s2/\FY_ x u/\J.yld i H x H'/\tn (i+1) s2.heap/\∀b∈fp,H' b=none) E s1) E s
 done:∀(X:Cx),X.prog=P->X.w=w->X.K=K->X.calm=true->∀(i:Nat)(pins:List (Addr×Obj))(s:Shared)(σ:St)(H:Hp)(E:Value->Shared->Prop),Inv X pins σ H s->(∀b∈fp,HY_ X pins H b)->tn i s.heap->J.stop i H ->
  wpAny (model P w) X.A (pyNext (.ref it)) (λr s1=>r=none/\Inv X pins σ H s1) E s
 self:∀(A:Around)(i:Nat)(s:Shared)(Q:Value->Shared->Prop)(E:Value->Shared->Prop),tn i s.heap->Q (.ref it) s->wpAny (model P w) A (pyIter (.ref it)) Q E s
abbrev TI:=St->Hp->(It->Hp->Prop)->Prop
def PIE(X:Cx)(pins:List (Addr×Obj))(σ:St)(tg:Expr)(R:It->Hp->Prop)(itv:Value)(s2:Shared):Prop :=
 ∃(it:Addr)(fp:List Addr)(tn:Nat->Heap->Prop)(J:It)(H':Hp),itv=.ref it/\Inv X pins σ H' s2/\J6_ X.prog X.w X.K tg J fp it tn/\tn 0 s2.heap/\(∀b∈fp,HY_ X pins H' b)/\R J H'
def PI(X:Cx)(tg iter:Expr)(wi:TI):Prop :=
 ∀(pins:List (Addr×Obj))(s:Shared)(σ:St)(H:Hp)(R:It->Hp->Prop),Inv X pins σ H s->wi σ H R ->
  wpAny (model X.prog X.w) X.A (eval iter X.env) (λv s1=>wpAny (model X.prog X.w) X.A (pyIter v) (PIE X pins σ tg R) X.xe s1) X.xe s
theorem Jz_{M:Model}{A:Around}{E:Value->Shared->Prop}{s:Shared}{tg:Expr}{it:Addr}{u:Value}{o:Obj}{n:String}{vs:Array Value}{Q:Unit->Shared->Prop}(ho:s.heap.get? it=some o)(hc:o.cls=.type n)(hd:o.data=.fields vs)
    (hn:["enumerate","zip","dict_itemiterator","dict_reverseitemiterator","odict_iterator","itertools.zip_longest","itertools.pairwise"].contains n=false) (hQ:Q () s):wpAny M A (letOwnedTupleGo tg (.ref it) u) Q E s:=by
  unfold letOwnedTupleGo
  cases tg <;> first
    |show Ao_ hQ
    | (cases u <;> first
        |show Ao_ hQ
        | (show Ae_ (wpAny_load ho ?_)
           rw[hc,hd];change wpAny M A (if(["enumerate","zip","dict_itemiterator","dict_reverseitemiterator","odict_iterator","itertools.zip_longest","itertools.pairwise"].contains n && vs[0]? == some (rawInt _))=true then _ else _) Q E s;rw[if_neg (by intro h;rw[hn,Bool.false_and]at h;cases h)];show Ao_ hQ))
def Itl(K:PySem.W.Frag)(a:Addr):It :=
 ⟨λi H=>∃xs x,SqL K H a xs/\xs[i]?=some x,λi H x H'=>H'=H/\∀xs,SqL K H a xs->xs[i]?=some x,λi H=>∃xs,SqL K H a xs/\xs.length<=i⟩
def Itt(K:PySem.W.Frag)(a:Addr):It :=
 ⟨λi H=>∃xs x,SqT K H a xs/\xs[i]?=some x,λi H x H'=>H'=H/\∀xs,SqT K H a xs->xs[i]?=some x,λi H=>∃xs,SqT K H a xs/\xs.length<=i⟩
def Itr(lo:Int)(n:Nat):It:=⟨λi _=>i<n,λi H x H'=>H'=H/\x=.int (lo+i),λi _=>n<=i⟩
theorem np_{tg:Expr}(a it:Addr):J6_ P w K tg (Itl K a) [it] it (λi h=>h.IsListIter it a i) where
 mem:=s_
 obj:=λi h st b hb=>by
  have e:b=it:=by simpa using hb
  subst e;obtain⟨o,e,c,d⟩:=st;show⟨o,e,λv z=>by rw[d]at z;cases z⟩
 keep:=λi h h' st k=>st.at λo e=>k it s_ o e
 item:=by intro X hP hw hK hc i pins s σ H E I hf st hg;subst hP hw hK;obtain⟨xs,x,hq,hx⟩:=hg;obtain⟨its,rv,p,hz⟩:=I.list hq;obtain⟨u,hu,ru⟩:=rv.get hx;obtain⟨f0,f1,f2,f3,f4,f5⟩:=hf it s_;show CZ_ st p.isList (x:=u) (by simpa using hu) λh' st' sb=>?_;have I1:Inv X pins σ H {s with heap:=h'}:=I.turned (t':=s.toks) (λb o hb e=>(sb.2 b hb).trans e) f0 f1 f3 f4 f5;obtain⟨o,e,c,d⟩:=id st';show⟨u,rfl,Jz_ (s:={s with heap:=h'}) e c d d_ ⟨x,H,I1,ru,⟨rfl,λys hy=>by rw[I.list_inj hy hq];show hx⟩,st',λb hb=>(hf b hb).1⟩⟩
 done:=by intro X hP hw hK hc i pins s σ H E I hf st hg;subst hP hw hK;obtain⟨xs,hq,hx⟩:=hg;obtain⟨its,rv,p,hz⟩:=I.list hq;obtain⟨f0,f1,f2,f3,f4,f5⟩:=hf it s_;have hl:=rv.length;show C8_ (I.ok.hd hc) st p.isList (by simp;lia) λh' eb=>⟨rfl,I.turned (t':=s.toks) (λb o hb e=>eb b o hb e) f0 f1 f3 f4 f5⟩
 self:=λ_ _ _ _ _ st h=>wpAny_pyIter_listiter st h
theorem mT_{tg:Expr}(a it:Addr):J6_ P w K tg (Itt K a) [it] it (λi h=>h.IsTupleIter it a i) where
 mem:=s_
 obj:=λi h st b hb=>by
  have e:b=it:=by simpa using hb
  subst e;obtain⟨o,e,c,d⟩:=st;show⟨o,e,λv z=>by rw[d]at z;cases z⟩
 keep:=λi h h' st k=>st.at λo e=>k it s_ o e
 item:=by intro X hP hw hK hc i pins s σ H E I hf st hg;subst hP hw hK;obtain⟨xs,x,hq,hx⟩:=hg;obtain⟨its,rv,p,hz⟩:=I.tuple hq;obtain⟨u,hu,ru⟩:=rv.get hx;obtain⟨f0,f1,f2,f3,f4,f5⟩:=hf it s_;show wpAny_pyNext_tuple_item st (show s.heap.IsTuple a its.toArray from p) (x:=u) (by simpa using hu) λh' st' sb=>?_;have I1:Inv X pins σ H {s with heap:=h'}:=I.turned (t':=s.toks) (λb o hb e=>(sb.2 b hb).trans e) f0 f1 f3 f4 f5;obtain⟨o,e,c,d⟩:=id st';show⟨u,rfl,Jz_ (s:={s with heap:=h'}) e c d d_ ⟨x,H,I1,ru,⟨rfl,λys hy=>by rw[I.tuple_inj hy hq];show hx⟩,st',λb hb=>(hf b hb).1⟩⟩
 done:=by intro X hP hw hK hc i pins s σ H E I hf st hg;subst hP hw hK;obtain⟨xs,hq,hx⟩:=hg;obtain⟨its,rv,p,hz⟩:=I.tuple hq;obtain⟨f0,f1,f2,f3,f4,f5⟩:=hf it s_;have hl:=rv.length;show wpAny_pyNext_tuple_end (I.ok.hd hc) st (show s.heap.IsTuple a its.toArray from p) (by simp;lia) λh' eb=>⟨rfl,I.turned (t':=s.toks) (λb o hb e=>eb b o hb e) f0 f1 f3 f4 f5⟩
 self:=λ_ _ _ _ _ st h=>wpAny_pyIter_tupleiter st h
theorem mU_{tg:Expr}(it:Addr)(lo:Int)(n:Nat):J6_ P w K tg (Itr lo n) [it] it (λi h=>IsRangeIter h it (lo+(i:Nat)*1) ((n:Int)-(i:Nat)) 1) where
 mem:=s_
 obj:=λi h st b hb=>by
  have e:b=it:=by simpa using hb
  subst e;show⟨_,st,λv z=>by have z':Data.fields _=Data.cell v:=z;cases z'⟩
 keep:=λi h h' st k=>k it s_ _ st
 item:=by intro X hP hw hK hc i pins s σ H E I hf st hg;subst hP hw hK;obtain⟨f0,f1,f2,f3,f4,f5⟩:=hf it s_;have W:=Walks.range (prog:=X.prog) (w:=X.w) (I.ok.hd hc) it lo 1 n;show W.item i s _ _ hg st λv h' tk hv st' kk=>?_;obtain⟨t,rfl⟩:=hv;have I1:Inv X pins σ H {s with heap:=h',toks:=tk}:=I.turned (λb o hb e=>kk b o (by simpa using hb) e) f0 f1 f3 f4 f5;show⟨_,rfl,Jz_ (s:={s with heap:=h',toks:=tk}) (n := "range_iterator") st' rfl rfl d_ ⟨.int (lo+i),H,I1,⟨t,?_⟩,⟨rfl,rfl⟩,st',λb hb=>(hf b hb).1⟩⟩;rw[Dv_]
 done:=by intro X hP hw hK hc i pins s σ H E I hf st hg;subst hP hw hK;obtain⟨f0,f1,f2,f3,f4,f5⟩:=hf it s_;show Ed_ (I.ok.hd hc) st (by have:n<=i:=hg;lia) λh' eb=>⟨rfl,I.turned (t':=s.toks) (λb o hb e=>eb b o hb e) f0 f1 f3 f4 f5⟩
 self:=λ_ _ _ _ _ st h=>Ee_ st h
variable {tg:Expr}
def Km_(K:PySem.W.Frag)(tl:TE):TI:=λσ H R=>tl σ H λx H1=>onR x λa=>(∃xs,SqL K H1 a xs)/\R (Itl K a) H1
def L7_(K:PySem.W.Frag)(tl:TE):TI:=λσ H R=>tl σ H λx H1=>onR x λa=>(∃xs,SqT K H1 a xs)/\R (Itt K a) H1
theorem qk_{l:Expr}{tl:TE}(hl:PE X l tl):PI X tg l (Km_ X.K tl):=by
 intro pins s σ H R I h;show thn (hl pins s σ H _ I h) λv s1 ⟨x,H1,I1,r1,q1⟩=>?_;obtain⟨a,e,⟨xs,hq⟩,q⟩:=er_ q1;subst e;cases r1;obtain⟨its,rv,p,hz⟩:=I1.list hq;show wpAny_pyIter_list p.isList ?_;show⟨s1.heap.objs.size,[s1.heap.objs.size],_,_,H1,rfl,I1.kept (t':=s1.toks) λb o e=>Al_ _ e,np_ a _,⟨_,AA_ _ rfl,rfl,rfl⟩,λb hb=>?_,q⟩;have e:b=s1.heap.objs.size:=by simpa using hb
 subst e;show I1.fpOk (Af_ _) (I1.hok.fresh (Af_ _))
theorem ru_{l:Expr}{tl:TE}(hl:PE X l tl):PI X tg l (L7_ X.K tl):=by
 intro pins s σ H R I h;show thn (hl pins s σ H _ I h) λv s1 ⟨x,H1,I1,r1,q1⟩=>?_;obtain⟨a,e,⟨xs,hq⟩,q⟩:=er_ q1;subst e;cases r1;obtain⟨its,rv,p,hz⟩:=I1.tuple hq;show wpAny_pyIter_tuple (show s1.heap.IsTuple a its.toArray from p) ?_;show⟨s1.heap.objs.size,[s1.heap.objs.size],_,_,H1,rfl,I1.kept (t':=s1.toks) λb o e=>Al_ _ e,mT_ a _,⟨_,AA_ _ rfl,rfl,rfl⟩,λb hb=>?_,q⟩;have e:b=s1.heap.objs.size:=by simpa using hb
 subst e;show I1.fpOk (Af_ _) (I1.hok.fresh (Af_ _))
theorem l7_{pins:List (Addr×Obj)}{σ:St}{H:Hp}{s:Shared}{R:It->Hp->Prop}{E:Value->Shared->Prop}{lo hi:Int}{t u v:Tok}{tk:Nat}(I:Inv X pins σ H s)(h1:-(2 ^ 62)<=lo)(h2:lo<2 ^ 62)(h3:-(2 ^ 62)<=hi)(h4:hi<2 ^ 62)
  (q:R (Itr lo (hi-lo).toNat) H):wpAny (model X.prog X.w) X.A (pyIter (.ref s.heap.objs.size)) (PIE X pins σ tg R) E {s with heap:=s.heap.push {cls:=.type "range",data:=.fields #[.int lo t,.int hi u,.int 1 v]},toks:=tk}:=by
 show wpAny_pyIter_range (E0_ ..) (small_one h1 h2 h3 h4) ?_;have I1:Inv X pins σ H {s with heap:=s.heap.push {cls:=.type "range",data:=.fields #[.int lo t,.int hi u,.int 1 v]},toks:=tk}:=I.kept λb o e=>Al_ _ e
 show⟨(s.heap.push {cls:=.type "range",data:=.fields #[.int lo t,.int hi u,.int 1 v]}).objs.size,[(s.heap.push {cls:=.type "range",data:=.fields #[.int lo t,.int hi u,.int 1 v]}).objs.size],_,_,H,rfl,
  I1.kept (t':=tk) λb o e=>Al_ _ e,mU_ _ lo (hi-lo).toNat,?_,λb hb=>?_,q⟩
 .have e1:lo+((0:Nat):Int)*1=lo:=s_
  have e2:(((hi-lo).toNat:Nat):Int)-((0:Nat):Int)=Builtin.Range.rangeSize lo hi 1:=by rw[rangeSize_one];split <;> lia
  change IsRangeIter _ _ (lo+((0:Nat):Int)*1) ((((hi-lo).toNat:Nat):Int)-((0:Nat):Int)) 1;rw[e1,e2];show AA_ _ rfl
 .have e:b=(s.heap.push {cls:=.type "range",data:=.fields #[.int lo t,.int hi u,.int 1 v]}).objs.size:=by simpa using hb
  subst e;show I1.fpOk (Af_ _) (I1.hok.fresh (Af_ _))
def KO_(ta:TA):TI:=λσ H R=>ta σ H λvs H1=>on1 vs λx=>onI x λj=>-(2 ^ 62)<=j/\j<2 ^ 62/\R (Itr 0 j.toNat) H1
def Lh_(ta:TA):TI:=λσ H R=>ta σ H λvs H1=>on2 vs λx y=>onI x λi=>onI y λj=>(-(2 ^ 62)<=i/\i<2 ^ 62 /\ -(2 ^ 62)<=j/\j<2 ^ 62)/\R (Itr i (j-i).toNat) H1
theorem aT_{a:Expr}{ta:TA}{p:Pos}(hg:Gl X "range") (hm:X.mg "range"=none) (ha:PA X [a] ta) (hs:starEach [a] X.env=[(false,eval a X.env)]:=by rfl):PI X tg (.Call (.Name "range" p) [a] [] pos) (KO_ ta):=by
 intro pins s σ H R I h;show Call_ (dg_ I hg hm EB_ (AV_ (thn (ha pos pins s σ H _ I h) λus s1 ⟨vs,H1,I1,r1,q1⟩=>?_) hs rfl));obtain⟨_,e,q0⟩:=l5_ q1;clear q1;obtain⟨j,rfl,q1,q2,q⟩:=cX_ q0;subst e;cases r1 with
 |cons r rr =>
  cases rr;obtain⟨t,rfl⟩:=r;show call_range_1 (l7_ I1 o_ o_ q1 q2 (by simpa using q))
theorem kb_{a b:Expr}{ta:TA}{p:Pos}(hg:Gl X "range") (hm:X.mg "range"=none) (ha:PA X [a,b] ta) (hs:starEach [a,b] X.env=[(false,eval a X.env),(false,eval b X.env)]:=by rfl) (hs2:starEach [b] X.env=[(false,eval b X.env)]:=by rfl):
  PI X tg (.Call (.Name "range" p) [a,b] [] pos) (Lh_ ta):=by
 intro pins s σ H R I h;show Call_ (dg_ I hg hm EB_ (AV_ (thn (ha pos pins s σ H _ I h) λus s1 ⟨vs,H1,I1,r1,q1⟩=>?_) (by rw[hs,hs2]) (by rw[hs2];rfl)));obtain⟨_,_,e,q0⟩:=pC_ q1;clear q1;obtain⟨i,rfl,q9⟩:=cX_ q0;clear q0;obtain⟨j,rfl,⟨q1,q2,q3,q4⟩,q⟩:=cX_ q9;subst e;cases r1 with
 |cons r rr =>
  cases rr with
  |cons r' rr =>
   cases rr;obtain⟨t,rfl⟩:=r;obtain⟨t',rfl⟩:=r';show call_range_2 (l7_ I1 q1 q2 q3 q4 q)
def MI_(wi:TI)(g:TG)(tb:TS):TS:=λD σ H=>wi σ H λJ H1=>∃W:Nat->Nat->St->Hp->Prop,(∃m,W 0 m σ H1)/\∀i m σ H,W i m σ H ->
 (J.stop i H/\D.nx σ H)\/(J.go i H/\∃N:St->Hp->Prop,(∀σ' H',N σ' H'->∃m',m'<m/\W (i+1) m' σ' H')/\∀x H',J.yld i H x H'->g x σ H' λσ2 H2=>tb {D with nx:=N,ct:=N,bk:=D.nx} σ2 H2)
def H4_(fp:List Addr)(h:Heap):List (Addr×Obj):=fp.filterMap λb=>(h.get? b).map λo=>(b,o)
variable{fp:List Addr}
theorem e1_{o:Obj}(hb:b∈fp)(e:h.get? b=some o):(b,o)∈H4_ fp h:=BD_.mpr ⟨b,hb,by rw[e];rfl⟩
theorem nq_{p:Addr×Obj}(hp:p∈H4_ fp h):p.1∈fp/\h.get? p.1=some p.2:=by
 obtain⟨b,hb,e⟩:=BD_.mp hp;cases q:h.get? b with
 |none=>rw[q]at e;cases e
 |some o =>rw[q]at e;have e':(b,o)=p:=Ak_ e;subst e';show⟨hb,q⟩
theorem Inv.pinned(I:Inv X pins σ H s)(hf:∀b∈fp,HY_ X pins H b)(ho:∀b∈fp,∃o,s.heap.get? b=some o/\∀v,o.data≠.cell v):Inv X (pins++H4_ fp s.heap) σ H s :=
 I.pins_of λp hp=>(AB_.mp hp).elim (λz=>I.pin p (AI_ _ z)) λz=>by obtain⟨hb,e⟩:=nq_ z;obtain⟨f0,f1,f2,_⟩:=hf p.1 hb;obtain⟨o,e',d⟩:=ho p.1 hb;rw[e]at e';cases e';show⟨e,f0,f1,f2,d⟩
theorem Inv.unpinned{pl:List (Addr×Obj)}(I:Inv X (pins++pl) σ H s):Inv X pins σ H s:=I.pins_of λp hp=>I.pin p (AI_ _ (Bd_ _ hp))
theorem bs_{iter:Expr}{body:List Stmt}{wi:TI}{g:TG}{tb:TS}{pos:Pos}(hp:PassesOwn (model X.prog X.w) X.A X.env X.xe)(hc:X.calm=true)(hi:PI X tg iter wi)(hg:PG X tg g)(hb:PSs X body tb)
  (hs:∀x,foldedSetIterable iter X.env x=pure x:=by intro _;rfl):PS X (.For tg iter body [] pos) (MI_ wi g tb):=by
 intro pins s σ H D I h;show wpAny_For (thn (hi pins s σ H _ I h) λv s1 h1=>thn h1 λitv s2 h2=>?_) hs;obtain⟨it,fp,tn,J,H2,e,I2,T,st2,f2,W,⟨m0,w0⟩,turn⟩:=h2;subst e
 have stat:∀{H':Hp},(∀b∈fp,H' b=none)->∀b∈fp,HY_ X pins H' b:=λhn b hb=>⟨hn b hb,(f2 b hb).2⟩;show codeAny_forLoop_any (λn s'=>∃i σ' H',Inv X pins σ' H' s'/\tn i s'.heap/\(∀b∈fp,H' b=none)/\W i n σ' H') ?_ m0 ⟨0,σ,H2,I2,st2,λb hb=>(f2 b hb).1,w0⟩;rintro n s3 ⟨i,σ3,H3,I3,st3,fr3,w3⟩
 rcases turn i n σ3 H3 w3 with⟨stop,qn⟩|⟨go,N,hN,step⟩
 .show BV_ hp (thn (T.done X rfl rfl rfl hc i pins s3 σ3 H3 X.xe I3 (stat fr3) st3 stop) λr s4 ⟨hr,I4⟩=>?_);subst hr;show De_ ⟨σ3,H3,I4,qn⟩
 .show BV_ hp (thn (T.item X rfl rfl rfl hc i pins s3 σ3 H3 X.xe I3 (stat fr3) st3 go) λr s4 ⟨u,hr,h4⟩=>?_);subst hr;show BV_ hp (thn h4 λ_ s5 ⟨x,H5,I5,r5,y5,st5,fr5⟩=>?_);have I5':=I5.pinned (stat fr5) (T.obj _ _ st5);show BV_ hp (thn (hg _ s5 σ3 H5 x u _ I5' r5 (step x H5 y5)) λ_ s6 ⟨σ6,H6,I6,q6⟩=>?_);show BV_ hp (thn (hb _ s6 σ6 H6 _ I6 q6) λf s7 q7=>?_);have again:∀{σ7:St}{H7:Hp},Inv X (pins++H4_ fp s5.heap) σ7 H7 s7->N σ7 H7->∃m,m<n/\∃i σ' H',Inv X pins σ' H' s7/\tn i s7.heap/\(∀b∈fp,H' b=none)/\W i m σ' H':=λ{σ7 H7} I7 n7=>by obtain⟨m',hm,w7⟩:=hN σ7 H7 n7;show⟨m',hm,i+1,σ7,H7,I7.unpinned,T.keep _ _ _ st5 λb hb o e=>(I7.pin (b,o) (AI_ _ (AI_ _ (e1_ hb e)))).1,λb hb=>?_,w7⟩;obtain⟨o,e,d⟩:=T.obj _ _ st5 b hb;show(I7.pin (b,o) (AI_ _ (AI_ _ (e1_ hb e)))).2.1
  cases f with
  |next=>obtain⟨σ7,H7,I7,n7⟩:=q7;show again I7 n7
  |cont=>obtain⟨σ7,H7,I7,n7⟩:=q7;show again I7 n7
  |brk=>obtain⟨σ7,H7,I7,q7⟩:=q7;show⟨σ7,H7,I7.unpinned,q7⟩
  |ret v=>obtain⟨x7,σ7,H7,I7,r7,q7⟩:=q7;show⟨x7,σ7,H7,I7.unpinned,r7,q7⟩
theorem oV_{K:PySem.W.Frag}{a:Addr}{xs:List V}{g:TG}{tb:TS}{D:HT_}{σ:St}{H:Hp}(Pv:Nat->St->Hp->Prop)(h0:Pv 0 σ H)(hl:∀i σ H,i<=xs.length->Pv i σ H->SqL K H a xs)
  (hs:∀i x σ H,xs[i]?=some x->Pv i σ H->g x σ H λσ2 H2=>tb {D with nx:=Pv (i+1),ct:=Pv (i+1),bk:=D.nx} σ2 H2) (hd:∀σ H,Pv xs.length σ H->D.nx σ H):
  ∃W:Nat->Nat->St->Hp->Prop,(∃m,W 0 m σ H)/\∀i m σ H,W i m σ H ->
   ((Itl K a).stop i H/\D.nx σ H)\/((Itl K a).go i H/\∃N:St->Hp->Prop,(∀σ' H',N σ' H'->∃m',m'<m/\W (i+1) m' σ' H')/\∀x H',(Itl K a).yld i H x H'->g x σ H' λσ2 H2=>tb {D with nx:=N,ct:=N,bk:=D.nx} σ2 H2):=by
 show⟨λi m σ H=>m=xs.length-i/\i<=xs.length/\Pv i σ H,⟨xs.length,s_,AD_ _,h0⟩,?_⟩;rintro i m σ H ⟨rfl,hi,p⟩;have q:=hl i σ H hi p;by_cases hlt:i<xs.length
 .show .inr ⟨⟨xs,xs[i],q,by simp[hlt]⟩,Pv (i+1),λσ' H' p'=>⟨xs.length-(i+1),o_,rfl,hlt,p'⟩,λx H' y=>?_⟩;obtain⟨e,y⟩:=y;subst e;show hs i x σ _ (y xs q) p
 .have e:i=xs.length:=o_
  subst e;show .inl ⟨⟨xs,q,Af_ _⟩,hd σ H p⟩
theorem nr_{lo:Int}{n:Nat}{g:TG}{tb:TS}{D:HT_}{σ:St}{H:Hp}(Pv:Nat->St->Hp->Prop)(h0:Pv 0 σ H)
  (hs:∀i σ H,i<n->Pv i σ H->g (.int (lo+i)) σ H λσ2 H2=>tb {D with nx:=Pv (i+1),ct:=Pv (i+1),bk:=D.nx} σ2 H2) (hd:∀σ H,Pv n σ H->D.nx σ H):
  ∃W:Nat->Nat->St->Hp->Prop,(∃m,W 0 m σ H)/\∀i m σ H,W i m σ H ->
   ((Itr lo n).stop i H/\D.nx σ H)\/((Itr lo n).go i H/\∃N:St->Hp->Prop,(∀σ' H',N σ' H'->∃m',m'<m/\W (i+1) m' σ' H')/\∀x H',(Itr lo n).yld i H x H'->g x σ H' λσ2 H2=>tb {D with nx:=N,ct:=N,bk:=D.nx} σ2 H2):=by
 show⟨λi m σ H=>m=n-i/\i<=n/\Pv i σ H,⟨n,s_,AD_ _,h0⟩,?_⟩;rintro i m σ H ⟨rfl,hi,p⟩;by_cases hlt:i<n
 .show .inr ⟨hlt,Pv (i+1),λσ' H' p'=>⟨n-(i+1),o_,rfl,hlt,p'⟩,λx H' y=>?_⟩;obtain⟨e,y⟩:=y;subst e y;show hs i σ _ hlt p
 .have e:i=n:=o_
  subst e;show .inl ⟨Af_ _,hd σ H p⟩
abbrev R2:=V->V->Hp->VK->Prop
def OpR(X:Cx)(f:Value->Value->Sem Value)(r:R2):Prop :=
 ∀(pins:List (Addr×Obj))(s:Shared)(σ:St)(H:Hp)(x y:V)(v u:Value)(Q:VK),Inv X pins σ H s->FY_ x v->FY_ y u->r x y H Q ->
  wpAny (model X.prog X.w) X.A (f v u) (EP X pins σ Q) X.xe s
def UnR(X:Cx)(f:Value->Sem Value)(r:V->Hp->VK->Prop):Prop :=
 ∀(pins:List (Addr×Obj))(s:Shared)(σ:St)(H:Hp)(x:V)(v:Value)(Q:VK),Inv X pins σ H s->FY_ x v->r x H Q ->
  wpAny (model X.prog X.w) X.A (f v) (EP X pins σ Q) X.xe s
def Gz_(X:Cx)(f:Value)(r:List V->Hp->VK->Prop):Prop :=
 ∀(pins:List (Addr×Obj))(s:Shared)(σ:St)(H:Hp)(xs:List V)(us:List Value)(Q:VK),Inv X pins σ H s->FR_ xs us->r xs H Q ->
  wpAny (model X.prog X.w) X.A (call f us) (EP X pins σ Q) X.xe s
def tOp(r:R2)(ta tb:TE):TE:=λσ H Q=>ta σ H λx H1=>tb σ H1 λy H2=>r x y H2 Q
def tUn(r:V->Hp->VK->Prop)(ta:TE):TE:=λσ H Q=>ta σ H λx H1=>r x H1 Q
def rI(C:Int->Int->Prop)(g:Int->Int->V):R2:=λx y H Q=>onI x λi=>onI y λj=>C i j/\Q (g i j) H
def rI0(g:Int->Int->V):R2:=λx y H Q=>onI x λi=>onI y λj=>Q (g i j) H
def rU(g:Int->V):V->Hp->VK->Prop:=λx H Q=>onI x λi=>Q (g i) H
section
variable {a b c:Expr}{ta tb tc:TE}
theorem binT(ha:PE X a ta)(hb:PE X b tb){pins:List (Addr×Obj)}{s:Shared}{σ:St}{H:Hp}{R:V->V->Hp->Prop}(I:Inv X pins σ H s)
  (h:ta σ H λx H1=>tb σ H1 λy H2=>R x y H2) {Q:Value->Shared->Prop} {f:Value->Value->Sem Value}
  (hf:∀v u s2 x y H2,Inv X pins σ H2 s2->FY_ x v->FY_ y u->R x y H2->wpAny (model X.prog X.w) X.A (f v u) Q X.xe s2):
  wpAny (model X.prog X.w) X.A (eval a X.env) (λv s₁=>wpAny (model X.prog X.w) X.A (eval b X.env) (λu s₂=>wpAny (model X.prog X.w) X.A (f v u) Q X.xe s₂) X.xe s₁) X.xe s:=by
 show thn (ha pins s σ H _ I h) λv s1 ⟨x,H1,I1,r1,q1⟩=>?_;show thn (hb pins s1 σ H1 _ I1 q1) λu s2 ⟨y,H2,I2,r2,q2⟩=>?_;show hf v u s2 x y H2 I2 r1 r2 q2
theorem Fp_{op:Operator}{r:R2}(ho:OpR X (binaryOp op) r)(ha:PE X a ta)(hb:PE X b tb):PE X (.BinOp a op b pos) (tOp r ta tb):=by intro pins s σ H Q I h;show wpAny_BinOp (binT ha hb I h λv u s2 x y H2 I2 rx ry q=>ho pins s2 σ H2 x y v u Q I2 rx ry q)
theorem Kt_{op:UnaryOp}{r:V->Hp->VK->Prop}(ho:UnR X (unaryOp op) r)(ha:PE X a ta):PE X (.UnaryOp op a pos) (tUn r ta):=by intro pins s σ H Q I h;show UnaryOp_ (thn (ha pins s σ H _ I h) λv s1 ⟨x,H1,I1,r1,q1⟩=>ho pins s1 σ H1 x v Q I1 r1 q1)
theorem JS_{op:Operator}{r:R2}(ho:OpR X (inplaceOp op) r){pins:List (Addr×Obj)}{s:Shared}{σ:St}{H:Hp}{x y:V}{v u:Value}{Q:VK}(I:Inv X pins σ H s)
  (rx:FY_ x v) (ry:FY_ y u) (q:r x y H Q):wpAny (model X.prog X.w) X.A (inplaceOp op v u) (EP X pins σ Q) X.xe s:=ho pins s σ H x y v u Q I rx ry q
theorem opI{f:Value->Value->Sem Value}{C:Int->Int->Prop}{g:Int->Int->Int}
  (rule:∀(i j:Int)(t u:Tok)(s:Shared)(Q:Value->Shared->Prop)(E:Value->Shared->Prop),C i j->Q (.int (g i j) s.toks) {s with toks:=s.toks+1}->wpAny (model X.prog X.w) X.A (f (.int i t) (.int j u)) Q E s):
  OpR X f (rI C λi j=>.int (g i j)):=by
 intro pins s σ H x y v u Q I rx ry h;obtain⟨i,rfl,h1⟩:=cX_ h;clear h;obtain⟨j,rfl,hc,q⟩:=cX_ h1;obtain⟨t,rfl⟩:=rx;obtain⟨t',rfl⟩:=ry;show rule i j t t' s _ _ hc ⟨.int (g i j),H,I.tok _,⟨_,rfl⟩,q⟩
theorem opI0{f:Value->Value->Sem Value}{g:Int->Int->Int}
  (rule:∀(i j:Int)(t u:Tok)(s:Shared)(Q:Value->Shared->Prop)(E:Value->Shared->Prop),Q (.int (g i j) s.toks) {s with toks:=s.toks+1}->wpAny (model X.prog X.w) X.A (f (.int i t) (.int j u)) Q E s):
  OpR X f (rI0 λi j=>.int (g i j)):=by
 intro pins s σ H x y v u Q I rx ry h;obtain⟨i,rfl,h1⟩:=cX_ h;clear h;obtain⟨j,rfl,q⟩:=cX_ h1;obtain⟨t,rfl⟩:=rx;obtain⟨t',rfl⟩:=ry;show rule i j t t' s _ _ ⟨.int (g i j),H,I.tok _,⟨_,rfl⟩,q⟩
theorem opB0{f:Value->Value->Sem Value}{g:Int->Int->Bool}
  (rule:∀(i j:Int)(t u:Tok)(s:Shared)(Q:Value->Shared->Prop)(E:Value->Shared->Prop),Q (.bool (g i j)) s->wpAny (model X.prog X.w) X.A (f (.int i t) (.int j u)) Q E s):
  OpR X f (rI0 λi j=>.bl (g i j)):=by
 intro pins s σ H x y v u Q I rx ry h;obtain⟨i,rfl,h1⟩:=cX_ h;clear h;obtain⟨j,rfl,q⟩:=cX_ h1;obtain⟨t,rfl⟩:=rx;obtain⟨t',rfl⟩:=ry;show rule i j t t' s _ _ ⟨.bl (g i j),H,I,rfl,q⟩
def MN_(i j:Int):Prop:=0<=j/\j<=1000000/\i.natAbs<2 ^ 64
def LY_(i j:Int):Prop:=(-(2 ^ 64)<i/\i<2 ^ 64)\/(-(2 ^ 64)<j/\j<2 ^ 64)
theorem LY_.ok{i j:Int}(h:LY_ i j):IntMulOk i j:=by
 rcases h with⟨h1,h2⟩|⟨h1,h2⟩
 .show .of_left (intBits_le_64 h1 h2)
 .show .of_right (intBits_le_64 h1 h2)
theorem aQ_:OpR X (binaryOp .Add) (rI0 λi j=>.int (i+j)):=opI0 λ_ _ _ _ _ _ _ q=>add_int q
theorem kc_:OpR X (binaryOp .Sub) (rI0 λi j=>.int (i-j)):=opI0 λ_ _ _ _ _ _ _ q=>sub_int q
theorem gN_:OpR X (binaryOp .Mult) (rI LY_ λi j=>.int (i*j)):=opI λ_ _ _ _ _ _ _ hc q=>mul_int q hc.ok
theorem aL_:OpR X (binaryOp .Mod) (rI (λ_ j=>0<j) λi j=>.int (i%j)):=opI λi j _ _ _ _ _ hc q=>by have h1:(0:Int)<j:=hc;show mod_int' o_ (by rw[Int.fmod_eq_emod_of_nonneg i o_];show q)
theorem l8_:OpR X (binaryOp .Pow) (rI MN_ λi j=>.int (i ^ j.toNat)):=opI λ_ _ _ _ _ _ _ hc q=>pow_int_small hc.1 hc.2.1 hc.2.2 q
theorem unI{f:Value->Sem Value}{g:Int->Int}
  (rule:∀(i:Int)(t:Tok)(s:Shared)(Q:Value->Shared->Prop)(E:Value->Shared->Prop),Q (.int (g i) s.toks) {s with toks:=s.toks+1}->wpAny (model X.prog X.w) X.A (f (.int i t)) Q E s):
  UnR X f (rU λi=>.int (g i)):=by
 intro pins s σ H x v Q I rx h;obtain⟨i,rfl,q⟩:=cX_ h;obtain⟨t,rfl⟩:=rx;show rule i t s _ _ ⟨.int (g i),H,I.tok _,⟨_,rfl⟩,q⟩
theorem ns_:UnR X (unaryOp .USub) (rU λi=>.int (-i)):=unI λ_ _ _ _ _ q=>neg_int q
end
def scal:V->V->Bool
 | .non,.non=>true | .non,.int _=>true | .int _,.non=>true | .non,.bl _=>true | .bl _,.non=>true | .non,.str _=>true | .str _,.non=>true
 | .int _,.int _=>true | .bl _,.bl _=>true | .str _,.str _=>true | .byt _,.byt _=>true
 | .int _,.str _=>true | .str _,.int _=>true | .bl _,.str _=>true | .str _,.bl _=>true
 |_,_=>false
def rEq:R2:=λx y H Q=>scal x y=true/\Q (.bl (decide (x=y))) H
def rNe:R2:=λx y H Q=>scal x y=true/\Q (.bl (!decide (x=y))) H
theorem nt_{i j:Int}:decide (V.int i=V.int j)=(i == j):=by rw[Df_];simp
theorem pL_{i j:Bool}:decide (V.bl i=V.bl j)=(i == j):=by rw[Df_];simp
theorem nu_{i j:Str}:decide (V.str i=V.str j)=(i == j):=by rw[Df_];simp
theorem nv_{i j:Array UInt8}:decide (V.byt i=V.byt j)=(i.toList == j.toList):=by rw[Df_];cases i;cases j;simp
section
variable {a b c:Expr}{ta tb tc:TE}
theorem aY_{Q:VK}{k k':Bool}(I:Inv X pins σ H s)(q:Q (.bl k) H)(e:k=k'):EP X pins σ Q (.bool k') s:=by subst e;show⟨.bl k,H,I,rfl,q⟩
theorem GN_:OpR X (compareOp .Eq) rEq:=by
 intro pins s σ H x y v u Q I rx ry h;obtain⟨hs,q⟩:=h;cases x with
 |non =>
  cases rx;cases y with
  |non=>cases ry;show PySem.EqNone.eq_none_none (aY_ I q s_)
  |bl j=>cases ry;show PySem.EqNone.eq_none_bool (aY_ I q s_)
  |int j=>obtain⟨t',rfl⟩:=ry;show PySem.EqNone.eq_none_int (aY_ I q s_)
  |str j=>obtain⟨t',rfl⟩:=ry;show PySem.EqNone.eq_none_str (aY_ I q s_)
  |_=>show absurd (show false=true from hs) AK_
 |bl i =>
  cases rx;cases y with
  |non=>cases ry;show PySem.EqNone.eq_bool_none (aY_ I q s_)
  |bl j=>cases ry;show eq_bool (aY_ I q pL_)
  |str j=>obtain⟨t',rfl⟩:=ry;show PySem.EqMixed.eq_bool_str (aY_ I q s_)
  |_=>show absurd (show false=true from hs) AK_
 |int i =>
  obtain⟨t,rfl⟩:=rx;cases y with
  |non=>cases ry;show PySem.EqNone.eq_int_none (aY_ I q s_)
  |int j=>obtain⟨t',rfl⟩:=ry;show eq_int (aY_ I q nt_)
  |str j=>obtain⟨t',rfl⟩:=ry;show PySem.EqMixed.eq_int_str (aY_ I q s_)
  |_=>show absurd (show false=true from hs) AK_
 |str i =>
  obtain⟨t,rfl⟩:=rx;cases y with
  |non=>cases ry;show PySem.EqNone.eq_str_none (aY_ I q s_)
  |bl j=>cases ry;show PySem.EqMixed.eq_str_bool (aY_ I q s_)
  |int j=>obtain⟨t',rfl⟩:=ry;show PySem.EqMixed.eq_str_int (aY_ I q s_)
  |str j=>obtain⟨t',rfl⟩:=ry;show eq_str (aY_ I q nu_)
  |_=>show absurd (show false=true from hs) AK_
 |byt i =>
  obtain⟨t,rfl⟩:=rx;cases y with
  |byt j=>obtain⟨t',rfl⟩:=ry;show PySem.W.eq_bytes (aY_ I q nv_)
  |_=>show absurd (show false=true from hs) AK_
 |_=>cases y <;> show absurd (show false=true from hs) AK_
theorem Ky_:OpR X (compareOp .NotEq) rNe:=by
 intro pins s σ H x y v u Q I rx ry h;obtain⟨hs,q⟩:=h;cases x with
 |non =>
  cases rx;cases y with
  |non=>cases ry;show PySem.EqNone.ne_none_none (aY_ I q s_)
  |bl j=>cases ry;show PySem.EqNone.ne_none_bool (aY_ I q s_)
  |int j=>obtain⟨t',rfl⟩:=ry;show PySem.EqNone.ne_none_int (aY_ I q s_)
  |str j=>obtain⟨t',rfl⟩:=ry;show PySem.EqNone.ne_none_str (aY_ I q s_)
  |_=>show absurd (show false=true from hs) AK_
 |bl i =>
  cases rx;cases y with
  |non=>cases ry;show PySem.EqNone.ne_bool_none (aY_ I q s_)
  |bl j=>cases ry;show ne_bool (aY_ I q (congrArg not pL_))
  |str j=>obtain⟨t',rfl⟩:=ry;show PySem.EqMixed.ne_bool_str (aY_ I q s_)
  |_=>show absurd (show false=true from hs) AK_
 |int i =>
  obtain⟨t,rfl⟩:=rx;cases y with
  |non=>cases ry;show PySem.EqNone.ne_int_none (aY_ I q s_)
  |int j=>obtain⟨t',rfl⟩:=ry;show ne_int (aY_ I q (congrArg not nt_))
  |str j=>obtain⟨t',rfl⟩:=ry;show PySem.EqMixed.ne_int_str (aY_ I q s_)
  |_=>show absurd (show false=true from hs) AK_
 |str i =>
  obtain⟨t,rfl⟩:=rx;cases y with
  |non=>cases ry;show PySem.EqNone.ne_str_none (aY_ I q s_)
  |bl j=>cases ry;show PySem.EqMixed.ne_str_bool (aY_ I q s_)
  |int j=>obtain⟨t',rfl⟩:=ry;show PySem.EqMixed.ne_str_int (aY_ I q s_)
  |str j=>obtain⟨t',rfl⟩:=ry;show ne_str (aY_ I q (congrArg not nu_))
  |_=>show absurd (show false=true from hs) AK_
 |byt i =>
  obtain⟨t,rfl⟩:=rx;cases y with
  |byt j=>obtain⟨t',rfl⟩:=ry;show PySem.W.ne_bytes (aY_ I q (congrArg not nv_))
  |_=>show absurd (show false=true from hs) AK_
 |_=>cases y <;> show absurd (show false=true from hs) AK_
theorem IJ_:OpR X (compareOp .Lt) (rI0 λi j=>.bl (decide (i<j))):=opB0 λ_ _ _ _ _ _ _ q=>lt_int q
theorem JE_:OpR X (compareOp .Gt) (rI0 λi j=>.bl (decide (j<i))):=opB0 λ_ _ _ _ _ _ _ q=>gt_int q
theorem Mn_:OpR X (compareOp .GtE) (rI0 λi j=>.bl (decide (j<=i))):=opB0 λ_ _ _ _ _ _ _ q=>ge_int q
variable{op:CmpOp}
theorem FB_(b:Expr)(h:op≠.In:=by decide) (h2:op≠.NotIn:=by decide):behindInMarks op b=false:=by
 have e1:(op == CmpOp.In)=false:=by cases op <;> first|rfl|show absurd rfl h
 have e2:(op == CmpOp.NotIn)=false:=by cases op <;> first|rfl|show absurd rfl h2
 cases b <;> simp[behindInMarks,e1,e2]
theorem hC_{r:R2}(ho:OpR X (compareOp op) r)(ha:PE X a ta)(hb:PE X b tb)(hm:behindInMarks op b=false):PE X (.Compare a [op] [b] pos) (tOp r ta tb):=by intro pins s σ H Q I h;show wpAny_Compare1 (binT ha hb I h λv u s2 x y H2 I2 rx ry q=>ho pins s2 σ H2 x y v u Q I2 rx ry q) hm
def La_(t:TE):TT:=λσ H Q=>t σ H λx H'=>onB x λk=>Q k H'
theorem aA_{r:R2}(ho:OpR X (compareOp op) r)(ha:PE X a ta)(hb:PE X b tb)(hm:behindInMarks op b=false):PT X (.Compare a [op] [b] pos) (La_ (tOp r ta tb)):=by
 intro pins s σ H Q I h;show Eq_ (thn (ha pins s σ H _ I h) λv s1 ⟨x,H1,I1,r1,q1⟩=>thn (hb pins s1 σ H1 _ I1 q1) λu s2 ⟨y,H2,I2,r2,q2⟩ =>thn (ho pins s2 σ H2 x y v u _ I2 r1 r2 q2) λc s3 ⟨z,H3,I3,r3,q0⟩=>?_) hm;obtain⟨k,e,q3⟩:=iQ_ q0;subst e;cases r3;show Cj_ ⟨H3,I3,q3⟩
theorem H7_:(sizeLine:Nat)<2 ^ 63:=by rw[BT_];decide
theorem e2_:OpR X (binaryOp .Add) (λx y H Q=>∃i j,x=.str i/\y=.str j/\i.length+j.length<=sizeLine/\Q (.str (i++j)) H):=by intro pins s σ H x y v u Q I rx ry h;obtain⟨i,j,rfl,rfl,hz,q⟩:=h;obtain⟨t,rfl⟩:=rx;obtain⟨t',rfl⟩:=ry;show add_str (λt' tk=>⟨.str (i++j),H,I.tok _,⟨_,rfl⟩,q⟩) hz
theorem G0_{x:V}{us:List Value}(r:FR_ [x] us):∃u,us=[u]/\FY_ x u:=by
 cases r with
 |cons r1 r2=>cases r2;show⟨_,rfl,r1⟩
theorem Hl_{x y:V}{us:List Value}(r:FR_ [x,y] us):∃u w',us=[u,w']/\FY_ x u/\FY_ y w':=by
 cases r with
 |cons r1 r2 =>
  cases r2 with
  |cons r3 r4=>cases r4;show⟨_,_,rfl,r1,r3⟩
theorem je_:Gz_ X (.builtin "abs") (λxs H Q=>∃i,xs=[.int i]/\Q (.int (if i<0 then -i else i)) H):=by intro pins s σ H xs us Q I r h;obtain⟨i,rfl,q⟩:=h;obtain⟨u,rfl,t,rfl⟩:=G0_ r;show call_abs_int λu tk=>⟨.int (if i<0 then -i else i),H,I.tok _,⟨_,rfl⟩,q⟩
theorem nw_(hc:X.calm=true):Gz_ X (.builtin "max") (λxs H Q=>∃i j,xs=[.int i,.int j]/\Q (.int (if j > i then j else i)) H):=by
 intro pins s σ H xs us Q I r h;obtain⟨i,j,rfl,q⟩:=h;obtain⟨u,w',rfl,⟨t,rfl⟩,⟨t',rfl⟩⟩:=Hl_ r;show max_two_ints (I.ok.hd hc) λh' tk k=>⟨_,H,I.kept k,?_,q⟩;by_cases hj:j > i
 .rw[if_pos hj,if_pos hj];show⟨_,rfl⟩
 .rw[if_neg hj,if_neg hj];show⟨_,rfl⟩
theorem nx_(hc:X.calm=true):Gz_ X (.builtin "min") (λxs H Q=>∃i j,xs=[.int i,.int j]/\Q (.int (if j<i then j else i)) H):=by
 intro pins s σ H xs us Q I r h;obtain⟨i,j,rfl,q⟩:=h;obtain⟨u,w',rfl,⟨t,rfl⟩,⟨t',rfl⟩⟩:=Hl_ r;show min_two_ints (I.ok.hd hc) λh' tk k=>⟨_,H,I.kept k,?_,q⟩;by_cases hj:j<i
 .rw[if_pos hj,if_pos hj];show⟨_,rfl⟩
 .rw[if_neg hj,if_neg hj];show⟨_,rfl⟩
theorem kd_:Gz_ X (.type "int") (λxs H Q=>(∃i,xs=[.int i]/\Q (.int i) H)\/∃k,xs=[.bl k]/\Q (.int (if k then 1 else 0)) H):=by
 intro pins s σ H xs us Q I r h
 rcases h with⟨i,rfl,q⟩|⟨k,rfl,q⟩
 .obtain⟨u,rfl,t,rfl⟩:=G0_ r;show call_int_int ⟨.int i,H,I,⟨_,rfl⟩,q⟩
 .obtain⟨u,rfl,r1⟩:=G0_ r;cases r1;show call_int_bool ⟨.int (if k then 1 else 0),H,I.tok _,⟨_,rfl⟩,q⟩
end
variable {prog:Program}{A:Around}{K:PySem.W.Frag}{dx C f:Addr}{mA:Str->Option Value}{name:Str}{v:Value}
theorem IV_.some_of{v:V}{o:Option Value}(r:IV_ (some v) o):∃u,o=some u/\FY_ v u:=by
 cases o with
 |none=>show(show False from r).elim
 |some u=>show⟨u,rfl,r⟩
structure Cls(K:PySem.W.Frag)(C:Addr):Prop where
 pg:PySem.W.plainGet K C Str.empty=true
 hd:PySem.W.hasDictIn K C=true
 po:PySem.W.plainOver K C=true
 sa:PySem.W.findIn K (.ref C) "__setattr__"=some (some (.builtin "object.__setattr__"))
theorem Cls.get(c:Cls K C)(f:Str):PySem.W.plainGet K C f=true:=c.pg
variable {o e value:Expr}{f:Str}{pos' tpos:Pos}{ta tv:TE}
structure HD_(k:Nat)(A:Around):Prop where
 hd:A.handled=none
 dp:A.depth+3*k+5<recursionLimit
 un:A.units+16*k+200<cLine
theorem HD_.mono{j k:Nat}(r:HD_ k A)(h:j<=k):HD_ j A:=⟨r.hd,by have:=r.dp;lia,by have:=r.un;lia⟩
theorem HD_.deeper{k:Nat}(r:HD_ (k+1) A)(env:Env):HD_ k (A.deeper env):=
 ⟨r.hd,by have:=r.dp;change A.depth+1+3*k+5<_;lia,by have:=r.un;change A.units+3+16*k+200<_;lia⟩
theorem HD_.depth{k:Nat}(r:HD_ k A):A.depth<recursionLimit:=by have:=r.dp;lia
theorem HD_.units{k:Nat}(r:HD_ k A):A.units+64<cLine:=by have:=r.un;lia
def MB_:TA:=λ_ H Q=>Q [] H
def Kf_(ta:TE)(tr:TA):TA:=λσ H Q=>ta σ H λx H1=>tr σ H1 λxs H2=>Q (x::xs) H2
section
variable {es:List Expr}{te:TE}{t:TA}
theorem ac_:PA X [] MB_:=λ_ _ _ _ H Q I h=>CY_ ⟨[],H,I,.nil,h⟩
theorem ql_(ha:PE X e te)(hr:PA X es t)(hs:starEach (e::es) X.env=(false,eval e X.env)::starEach es X.env:=by rfl):PA X (e::es) (Kf_ te t):=by intro pos pins s σ H Q I h;rw[hs];change wpAny _ _ (spliced ((false,eval e X.env)::backTo pos (starEach es X.env))) _ _ s;show B8_ (thn (ha pins s σ H _ I h) λu s1 ⟨x,H1,I1,r1,q1⟩=>?_);show thn (hr pos pins s1 σ H1 _ I1 q1) λus s2 ⟨xs,H2,I2,r2,q2⟩=>⟨x::xs,H2,I2,.cons r1 r2,q2⟩
def MC_(t:TA):TE:=λσ H Q=>t σ H λxs H1=>xs.length<=sizeLine/\∀p,H1 p=none->Q (.ref p) (upd H1 p (.tup xs))
def MP_(t:TA):TE:=λσ H Q=>t σ H λxs H1=>xs.length<=sizeLine/\∀p,H1 p=none->Q (.ref p) (upd H1 p (.lst xs))
theorem aH_{x1} (h:PA X es t):PE X (.Tuple es x1 pos) (MC_ t):=by intro pins s σ H Q I hq;show wpAny_Tuple_spliced (thn (h pos pins s σ H _ I hq) λus s1 ⟨xs,H1,I1,r,z,q⟩=>⟨by rw[<-r.length];show z,?_⟩);have hf:H1 s1.heap.objs.size=none:=I1.hok.fresh (Af_ _);show⟨.ref s1.heap.objs.size,upd H1 s1.heap.objs.size (.tup xs),I1.laid (t':=s1.toks) (λb u e=>Al_ _ e) (Af_ _) ?_,rfl,q _ hf⟩;show⟨z,us,r,⟨_,AA_ _ rfl,rfl,_,rfl⟩⟩
theorem by_(h:PA X es t):PE X (.List es pos) (MP_ t):=by intro pins s σ H Q I hq;show wpAny_List_spliced (thn (h pos pins s σ H _ I hq) λus s1 ⟨xs,H1,I1,r,z,q⟩=>⟨by rw[<-r.length];show z,?_⟩);have hf:H1 s1.heap.objs.size=none:=I1.hok.fresh (Af_ _);show⟨.ref s1.heap.objs.size,upd H1 s1.heap.objs.size (.lst xs),I1.laid (t':=s1.toks) (λb u e=>Al_ _ e) (Af_ _) ?_,rfl,q _ hf⟩;show⟨z,us,0,r,AA_ _ rfl⟩
end
abbrev Sp:=List V->Hp->VK->XK->Prop
abbrev CXT:=List Env->Hp->Shared->XK->Value->Shared->Prop
structure LX_(P:Program)(w:World)(K:PySem.W.Frag)(mg:Str->Option Value)(base:Heap)(A:Around)(outer:List Env)(s:Shared)(H:Hp):Prop where
 frames:A.frames=some outer
 mod:Mod K mg base
 bs:∀b o,base.get? b=some o->s.heap.get? b=some o/\H b=none
 bsz:base.objs.size<=s.heap.objs.size
 funs:s.heap.FunFrames base outer
 frf:∀b∈frs outer,H b=none
 hok:HOk P w H s.heap
 bare:AllBare s.gens
def CE(outer:List Env)(P:Program)(w:World)(H:Hp)(s:Shared)(Q:VK)(u:Value)(s':Shared):Prop :=
 ∃v H',s'.os=s.os/\AllBare s'.gens/\Un (frs outer) [] H H' s.heap s'.heap/\HOk P w H' s'.heap/\FY_ v u/\Q v H'
def CR(CX:CXT)(outer:List Env)(P:Program)(w:World)(H:Hp)(s:Shared)(Q:VK)(E:XK)(r:Result)(s':Shared):Prop :=
 match r with
 | .ok (.ret u)=>CE outer P w H s Q u s'
 | .ok _=>False
 | .error e=>CX outer H s E e s'
structure Jp_(P:Program)(w:World)(K:PySem.W.Frag)(mg:Str->Option Value)(base:Heap)(CX:CXT)(k:Nat)(f:Addr)(fd:FuncData)(ps:List Str)(sp:Sp):Prop where
 len:∀vs H Q E,sp vs H Q E->vs.length=ps.length
 run:∀(A:Around)(outer:List Env)(s:Shared)(H:Hp)(args:Args)(us:List Value)(vs:List V)(Q:VK)(E:XK),HD_ k A->LX_ P w K mg base A outer s H->BindsTo s fd args (ps.zip us)->FR_ vs us->sp vs H Q E ->
  codeAny (model P w) A (.call (.ref f) args) (CR CX outer P w H s Q E) s
variable {s':Shared}
theorem Inv.env0(I:Inv X pins σ H s):LX_ X.prog X.w X.K X.mg X.base X.A X.stack s H :=
 ⟨I.ok.frames,I.ok.mod,I.bs,Am_ I.ok.bsz I.sz,I.stack,I.stkFree,I.hok,I.bare⟩
theorem Inv.after{Q:VK}{u:Value}(I:Inv X pins σ H s)(h:CE X.stack X.prog X.w H s Q u s'):EP X pins σ Q u s':=by obtain⟨v,H',os,bare,un,hok,r,q⟩:=h;obtain⟨hh,g,d,t,os'⟩:=s';obtain rfl:os'=s.os:=os;show⟨v,H',I.call (h':=hh) (g':=g) (d':=d) (t':=t) (ch:=[]) un hok bare (λb z=>absurd z s_),r,q⟩
def Jw_(sp:Sp)(dvs:List V)(E:XK)(t:TA):TE:=λσ H Q=>t σ H λvs H1=>sp (vs++dvs) H1 Q E
def IF_(K:PySem.W.Frag)(fd:FuncData)(ps:List Str)(ds:List Value):Prop :=
 ∀(s:Shared)(us:List Value),K.In s.heap->(us++ds).length=ps.length->BindsTo s fd ⟨us,[]⟩ (ps.zip (us++ds))
theorem IF_.all{fd:FuncData}{ps:List Str}(h:∀us:List Value,us.length=ps.length->bindArgs fd ⟨us,[]⟩=pure (ps.zip us)):IF_ K fd ps []:=λs us _ hl=>by rw[By_]at hl⊢;show .of_eq (h us hl)
def Ja_(CX:CXT)(X:Cx)(E:XK):Prop:=∀(pins:List (Addr×Obj))(σ:St)(H:Hp)(s:Shared)(e:Value)(s':Shared),Inv X pins σ H s->CX X.stack H s E e s'->X.xe e s'
section
variable {CX:CXT}{k:Nat}{f:Addr}{fd:FuncData}{ps:List Str}{sp:Sp}{dvs:List V}{ds:List Value}{E:XK}{x m:Str}{p apos:Pos}{es:List Expr}{t:TA}
theorem rv_{pins:List (Addr×Obj)}{σ:St}{H:Hp}{s:Shared}{Q:VK}{us:List Value}{vs:List V}(F:Jp_ X.prog X.w X.K X.mg X.base CX k f fd ps sp)(hr:HD_ k X.A)(hb:IF_ X.K fd ps ds)(hd:FR_ dvs ds)(hx:Ja_ CX X E)
  (I:Inv X pins σ H s) (r:FR_ vs us) (h:sp (vs++dvs) H Q E):wpAny (model X.prog X.w) X.A (call (.ref f) us) (EP X pins σ Q) X.xe s:=by
 have r2:FR_ (vs++dvs) (us++ds):=r.append hd;have hl:(us++ds).length=ps.length:=by rw[<-r2.length];show F.len _ _ _ _ h
 show wpAny_call (Dg_ (F.run X.A X.stack s H ⟨us,[]⟩ (us++ds) (vs++dvs) Q E hr I.env0 (hb s us I.kIn hl) r2 h) λr s' hq=>?_);cases r with
 |error e=>show hx pins σ H s e s' I hq
 |ok fl =>
  cases fl with
  |ret u=>show I.after hq
  |next=>show False.elim hq
  |brk=>show False.elim hq
  |cont=>show False.elim hq
theorem qm_(F:Jp_ X.prog X.w X.K X.mg X.base CX k f fd ps sp)(hr:HD_ k X.A)(hg:Gl X x)(hm:X.mg x=some (.ref f))(hk:PySem.W.keepIn X.K (.ref f)=true)(hb:IF_ X.K fd ps ds)(hd:FR_ dvs ds)(hx:Ja_ CX X E)
  (ha:PA X (e::es) t) (hdb:(x == ("__debug__" : Str))=false:=by decide) (he:starEach (e::es) X.env=(false,eval e X.env)::starEach es X.env:=by rfl) (hpl:(backTo pos (starEach es X.env)).any (·.1)=false:=by rfl):
  PE X (.Call (.Name x p) (e::es) [] pos) (Jw_ sp dvs E t):=by
 intro pins s σ H Q I h;show BE_ (ni_ I hg hm ?_ hdb);show PySem.W.callWith_K (h₀:=X.base) I.ok.mod.kin hk (thn (ha pos pins s σ H _ I h) λus s1 ⟨vs,H1,I1,r,q⟩=>⟨I1.kIn,?_⟩) he hpl;show rv_ F hr hb hd hx I1 r q
end
structure Ft_(N P:List Str)(sc:Scope):Prop where
 kind:sc.kind=.function
 co:sc.isCoroutine=false
 gen:sc.isGenerator=false
 nd:N.Nodup
 pre:N.take P.length=P
 par:∀x∈P,sc.names.lookup x=some .local\/sc.names.lookup x=some .cell
 nofree:∀y∈sc.names,y.2≠.free
theorem ke_{kindOf:Str->Option NameKind}{x:Str}:∀{binds:List (Str×Value)}{m:Str->Option Value},(∀v,(x,v)∉binds)->bindL kindOf binds m x=m x
 |[],_,_=>rfl
 | (n,v)::r,m,h=>by
  unfold bindL;rw[ke_ λw hw=>h w (Ag_ _ hw)];split
  .have:x≠n:=by rintro rfl;show h v Ah_
   simp[this]
  .rfl
theorem kf_{kindOf:Str->Option NameKind}{x:Str}:∀{binds:List (Str×Value)}{m:Str->Option Value},(∀v,(x,v)∉binds)->bindC kindOf binds m x=m x
 |[],_,_=>rfl
 | (n,v)::r,m,h=>by
  unfold bindC;rw[kf_ λw hw=>h w (Ag_ _ hw)];split
  .rfl
  .have:x≠n:=by rintro rfl;show h v Ah_
   simp[this]
theorem kg_{kindOf:Str->Option NameKind}{x:Str}{v:Value}:∀{P:List Str}{vs:List Value}{i:Nat}{m:Str->Option Value},P.Nodup->P[i]?=some x->vs[i]?=some v->kindOf x=some .local ->
  bindL kindOf (P.zip vs) m x=some v
 |[],_,_,_,_,h,_,_=>by simp at h
 |_::_,[],_,_,_,_,h,_=>by simp at h
 |p::P,w::vs,0,m,nd,h1,h2,hk=>by
  simp at h1 h2;subst h1;subst h2;change bindL kindOf ((p,w)::P.zip vs) m p=_;unfold bindL;rw[ke_ λv hv=>(A5_.mp nd).1 (D8_ hv).1,if_pos hk];simp
 |p::P,w::vs,i+1,m,nd,h1,h2,hk=>by change bindL kindOf ((p,w)::P.zip vs) m x=_;unfold bindL;show kg_ (i:=i) (A5_.mp nd).2 (by simpa using h1) (by simpa using h2) hk
theorem kh_{kindOf:Str->Option NameKind}{x:Str}{v:Value}:∀{P:List Str}{vs:List Value}{i:Nat}{m:Str->Option Value},P.Nodup->P[i]?=some x->vs[i]?=some v->kindOf x≠some .local ->
  bindC kindOf (P.zip vs) m x=some v
 |[],_,_,_,_,h,_,_=>by simp at h
 |_::_,[],_,_,_,_,h,_=>by simp at h
 |p::P,w::vs,0,m,nd,h1,h2,hk=>by
  simp at h1 h2;subst h1;subst h2;change bindC kindOf ((p,w)::P.zip vs) m p=_;unfold bindC;rw[kf_ λv hv=>(A5_.mp nd).1 (D8_ hv).1,if_neg hk];simp
 |p::P,w::vs,i+1,m,nd,h1,h2,hk=>by change bindC kindOf ((p,w)::P.zip vs) m x=_;unfold bindC;show kh_ (i:=i) (A5_.mp nd).2 (by simpa using h1) (by simpa using h2) hk
def start(N:List Str)(vs:List V):St:=vs.map some++List.replicate (N.length-vs.length) none
def J3_(CX:CXT)(P:Program)(w:World)(K:PySem.W.Frag)(mg:Str->Option Value)(base:Heap)(N:List Str)(qual:Str)(scope:Scope)(f:Addr)(cd:Value)(A:Around)(outer:List Env)(s:Shared)(H:Hp)(E:XK):Cx where
 prog:=P
 w:=w
 K:=K
 mg:=mg
 base:=base
 A:=A.deeper (envOfC qual scope s.heap.objs.size f cd)
 N:=N
 s₀:=s
 H₀:=H
 env:=envOfC qual scope s.heap.objs.size f cd
 outer:=outer
 stack:=envOfC qual scope s.heap.objs.size f cd::outer
 ex:=[]
 calm:=true
 fn:=λ_=>true
 pn:=[]
 xe:=λe s'=>wpAny (model P w) (A.deeper (envOfC qual scope s.heap.objs.size f cd)) (leaving (envOfC qual scope s.heap.objs.size f cd) e) (λ_ s''=>CX outer H s E e s'') (λe' s''=>CX outer H s E e' s'') s'
theorem l9_{sc:Scope}{n:Nat}{x:Str}(h:sc.names.lookup x=some .cell):∃c,(cellsFrom n sc.names []).lookup x=some c:=by have q:=Ef_ sc.names n [] (.inl h);show DN_.mp q
theorem ny_{CX:CXT}{P:Program}{w:World}{K:PySem.W.Frag}{mg:Str->Option Value}{base:Heap}{N ps:List Str}{qual:Str}{scope:Scope}{f:Addr}{cd:Value}{A:Around}{outer:List Env}{s s1:Shared}{H:Hp}{E:XK}{us:List Value}{vs:List V}
  (S:Ft_ N ps scope) (hd:A.handled=none) (e0:LX_ P w K mg base A outer s H) (hl:vs.length=ps.length) (r:FR_ vs us)
  (x:InCallC s s.heap.objs.size (bindL (envOfC qual scope s.heap.objs.size f cd).kindOf (ps.zip us) λ_=>none) (cellsFrom (s.heap.objs.size+1) scope.names []) (bindC (envOfC qual scope s.heap.objs.size f cd).kindOf (ps.zip us) λ_=>none) s1):
  Inv (J3_ CX P w K mg base N qual scope f cd A outer s H E) [] (start N vs) H s1:=by
 have hpl:ps.length<=N.length:=by have:=congrArg List.length S.pre;rw[AZ_]at this;lia
 obtain⟨h1,tk,rfl,hk⟩:=x.done;have noA:∀b:Addr,b∉(J3_ CX P w K mg base N qual scope f cd A outer s H E).ex:=λb z=>absurd (show b∈([]:List Addr)from z) s_
 show⟨⟨e0.mod,S.kind,rfl,rfl,Af_ _,λy z c h1 h2=>?_,λy hy=>?_,λy c _ h=>?_,λ_=>hd,Around.frames_deeper e0.frames,.inr ⟨rfl,rfl⟩,λb z=>absurd z (noA b),e0.bs,e0.bsz,λb _ _=>noA b,λb z=>absurd z (noA b),e0.funs,e0.frf⟩,
  rfl,e0.bare,Un.kept hk,⟨_,x.toInCall.ns,λi y v h1 h2 h3=>?_⟩,λy c h=>⟨_,x.cell y c h⟩,e0.hok.fresh (Af_ _),λy c h=>?_,λp hp=>absurd (show p∈([]:List (Addr×Obj))from hp) s_,e0.hok.kept hk,?_⟩
 .show name_of_addr x.apart (Bi_ h1) (Bi_ h2)
 .have hy:scope.names.lookup y=some .cell\/scope.names.lookup y=some .free:=hy
  rcases hy with hy|hy
  .show l9_ hy
  .show absurd rfl (S.nofree _ (Bi_ hy))
 .show AN_ (x.above y c (Bi_ h))
 .have hi:i<vs.length:=by
   unfold start at h2;by_cases hi:i<vs.length
   .show hi
   .rw[AJ_ (by simpa using hi)]at h2;rw[CX_]at h2;split at h2 <;> cases h2
  have ha:vs[i]?=some v:=by
   unfold start at h2;rw[AF_ (by simpa using hi),Ad_]at h2;cases e:vs[i]? with
   |none=>rw[e]at h2;cases h2
   |some a=>rw[e]at h2;cases h2;rfl
  obtain⟨u,hu,rv⟩:=r.get ha;have hp:ps[i]?=some y:=by rw[<-S.pre,DO_ o_];show h1
  have ndP:ps.Nodup:=by rw[<-S.pre];show S.nd.sublist (EY_ _ _)
  show⟨u,rv,?_⟩
  rcases S.par y (Ai_ hp)with k|k
  .show .inl ⟨k,kg_ ndP hp hu k⟩
  .obtain⟨c,e⟩:=l9_ (n:=s.heap.objs.size+1) k;show .inr ⟨.inl k,c,e,?_⟩;have q:=x.cell y c e;rw[kh_ ndP hp hu (by change scope.names.lookup y≠_;rw[k];decide)]at q;show q
 .show e0.hok.fresh (AN_ (x.above y c (Bi_ h)))
 .unfold start;change _=N.length;rw[At_,Ab_,C9_];lia
theorem Mf_{CX:CXT}{P:Program}{w:World}{K:PySem.W.Frag}{mg:Str->Option Value}{base:Heap}{k:Nat}{f:Addr}{name qual:Str}{params:Arguments}{body:List Stmt}{scope:Scope}{dV kV doc pm cdv ct oc:Value}{an od:Option Addr}
  {osl:Array (Option Value)} {N ps:List Str} {sp:Sp} (lk:K.lookup f=some ⟨oc,od,.func (PySem.W.fnOf name qual params body scope dV kV doc pm an cdv ct),osl⟩) (hcd:PySem.W.codeIn K cdv qual=true) (S:Ft_ N ps scope)
  (len:∀vs H Q E,sp vs H Q E->vs.length=ps.length)
  (hbody:∀(A:Around)(outer:List Env)(s:Shared)(H:Hp)(vs:List V)(Q:VK)(E:XK),HD_ k (A.deeper (envOfC qual scope s.heap.objs.size f cdv))->sp vs H Q E ->
   ∃t,PSs (J3_ CX P w K mg base N qual scope f cdv A outer s H E) body t/\t {nx:=λ_ H'=>Q .non H',rt:=Q} (start N vs) H):
  Jp_ P w K mg base CX (k+1) f (PySem.W.fnOf name qual params body scope dV kV doc pm an cdv ct) ps sp:=by
 show⟨len,λA outer s H args us vs Q E hr e0 hb r hsp=>?_⟩;have hl:=len _ _ _ _ hsp;have KX:K.In s.heap:=e0.mod.kin.keeps λb o e=>(e0.bs b o e).1;have lim:s.heap.NoLimit:=e0.mod.nolimit.keeps λb o e=>(e0.bs b o e).1
 have hkind:∀y∈ps.zip us,scope.names.lookup y.1=some .local\/(scope.names.lookup y.1=some .cell/\((cellsFrom (s.heap.objs.size+1) scope.names []).lookup y.1).isSome=true):=λ⟨n,v⟩ hy=>by
  rcases S.par n (D8_ hy).1 with q|q
  .show .inl q
  .show .inr ⟨q,Ef_ _ _ _ (.inl q)⟩
 show codeAny_call_function hr.depth (KX _ _ lk) rfl S.co S.gen rfl (PySem.W.codeRec_of KX hcd) (hb _ _ _ _ ?_);show wpAny_newFunctionEnv_cells S.kind hkind λenv he s1 x=>?_;subst he;show⟨lim.keeps x.toInCall.keep,codeAny_func ?_⟩;obtain⟨t,ht,hq⟩:=hbody A outer s H vs Q E (hr.deeper _) hsp;have I:Inv (J3_ CX P w K mg base N qual scope f cdv A outer s H E) [] (start N vs) H s1:=ny_ S hr.hd e0 hl r x;show Bu_ (ht [] s1 (start N vs) H _ I hq) (λfl s' hs=>?_) λe s' hs=>hs
 have fin:∀{σ':St}{H':Hp}{v:V}{u:Value},Inv (J3_ CX P w K mg base N qual scope f cdv A outer s H E) [] σ' H' s'->FY_ v u->Q v H'->CE outer P w H s Q u s' :=
  λ{σ' H' v u} J rv q=>⟨v,H',J.os,J.bare,J.base,J.hok,rv,q⟩
 cases fl with
 |ret u =>
  obtain⟨v,σ',H',J,rv,q⟩:=hs;show fin J rv q
 |next =>
  obtain⟨σ',H',J,q⟩:=hs;show fin (v:=V.non) (u:=Value.none) J rfl q
 |brk =>
  obtain⟨_,_,_,q⟩:=hs;show False.elim q
 |cont =>obtain⟨_,_,_,q⟩:=hs;show False.elim q
section
variable {x:Str}{p:Pos}{es:List Expr}{t:TA}{id T:String}{r:List V->Hp->VK->Prop}
def tCB(r:List V->Hp->VK->Prop)(t:TA):TE:=λσ H Q=>t σ H λvs H1=>r vs H1 Q
theorem oW_(hc:Gz_ X (.builtin id) r)(hg:Gl X x)(hm:X.mg x=none)(hv:bootBuiltins x=some (.builtin id))(ha:PA X (e::es) t)(hn:x ≠ "__name__" := by decide) (hdb:(x == ("__debug__" : Str))=false:=by decide)
  (he:starEach (e::es) X.env=(false,eval e X.env)::starEach es X.env:=by rfl) (hpl:(backTo pos (starEach es X.env)).any (·.1)=false:=by rfl):PE X (.Call (.Name x p) (e::es) [] pos) (tCB r t):=by
 intro pins s σ H Q I h;show BE_ (dg_ I hg hm hv ?_ hn hdb);show PyProof.Rows.callWith_builtin1 (thn (ha pos pins s σ H _ I h) λus s1 ⟨vs,H1,I1,r1,q1⟩=>hc pins s1 σ H1 vs us Q I1 r1 q1) he hpl
theorem nz_(hc:Gz_ X (.type T) r)(hg:Gl X x)(hm:X.mg x=none)(hv:bootBuiltins x=some (.type T))(ha:PA X (e::es) t)(hn:x ≠ "__name__" := by decide) (hdb:(x == ("__debug__" : Str))=false:=by decide)
  (he:starEach (e::es) X.env=(false,eval e X.env)::starEach es X.env:=by rfl) (hpl:(backTo pos (starEach es X.env)).any (·.1)=false:=by rfl):PE X (.Call (.Name x p) (e::es) [] pos) (tCB r t):=by
 intro pins s σ H Q I h;show BE_ (dg_ I hg hm hv ?_ hn hdb);show AV_ (thn (ha pos pins s σ H _ I h) λus s1 ⟨vs,H1,I1,r1,q1⟩=>hc pins s1 σ H1 vs us Q I1 r1 q1) he hpl
end
end L2
namespace HT
open PySem PyProof.Rows
open PySem.SeqAt
open PySem.AutoSeq1 (wpAny_loadPart')
open PySem.MeetsSeq PySem.MeetsSeq2 PySem.MeetsSeq3
variable {prog:Program}{w:World}{A:Around}{E:Value->Shared->Prop}{s:Shared}
def sIx(n d:Nat):Option Int->Nat
 |none=>d
 |some v=>if v<0 then(v+(n:Int)).toNat else min v.toNat n
theorem sIx_none(n d:Nat):sIx n d none=d:=rfl
theorem sIx_nat(n d k:Nat):sIx n d (some (k:Int))=min k n:=by change(if(k:Int)<0 then((k:Int)+(n:Int)).toNat else min (k:Int).toNat n)=min k n;rw[if_neg o_,AM_]
end HT
namespace L2
open PySem PySem.Spec PyProof.Rows
abbrev TO:=St->Hp->(Option Int->Hp->Prop)->Prop
def PO(X:Cx)(e:Option Expr)(t:TO):Prop :=
 ∀(pins:List (Addr×Obj))(s:Shared)(σ:St)(H:Hp)(Q:Option Int->Hp->Prop),Inv X pins σ H s->t σ H Q ->
  wpAny (model X.prog X.w) X.A (evalPart e X.env) (λu s'=>∃o H',Inv X pins σ H' s'/\IsPart u o/\Q o H') X.xe s
def Jb_:TO:=λ_ H Q=>Q none H
def Lf_(t:TE):TO:=λσ H Q=>t σ H λx H1=>onI x λi=>Q (some i) H1
theorem mV_{ns:List Int}:∀{us:List Value},FR_ (ns.map V.int) us->IntsAre us ns:=by
 induction ns with
 |nil=>intro us r;rw[CO_]at r;cases r;show .nil
 |cons n ns ih =>
  intro us r;rw[Av_]at r;cases r with
  |cons r1 r2 =>obtain⟨t,e⟩:=r1;subst e;show .cons n t (ih r2)
section
variable {X:Cx}{e:Expr}{te:TE}{lo hi:Option Expr}{tl th:TO}{pos p2:Pos}
theorem es_:PO X none Jb_:=by intro pins s σ H Q I h;rw[evalPart_none];show Ao_ ⟨none,H,I,.none,h⟩
theorem c9_(h:PE X e te):PO X (some e) (Lf_ te):=by intro pins s σ H Q I hw;rw[evalPart_some];show thn (h pins s σ H _ I hw) λu s1 ⟨x,H1,I1,r1,q1⟩=>?_;obtain⟨i,rfl,q⟩:=cX_ q1;obtain⟨t,rfl⟩:=r1;show⟨some i,H1,I1,.int i t,q⟩
def SlR(X:Cx)(r:V->Option Int->Option Int->Hp->VK->Prop):Prop :=
 ∀(pins:List (Addr×Obj))(s:Shared)(σ:St)(H:Hp)(x:V)(v vl vu:Value)(lo hi:Option Int)(sl:Addr)(Q:VK),Inv X pins σ H s->FY_ x v->s.heap.IsSliceOf sl vl vu .none->IsPart vl lo->IsPart vu hi->r x lo hi H Q ->
  ∃T id,typeLookup (.type T) "__getitem__"=pure (some (.builtin id))/\s.TypeIs v T/\wpAny (model X.prog X.w) X.A (getItem v (.ref sl)) (EP X pins σ Q) X.xe s
def tSl(r:V->Option Int->Option Int->Hp->VK->Prop)(te:TE)(tl th:TO):TE:=λσ H Q=>te σ H λx H1=>tl σ H1 λl H2=>th σ H2 λu H3=>r x l u H3 Q
theorem cs_{r:V->Option Int->Option Int->Hp->VK->Prop}(hr:SlR X r)(he:PE X e te)(hl:PO X lo tl)(hu:PO X hi th):PE X (.Subscript e (.Slice lo hi none p2) pos) (tSl r te tl th):=by intro pins s σ H Q I h;show Subscript_ (thn (he pins s σ H _ I h) λv s1 ⟨x,H1,I1,r1,q1⟩=>?_);show wpAny_Slice (thn (hl pins s1 σ H1 _ I1 q1) λvl s2 ⟨l,H2,I2,pl,q2⟩=>thn (hu pins s2 σ H2 _ I2 q2) λvu s3 ⟨u,H3,I3,pu,q3⟩=>?_);rw[evalPart_none];show Ao_ ?_;have I4:Inv X pins σ H3 {s3 with heap:=s3.heap.push {cls:=.type "slice",data:=.fields #[vl,vu,.none]}}:=I3.kept (t':=s3.toks) λb ob q=>Al_ _ q;obtain⟨T,id,hT,ht,hg⟩:=hr pins {s3 with heap:=s3.heap.push {cls:=.type "slice",data:=.fields #[vl,vu,.none]}} σ H3 x v vl vu l u s3.heap.objs.size Q I4 r1 (Heap.IsSliceOf.new ..) pl pu q3;change wpAny (model X.prog X.w) X.A (subscriptTail e (.Slice lo hi none p2) v (.ref s3.heap.objs.size)) (EP X pins σ Q) X.xe {s3 with heap:=s3.heap.push {cls:=.type "slice",data:=.fields #[vl,vu,.none]}};show tail_any (ops:=[.ref s3.heap.objs.size,v]) ht hT hg (by with_unfolding_all rfl)
def HS_(xs:List V)(lo hi:Option Int):List V:=(xs.drop (HT.sIx xs.length 0 lo)).take (HT.sIx xs.length xs.length hi-HT.sIx xs.length 0 lo)
theorem li_(xs:List V)(lo hi:Option Int):(HS_ xs lo hi).length<=xs.length:=by unfold HS_;rw[AZ_,BB_];lia
end
def ixN(n:Nat)(i:Int):Option Nat:=if 0<=i then(if i<n then some i.toNat else none)else if -(n:Int)<=i then some (i+n).toNat else none
def atI{α:Type}(xs:List α)(i:Int):Option α:=(ixN xs.length i).bind λj=>xs[j]?
theorem nA_{n:Nat}{i:Int}{j:Nat}(h:ixN n i=some j):seqIndex? i n=some j/\j<n /\ -(n:Int)<=i/\i<n:=by
 unfold ixN at h;by_cases h0:0<=i
 .rw[if_pos h0]at h;by_cases h1:i<n
  .rw[if_pos h1]at h;have e:i.toNat=j:=Ak_ h;show⟨by rw[Eg_ h0 h1,e],o_,o_,h1⟩
  .rw[if_neg h1]at h;cases h
 .rw[if_neg h0]at h;by_cases h1:-(n:Int)<=i
  .rw[if_pos h1]at h;have e:(i+n).toNat=j:=Ak_ h;show⟨by rw[EX_ o_ h1,e],o_,h1,o_⟩
  .rw[if_neg h1]at h;cases h
theorem lj_{α:Type}{xs:List α}{i:Int}{v:α}(h:atI xs i=some v):∃j,seqIndex? i xs.length=some j/\xs[j]?=some v/\j<xs.length /\ -(xs.length:Int)<=i/\i<xs.length:=by
 unfold atI at h;cases e:ixN xs.length i with
 |none=>rw[e]at h;cases h
 |some j =>rw[e]at h;obtain⟨h1,h2,h3,h4⟩:=nA_ e;show⟨j,h1,h,h2,h3,h4⟩
def Kj_(b:Expr):Prop:=∀o i,subscripted b false o i=operate [o,i] (getItem o i)
def IxR(X:Cx)(r:R2):Prop :=
 ∀(value slice:Expr)(pins:List (Addr×Obj))(s:Shared)(σ:St)(H:Hp)(x y:V)(v u:Value)(Q:VK),Inv X pins σ H s->FY_ x v->FY_ y u->r x y H Q ->
  subscripted slice false v u=operate [v,u] (getItem v u)->wpAny (model X.prog X.w) X.A (subscriptTail value slice v u) (EP X pins σ Q) X.xe s
def MtR(X:Cx)(id:String)(r:V->List V->Hp->VK->Prop):Prop :=
 ∀(pins:List (Addr×Obj))(s:Shared)(σ:St)(H:Hp)(x:V)(xs:List V)(v:Value)(us:List Value)(Q:VK),Inv X pins σ H s->FY_ x v->FR_ xs us->r x xs H Q ->
  wpAny (model X.prog X.w) X.A (call (.builtin id) (v::us)) (EP X pins σ Q) X.xe s
section
variable {X:Cx}{a b:Expr}{ta tb:TE}{pos:Pos}
theorem Fr_{r:R2}(hr:IxR X r)(ha:PE X a ta)(hb:PE X b tb)(hs:Kj_ b:=by intro _ _;rfl):PE X (.Subscript a b pos) (tOp r ta tb):=by intro pins s σ H Q I h;show Subscript_ (binT ha hb I h λv u s2 x y H2 I2 rx ry q=>hr a b pins s2 σ H2 x y v u Q I2 rx ry q (hs _ _))
def ML_(K:PySem.W.Frag):R2:=λx y H Q=>∃p xs i v,x=.ref p/\y=.int i/\SqL K H p xs/\atI xs i=some v/\Q v H
def L6_(K:PySem.W.Frag):R2:=λx y H Q=>∃p xs i v,x=.ref p/\y=.int i/\SqT K H p xs/\atI xs i=some v/\Q v H
def Mv_:R2:=λx y H Q=>∃z i c,x=.str z/\y=.int i/\z.length<=sizeLine/\atI z.cps.toList i=some c/\Q (.str ⟨#[c]⟩) H
theorem nB_:IxR X (ML_ X.K):=by
 intro value slice pins s σ H x y v u Q I rx ry h hs;obtain⟨p,xs,i,z,rfl,rfl,hq,he,q⟩:=h;cases rx;obtain⟨t,rfl⟩:=ry;obtain⟨its,r,pl,hz⟩:=I.list hq;obtain⟨j,h1,h2,h3,h4,h5⟩:=lj_ he;obtain⟨w,ew,rw'⟩:=r.get h2;have hl:=r.length;have hn:=H7_;have fin:EP X pins σ Q w s:=⟨z,H,I,rw',q⟩;by_cases h0:0<=i
 .have hj:i.toNat=j:=by rw[Eg_ h0 h5]at h1;show Ak_ h1
  show item_listR pl.isList h0 o_ (by rw[hj];simpa using ew) fin hs
 .have hj:(i+(its.toArray.size:Int)).toNat=j:=by rw[EX_ o_ h4]at h1;rw[As_,<-hl];show Ak_ h1
  show Eh_ (x:=w) pl.isList.typeIs slot_list_getitem.lookup
   (wpAny_getItem_list_neg (Q:=λr s'=>r=w/\EP X pins σ Q r s') pl.isList o_ (by rw[As_] <;> lia) o_ (by rw[hj];simpa using ew) ⟨rfl,fin⟩) hs
theorem pM_:IxR X (L6_ X.K):=by
 intro value slice pins s σ H x y v u Q I rx ry h hs;obtain⟨p,xs,i,z,rfl,rfl,hq,he,q⟩:=h;cases rx;obtain⟨t,rfl⟩:=ry;obtain⟨its,r,pl,hz⟩:=I.tuple hq;obtain⟨j,h1,h2,h3,h4,h5⟩:=lj_ he;obtain⟨w,ew,rw'⟩:=r.get h2;have hl:=r.length;have hn:=H7_;have fin:EP X pins σ Q w s:=⟨z,H,I,rw',q⟩
 show Eh_ (x:=w) pl.typeIs slot_tuple_getitem.lookup
  (getItem_tuple (j:=j) (Q:=λr s'=>r=w/\EP X pins σ Q r s') pl o_ o_ (by rw[As_,<-hl];show h1) (by simpa using ew) ⟨rfl,fin⟩) hs
theorem ma_:IxR X Mv_:=by
 intro value slice pins s σ H x y v u Q I rx ry h hs;obtain⟨z,i,c,rfl,rfl,hz,he,q⟩:=h;obtain⟨t,rfl⟩:=rx;obtain⟨t',rfl⟩:=ry;obtain⟨j,h1,h2,h3,h4,h5⟩:=lj_ he;have hl:z.cps.toList.length=z.length:=by simp[Str.length]
 rw[hl]at h1 h4 h5;have hn:=H7_;show tail_any (typeIs_str s z t) slot_str_getitem.lookup (getItem_str (c:=c) (by have e1:decide (i < -(2 ^ 63:Int))=false:=Bf_ o_;have e2:decide (i ≥ 2 ^ 63)=false:=Bf_ o_;rw[e1,e2,Bool.or_false]) (by rw[h1];simpa using h2) ⟨.str ⟨#[c]⟩,H,I.tok _,⟨_,rfl⟩,q⟩) hs
theorem mW_(its:List Value)(n j:Nat)(u:Value):Obj.mapSeq (·.setIfInBounds j u) {cls:=.type "list",data:=.seq its.toArray n}={cls:=.type "list",data:=.seq (its.set j u).toArray n}:=by simp[Obj.mapSeq]
theorem Inv.lst{pins:List (Addr×Obj)}{σ:St}{H:Hp}{s:Shared}{p:Addr}{xs:List V}(I:Inv X pins σ H s)(h:H p=some (.lst xs)):
  ∃(its:List Value)(n:Nat),FR_ xs its/\s.heap.get? p=some {cls:=.type "list",data:=.seq its.toArray n}/\xs.length<=sizeLine:=by
 obtain⟨z,its,n,r,e⟩:=I.hok p _ h;show⟨its,n,r,e,z⟩
theorem Inv.lstUpd{pins:List (Addr×Obj)}{σ:St}{H:Hp}{s:Shared}{p:Addr}{xs ys:List V}{its its':List Value}{n n':Nat}{f:Obj->Obj}(I:Inv X pins σ H s)(h:H p=some (.lst xs))
  (ho:s.heap.get? p=some {cls:=.type "list",data:=.seq its.toArray n}) (hf:f {cls:=.type "list",data:=.seq its.toArray n}={cls:=.type "list",data:=.seq its'.toArray n'}) (r:FR_ ys its') (hz:ys.length<=sizeLine) (t:Nat):
  Inv X pins σ (upd H p (.lst ys)) {s with heap:=s.heap.update p f,toks:=t}:=by
 have e:(s.heap.update p f).get? p=some {cls:=.type "list",data:=.seq its'.toArray n'}:=by rw[Heap.get?_update_self f ho (by rw[hf] <;> rfl),hf]
 show I.write (x:=p) (e:=p) (by rw[h];trivial) (.inl rfl) (λb u hb q=>(BU_ _ _ (Ne.symm hb)).trans q) ⟨_,e⟩ ?_;show⟨hz,its',n',r,e⟩
def KV_:V->V->V->Hp->(Hp->Prop)->Prop:=λo i v H Q=>∃p xs k j,o=.ref p/\i=.int k/\H p=some (.lst xs)/\ixN xs.length k=some j/\Q (upd H p (.lst (xs.set j v)))
theorem mb_:M1_ X KV_:=by
 intro pins s σ H o i v ov iv u Q I ro ri rv h;obtain⟨p,xs,k,j,rfl,rfl,hp,hj,q⟩:=h;cases ro;obtain⟨t,rfl⟩:=ri;obtain⟨its,n,r,ho,hz⟩:=I.lst hp;obtain⟨h1,h2,h3,h4⟩:=nA_ hj;have hl:=r.length;have hn:=H7_
 have I':Inv X pins σ (upd H p (.lst (xs.set j v))) {s with heap:=s.heap.update p (Obj.mapSeq (·.setIfInBounds j u))} :=
  I.lstUpd hp ho (mW_ its n j u) (r.set rv j) (by rw[Bz_];show hz) s.toks
 by_cases h0:0<=k
 .have hk:k.toNat=j:=by rw[Eg_ h0 h4]at h1;show Ak_ h1
  show PySem.W.ki_setAt ho h0 o_ (by rw[As_,<-hl];show h4) (by rw[hk];show⟨_,I',q⟩)
 .have hk:(k+(its.toArray.size:Int)).toNat=j:=by rw[EX_ o_ h3]at h1;rw[As_,<-hl];show Ak_ h1
  show PySem.W.ki_setBack ho o_ (by rw[As_,<-hl];show h3) o_ (by rw[hk];show⟨_,I',q⟩)
theorem ki_(lo hi:Option Int)(n:Nat):(sliceBounds lo hi none n).1=((HT.sIx n 0 lo:Nat):Int)/\(sliceBounds lo hi none n).2.1=((HT.sIx n n hi:Nat):Int)/\(sliceBounds lo hi none n).2.2=1:=by
 show⟨?_,?_,rfl⟩
 .cases lo with
  |none=>simp[sliceBounds,HT.sIx]
  |some i =>
   simp only[sliceBounds,HT.sIx,Option.getD_none,show(1:Int) > 0 by decide,if_true];by_cases h:i<0
   .simp only[h,if_true] <;> lia
   .simp only[h,CP_] <;> lia
 .cases hi with
  |none=>simp[sliceBounds,HT.sIx]
  |some i =>
   simp only[sliceBounds,HT.sIx,Option.getD_none,show(1:Int) > 0 by decide,if_true];by_cases h:i<0
   .simp only[h,if_true] <;> lia
   .simp only[h,CP_] <;> lia
theorem jf_(its:List Value)(lo hi:Option Int):slicePick its.toArray lo hi none=((its.drop (HT.sIx its.length 0 lo)).take (HT.sIx its.length its.length hi-HT.sIx its.length 0 lo)).toArray:=by obtain⟨h1,h2,h3⟩:=ki_ lo hi its.toArray.size;unfold slicePick;rw[h1,h2,h3];simp only[sliceRange_one,pick_run,As_] <;> rfl
def rSlL(K:PySem.W.Frag):V->Option Int->Option Int->Hp->VK->Prop:=λx lo hi H Q=>∃a xs,x=.ref a/\SqL K H a xs/\∀p,H p=none->Q (.ref p) (upd H p (.lst (HS_ xs lo hi)))
theorem qn_:SlR X (rSlL X.K):=by intro pins s σ H x v vl vu lo hi sl Q I rx hs pl pu h;obtain⟨a,xs,rfl,hx,q⟩:=h;cases rx;obtain⟨its,r,ht,hz⟩:=I.list hx;have hlen:=r.length;show⟨"list",_,slot_list_getitem.lookup,ht.isList.typeIs,?_⟩;show wpAny_getItem_list_slice ht.isList hs pl pu .none s_ ?_ (by rw[As_] <;> lia);rw[jf_,<-hlen];show⟨.ref s.heap.objs.size,_,I.laid (t':=s.toks) (o:=.lst (HS_ xs lo hi)) (λb ob q=>Al_ _ q) (Af_ _) ?_,rfl,q _ (I.hok.fresh (Af_ _))⟩;show⟨Am_ (li_ xs lo hi) hz,_,0,(r.drop (HT.sIx xs.length 0 lo)).take (HT.sIx xs.length xs.length hi-HT.sIx xs.length 0 lo),AA_ _ rfl⟩
def Hk_:V->Bool
 | .non=>true
 | .bl _=>true
 | .int _=>true
 | .str _=>true
 |_=>false
def eqV:V->V->Bool
 | .non,.non=>true
 | .bl a,.bl b=>a == b
 | .bl a,.int b=>(if a then 1 else 0)== b
 | .int a,.bl b=>a == (if b then 1 else 0)
 | .int a,.int b=>a == b
 | .str a,.str b=>a == b
 |_,_=>false
theorem rw_{A:Around}{s:Shared}{y x:V}{u v:Value}(ry:FY_ y u)(rx:FY_ x v)(fy:Hk_ y=true)(fx:Hk_ x=true):SeqAt.EqAt A s u v (eqV y x):=by
 cases y with
 |non =>
  cases ry;cases x with
  |non=>cases rx;show Dh_ _
  |bl b=>cases rx;show SeqAt.EqAt.none_bool b
  |int b=>obtain⟨t,rfl⟩:=rx;show SeqAt.EqAt.none_int b t
  |str b=>obtain⟨t,rfl⟩:=rx;show SeqAt.EqAt.none_str b t
  |_=>show absurd (show false=true from fx) AK_
 |bl a =>
  cases ry;cases x with
  |non=>cases rx;show SeqAt.EqAt.bool_none a
  |bl b=>cases rx;show EC_ a b
  |int b=>obtain⟨t,rfl⟩:=rx;show SeqAt.EqAt.bool_int a b t
  |str b=>obtain⟨t,rfl⟩:=rx;show SeqAt.EqAt.bool_str a b t
  |_=>show absurd (show false=true from fx) AK_
 |int a =>
  obtain⟨t',rfl⟩:=ry;cases x with
  |non=>cases rx;show SeqAt.EqAt.int_none a t'
  |bl b=>cases rx;show SeqAt.EqAt.int_bool a t' b
  |int b=>obtain⟨t,rfl⟩:=rx;show SeqAt.EqAt.int_int a t' b t
  |str b=>obtain⟨t,rfl⟩:=rx;show SeqAt.EqAt.int_str a t' b t
  |_=>show absurd (show false=true from fx) AK_
 |str a =>
  obtain⟨t',rfl⟩:=ry;cases x with
  |non=>cases rx;show SeqAt.EqAt.str_none a t'
  |bl b=>cases rx;show SeqAt.EqAt.str_bool a t' b
  |int b=>obtain⟨t,rfl⟩:=rx;show SeqAt.EqAt.str_int a t' b t
  |str b=>obtain⟨t,rfl⟩:=rx;show SeqAt.EqAt.str_str a t' b t
  |_=>show absurd (show false=true from fx) AK_
 |_=>show absurd (show false=true from fy) AK_
def eqU(x:V)(u:Value):Bool:=match u with
 | .none=>eqV .non x
 | .bool b=>eqV (.bl b) x
 | .int i _=>eqV (.int i) x
 | .str z _=>eqV (.str z) x
 |_=>false
theorem pN_{x y:V}{u:Value}(r:FY_ y u)(f:Hk_ y=true):eqU x u=eqV y x:=by
 cases y with
 |non=>cases r;rfl
 |bl b=>cases r;rfl
 |int i=>obtain⟨t,rfl⟩:=r;rfl
 |str z=>obtain⟨t,rfl⟩:=r;rfl
 |_=>show absurd (show false=true from f) AK_
theorem lk_{x:V}:∀{xs:List V}{us:List Value},FR_ xs us->xs.all Hk_=true->us.any (eqU x)=xs.any λy=>eqV y x
 |_,_,.nil,_=>rfl
 |y::xs,u::us,.cons r t,f=>by rw[EJ_,Cw_]at f;rw[CC_,CC_,pN_ r f.1,lk_ t f.2]
theorem jg_{A:Around}{s:Shared}{x:V}{v:Value}(rx:FY_ x v)(fx:Hk_ x=true):∀{xs:List V}{us:List Value},FR_ xs us->xs.all Hk_=true->∀u∈us,SeqAt.EqAt A s u v (eqU x u)
 |_,_,.nil,_=>λu hu=>by cases hu
 |y::xs,u::us,.cons r t,f=>λu' hu=>by
  rw[EJ_,Cw_]at f
  rcases Aq_.mp hu with rfl|hu
  .rw[pN_ r f.1];show rw_ r rx f.1 fx
  .show jg_ rx fx t f.2 u' hu
def inV(x:V)(xs:List V):Bool:=xs.any λy=>eqV y x
def rIn(K:PySem.W.Frag)(neg:Bool):R2:=λx y H Q=>∃p xs,y=.ref p/\(SqL K H p xs\/SqT K H p xs)/\Hk_ x=true/\xs.all Hk_=true/\Q (.bl (if neg then !inV x xs else inV x xs)) H
theorem kj_:OpR X (compareOp .NotIn) (rIn X.K true):=by
 intro pins s σ H x y v u Q I rx ry h;obtain⟨p,xs,rfl,hq,fx,fs,q⟩:=h;cases ry
 rcases hq with hq|hq
 .obtain⟨its,r,pl,hz⟩:=I.list hq;show SeqAt.notIn_listAt (eqU x) pl.isList (λw hw=>jg_ rx fx r fs w (by simpa using hw)) ⟨.bl _,H,I,rfl,?_⟩;rw[show its.toArray.any (eqU x)=its.any (eqU x) by simp,lk_ r fs];show q
 .obtain⟨its,r,pl,hz⟩:=I.tuple hq;show SeqAt.notIn_tupleAt (eqU x) pl (λw hw=>jg_ rx fx r fs w (by simpa using hw)) ⟨.bl _,H,I,rfl,?_⟩;rw[show its.toArray.any (eqU x)=its.any (eqU x) by simp,lk_ r fs];show q
theorem et_:Gz_ X (.builtin "len") (λxs H Q=>∃p ys,xs=[.ref p]/\(SqL X.K H p ys\/SqT X.K H p ys)/\Q (.int ys.length) H):=by
 intro pins s σ H xs us Q I r h;obtain⟨p,ys,rfl,hq,q⟩:=h;obtain⟨u,rfl,rx⟩:=G0_ r;cases rx;have hn:=H7_
 rcases hq with hq|hq
 .obtain⟨its,r',pl,hz⟩:=I.list hq;have hlen:=r'.length;show Calls.call_len_list pl.isList (by simp only[As_] <;> lia) ⟨.int ys.length,H,I.tok _,⟨s.toks+1,by rw[As_,hlen]⟩,q⟩
 .obtain⟨its,r',pl,hz⟩:=I.tuple hq;have hlen:=r'.length;show len_tuple pl (by simp only[As_] <;> lia) ⟨.int ys.length,H,I.tok _,⟨s.toks+1,by rw[As_,hlen]⟩,q⟩
theorem kk_:Gz_ X (.type "list") (λxs H Q=>∃p ys,xs=[.ref p]/\(SqL X.K H p ys\/SqT X.K H p ys)/\∀l,H l=none->Q (.ref l) (upd H l (.lst ys))):=by
 intro pins s σ H xs us Q I r h;obtain⟨p,ys,rfl,hq,q⟩:=h;obtain⟨u,rfl,rx⟩:=G0_ r;cases rx
 have fin:∀(its:List Value),FR_ ys its->ys.length<=sizeLine->∀(h':Heap)(c':Nat),(∀b o',s.heap.get? b=some o'->h'.get? b=some o') ->
   h'.get? s.heap.objs.size=some {cls:=.type "list",dict:=none,data:=.seq its.toArray c',slots:=#[]}->EP X pins σ Q (.ref s.heap.objs.size) {s with heap:=h'}:=λits r' hz h' c' kp e =>
  ⟨.ref s.heap.objs.size,_,I.laid (t':=s.toks) kp (Af_ _) (show Gc_ X.prog X.w _ h' _ (.lst ys)from⟨hz,its,c',r',e⟩),rfl,q _ (I.hok.fresh (Af_ _))⟩
 rcases hq with hq|hq
 .obtain⟨its,r',pl,hz⟩:=I.list hq;have hlen:=r'.length;obtain⟨o,ho,hc,n,hd⟩:=pl.isList;show call_list_seq p (.inl rfl) ho hc hd (λh' c' kp e=>fin its r' hz h' c' kp e) (by simp only[As_] <;> lia)
 .obtain⟨its,r',pl,hz⟩:=I.tuple hq;have hlen:=r'.length;obtain⟨o,ho,hc,n,hd⟩:=pl;show call_list_seq p (.inr rfl) ho hc hd (λh' c' kp e=>fin its r' hz h' c' kp e) (by simp only[As_] <;> lia)
def tyV(K:PySem.W.Frag)(T:String)(x:V)(H:Hp):Prop:=match x with
 | .str _=>T = "str"
 | .int _=>T = "int"
 | .ref p=>(T = "list" /\ ∃xs,SqL K H p xs)\/(T = "tuple" /\ ∃o,K.lookup p=some o/\o.cls=.type "tuple" /\ o.dict=none) \/
   (T = "dict" /\ ((∃kvs,H p=some (.dK kvs))\/∃kvs,H p=some (.dT kvs)))\/(T = "set" /\ ∃S n,H p=some (.set S n))
 |_=>False
theorem pO_{pins:List (Addr×Obj)}{σ:St}{H:Hp}{s:Shared}{T:String}{x:V}{v:Value}(I:Inv X pins σ H s)(r:FY_ x v)(ty:tyV X.K T x H):
  s.TypeIs v T/\∀a,v=.ref a->∃ob,s.heap.get? a=some ob/\ob.dict=none:=by
 cases x with
 |str z =>
  obtain⟨t,rfl⟩:=r;cases(show T = "str"from ty);show⟨typeIs_str s z t,λ_ e=>nomatch e⟩
 |int i =>
  obtain⟨t,rfl⟩:=r;cases(show T = "int"from ty);show⟨typeIs_int s i t,λ_ e=>nomatch e⟩
 |ref p =>
  cases r
  rcases ty with⟨rfl,xs,hq⟩|⟨rfl,o,hk,hc,hd⟩|⟨rfl,hk⟩|⟨rfl,S,n,hk⟩
  .obtain⟨its,_,pl,_⟩:=I.list hq;show⟨pl.isList.typeIs,λa e=>?_⟩;cases e;obtain⟨o,n,e,c,hd,_⟩:=pl;show⟨o,e,hd⟩
  .show⟨⟨o,I.kIn p o hk,hc⟩,λa e=>?_⟩;cases e;show⟨o,I.kIn _ o hk,hd⟩
  .have z:∃o,s.heap.get? p=some o/\o.ExactDict:=by
    rcases hk with⟨kvs,hk⟩|⟨kvs,hk⟩
    .obtain⟨_,_,_,_,o,_,_,e,ex,_⟩:=I.hok p _ hk;show⟨o,e,ex⟩
    .obtain⟨_,_,_,_,o,_,_,e,ex,_⟩:=I.hok p _ hk;show⟨o,e,ex⟩
   obtain⟨o,e,ex⟩:=z;show⟨⟨o,e,ex.1⟩,λa e2=>?_⟩;cases e2;show⟨o,e,ex.2.1⟩
  .obtain⟨o,_,_,_,e,ex,_⟩:=I.hok p _ hk;show⟨⟨o,e,ex.1⟩,λa e2=>?_⟩;cases e2;show⟨o,e,ex.2.1⟩
 |_=>show False.elim ty
def Mu_(K:PySem.W.Frag)(T:String)(r:V->List V->Hp->VK->Prop)(to:TE):TE:=λσ H Q=>to σ H λx H1=>tyV K T x H1/\r x [] H1 Q
def tBM(K:PySem.W.Frag)(T:String)(r:V->List V->Hp->VK->Prop)(to:TE)(t:TA):TE:=λσ H Q=>to σ H λx H1=>tyV K T x H1/\t σ H1 λxs H2=>r x xs H2 Q
variable {o e:Expr}{es:List Expr}{to:TE}{t:TA}{name:Str}{apos cpos:Pos}{T id:String}{r:V->List V->Hp->VK->Prop}
theorem rx_(pa:PlainAttrs T)(slot:Slot T name id)(hty:typeOf (.builtin id)=pure (.type "method_descriptor")) (hm:MtR X id r) (ho:PE X o to)
  (hbase:attributeBase o name X.env (eval o X.env)=eval o X.env:=by rfl) (hline:(apos.endLine == cpos.line)=true:=by rfl):PE X (.Call (.Attribute o name apos) [] [] cpos) (Mu_ X.K T r to):=by
 intro pins s σ H Q I h;show D2_ hbase hline (thn (ho pins s σ H _ I h) λv s1 ⟨x,H1,I1,r1,ty,q1⟩=>?_);obtain⟨h1,h2⟩:=pO_ I1 r1 ty;show⟨T,id,pa,slot,hty,h1,h2,Ce_ rfl (EN_ (hm pins s1 σ H1 x [] v [] Q I1 r1 .nil q1))⟩
theorem G5_(pa:PlainAttrs T)(slot:Slot T name id)(hty:typeOf (.builtin id)=pure (.type "method_descriptor")) (hm:MtR X id r) (ho:PE X o to) (ha:PA X (e::es) t)
  (hbase:attributeBase o name X.env (eval o X.env)=eval o X.env:=by rfl)
  (hfew:((backTo cpos (starEach (e::es) X.env)).all (λx=>!x.1) && (backToKw cpos (keywordEach [] X.env)).all (λx=>x.1.isSome)
   && decide ((e::es).length+([]:List Keyword).length+(if([]:List Keyword).isEmpty then 0 else 1)<30))=true:=by rfl)
  (hline:(apos.endLine == cpos.line)=true:=by rfl) (hs:starEach (e::es) X.env=(false,eval e X.env)::starEach es X.env:=by rfl) (hplain:(backTo cpos (starEach es X.env)).any (·.1)=false:=by rfl):
  PE X (.Call (.Attribute o name apos) (e::es) [] cpos) (tBM X.K T r to t):=by
 intro pins s σ H Q I h;show wpAny_Call_method_late hbase hfew hline rfl (thn (ho pins s σ H _ I h) λv s1 ⟨x,H1,I1,r1,ty,q1⟩=>?_);obtain⟨h1,h2⟩:=pO_ I1 r1 ty;show⟨T,id,pa,slot,hty,h1,h2,?_⟩;have hA:=ha cpos pins s1 σ H1 _ I1 q1;rw[hs]at hA⊢;show Ce_ (by change(false ||(backTo cpos (starEach es X.env)).any (·.1))=false;rw[hplain] <;> rfl) (ED_ ?_);show thn hA λus s2 ⟨vs,H2,I2,r2,q2⟩=>hm pins s2 σ H2 x vs v us Q I2 r1 r2 q2
end
def MtM(X:Cx)(id:String)(r:V->List V->Hp->VK->Prop):Prop :=
 ∀(pins:List (Addr×Obj))(s:Shared)(σ:St)(H:Hp)(x:V)(xs:List V)(v:Value)(us:List Value)(Q:VK),Inv X pins σ H s->FY_ x v->FR_ xs us->r x xs H Q ->
  wpAny (model X.prog X.w) X.A (call (.builtin id) (v::us)) (EP X pins σ Q) X.xe s
theorem FR_.one:∀{x:V}{us:List Value},FR_ [x] us->∃u,us=[u]/\FY_ x u
 |_,_,.cons r .nil=>⟨_,rfl,r⟩
theorem FR_.two:∀{x y:V}{us:List Value},FR_ [x,y] us->∃u v,us=[u,v]/\FY_ x u/\FY_ y v
 |_,_,_,.cons r (.cons q .nil)=>⟨_,_,rfl,r,q⟩
theorem FR_.dropLast{xs:List V}{us:List Value}(h:FR_ xs us):FR_ xs.dropLast us.dropLast:=by
 induction h with
 |nil=>show .nil
 |cons r t ih =>
  cases t with
  |nil=>show .nil
  |cons q t'=>show .cons r ih
theorem FR_.eraseIdx:∀{xs:List V}{us:List Value}(i:Nat),FR_ xs us->FR_ (xs.eraseIdx i) (us.eraseIdx i)
 |_,_,_,.nil=>.nil
 |_,_,0,.cons _ t=>t
 |_,_,i+1,.cons r t=>.cons r (FR_.eraseIdx i t)
theorem FR_.reverse{xs:List V}{us:List Value}(h:FR_ xs us):FR_ xs.reverse us.reverse:=by
 induction h with
 |nil=>show .nil
 |cons r t ih=>rw[List.reverse_cons,List.reverse_cons];show FR_.append ih (.cons r .nil)
theorem kl_{α:Type}:∀(l:List α)(i:Nat),(l.eraseIdx i).length<=l.length
 |[],_=>Af_ _
 |_::_,0=>Ei_ _
 |_::r,i+1=>BZ_ (kl_ r i)
variable {X:Cx}{pins:List (Addr×Obj)}{σ:St}{H:Hp}{s:Shared}{l b:Addr}{xs ys zs:List V}
theorem Inv.lset{its its':List Value}{n:Nat}{f:Array Value->Array Value}{t':Nat}(I:Inv X pins σ H s)(hH:H l=some (.lst xs))
  (e:s.heap.get? l=some {cls:=.type "list",data:=.seq its.toArray n}) (hf:f its.toArray=its'.toArray) (hv:FR_ ys its') (hz:ys.length<=sizeLine):
  Inv X pins σ (upd H l (.lst ys)) {s with heap:=s.heap.update l (Obj.mapSeq f),toks:=t'}:=by
 have q:=PySem.IsL.update e f;rw[hf]at q;show I.write (x:=l) (e:=l) (by rw[hH];show trivial) (.inl rfl) (λb' u hb hu=>(BU_ s.heap (Obj.mapSeq f) (Ne.symm hb)).trans hu) ⟨_,q⟩ ?_;show⟨hz,its',_,hv,q⟩
theorem Inv.lnew{its:List Value}{t':Nat}(I:Inv X pins σ H s)(hv:FR_ ys its)(hz:ys.length<=sizeLine):
  Inv X pins σ (upd H s.heap.objs.size (.lst ys)) {s with heap:=s.heap.push {cls:=.type "list",data:=.seq its.toArray},toks:=t'} :=
 I.laid (λ_ _ q=>Al_ _ q) (Af_ _) ⟨hz,its,0,hv,AA_ _ rfl⟩
theorem Inv.fresh(I:Inv X pins σ H s):H s.heap.objs.size=none:=I.hok.fresh (Af_ _)
theorem Inv.lstM(I:Inv X pins σ H s)(hH:H l=some (.lst xs)):xs.length<=sizeLine/\∃(its:List Value)(n:Nat),FR_ xs its/\xs.length=its.length/\s.heap.get? l=some {cls:=.type "list",data:=.seq its.toArray n}:=by obtain⟨z,its,n,r,e⟩:=I.hok l _ hH;show⟨z,its,n,r,r.length,e⟩
def I9_:V->List V->Hp->VK->Prop:=λx vs H Q=>onR x λl=>∃xs,on1 vs λy=>H l=some (.lst xs)/\xs.length<sizeLine/\Q .non (upd H l (.lst (xs++[y])))
theorem bA_:MtM X "list.append" I9_:=by intro pins s σ H x vs v us Q I rx rv h;obtain⟨l,rfl,xs,h1⟩:=er_ h;clear h;obtain⟨y,rfl,hH,hz,q⟩:=l5_ h1;cases rx;obtain⟨u,rfl,ru⟩:=rv.one;obtain⟨z,its,n,r,hl,e⟩:=I.lstM hH;show DK_ F.slot_list_append ⟨_,e,rfl⟩ F.entry_list_append (F.args_list_append_2 _ _) (PySem.list_append l its.toArray n u (by rw[As_];lia)) ⟨e,?_⟩;show⟨.non,_,I.lset (its':=its++[u]) hH e s_ (r.append (.cons ru .nil)) ?_,rfl,q⟩;rw[At_,Cn_];lia
def Kk_:V->List V->Hp->VK->Prop:=λx vs H Q=>∃l b xs zs,x=.ref l/\vs=[.ref b]/\H l=some (.lst xs)/\H b=some (.lst zs)/\xs.length+zs.length<=sizeLine/\Q .non (upd H l (.lst (xs++zs)))
def rPop:V->List V->Hp->VK->Prop:=λx vs H Q=>∃l xs y,x=.ref l/\vs=[]/\H l=some (.lst xs)/\xs[xs.length-1]?=some y/\Q y (upd H l (.lst xs.dropLast))
def Kb_:V->List V->Hp->VK->Prop:=λx vs H Q=>∃l xs i k y,x=.ref l/\vs=[.int i]/\H l=some (.lst xs) /\ -(2 ^ 63)<=i/\i<2 ^ 63/\seqIndex? i xs.length=some k/\xs[k]?=some y/\Q y (upd H l (.lst (xs.eraseIdx k)))
theorem oX_:MtM X "list.pop" Kb_:=by
 intro pins s σ H x vs v us Q I rx rv h;obtain⟨l,xs,i,k,y,rfl,rfl,hH,h1,h2,hk,hy,q⟩:=h;cases rx;obtain⟨u,rfl,ru⟩:=rv.one;obtain⟨t,rfl⟩:=ru;obtain⟨z,its,n,r,hl,e⟩:=I.lstM hH;obtain⟨w,hw,rw'⟩:=r.get hy
 show DK_ F.slot_list_pop ⟨_,e,rfl⟩ F.entry_list_pop (F.args_list_pop_2 _ _)
  (MeetsSeq.list_pop_at l its.toArray n i t k w (fitsIndex_both h1 h2) (by rw[As_,<-hl];show hk) (by rw[<-Array.getElem?_toList];show hw) (by rw[As_];lia)) ⟨e,?_⟩
 show⟨y,_,I.lset (its':=its.eraseIdx k) hH e ?_ (r.eraseIdx k) ?_,rw',q⟩
 .change its.toArray.eraseIdxIfInBounds k=(its.eraseIdx k).toArray;rw[E5_]
 .have:=kl_ xs k;lia
def Jx_:V->List V->Hp->VK->Prop:=λx vs H Q=>∃l xs,x=.ref l/\vs=[]/\H l=some (.lst xs)/\Q .non (upd H l (.lst xs.reverse))
def K4_:V->List V->Hp->VK->Prop:=λx vs H Q=>∃l xs,x=.ref l/\vs=[]/\H l=some (.lst xs)/\Q .non (upd H l (.lst []))
def MW_:R2:=λx y H Q=>∃l b xs zs,x=.ref l/\y=.ref b/\H l=some (.lst xs)/\H b=some (.lst zs)/\xs.length+zs.length<=sizeLine/\∀p,H p=none->Q (.ref p) (upd H p (.lst (xs++zs)))
theorem fL_:OpR X (binaryOp .Add) MW_:=by
 intro pins s σ H x y v u Q I rx ry h;obtain⟨l,b,xs,zs,rfl,rfl,hH,hB,hz,q⟩:=h;cases rx;cases ry;obtain⟨z,its,n,r,hl,e⟩:=I.lstM hH;obtain⟨z2,its2,n2,r2,hl2,e2⟩:=I.lstM hB;show PySem.P.add_list e e2 ?_ (by rw[As_,As_];lia);have ea:its.toArray++its2.toArray=(its++its2).toArray:=s_
 rw[ea];show⟨.ref _,_,I.lnew (t':=s.toks) (r.append r2) (by rw[At_];lia),rfl,q _ I.fresh⟩
variable {prog:Program}{w:World}{A:Around}{E:Value->Shared->Prop}
end L2
namespace Att
open PySem PySem.W PySem.Calls PyProof.Rows
theorem hD_{P:Params}{h:Heap}:∀(ns:List Int)(vs:List Value),WellAll P h vs (ns.map WData.int)->IntsAre vs ns:=by
 intro ns
 induction ns with
 |nil =>
  intro vs w;rw[CO_]at w;cases w;show .nil
 |cons n ns ih =>
  intro vs w;rw[Av_]at w;cases w with
  |cons a b =>
   cases a;show .cons _ _ (ih _ b)
theorem nC_{l:OpenLaw}{n:Nat}(hn:l.most=some n){P:Params}{h:Heap}{args:List WData}{vals:List Value}
  (hpre:l.row.toRowW.claim.pre args=true) (hwl:WellAll P h vals args):
  ∃a vs ns,vals=[Value.ref a]/\args=[WData.list (ns.map WData.int)]/\h.get? a=some {cls:=.type "list",data:=.seq vs.toArray}/\IntsAre vs ns/\ns.length<=n:=by
 have hsh:WShape.hasAll [] args [.list .int]=true:=(pre_splitW hpre).1;have hc:l.pre.holds [] {args:=args}=true:=(pre_splitW hpre).2;obtain⟨d,r,rfl,h1,h2⟩:=hasAllW_cons hsh;obtain rfl:=hasAllW_nil h2;obtain⟨xs,rfl,h3⟩:=hasW_list h1;obtain⟨ns,rfl⟩:=items_int h3
 have hlen:ns.length<=n:=by
  unfold OpenLaw.pre at hc;have h4:(WTm.not (.lt (.lit (.int (n:Int))) (.len (.arg 0)))).holds [] {args:=[.list (ns.map .int)]}=true:=by have h4:=(holds_andW hc).1;rw[hn]at h4;show h4
  have h5:=condW_of h4 (w_not (w_lt w_lit (w_len_list (w_arg rfl))));rw[Ab_]at h5;show Nat.le_of_not_lt λq=>?_;have q':(n:Int)<((ns.length:Nat):Int):=o_
  first
   | (rw[BQ_ q']at h5;show absurd h5 d_)
   | (simp at h5;lia)
 cases hwl with
 |cons w1 w2 =>
  cases w2;cases w1 with
  |list ho hall=>show⟨_,_,ns,rfl,rfl,ho,hD_ ns _ hall,hlen⟩
theorem nD_(l:OpenLaw)(args:List WData):l.row.toRowW.claim.post args (.bool true) args=true :=
 postW_of (r:=l.row.toRowW) (X:=(true == true))
  (show WShape.has [] (.bool true) .bool=true by first|rfl|decide|simp[WShape.has,WShape.arms,WShape.armsAll])
  (show(WTm.eq .res (.lit (.bool true))).value [] {args:=args,res:=some (.bool true),after:=args}=some (.bool (true == true))from w_eq_bool (w_res rfl) w_lit) rfl
theorem attach_call{l:OpenLaw}{n:Nat}{q:Program}{loose:List Str}{XP:(Str->Option Value)->Heap->Prop}{YP:World->Heap->Prop}{d:DefRec}
  (hn:l.most=some n) (hdf:d.params.defaults=[])
  (call:∀(w:World)(s₀ s₁:Shared)(mg mb:Str->Option Value)(fa:Addr)(o:Obj)(pm cd doc:Value)(a:Addr)(vs:List Value)(ns:List Int),
   Ground q loose [] XP w s₀ mg mb s₁.heap->YP w s₁.heap ->
   s₁.heap.get? fa=some o->o.data=.func (docDef d.name d.params d.body d.scope pm cd doc)->s₁.heap.CodeRec cd d.name->mg d.name=some (.ref fa) ->
   s₁.heap.get? a=some {cls:=.type "list",data:=.seq vs.toArray}->IntsAre vs ns->ns.length<=n->s₁.gens = #[] ->
   codeAny (model l.prog w) callerA (.call (.ref fa) ⟨[.ref a],[]⟩) (λr s'=>r=.ok (.ret (.bool true))/\OldK s₁.heap s'.heap/\s'.os=s₁.os/\AllBare s'.gens) s₁):
  WalkO q loose XP YP l.row.toRowW d [] (λf vs=>PySem.call f vs):=by
 intro w s₀ s₁ mg mb G Y fa o pm cd doc dV kV ho hd hcd hD hmg hg args vals as hpre hlay hrd hwl hlo;obtain rfl:dV=.none:=Dflts.none hD hdf;obtain rfl:kV=.none:=Dflts.noKw hD;obtain⟨a,vs,ns,rfl,rfl,hobj,hints,hlen⟩:=nC_ hn hpre hwl;show enter_call (Dg_ (call w s₀ s₁ mg mb fa o pm cd doc a vs ns G Y ho (fd_plain hd) hcd hmg hobj hints hlen hg) λr s' hq=>?_);obtain⟨rfl,h2,h3,h4⟩:=hq;show⟨.inl ⟨.bool true,.bool true,[],rfl,λ_=>rfl,.bool true,nD_ l _,λ_=>⟨List.Pairwise.nil,λ_ hm=>(nomatch hm)⟩⟩,h2,h3,h4⟩
variable {prog:Program}{w:World}{A:Around}{E:Value->Shared->Prop}{s:Shared}{K:Frag}
end Att
namespace L2
open PySem PySem.Spec PyProof.Rows
theorem km_:∀{vs:List Value}{ns:List Int},IntsAre vs ns->FR_ (ns.map V.int) vs
 |_,_,.nil=>.nil
 |_,_,.cons n t h=>.cons ⟨t,rfl⟩ (km_ h)
def Md_(H:Hp):Prop:=∀b,H b=none\/∃o xs,H b=some (.frz o (.lst xs))
theorem oY_{P:Program}{w:World}{K:PySem.W.Frag}{mg mb:Str->Option Value}{CX:CXT}{k:Nat}{fa a:Addr}{fd:FuncData}{x:Str}{sp:Sp}{s₁:Shared}{vs:List Value}{ns:List Int}
  (KX:K.In s₁.heap) (hns:s₁.heap.Ns mainGlobals mg) (hb:s₁.heap.Ns builtinsNs mb) (hbb:∀x:Str,x ≠ "__name__" -> mb x=bootBuiltins x) (hlim:s₁.heap.NoLimit) (hg:s₁.gens = #[])
  (ha:s₁.heap.get? a=some {cls:=.type "list",data:=.seq vs.toArray}) (hi:IntsAre vs ns) (hl:ns.length<=sizeLine) (hr:HD_ k callerA)
  (F:∀base:Heap,K.In base->base.Ns mainGlobals mg->Jp_ P w K mg base CX k fa fd [x] sp) (hbind:∀(s:Shared)(u:Value),BindsTo s fd ⟨[u],[]⟩ [(x,u)])
  (hsp:∀H:Hp,Md_ H->SqL K H a (ns.map V.int)->sp [.ref a] H (λv _=>v=.bl true) λ_ _ _=>False)
  (hCX:∀H e s',CX [] H s₁ (λ_ _ _=>False) e s'->False):
  codeAny (model P w) callerA (.call (.ref fa) ⟨[.ref a],[]⟩) (λr s'=>r=.ok (.ret (.bool true))/\OldK s₁.heap s'.heap/\s'.os=s₁.os/\AllBare s'.gens) s₁:=by
 have rv:=km_ hi;have lenV:=hi.length
 have core:∀H:Hp,Md_ H->SqL K H a (ns.map V.int)->HOk P w H s₁.heap->(∀b,H b≠none->b=a)->(H a≠none->K.lookup a=none) ->
   codeAny (model P w) callerA (.call (.ref fa) ⟨[.ref a],[]⟩) (λr s'=>r=.ok (.ret (.bool true))/\OldK s₁.heap s'.heap/\s'.os=s₁.os/\AllBare s'.gens) s₁:=by
  intro H hO hS hok hA hK;have base_of:∀{b:Addr}{o:Obj},s₁.heap.get? b=some o->H b=none->(Jt_ s₁.heap H).get? b=some o:=λe n=>oU_ e n
  have noA:∀{b:Addr}{o:Obj}{es:Array DictEntry}{ep:Nat},s₁.heap.get? b=some o->o.data=.dict es ep->H b=none:=λ{b o es ep} e d=>by
   cases q:H b with
   |none=>rfl
   |some u =>have e':b=a:=hA b (by rw[q];simp);subst e';rw[ha]at e;cases e;have d':Data.seq vs.toArray _=Data.dict es ep:=d;cases d'
  have nsK:∀{b:Addr}{m:Str->Option Value},s₁.heap.Ns b m->(Jt_ s₁.heap H).Ns b m:=λ{b m} ⟨o,es,ep,e,d,r⟩=>⟨o,es,ep,base_of e (noA e d),d,r⟩
  have hKb:K.In (Jt_ s₁.heap H):=λb o e=>base_of (KX b o e) (by
   cases q:H b with
   |none=>rfl
   |some u =>have e':b=a:=hA b (by rw[q];simp);subst e';rw[hK (by rw[q];simp)]at e;cases e)
  have hM:Mod K mg (Jt_ s₁.heap H):=⟨hKb,nsK hns,⟨mb,nsK hb,hbb⟩,let⟨mc,h1,h2⟩:=hlim;⟨mc,nsK h1,h2⟩⟩;have e0:LX_ P w K mg (Jt_ s₁.heap H) callerA [] s₁ H:=⟨rfl,hM,λb o e=>qh_ e,Fh_ (nh_ _ _),trivial,λb hb=>absurd (show b∈([]:List Addr)from hb) s_,hok,.of_eq hg⟩;show Dg_ ((F _ hKb (nsK hns)).run callerA [] s₁ H ⟨[.ref a],[]⟩ [.ref a] [.ref a] _ _ hr e0 (hbind s₁ (.ref a)) (.cons rfl .nil) (hsp H hO hS)) λr s' h=>?_;cases r with
  |error e=>show(hCX H e s' h).elim
  |ok fl =>
   cases fl with
   |next=>show False.elim h
   |brk=>show False.elim h
   |cont=>show False.elim h
   |ret u =>
    obtain⟨v,H',os,bare,un,hok',r',q⟩:=h;have q':v=.bl true:=q;subst q';obtain rfl:u=Value.bool true:=r';show⟨rfl,OldK.of_keep λb o e=>?_,os,bare⟩;cases q:H b with
    |none=>show un.keep b o e q (by intro z;show absurd (show b∈([]:List Addr)from z) s_) s_
    |some u =>
     rcases hO b with z|⟨ob,xs,z⟩
     .rw[q]at z;cases z
     .have z2:=un.frzs b ob _ z;obtain⟨e1,_⟩:=hok b _ z;obtain⟨e2,_⟩:=hok' b _ z2;rw[e]at e1;cases e1;show e2
 cases hk:K.lookup a with
 |some o =>
  have e:=KX a o hk;rw[ha]at e;cases e;show core (λ_=>none) (λ_=>.inl rfl) (.inr ⟨_,vs.toArray,_,hk,rfl,rfl,rfl,by rw[As_,lenV];show hl,by simpa using rv⟩) (λb u z=>by have z':(none:Option HO)=some u:=z;cases z') (λb z=>absurd rfl z) λz=>absurd rfl z
 |none =>
  show core (λb=>if b=a then some (.frz {cls:=.type "list",data:=.seq vs.toArray} (.lst (ns.map V.int)))else none) (λb=>?_) (.inl (.inr ⟨{cls:=.type "list",data:=.seq vs.toArray},if_pos rfl⟩)) (λb u z=>?_) (λb z=>?_) λ_=>hk
  .by_cases hb:b=a
   .show .inr ⟨_,_,if_pos hb⟩
   .show .inl (if_neg hb)
  .by_cases hb:b=a
   .have z':=(if_pos hb).symm.trans z;cases z';subst hb;show⟨ha,by rw[Ab_];show hl,vs,_,rv,ha⟩
   .have z':=(if_neg hb).symm.trans z;cases z'
  .by_cases hb:b=a
   .show hb
   .show absurd (if_neg hb) z
theorem qo_{l:PySem.W.OpenLaw}{n k:Nat}{q:Program}{loose:List Str}{XP:(Str->Option Value)->Heap->Prop}{YP:World->Heap->Prop}{d:DefRec}{K:Params->PySem.W.Frag}{CX:World->CXT}{sp:World->Sp}{x:Str}
  (hn:l.most=some n) (hn2:n<=sizeLine) (hdf:d.params.defaults=[]) (hr:HD_ k callerA)
  (hY:∀(w:World)(h:Heap),YP w h->(K w.params).In h)
  (F:∀(w:World)(mg:Str->Option Value)(fa:Addr)(h:Heap),(K w.params).In h->h.Ns mainGlobals mg->mg d.name=some (.ref fa) ->
   ∃fd:FuncData,(∀(s:Shared)(u:Value),BindsTo s fd ⟨[u],[]⟩ [(x,u)]) /\
    ∀base:Heap,(K w.params).In base->base.Ns mainGlobals mg->Jp_ l.prog w (K w.params) mg base (CX w) k fa fd [x] (sp w))
  (hsp:∀(w:World)(H:Hp)(a:Addr)(ns:List Int),ns.length<=n->Md_ H->SqL (K w.params) H a (ns.map V.int)->sp w [.ref a] H (λv _=>v=.bl true) λ_ _ _=>False)
  (hCX:∀(w:World)(H:Hp)(s:Shared)(e:Value)(s':Shared),CX w [] H s (λ_ _ _=>False) e s'->False):
  PySem.W.WalkO q loose XP YP l.row.toRowW d [] (λf vs=>PySem.call f vs):=by
 show Att.attach_call hn hdf λw s₀ s₁ mg mb fa o pm cd doc a vs ns G Y ho hd hcd hmg hobj hints hlen hg=>?_;have KX:=hY w _ Y;obtain⟨fd,hb,hF⟩:=F w mg fa _ KX G.T.g hmg;show oY_ KX G.T.g G.T.b G.T.builtins G.T.nolimit hg hobj hints (Am_ hlen hn2) hr hF hb (λH hO hS=>hsp w H a ns hlen hO hS) λH e s'=>hCX w H s₁ e s'
def Hf_(s:Stmt):Arguments:=match s with
 | .FunctionDef _ a _ _ _ _ _ _ _ _=>a
 |_=>{posonlyargs:=[],args:=[],vararg:=none,kwonlyargs:=[],kw_defaults:=[],kwarg:=none,defaults:=[]}
def GP_(s:Stmt):List Stmt:=match s with
 | .FunctionDef _ _ b _ _ _ _ _ _ _=>b
 |_=>[]
def Fn_(s:Stmt):Scope:=match s with
 | .FunctionDef _ _ _ _ _ _ sc _ _ _=>sc
 |_=>{kind:=.function,names:=[],isGenerator:=false,isCoroutine:=false}
abbrev CX0:CXT:=λ_ _ _ _ _ _=>False
abbrev E0:XK:=λ_ _ _=>False
theorem Mm_{X:Cx}:Ja_ CX0 X E0:=λ_ _ _ _ _ _ _ h=>h.elim
structure Fun(K:PySem.W.Frag)(x qual:Str)(st:Stmt)(f:Addr)(fd:FuncData):Prop where
 ex:∃(oc:Value)(od:Option Addr)(kV doc pm:Value)(an:Option Addr)(cdv ct:Value)(osl:Array (Option Value)),
  fd=PySem.W.fnOf x qual (Hf_ st) (GP_ st) (Fn_ st) .none kV doc pm an cdv ct/\K.lookup f=some ⟨oc,od,.func fd,osl⟩/\PySem.W.codeIn K cdv qual=true
 kp:PySem.W.keepIn K (.ref f)=true
variable {P:Program}{w:World}{K:PySem.W.Frag}{mg:Str->Option Value}{base:Heap}
theorem Fun.ok{x qual:Str}{st:Stmt}{f:Addr}{fd:FuncData}{N ps:List Str}{k:Nat}{sp:Sp}(F:Fun K x qual st f fd)(S:Ft_ N ps (Fn_ st))(len:∀vs H Q E,sp vs H Q E->vs.length=ps.length)
  (hbody:∀(cdv:Value)(A:Around)(outer:List Env)(s:Shared)(H:Hp)(vs:List V)(Q:VK)(E:XK),HD_ k (A.deeper (envOfC qual (Fn_ st) s.heap.objs.size f cdv))->sp vs H Q E ->
   ∃t,PSs (J3_ CX0 P w K mg base N qual (Fn_ st) f cdv A outer s H E).nox (GP_ st) t/\t {nx:=λ_ H'=>Q .non H',rt:=Q} (start N vs) H):Jp_ P w K mg base CX0 (k+1) f fd ps sp:=by
 obtain⟨oc,od,kV,doc,pm,an,cdv,ct,osl,rfl,lk,hcd⟩:=F.ex;show Mf_ lk hcd S len λA outer s H vs Q E hr hsp=>?_;obtain⟨t,h,q⟩:=hbody cdv A outer s H vs Q E hr hsp;show⟨t,h.nox,q⟩
theorem Fun.binds{x qual:Str}{st:Stmt}{f:Addr}{fd:FuncData}{ps:List Str}(F:Fun K x qual st f fd)
  (h:∀(kV doc pm:Value)(an:Option Addr)(cdv ct:Value)(us:List Value),us.length=ps.length->bindArgs (PySem.W.fnOf x qual (Hf_ st) (GP_ st) (Fn_ st) .none kV doc pm an cdv ct) ⟨us,[]⟩=pure (ps.zip us)):IF_ K fd ps []:=by
 obtain⟨oc,od,kV,doc,pm,an,cdv,ct,osl,rfl,lk,hcd⟩:=F.ex;show .all (h kV doc pm an cdv ct)
theorem ry_{x qual:Str}{st:Stmt}{f:Addr}{oc:Value}{od an:Option Addr}{osl:Array (Option Value)}{kV doc pm cdv ct:Value}(l:K.lookup f=some ⟨oc,od,.func (PySem.W.fnOf x qual (Hf_ st) (GP_ st) (Fn_ st) .none kV doc pm an cdv ct),osl⟩)
  (c:PySem.W.codeIn K cdv qual=true) (k:PySem.W.keepIn K (.ref f)=true):Fun K x qual st f (PySem.W.fnOf x qual (Hf_ st) (GP_ st) (Fn_ st) .none kV doc pm an cdv ct):=⟨⟨oc,od,kV,doc,pm,an,cdv,ct,osl,rfl,l,c⟩,k⟩
theorem Fq_{n:Nat}(h:n<=1000):n<sizeLine:=BF_ h d_
variable {X:Cx}
theorem ite2{c A B:Prop}[Decidable c](h1:c->A)(h2:¬ c->B):if c then A else B:=by
 by_cases h:c
 .rw[if_pos h];show h1 h
 .rw[if_neg h];show h2 h
def Fo_(H H':Hp):Prop:=∀b o,H b=some o->H' b=some o
theorem Fo_.refl(H:Hp):Fo_ H H:=λ_ _ h=>h
theorem Fo_.trans{H H1 H2:Hp}(a:Fo_ H H1)(b:Fo_ H1 H2):Fo_ H H2:=λc o h=>b c o (a c o h)
variable{H':Hp}
theorem Fo_.free{H:Hp}(e:Fo_ H H'){l:Addr}(h:H' l=Option.none):H l=Option.none:=by
 cases q:H l with
 |none=>rfl
 |some o =>rw[e l o q]at h;cases h
theorem Fo_.seq{H:Hp}{a:Addr}{xs:List V}(e:Fo_ H H')(h:SqL K H a xs):SqL K H' a xs:=by
 rcases h with(h|⟨o,h⟩)|h
 .show .inl (.inl (e _ _ h))
 .show .inl (.inr ⟨o,e _ _ h⟩)
 .show .inr h
def Hw_(H:Hp):V->Option String
 | .non=>some "NoneType"
 | .bl _=>some "bool"
 | .int _=>some "int"
 | .str _=>some "str"
 | .ref p=>match H p with
  |some (.lst _)=>some "list"
  |some (.tup _)=>some "tuple"
  |_=>none
 |_=>none
def My_(a b:String):Bool:=a == b ||(a == "bool" && b == "int")
def HC_(T:String):Prop:=T = "int" \/ T = "bool" \/ T = "tuple" \/ T = "list" \/ T = "str"
theorem jh_:Gz_ X (.builtin "isinstance") (λxs H Q=>∃x T k,xs=[x,.ty T]/\HC_ T/\Hw_ H x=some k/\Q (.bl (My_ k T)) H):=by
 intro pins s σ H xs us Q I r h;obtain⟨x,T,k,rfl,hT,hk,q⟩:=h;obtain⟨u,w',rfl,rx,ry⟩:=Hl_ r;cases(show w'=Value.type T from ry);have fin:∀{b:Bool}{s':Shared},b=My_ k T->Inv X pins σ H s'->EP X pins σ Q (.bool b) s':=λ{b s'} e J=>⟨.bl b,H,J,rfl,by rw[e];show q⟩;cases x with
 |non =>
  cases(show u=Value.none from rx);cases hk
  rcases hT with rfl|rfl|rfl|rfl|rfl
  .show IsiPair.NoneType_int (fin d_ (I.tok _))
  .show IsiPair.NoneType_bool (fin d_ (I.tok _))
  .show IsiPair.NoneType_tuple (fin d_ (I.tok _))
  .show IsiPair.NoneType_list (fin d_ (I.tok _))
  .show IsiPair.NoneType_str (fin d_ (I.tok _))
 |bl b =>
  cases(show u=Value.bool b from rx);cases hk
  rcases hT with rfl|rfl|rfl|rfl|rfl
  .show IsiPair.bool_int (fin d_ I)
  .show IsiPair.bool_bool (fin d_ I)
  .show IsiPair.bool_tuple (fin d_ (I.tok _))
  .show IsiPair.bool_list (fin d_ (I.tok _))
  .show IsiPair.bool_str (fin d_ (I.tok _))
 |int i =>
  obtain⟨t,rfl⟩:=(show ∃t,u=Value.int i t from rx);cases hk
  rcases hT with rfl|rfl|rfl|rfl|rfl
  .show IsiPair.int_int (fin d_ I)
  .show IsiPair.int_bool (fin d_ (I.tok _))
  .show IsiPair.int_tuple (fin d_ (I.tok _))
  .show IsiPair.int_list (fin d_ (I.tok _))
  .show IsiPair.int_str (fin d_ (I.tok _))
 |str z =>
  obtain⟨t,rfl⟩:=(show ∃t,u=Value.str z t from rx);cases hk
  rcases hT with rfl|rfl|rfl|rfl|rfl
  .show IsiPair.str_int (fin d_ (I.tok _))
  .show IsiPair.str_bool (fin d_ (I.tok _))
  .show IsiPair.str_tuple (fin d_ (I.tok _))
  .show IsiPair.str_list (fin d_ (I.tok _))
  .show IsiPair.str_str (fin d_ I)
 |ref p =>
  cases(show u=Value.ref p from rx);cases e:H p with
  |none=>simp[Hw_,e]at hk
  |some o =>
   cases o with
   |lst ys =>
    have hk':k = "list" := by simp[Hw_,e]at hk;show hk.symm
    subst hk';obtain⟨its,n,rr,ho,hz⟩:=I.lst e
    rcases hT with rfl|rfl|rfl|rfl|rfl
    .show IsiPair.list_int ho rfl (fin d_ (I.tok _))
    .show IsiPair.list_bool ho rfl (fin d_ (I.tok _))
    .show IsiPair.list_tuple ho rfl (fin d_ (I.tok _))
    .show IsiPair.list_list ho rfl (fin d_ I)
    .show IsiPair.list_str ho rfl (fin d_ (I.tok _))
   |tup ys =>
    have hk':k = "tuple" := by simp[Hw_,e]at hk;show hk.symm
    subst hk';obtain⟨its,rr,⟨ob,ho,hc,_⟩,hz⟩:=I.tuple (xs:=ys) (.inl (.inl e))
    rcases hT with rfl|rfl|rfl|rfl|rfl
    .show IsiPair.tuple_int ho hc (fin d_ (I.tok _))
    .show IsiPair.tuple_bool ho hc (fin d_ (I.tok _))
    .show EP_ ho hc (fin d_ I)
    .show IsiPair.tuple_list ho hc (fin d_ (I.tok _))
    .show IsiPair.tuple_str ho hc (fin d_ (I.tok _))
   |_=>simp[Hw_,e]at hk
 |_=>cases hk
def KM_:V->List V->Hp->VK->Prop:=λx xs H Q=>∃i,x=.int i/\xs=[]/\Q (.int (Builtin.Int.intBits i:Nat)) H
theorem qp_:MtR X "int.bit_length" KM_:=by intro pins s σ H x xs v us Q I rx rs h;obtain⟨i,rfl,rfl,q⟩:=h;obtain⟨t,rfl⟩:=rx;cases rs;show call_gives F.slot_int_bit_length (typeIs_int s i t) F.entry_int_bit_length (F.args_int_bit_length_1 _) (AutoIntG2.int_bit_length_int_0 i t) ⟨.int (Builtin.Int.intBits i:Nat),H,I.tok _,⟨_,rfl⟩,q⟩
def KU_(i j:Int):Prop:=Builtin.Int.intBits i+Builtin.Int.intBits j<=134217728
theorem a0_:OpR X (binaryOp .Mult) (rI KU_ λi j=>.int (i*j)):=opI λi j _ _ _ _ _ hc q=>mul_int q (mulOk_of_bits (Af_ _) (Af_ _) hc)
def KR_(i j:Int):Prop:=0<j/\j.natAbs.log2<9000
theorem av_:OpR X (binaryOp .FloorDiv) (rI KR_ λi j=>.int (i/j)):=opI λi j _ _ _ _ _ hc q=>by have h1:(0:Int)<j:=hc.1;show floordiv_int o_ (by rw[Int.fdiv_eq_ediv_of_nonneg i o_];show q) (.inl (CQ_ hc.2))
def Li_(i j:Int):Prop:=j≠0/\j.natAbs.log2<9000
theorem ji_:OpR X (binaryOp .FloorDiv) (rI Li_ λi j=>.int (i.fdiv j)):=opI λi j _ _ _ _ _ hc q =>floordiv_int hc.1 q (.inl (CQ_ hc.2))
def MR_:List V->List V->Bool
 |[],[]=>true
 |x::xs,y::ys=>eqV x y && MR_ xs ys
 |_,_=>false
def Fn0(K:PySem.W.Frag)(mg:Str->Option Value)(x:Str)(st:Stmt):Prop:=∃f fd,Fun K x x st f fd/\mg x=some (.ref f)
theorem rz_{K:PySem.W.Frag}{mg:Str->Option Value}{h:Heap}(X:K.In h)(G:h.Ns mainGlobals mg){x:Str}{st:Stmt}{f:Addr}{oc:Value}{od an:Option Addr}{osl:Array (Option Value)}{kV doc pm cdv ct:Value}
  (a:PySem.W.nsIn K mainGlobals x=some (some (.ref f))) (l:K.lookup f=some ⟨oc,od,.func (PySem.W.fnOf x x (Hf_ st) (GP_ st) (Fn_ st) .none kV doc pm an cdv ct),osl⟩) (c:PySem.W.codeIn K cdv x=true) (k:PySem.W.keepIn K (.ref f)=true):Fn0 K mg x st :=
 ⟨f,_,ry_ l c k,EK_ X G a⟩
def Cal(P:Program)(w:World)(K:PySem.W.Frag)(mg:Str->Option Value)(base:Heap)(x:Str)(ps:List Str)(k:Nat)(sp:Sp):Prop :=
 ∃f fd,mg x=some (.ref f)/\PySem.W.keepIn K (.ref f)=true/\IF_ K fd ps []/\Jp_ P w K mg base CX0 k f fd ps sp
theorem aB_{P:Program}{w:World}{K:PySem.W.Frag}{mg:Str->Option Value}{base:Heap}{x:Str}{st:Stmt}{N ps:List Str}{k:Nat}{sp:Sp}(F:Fn0 K mg x st)(S:Ft_ N ps (Fn_ st))
  (hbody:∀(f:Addr)(cdv:Value)(A:Around)(outer:List Env)(s:Shared)(H:Hp)(vs:List V)(Q:VK)(E:XK),HD_ k (A.deeper (envOfC x (Fn_ st) s.heap.objs.size f cdv))->sp vs H Q E ->
   ∃t,PSs (J3_ CX0 P w K mg base N x (Fn_ st) f cdv A outer s H E).nox (GP_ st) t/\t {nx:=λ_ H'=>Q .non H',rt:=Q} (start N vs) H)
  (hb:∀(kV doc pm:Value)(an:Option Addr)(cdv ct:Value)(us:List Value),us.length=ps.length->bindArgs (PySem.W.fnOf x x (Hf_ st) (GP_ st) (Fn_ st) .none kV doc pm an cdv ct) ⟨us,[]⟩=pure (ps.zip us):=by first|show λ_ _ _ _ _ _=>byL1 λ_=>rfl|show λ_ _ _ _ _ _=>byL2 λ_ _=>rfl|show λ_ _ _ _ _ _=>byL3 λ_ _ _=>rfl|show λ_ _ _ _ _ _=>byL4 λ_ _ _ _=>rfl)
  (len:∀vs H Q E,sp vs H Q E->vs.length=ps.length:=by intro vs H Q E h;repeat (first|(obtain⟨rfl,_⟩:=h;rfl)|obtain⟨_,h⟩:=h)):Cal P w K mg base x ps (k+1) sp:=by
 obtain⟨f,fd,F,m⟩:=F;show⟨f,fd,m,F.kp,F.binds hb,F.ok S len λcdv A outer s H vs Q E=>hbody f cdv A outer s H vs Q E⟩
section
variable {x:Str}{ps:List Str}{k:Nat}{sp:Sp}{e:Expr}{es:List Expr}{t:TA}{p pos:Pos}
theorem oZ_(C:Cal X.prog X.w X.K X.mg X.base x ps k sp)(hr:HD_ k X.A)(hg:Gl X x)(ha:PA X (e::es) t)(hdb:(x == ("__debug__" : Str))=false:=by decide)
  (he:starEach (e::es) X.env=(false,eval e X.env)::starEach es X.env:=by rfl) (hpl:(backTo pos (starEach es X.env)).any (·.1)=false:=by rfl):PE X (.Call (.Name x p) (e::es) [] pos) (Jw_ sp [] E0 t):=by
 obtain⟨f,fd,m,kp,b,F⟩:=C;show qm_ F hr hg m kp b .nil Mm_ ha hdb he hpl
theorem qq_{i:Int}(hm:∃t,X.mg x=some (.int i t))(hg:Gl X x)(hd:(x == ("__debug__" : Str))=false:=by decide):PE X (.Name x pos) (tC (.int i)):=by obtain⟨t,hm⟩:=hm;show nj_ hg hm ⟨t,rfl⟩ hd
end
variable{i:Int}
theorem rA_{h:Heap}(X:K.In h)(G:h.Ns mainGlobals mg){x:Str}{t:Tok}(a:PySem.W.nsIn K mainGlobals x=some (some (.int i t))):∃t,mg x=some (.int i t):=⟨t,EK_ X G a⟩
variable{o:HO}
theorem Fo_.upd{H:Hp}{a:Addr}(e:Fo_ H H')(h:H a=none):Fo_ H (upd H' a o):=λb o' q=>by rw[aj_ (ae_ q h)];show e b o' q
theorem Fo_.new{H:Hp}{a:Addr}(h:H a=none):Fo_ H (L2.upd H a o):=(Fo_.refl H).upd h
def KP_:R2:=λx y H Q=>onR x λp=>∃xs,onI y λi=>H p=some (.tup xs)/\∃v,atI xs i=some v/\Q v H
def K0_:R2:=λx y H Q=>onR x λp=>∃xs,onI y λi=>H p=some (.lst xs)/\∃v,atI xs i=some v/\Q v H
theorem ak_:IxR X KP_:=by intro value slice pins s σ H x y v u Q I rx ry h hs;obtain⟨p,e1,xs,h⟩:=er_ h;obtain⟨i,e2,hp,z,ha,q⟩:=cX_ h;show pM_ value slice pins s σ H x y v u Q I rx ry ⟨p,xs,i,z,e1,e2,.inl (.inl hp),ha,q⟩ hs
theorem al_:IxR X K0_:=by intro value slice pins s σ H x y v u Q I rx ry h hs;obtain⟨p,e1,xs,h⟩:=er_ h;obtain⟨i,e2,hp,z,ha,q⟩:=cX_ h;show nB_ value slice pins s σ H x y v u Q I rx ry ⟨p,xs,i,z,e1,e2,.inl (.inl hp),ha,q⟩ hs
def Mb_:R2:=λx y H Q=>∃a b xs ys,x=.ref a/\y=.ref b/\H a=some (.tup xs)/\H b=some (.tup ys)/\xs.all Hk_=true/\ys.all Hk_=true/\Q (.bl (MR_ xs ys)) H
def Lb_:List V->Hp->VK->Prop:=λxs H Q=>on1 xs λx=>onR x λp=>∃ys,(H p=some (.lst ys)\/H p=some (.tup ys))/\Q (.int ys.length) H
theorem au_:Gz_ X (.builtin "len") Lb_:=by intro pins s σ H xs us Q I r h;obtain⟨_,e,h⟩:=l5_ h;obtain⟨p,rfl,ys,hp,q⟩:=er_ h;show et_ pins s σ H xs us Q I r ⟨p,ys,e,hp.imp (λz=>.inl (.inl z)) (λz=>.inl (.inl z)),q⟩
theorem mc_{x:Str}{n:String}{pos:Pos}(hg:Gl X x)(hm:X.mg x=none)(hv:bootBuiltins x=some (.type n))(hn:x ≠ "__name__" := by decide) (hd:(x == ("__debug__" : Str))=false:=by decide):PE X (.Name x pos) (tC (.ty n)):=
 qi_ hg hm hv rfl hn hd
theorem F4_{α:Type}{x:α}{xs:List α}:atI (x::xs) 0=some x:=by simp[atI,ixN]
theorem Ge_{α:Type}{x y:α}{xs:List α}:atI (x::y::xs) 1=some y:=by
 have h:(1:Int)<(xs.length:Int)+1+1:=o_
 simp[atI,ixN,h]
theorem IK_{α:Type}{x y z:α}{xs:List α}:atI (x::y::z::xs) 2=some z:=by
 have h:(2:Int)<(xs.length:Int)+1+1+1:=o_
 simp[atI,ixN,h]
theorem cq_{α:Type}{xs:List α}{v:α}(h0:0<=i)(h:xs[i.toNat]?=some v):atI xs i=some v:=by
 have hl:i.toNat<xs.length:=(Ar_.mp h).1;have hl':i<xs.length:=o_
 unfold atI ixN;rw[if_pos h0,if_pos hl'];show h
theorem rB_(n:Nat):ixN (n+1) 0=some 0:=by
 have:(0:Int)<(n:Int)+1:=o_
 simp[ixN,this]
theorem hE_{c:TT}{tb:TS}{D:HT_}{σ:St}{H:Hp}(Pv:St->Hp->Prop)(μ:St->Hp->Nat)(h0:Pv σ H)
  (hs:∀σ H,Pv σ H->c σ H λb H1=>if b=true then ∃N:St->Hp->Prop,(∀σ' H',N σ' H'->∃m',m'<μ σ H/\m'=μ σ' H'/\Pv σ' H')/\tb {D with nx:=N,ct:=N,bk:=D.nx} σ H1 else D.nx σ H1):IZ_ c tb D σ H :=
 ⟨λm σ H=>m=μ σ H/\Pv σ H,⟨_,rfl,h0⟩,by rintro m σ H ⟨rfl,p⟩;show hs σ H p⟩
theorem N_ok{Pv:St->Hp->Prop}{μ:St->Hp->Nat}{k:Nat}:∀σ' H',(Pv σ' H'/\μ σ' H'<k)->∃m',m'<k/\m'=μ σ' H'/\Pv σ' H':=λ_ _ ⟨a,b⟩=>⟨_,b,rfl,a⟩
def HN_(J:It)(g:TG)(tb:TS)(D:HT_)(σ:St)(H:Hp):Prop:=∃W:Nat->Nat->St->Hp->Prop,(∃m,W 0 m σ H)/\∀i m σ H,W i m σ H ->
 (J.stop i H/\D.nx σ H)\/(J.go i H/\∃N:St->Hp->Prop,(∀σ' H',N σ' H'->∃m',m'<m/\W (i+1) m' σ' H')/\∀x H',J.yld i H x H'->g x σ H' λσ2 H2=>tb {D with nx:=N,ct:=N,bk:=D.nx} σ2 H2)
theorem qr_{wi:TI}{g:TG}{tb:TS}{D:HT_}{σ:St}{H:Hp}:MI_ wi g tb D σ H=wi σ H λJ H1=>HN_ J g tb D σ H1:=rfl
theorem b4_{lo:Int}{n:Nat}{g:TG}{tb:TS}{D:HT_}{σ:St}{H:Hp}(Pv:Nat->St->Hp->Prop)(h0:Pv 0 σ H)
  (hs:∀i σ H,i<n->Pv i σ H->g (.int (lo+i)) σ H λσ2 H2=>tb {D with nx:=Pv (i+1),ct:=Pv (i+1),bk:=D.nx} σ2 H2) (hd:∀σ H,Pv n σ H->D.nx σ H):HN_ (Itr lo n) g tb D σ H:=nr_ Pv h0 hs hd
theorem gi_{K:PySem.W.Frag}{a:Addr}{xs:List V}{g:TG}{tb:TS}{D:HT_}{σ:St}{H:Hp}(Pv:Nat->St->Hp->Prop)(h0:Pv 0 σ H)(hl:∀i σ H,i<=xs.length->Pv i σ H->SqL K H a xs)
  (hs:∀i x σ H,xs[i]?=some x->Pv i σ H->g x σ H λσ2 H2=>tb {D with nx:=Pv (i+1),ct:=Pv (i+1),bk:=D.nx} σ2 H2) (hd:∀σ H,Pv xs.length σ H->D.nx σ H):HN_ (Itl K a) g tb D σ H:=oV_ Pv h0 hl hs hd
def Gk_:Expr->Bool
 | .Starred .. => false
 |_=>true
theorem aw_{e:Expr}{es:List Expr}{env:Env}(h:Gk_ e=true):starEach (e::es) env=(false,eval e env)::starEach es env:=by
 cases e <;> first|rfl|show absurd (show false=true from h) AK_
def Fv_:List Expr->Bool
 |[]=>true
 |e::es=>Gk_ e && Fv_ es
theorem be_{pos:Pos}{env:Env}:∀{es:List Expr},Fv_ es=true->(backTo pos (starEach es env)).any (·.1)=false
 |[],_=>rfl
 |e::es,h=>by
  have h':Gk_ e=true/\Fv_ es=true:=by simpa[Fv_]using h
  rw[aw_ h'.1];change(false ||(backTo pos (starEach es env)).any (·.1))=false;rw[be_ h'.2];rfl
def I7_:Expr->Bool
 | .ListComp .. => true
 | .SetComp .. => true
 | .DictComp .. => true
 |_=>false
variable{env:Env}
theorem hF_{e:Expr}{t:Option Expr}{n:Nat}(h:I7_ e=false):swapsWith e t n env=pure false:=by
 cases e <;> first|rfl|show absurd (show true=false from h) Bool.noConfusion
section
variable {x:Str}{ps:List Str}{k:Nat}{sp:Sp}{e:Expr}{es:List Expr}{te:TE}{t:TA}{p pos:Pos}{id:String}{r:List V->Hp->VK->Prop}
theorem pa_c(ha:PE X e te)(hr:PA X es t)(hs:Gk_ e=true:=by rfl):PA X (e::es) (Kf_ te t):=ql_ ha hr (aw_ hs)
theorem af_(C:Cal X.prog X.w X.K X.mg X.base x ps k sp)(hr:HD_ k X.A)(hg:Gl X x)(ha:PA X (e::es) t)(hs:Fv_ (e::es)=true:=by rfl) (hdb:(x == ("__debug__" : Str))=false:=by decide):
  PE X (.Call (.Name x p) (e::es) [] pos) (Jw_ sp [] E0 t):=
 have h':Gk_ e=true/\Fv_ es=true:=by simpa[Fv_]using hs
 oZ_ C hr hg ha hdb (aw_ h'.1) (be_ h'.2)
theorem am_(hc:Gz_ X (.builtin id) r)(hg:Gl X x)(hm:X.mg x=none)(hv:bootBuiltins x=some (.builtin id))(ha:PA X (e::es) t)(hs:Fv_ (e::es)=true:=by rfl) (hn:x ≠ "__name__" := by decide) (hdb:(x == ("__debug__" : Str))=false:=by decide):
  PE X (.Call (.Name x p) (e::es) [] pos) (tCB r t):=
 have h':Gk_ e=true/\Fv_ es=true:=by simpa[Fv_]using hs
 oW_ hc hg hm hv ha hn hdb (aw_ h'.1) (be_ h'.2)
theorem ai_{i:Nat}{pos':Pos}(hN:X.N.Nodup)(hi:X.N[i]?=some x)(hx:X.env.scope.names.lookup x=some .local)(he:PE X e te)(hs:I7_ e=false:=by rfl):PS X (.Assign [.Name x pos'] e pos) (KH_ te (HU_ i)):=
 pJ_ hN hi (.inl hx) he (hF_ hs) (.inr hx)
theorem ah_{i:Nat}(hN:X.N.Nodup)(hi:X.N[i]?=some x)(hx:X.env.scope.names.lookup x=some .local):PG X (.Name x pos) (HU_ i):=no_ hN hi (.inl hx) (.inr hx)
theorem bM_(he:PE X e te)(hs:I7_ e=false:=by rfl):PS X (.Expr e pos) (Kn_ te):=qj_ he (hF_ hs)
theorem pv1(i:Nat)(hN:X.N[i]?=some x:=by rfl) (hv:X.env.scope.names.lookup x=some .local:=by rfl) (hd:(x == ("__debug__" : Str))=false:=by decide) (hcd:(x == ("__classdict__" : Str))=false:=by decide):PE X (.Name x pos) (LW_ i):=pD_ hN (.inl hv) hd hcd
end
def tCut(t:TS):TS:=λD σ H=>∃M:St->Hp->Prop,t {D with nx:=M} σ H/\∀σ' H',M σ' H'->D.nx σ' H'
theorem gO_{st:Stmt}{t:TS}(h:PS X st t):PS X st (tCut t):=by
 intro pins s σ H D I hq;obtain⟨M,h1,h2⟩:=hq;show thn (h pins s σ H _ I h1) λf s' q=>?_;cases f with
 |next=>obtain⟨σ',H',I',m⟩:=q;show⟨σ',H',I',h2 _ _ m⟩
 |brk=>show q
 |cont=>show q
 |ret u=>show q
theorem aZ_:bootBuiltins "len"=some (.builtin "len"):=r_
theorem nE_:bootBuiltins "abs"=some (.builtin "abs"):=r_
theorem rC_:bootBuiltins "max"=some (.builtin "max"):=r_
theorem rD_:bootBuiltins "min"=some (.builtin "min"):=r_
theorem ct_:bootBuiltins "isinstance"=some (.builtin "isinstance"):=r_
theorem rE_:bootBuiltins "sum"=some (.builtin "sum"):=r_
theorem kn_:bootBuiltins "sorted"=some (.builtin "sorted"):=r_
theorem nF_:bootBuiltins "int"=some (.type "int"):=r_
theorem qs_:bootBuiltins "bool"=some (.type "bool"):=r_
theorem o0_:bootBuiltins "tuple"=some (.type "tuple"):=r_
theorem fh_:bootBuiltins "list"=some (.type "list"):=r_
theorem pP_:bootBuiltins "zip"=some (.type "zip"):=r_
theorem ko_:bootBuiltins "enumerate"=some (.type "enumerate"):=r_
def HR_(cells:List (Str×Addr)):List (Str×NameKind)->List (Str×Addr)->List (Str×Addr)
 |[],acc=>acc
 | (n,k)::r,acc=>if k == .free then HR_ cells r ((n,(cells.lookup n).getD 0)::acc)else HR_ cells r acc
theorem mX_:∀(names:List (Str×NameKind))(acc:List (Str×Addr)),(∀p∈names,p.2=.free->∃c,env.cells.lookup p.1=some c) ->
  (forIn (m:=Sem) names acc λx r=>(match x with|(name,kind)=>if(kind == NameKind.free)=true then do let a <-cellOf env name;pure (ForInStep.yield ((name,a)::r))else pure (ForInStep.yield r)))=pure (HR_ env.cells names acc):=by
 intro names
 induction names with
 |nil=>intro acc _;rfl
 |cons p r ih =>
  intro acc h;obtain⟨n,k⟩:=p;rw[D9_];by_cases hk:(k == NameKind.free)=true
  .obtain⟨c,hc⟩:=h (n,k) Ah_ (by simpa using hk);have e1:cellOf env n=pure c:=by unfold cellOf;rw[hc]
   simp only[hk,if_true,e1];have:=ih ((n,c)::acc) λp hp=>h p (Ag_ _ hp);change _=pure (HR_ env.cells ((n,k)::r) acc);rw[HR_,if_pos hk,hc];show this
  .simp only[hk];have:=ih acc λp hp=>h p (Ag_ _ hp);change _=pure (HR_ env.cells ((n,k)::r) acc);rw[HR_,if_neg hk];show this
theorem iR_{scope:Scope}(h:∀p∈scope.names,p.2=.free->∃c,env.cells.lookup p.1=some c):closureFor scope env=pure (HR_ env.cells scope.names []):=by unfold closureFor;show Eq.trans (congrArg (λz=>z >>= λs=>pure s) (mX_ (env:=env) scope.names [] h)) rfl
theorem jj_{cells:List (Str×Addr)}:∀(names:List (Str×NameKind))(acc:List (Str×Addr)),(∀p∈names,p.2=.free->∃c,cells.lookup p.1=some c)->(∀q∈acc,cells.lookup q.1=some q.2)->∀q∈HR_ cells names acc,cells.lookup q.1=some q.2
 |[],acc,_,h=>h
 | (n,k)::r,acc,h1,h2=>by
  rw[HR_];by_cases hk:(k == NameKind.free)=true
  .rw[if_pos hk];show jj_ r _ (λp hp=>h1 p (Ag_ _ hp)) λq hq=>?_
   rcases Aq_.mp hq with rfl|hq
   .obtain⟨c,hc⟩:=h1 (n,k) Ah_ (by simpa using hk);rw[hc];rfl
   .show h2 q hq
  .rw[if_neg hk];show jj_ r _ (λp hp=>h1 p (Ag_ _ hp)) h2
theorem jk_{cells:List (Str×Addr)}{x:Str}:∀(names:List (Str×NameKind))(acc:List (Str×Addr)),((x,NameKind.free)∈names\/∃c,(x,c)∈acc)->∃c,(x,c)∈HR_ cells names acc
 |[],acc,h=>h.elim (λz=>absurd z s_) id
 | (n,k)::r,acc,h=>by
  rw[HR_];by_cases hk:(k == NameKind.free)=true
  .rw[if_pos hk];show jk_ r _ ?_
   rcases h with h|⟨c,hc⟩
   .rcases Aq_.mp h with e|h
    .cases e;show .inr ⟨_,Ah_⟩
    .show .inl h
   .show .inr ⟨c,Ag_ _ hc⟩
  .rw[if_neg hk];show jk_ r _ ?_
   rcases h with h|h
   .rcases Aq_.mp h with e|h
    .cases e;show absurd rfl hk
    .show .inl h
   .show .inr h
theorem cY_{x:Str}{c:Addr}:∀{l:List (Str×Addr)},(x,c)∈l->∃c',l.lookup x=some c'
 | (n,d)::r,h=>by
  rw[BR_];cases e:x == n with
  |true=>show⟨d,rfl⟩
  |false =>
   rcases Aq_.mp h with z|h
   .cases z;simp at e
   .show cY_ h
theorem hG_{cells:List (Str×Addr)}{q:Str×Addr}:∀(names:List (Str×NameKind))(acc:List (Str×Addr)),q∈HR_ cells names acc->(q.1,NameKind.free)∈names\/q∈acc
 |[],acc,h=>.inr h
 | (n,k)::r,acc,h=>by
  rw[HR_]at h;by_cases hk:(k == NameKind.free)=true
  .rw[if_pos hk]at h;have hk':k=.free:=by simpa using hk
   rcases hG_ r _ h with h|h
   .show .inl (Ag_ _ h)
   .rcases Aq_.mp h with rfl|h
    .show .inl (by rw[hk'];show Ah_)
    .show .inr h
  .rw[if_neg hk]at h;show(hG_ r _ h).imp (Ag_ _) id
theorem da_{x:Str}{c:Addr}:∀(names:List (Str×NameKind))(h:Heap)(acc:List (Str×Addr)),(x,c)∈cellsFrom h.objs.size names acc->(x,c)∈acc\/(h.objs.size<=c/\(pushCells h names).IsCell c none/\(x,NameKind.cell)∈names)
 |[],_,_,h=>.inl h
 | (n,k)::r,hp,acc,h=>by
  unfold cellsFrom at h;unfold pushCells;by_cases hk:(k == NameKind.cell)=true
  .rw[if_pos hk]at h⊢;have hk':k=.cell:=by simpa using hk
   have h':(x,c)∈cellsFrom (hp.push {cls:=.type "cell",data:=.cell none}).objs.size r ((n,hp.objs.size)::acc):=by rw[BY_];show h
   rcases da_ r _ _ h' with h|⟨h1,h2,h3⟩
   .rcases Aq_.mp h with e|h
    .cases e;show .inr ⟨Af_ _,⟨_,Di_ r _ _ _ (AA_ _ rfl),rfl⟩,by rw[hk'];show Ah_⟩
    .show .inl h
   .rw[BY_]at h1;show .inr ⟨o_,h2,Ag_ _ h3⟩
  .rw[if_neg hk]at h⊢;show(da_ r hp acc h).imp id λ⟨h1,h2,h3⟩=>⟨h1,h2,Ag_ _ h3⟩
theorem dE_{x:Str}:∀(names:List (Str×NameKind))(n:Nat)(acc:List (Str×Addr)),((x,NameKind.cell)∈names\/∃c,(x,c)∈acc)->∃c,(x,c)∈cellsFrom n names acc
 |[],_,acc,h=>h.elim (λz=>absurd z s_) id
 | (y,k)::r,n,acc,h=>by
  unfold cellsFrom;by_cases hk:(k == NameKind.cell)=true
  .rw[if_pos hk];show dE_ r _ _ ?_
   rcases h with h|⟨c,hc⟩
   .rcases Aq_.mp h with e|h
    .cases e;show .inr ⟨_,Ah_⟩
    .show .inl h
   .show .inr ⟨c,Ag_ _ hc⟩
  .rw[if_neg hk];show dE_ r _ _ ?_
   rcases h with h|h
   .rcases Aq_.mp h with e|h
    .cases e;show absurd rfl hk
    .show .inl h
   .show .inr h
theorem dF_{lo:Nat}:∀(names:List (Str×NameKind))(n:Nat)(acc:List (Str×Addr)),(∀x c,(x,c)∈acc->c<n)->(∀x y c,lo<=c->(x,c)∈acc->(y,c)∈acc->x=y)->∀x y c,lo<=c->(x,c)∈cellsFrom n names acc->(y,c)∈cellsFrom n names acc->x=y
 |[],_,_,_,h=>h
 | (z,k)::r,n,acc,h1,h2=>by
  unfold cellsFrom;by_cases hk:(k == NameKind.cell)=true
  .rw[if_pos hk];show dF_ r _ _ (λx c hm=>?_) λx y c hc hx hy=>?_
   .rcases Aq_.mp hm with e|hm
    .cases e;show Nat.lt_succ_self _
    .show Bx_ (h1 x c hm)
   .rcases Aq_.mp hx with e|hx <;> rcases Aq_.mp hy with e'|hy
    .cases e;cases e';rfl
    .cases e;show absurd (h1 _ _ hy) (Bm_ _)
    .cases e';show absurd (h1 _ _ hx) (Bm_ _)
    .show h2 x y c hc hx hy
  .rw[if_neg hk];show dF_ r n acc h1 h2
def G3_(scope:Scope)(env:Env)(n:Nat):List (Str×Addr):=cellsFrom (n+1) scope.names (HR_ env.cells scope.names [])
def cxC(X:Cx)(N':List Str)(scope:Scope)(s:Shared)(H:Hp)(ex:List Addr):Cx :=
 {X with N:=N',s₀:=s,H₀:=H,env:=compEnvC scope (G3_ scope X.env s.heap.objs.size) s.heap.objs.size X.env,outer:=X.stack,ex:=ex,fn:=λx=>decide ((x,NameKind.cell)∈scope.names)}
def pick(σ:St)(ix:List (Option Nat)):St:=ix.map λo=>match o with|some i=>(match σ[i]? with|some v=>v|none=>none)|none=>none
structure Scp(psc:Scope)(PN N':List Str)(ix:List (Option Nat))(scope:Scope):Prop where
 kind:scope.kind=.function
 names:∀x∈scope.names,x.2=.local->scope.names.lookup x.1=some .local
 uni:∀x∈scope.names,x.2=.free->scope.names.lookup x.1=some .free
 apart:∀x∈scope.names,x.2=.cell->(x.1,NameKind.free)∉scope.names
 free:∀x∈scope.names,x.2=.free->psc.names.lookup x.1=some .cell\/psc.names.lookup x.1=some .free
 len:ix.length=N'.length
 at_:∀(j i:Nat)(x:Str),N'[j]?=some x->ix[j]?=some (some i)->PN[i]?=some x/\(x,NameKind.free)∈scope.names
variable {pins:List (Addr×Obj)}{σ:St}{H:Hp}{s:Shared}{N':List Str}{ix:List (Option Nat)}{scope:Scope}{fp:List Addr}
theorem cZ_{env:Env}:∀{names:List (Str×NameKind)}{x:Str},names.lookup x=some .free ->
  (names.map λ(n,k)=>if(k == NameKind.free && env.scope.kind == .function && env.kindOf n == some .cell)then(n,NameKind.cell)else(n,k)).lookup x=some .cell \/
  (names.map λ(n,k)=>if(k == NameKind.free && env.scope.kind == .function && env.kindOf n == some .cell)then(n,NameKind.cell)else(n,k)).lookup x=some .free
 |[],_,h=>by simp at h
 | (n,k)::r,x,h=>by
  have ih:=@cZ_ env r x;simp only[Av_];cases hx:x == n with
  |true =>
   simp only[BR_,hx]at h;cases h;by_cases hc:(NameKind.free == NameKind.free && env.scope.kind == .function && env.kindOf n == some .cell)=true
   .rw[if_pos hc];simp[BR_,hx]
   .rw[if_neg hc];simp[BR_,hx]
  |false =>
   simp only[BR_,hx]at h;by_cases hc:(k == NameKind.free && env.scope.kind == .function && env.kindOf n == some .cell)=true
   .rw[if_pos hc];simp only[BR_,hx];show ih h
   .rw[if_neg hc];simp only[BR_,hx];show ih h
theorem hH_{x:Str}(h:scope.names.lookup x=some .free):(relabel scope env).names.lookup x=some .cell\/(relabel scope env).names.lookup x=some .free:=cZ_ h
theorem kp_{x:Str}(h:(relabel scope env).names.lookup x=some .cell\/(relabel scope env).names.lookup x=some .free):(x,NameKind.cell)∈scope.names\/(x,NameKind.free)∈scope.names:=by
 have:∃k,(x,k)∈(relabel scope env).names/\(k=.cell\/k=.free):=by
  rcases h with h|h
  .show⟨_,Bi_ h,.inl rfl⟩
  .show⟨_,Bi_ h,.inr rfl⟩
 obtain⟨k,hm,hk⟩:=this;obtain⟨⟨n,k'⟩,hm',e⟩:=Aj_.mp hm
 dsimp only at e
 split at e
 .rename_i hc;cases e;have:k'=.free:=by simp at hc;show hc.1.1
  rw[this]at hm';show .inr hm'
 .cases e
  rcases hk with rfl|rfl
  .show .inl hm'
  .show .inr hm'
theorem o1_(I:Inv X pins σ H s)(S:Scp X.env.scope X.N N' ix scope)(hf:∀b∈fp,HY_ X pins H b)(hfl:∀b∈fp,b<s.heap.objs.size)(t':Nat):
  Inv (cxC X N' scope s H fp) [] (pick σ ix) H {s with heap:=pushCells (s.heap.push {cls:=.type "dict",data:=.dict #[]}) scope.names,toks:=t'}:=by
 have hn:(pushCells (s.heap.push {cls:=.type "dict",data:=.dict #[]}) scope.names).Ns s.heap.objs.size λ_=>none:=(Heap.Ns.new s.heap (.type "dict")).keeps (Di_ _ _);have hk:∀b o,s.heap.get? b=some o->(pushCells (s.heap.push {cls:=.type "dict",data:=.dict #[]}) scope.names).get? b=some o:=λb o e=>Di_ _ _ b o (Al_ _ e);have hfr:∀p∈scope.names,p.2=NameKind.free->∃c,X.env.cells.lookup p.1=some c:=λp hp e=>I.ok.has p.1 (S.free p hp e);have clm:∀q∈HR_ X.env.cells scope.names [],X.env.cells.lookup q.1=some q.2:=jj_ scope.names [] hfr s_
 have spec:∀x c,(G3_ scope X.env s.heap.objs.size).lookup x=some c->(X.env.cells.lookup x=some c/\(x,NameKind.free)∈scope.names) \/
   (s.heap.objs.size<c/\(pushCells (s.heap.push {cls:=.type "dict",data:=.dict #[]}) scope.names).IsCell c none/\(x,NameKind.cell)∈scope.names):=λx c e=>by
  have hm:(x,c)∈cellsFrom (s.heap.push {cls:=.type "dict",data:=.dict #[]}).objs.size scope.names (HR_ X.env.cells scope.names []):=by rw[BY_];show Bi_ e
  rcases da_ scope.names _ _ hm with h|⟨h1,h2,h3⟩
  .show .inl ⟨clm _ h,(hG_ scope.names [] h).elim id (λz=>absurd z s_)⟩
  .rw[BY_]at h1;show .inr ⟨h1,h2,h3⟩
 have hasC:∀x,((relabel scope X.env).names.lookup x=some .cell\/(relabel scope X.env).names.lookup x=some .free)->∃c,(G3_ scope X.env s.heap.objs.size).lookup x=some c:=λx hx=>by have:∃c,(x,c)∈G3_ scope X.env s.heap.objs.size:=dE_ scope.names _ _ ((kp_ hx).imp id λz=>jk_ scope.names [] (.inl z));obtain⟨c,hc⟩:=this;show cY_ hc
 have cold:∀x c,X.env.cells.lookup x=some c->c<s.heap.objs.size:=λx c e=>let⟨v,q⟩:=I.cell x c e;q.lt
 show⟨⟨I.ok.mod,S.kind,I.ok.glob,I.ok.blt,Af_ _,λx y c e1 e2=>?_,hasC,λx c z e=>?_,I.ok.hd,I.ok.frames,.inl rfl,
  λb hb=>⟨AE_ (hfl b hb),λx c e=>?_⟩,I.bs,Am_ I.ok.bsz I.sz,λb o e hb=>?_,λb hb z=>?_,I.stack,I.stkFree⟩,
  rfl,I.bare,Un.kept hk,⟨_,hn,λj x v e1 e2 e3=>?_⟩,λx c e=>?_,I.hok.fresh (Af_ _),λx c e=>?_,λp hp=>?pn,I.hok.kept hk,?_⟩
 case pn =>obtain⟨q1,q2,q3,q4,q5⟩:=I.pin p (Bd_ _ (show p∈X.pn from(AB_.mp hp).elim id λz=>nomatch z));show⟨hk _ _ q1,q2,AE_ (Ap_ q1),λz=>(Aq_.mp (I.stkSub _ z)).elim q3 q4,q5⟩
 .by_cases hc:c<s.heap.objs.size+1
  .rcases spec x c e1 with⟨q1,_⟩|⟨q1,_⟩
   .rcases spec y c e2 with⟨q2,_⟩|⟨q2,_⟩
    .show I.ok.inj x y c q1 q2
    .show absurd q2 (Cx_.mpr (Nat.le_of_lt_succ hc))
   .show absurd q1 (Cx_.mpr (Nat.le_of_lt_succ hc))
  .show dF_ (lo:=s.heap.objs.size+1) scope.names _ _ (λx c hm=>Bx_ (cold x c (clm _ hm))) (λx y c hc hx _=>absurd (cold x c (clm _ hx)) (Cx_.mpr (Am_ (Ei_ _) hc))) x y c (Cx_.mp hc) (Bi_ e1) (Bi_ e2)
 .have z':(x,NameKind.cell)∈scope.names:=Bb_ z
  rcases spec x c e with⟨_,q⟩|⟨q,_⟩
  .show absurd q (S.apart _ z' rfl)
  .show AN_ q
 .rcases spec x c e with⟨q,_⟩|⟨q,_⟩
  .show(hf b hb).2.2.2.2.1 x c q
  .show λz=>absurd (hfl b hb) (Cx_.mpr (z▸AN_ q))
 .show(hf b hb).2.2.2.1.elim (λz=>I.ok.noex b o e z) λz=>absurd (AL_ (Ap_ e) I.ok.bsz) (Cx_.mpr z)
 .have hb2:=hf b hb
  rcases Aq_.mp (I.stkSub b z)with q|q
  .show hb2.2.1 q
  .show hb2.2.2.1 q
 .have e4:∃i,ix[j]?=some (some i)/\σ[i]?=some (some v):=by
   have e2':(pick σ ix)[j]?=some (some v):=e2;unfold pick at e2';rw[Ad_]at e2';cases q:ix[j]? with
   |none=>rw[q]at e2';cases e2'
   |some o =>
    rw[q]at e2';cases o with
    |none=>cases e2'
    |some i =>
     show⟨i,rfl,?_⟩;cases z:σ[i]? with
     |none=>simp[z]at e2'
     |some y=>simp[z]at e2';rw[e2']
  obtain⟨i,e4,e5⟩:=e4;obtain⟨a1,a2⟩:=S.at_ j i x e1 e4;have a3:=S.free _ a2 rfl;obtain⟨m0,hn0,hl0⟩:=I.loc;obtain⟨u,r,l⟩:=hl0 i x v a1 e5 (.inr a3);show⟨u,r,?_⟩
  rcases l with⟨k1,_⟩|⟨k1,c,hcl,hce⟩
  .have k1':X.env.scope.names.lookup x=some .local:=k1
   rcases a3 with z|z <;> (rw[k1']at z;cases z)
  .
   have e3':(relabel scope X.env).names.lookup x=some .local\/(relabel scope X.env).names.lookup x=some .cell\/(relabel scope X.env).names.lookup x=some .free:=e3;have k3:=hH_ (env:=X.env) (S.uni _ a2 rfl);obtain⟨c',hc'⟩:=hasC x k3
   rcases spec x c' hc' with⟨q,_⟩|⟨_,_,q⟩
   .rw[hcl]at q;cases q;show .inr ⟨k3,c,hc',hce.keeps hk⟩
   .show absurd a2 (S.apart _ q rfl)
 .rcases spec x c e with⟨q,_⟩|⟨q,q2,_⟩
  .obtain⟨v,q'⟩:=I.cell x c q;show⟨v,q'.keeps hk⟩
  .show⟨none,q2⟩
 .rcases spec x c e with⟨q,_⟩|⟨q,_⟩
  .show I.freeC x c q
  .show I.hok.fresh (AN_ q)
 .change(pick σ ix).length=N'.length;unfold pick;rw[Ab_];show S.len
variable {prog:Program}{A:Around}{R:Result->Shared->Prop}
def IX_(ifs:List Expr)(env:Env):Sem Bool:=forIn ifs true λc r=>if r=true then do let ok <-isTrue c env (eval c env);pure (ForInStep.yield ok)else pure (ForInStep.yield r)
theorem kq_{elt target iter:Expr}{ifs:List Expr}{scope:Scope}{pos:Pos}{it acc:Value}{env:Env}(I:Nat->Shared->Prop)
  (turn:∀n s,I n s->wpAny (model prog w) A (pyNext it) (λr s₁=>match r with
   |none=>R (.ok .next) s₁
   |some v=>wpAny (model prog w) A (letOwnedTupleGo target it v) (λ_ s₁'=>wpAny (model prog w) A (assign target env v) (λ_ s₂=>wpAny (model prog w) A (IX_ ifs env) (λok s₃ =>
     if ok=true then wpAny (model prog w) A (eval elt env) (λx s₄=>wpAny (model prog w) A (call (.builtin "list.append") [acc,x]) (λ_ s₅=>∃m,m<n/\I m s₅) (λ_ _=>False) s₄) (λ_ _=>False) s₃
     else ∃m,m<n/\I m s₃) (λ_ _=>False) s₂) (λ_ _=>False) s₁') (λ_ _=>False) s₁) (λ_ _=>False) s)
  (n:Nat) (h:I n s):codeAny (model prog w) A (.compLoop (.ListComp elt [⟨target,iter,ifs,0⟩] scope pos) 0 it acc env) R s:=by
 show codeAny_loop rfl I (λn s hI=>?_) n h;change wpAny _ _ ((compTurn (.ListComp elt [⟨target,iter,ifs,0⟩] scope pos) 0 it acc env).onRaise (λx=>do noteFrame x env;theTreesLotGoes x)) _ _ s;show wpAny_noted ?_;rw[compTurn_list];show Ae_ (DE_ (Ae_ (Bu_ (turn n s hI) (λr s₁ h₁=>?_) λ_ _ h'=>h'.elim)));cases r with
 |none=>show Ao_ h₁
 |some v =>
  show Ae_ (Bu_ h₁ (λ_ s₁' h₁'=>?_) λ_ _ h'=>h'.elim);show Ae_ (Bu_ h₁' (λ_ s₂ h₂=>Ae_ (Bu_ h₂ (λok s₃ h₃=>?_) λ_ _ h'=>h'.elim)) λ_ _ h'=>h'.elim);cases ok with
  |false=>show Ao_ ⟨rfl,h₃⟩
  |true =>show Ae_ (Ae_ (Bu_ h₃ (λx s₄ h₄=>Ae_ (Bu_ h₄ (λ_ s₅ h₅=>Ao_ (Ao_ ⟨rfl,h₅⟩)) λ_ _ h'=>h'.elim)) λ_ _ h'=>h'.elim))
theorem ll_{M:Model}{A:Around}{E:Value->Shared->Prop}{s:Shared}{scope:Scope}{globals:Addr}{cl:List (Str×Addr)}{qual:Str}{env:Env}{Q:Env->Shared->Prop}
  (hQ:Q {scope:=scope,locals:=s.heap.objs.size,globals:=globals,cells:=cellsFrom (s.heap.objs.size+1) scope.names cl,qual:=qual,func:=none,code:=env.code,frame:=env.frame,builtins:=env.builtins} {s with heap:=pushCells (s.heap.push {cls:=.type "dict",data:=.dict #[]}) scope.names}):
  wpAny M A (newFunctionEnv scope globals cl [] qual none .none (some env)) Q E s:=by
 simp only[newFunctionEnv,Option.isSome_some,if_true];show Ae_ (wpAny_alloc ?_);show Ae_ (wpAny_layCells _ (λname kind cells=>by cases hkc:kind == NameKind.cell <;> simp[hkc]) _ _ _ _ ?_);rw[show({s with heap:=s.heap.push {cls:=.type "dict",data:=.dict #[]}}:Shared).heap.objs.size=s.heap.objs.size+1 from BY_ ..];show Ae_ (Ao_ (Ao_ hQ))
def PF(X:Cx)(ifs:List Expr)(t:TT):Prop :=
 ∀(pins:List (Addr×Obj))(s:Shared)(σ:St)(H:Hp)(Q:Bool->Hp->Prop),Inv X pins σ H s->t σ H Q->wpAny (model X.prog X.w) X.A (IX_ ifs X.env) (TP X pins σ Q) X.xe s
def J7_:TT:=λ_ H Q=>Q true H
theorem aO_:PF X [] J7_:=λ_ _ _ H _ I h=>wpAny_tests_nil ⟨H,I,h⟩
theorem rF_{c:Expr}{t:TT}(h:PT X c t):PF X [c] t:=λpins s σ H Q I q=>wpAny_tests_one (h pins s σ H Q I q)
def H3_(J:It)(g:TG)(tt:TT)(te:TE)(σ:St)(H:Hp)(Q:VK):Prop:=∀D,H D=none->∃W:Nat->Nat->St->Hp->Prop,(∃m,W 0 m σ (upd H D (.lst [])))/\∀i m σ H,W i m σ H ->
 (J.stop i H/\Q (.ref D) H)\/(J.go i H/\∃N:St->Hp->Prop,(∀σ' H',N σ' H'->∃m',m'<m/\W (i+1) m' σ' H')/\∀x H',J.yld i H x H'->g x σ H' λσ2 H2=>tt σ2 H2 λb H3 =>if b=true then te σ2 H3 λv H4=>∃xs,H4 D=some (.lst xs)/\xs.length<sizeLine/\N σ2 (upd H4 D (.lst (xs++[v])))else N σ2 H3)
def Js_(ix:List (Option Nat))(wi:TI)(g:TG)(tt:TT)(te:TE):TE:=λσ H Q=>wi σ H λJ H1=>H3_ J g tt te (pick σ ix) H1 Q
section
variable {tg iter elt:Expr}{ifs:List Expr}{wi:TI}{g:TG}{tt:TT}{te:TE}{pos:Pos}
structure L3_(C:Cx->Prop)(P:Program)(w:World)(K:PySem.W.Frag)(tg:Expr)(J:It)(fp:List Addr)(it:Addr)(tn:Nat->Heap->Prop):Prop where
 obj:∀i h,tn i h->∀b∈fp,∃o,h.get? b=some o/\∀v,o.data≠.cell v
 keep:∀i h h',tn i h->(∀b∈fp,∀o,h.get? b=some o->h'.get? b=some o)->tn i h'
 item:∀(X:Cx),X.prog=P->X.w=w->X.K=K->C X->∀(i:Nat)(pins:List (Addr×Obj))(s:Shared)(σ:St)(H:Hp)(E:Value->Shared->Prop),Inv X pins σ H s->(∀b∈fp,HY_ X pins H b)->tn i s.heap->J.go i H ->
  wpAny (model P w) X.A (pyNext (.ref it)) (λr s1=>∃u,r=some u/\wpAny (model P w) X.A (letOwnedTupleGo tg (.ref it) u) (λ_ s2=>∃x H',Inv X pins σ H' s2/\FY_ x u/\J.yld i H x H'/\tn (i+1) s2.heap/\∀b∈fp,H' b=none) E s1) E s
 done:∀(X:Cx),X.prog=P->X.w=w->X.K=K->C X->∀(i:Nat)(pins:List (Addr×Obj))(s:Shared)(σ:St)(H:Hp)(E:Value->Shared->Prop),Inv X pins σ H s->(∀b∈fp,HY_ X pins H b)->tn i s.heap->J.stop i H ->
  wpAny (model P w) X.A (pyNext (.ref it)) (λr s1=>r=none/\Inv X pins σ H s1) E s
 self:∀(A:Around)(i:Nat)(s:Shared)(Q:Value->Shared->Prop)(E:Value->Shared->Prop),tn i s.heap->Q (.ref it) s->wpAny (model P w) A (pyIter (.ref it)) Q E s
def PIc(C:Cx->Prop)(X:Cx)(tg iter:Expr)(wi:TI):Prop:=∀(pins:List (Addr×Obj))(s:Shared)(σ:St)(H:Hp)(R:It->Hp->Prop),Inv X pins σ H s->wi σ H R ->
 wpAny (model X.prog X.w) X.A (eval iter X.env) (λv s1=>wpAny (model X.prog X.w) X.A (pyIter v) (λitv s2=>∃(it:Addr)(fp:List Addr)(tn:Nat->Heap->Prop)(J:It)(H':Hp),itv=.ref it/\Inv X pins σ H' s2/\L3_ C X.prog X.w X.K tg J fp it tn/\tn 0 s2.heap/\(∀b∈fp,HY_ X pins H' b)/\R J H') X.xe s1) X.xe s
theorem PI.c(h:PI X tg iter wi):PIc (λX=>X.calm=true) X tg iter wi:=λpins s σ H R I q=>thn (h pins s σ H R I q) λ_ _ h1=>thn h1 λ_ _ ⟨it,fp,tn,J,H',e,I2,T,z⟩=>⟨it,fp,tn,J,H',e,I2,⟨T.obj,T.keep,T.item,T.done,T.self⟩,z⟩
theorem kr_{C:Cx->Prop}(hc:∀s H ex,C (cxC X N' scope s H ex))(hxe:X.xe=λ_ _=>False)(S:Scp X.env.scope X.N N' ix scope)(hi:PIc C X tg iter wi)(hg:∀s H ex,PG (cxC X N' scope s H ex) tg g)(ht:∀s H ex,PF (cxC X N' scope s H ex) ifs tt)(he:∀s H ex,PE (cxC X N' scope s H ex) elt te)
  {pins:List (Addr×Obj)} {s:Shared} {σ:St} {H:Hp} {Q:VK} (I:Inv X pins σ H s) (h:Js_ ix wi g tt te σ H Q) {Post:Value->Addr->Result->Shared->Prop}
  (fin':∀(D C:Addr)(H':Hp)(s':Shared),Inv X pins σ H' s'->HY_ X pins H' C->(∃m,s'.heap.Ns C m)->Q (.ref D) H'->Post (.ref D) C (.ok .next) s'):
  wpAny (model X.prog X.w) X.A (eval iter X.env) (λx s₁=>wpAny (model X.prog X.w) X.A (pyIter x) (λit s₂=>wpAny (model X.prog X.w) X.A (newList []) (λacc s₃ =>wpAny (model X.prog X.w) X.A (newFunctionEnv scope X.env.globals (HR_ X.env.cells scope.names []) [] X.env.qual none .none (some X.env)) (λcenv s₄ =>codeAny (model X.prog X.w) X.A (.compStart (.ListComp elt [⟨tg,iter,ifs,0⟩] scope pos) 0 it acc {cenv with scope:=relabel scope X.env}) (Post acc cenv.locals) s₄) X.xe s₃) X.xe s₂) X.xe s₁) X.xe s:=by
 show thn (hi pins s σ H _ I h) λv s1 h1=>thn h1 λitv s2 h2=>?_;obtain⟨it,fp,tn,J,H2,e,I2,T,st2,f2,go⟩:=h2;subst e;show wpAny_newObj_type ?_;have hD:H2 s2.heap.objs.size=none:=I2.hok.fresh (Af_ _)
 have I3:Inv X pins σ (upd H2 s2.heap.objs.size (.lst [])) {s2 with heap:=s2.heap.push {cls:=.type "list",dict:=none,data:=.seq ([]:List Value).toArray}} :=
  I2.laid (t':=s2.toks) (λb u e=>Al_ _ e) (Af_ _) ⟨AD_ _,[],0,.nil,AA_ _ rfl⟩
 obtain⟨W,⟨m0,w0⟩,turn⟩:=go s2.heap.objs.size hD;have fpl:∀b∈fp,b<s2.heap.objs.size:=λb hb=>let⟨o,e,_⟩:=T.obj _ _ st2 b hb;Ap_ e;have tF:∀{α:Type}{t:Sem α}{Q':α->Shared->Prop}{s':Shared},wpAny (model X.prog X.w) X.A t Q' X.xe s'->wpAny (model X.prog X.w) X.A t Q' (λ_ _=>False) s':=λhw=>hxe▸hw;generalize hH3:upd H2 s2.heap.objs.size (.lst [])=H3 at I3 w0;generalize hs3:({s2 with heap:=s2.heap.push {cls:=.type "list",dict:=none,data:=.seq ([]:List Value).toArray}}:Shared)=s3 at I3⊢;have h23:∀b o,s2.heap.get? b=some o->s3.heap.get? b=some o:=λb o e=>by rw[<-hs3];show Al_ _ e
 have sz3:s2.heap.objs.size<=s3.heap.objs.size:=by rw[<-hs3];change _<=(s2.heap.push _).objs.size;rw[BY_];show Ei_ _
 have fpl3:∀b∈fp,b<s3.heap.objs.size:=λb hb=>AL_ (fpl b hb) sz3;have f3:∀b∈fp,HY_ X pins H3 b:=λb hb=>⟨by rw[<-hH3,aj_ (AE_ (fpl b hb))];show(f2 b hb).1,(f2 b hb).2⟩;show ll_ ?_;generalize hh1:pushCells (s3.heap.push {cls:=.type "dict",data:=.dict #[]}) scope.names=h1;have hk:∀b o,s3.heap.get? b=some o->h1.get? b=some o:=λb o e=>by rw[<-hh1];show Di_ _ _ b o (Al_ _ e)
 have I4:Inv (cxC X N' scope s3 H3 fp) [] (pick σ ix) H3 {s3 with heap:=h1}:=by rw[<-hh1];show o1_ I3 S f3 fpl3 s3.toks
 have st4:tn 0 h1:=T.keep _ _ _ st2 λb hb o e=>hk b o (h23 b o e);have fin:∀{σ':St}{H':Hp}{s':Shared},Inv (cxC X N' scope s3 H3 fp) [] σ' H' s'->Q (.ref s2.heap.objs.size) H'->Post (.ref s2.heap.objs.size) s3.heap.objs.size (.ok .next) s':=λ{σ' H' s'} J q=>by obtain⟨m,hn,_⟩:=J.loc;have K1:Inv X pins σ H' s':=I3.call' J.os J.base J.hok J.bare λb hb=>⟨(f3 b hb).2.2.2.1,(f3 b hb).2.1,(f3 b hb).2.2.2.2.1,(f3 b hb).2.2.2.2.2⟩;show fin' _ _ H' s' K1 (I3.fpOk (b:=s3.heap.objs.size) (Af_ _) (show H' s3.heap.objs.size=none from J.free)) ⟨m,hn⟩ q
 have loop:codeAny (model X.prog X.w) X.A (.compLoop (.ListComp elt [⟨tg,iter,ifs,0⟩] scope pos) 0 (.ref it) (.ref s2.heap.objs.size) (compEnvC scope (G3_ scope X.env s3.heap.objs.size) s3.heap.objs.size X.env)) (Post (.ref s2.heap.objs.size) s3.heap.objs.size) {s3 with heap:=h1}:=by
  show kq_ (λn s'=>∃i σ' H',Inv (cxC X N' scope s3 H3 fp) [] σ' H' s'/\tn i s'.heap/\(∀b∈fp,H' b=none)/\W i n σ' H') ?_ m0 ⟨0,_,H3,I4,st4,λb hb=>(f3 b hb).1,w0⟩;rintro n s5 ⟨i,σ5,H5,I5,st5,fr5,w5⟩;have stat:∀{H':Hp},(∀b∈fp,H' b=none)->∀b∈fp,HY_ (cxC X N' scope s3 H3 fp) [] H' b:=λhn b hb=>⟨hn b hb,(I5.ok.exf b hb).1,I5.ok.exfs b hb,.inl hb,(I5.ok.exf b hb).2,λp hp=>(f3 b hb).2.2.2.2.2 p (Bd_ _ (show p∈X.pn from(AB_.mp hp).elim id λz=>nomatch z))⟩
  rcases turn i n σ5 H5 w5 with⟨stop,qn⟩|⟨go,N,hN,step⟩
  .show thn (tF (T.done (cxC X N' scope s3 H3 fp) rfl rfl rfl (hc _ _ _) i [] s5 σ5 H5 X.xe I5 (stat fr5) st5 stop)) λr s6 ⟨hr,I6⟩=>?_;subst hr;show fin I6 qn
  .show thn (tF (T.item (cxC X N' scope s3 H3 fp) rfl rfl rfl (hc _ _ _) i [] s5 σ5 H5 X.xe I5 (stat fr5) st5 go)) λr s6 ⟨u,hr,h6⟩=>?_;subst hr;show thn (tF h6) λ_ s7 ⟨x,H7,I7,r7,y7,st7,fr7⟩=>?_;have I7':=I7.pinned (stat fr7) (T.obj _ _ st7);have again:∀{σ':St}{H':Hp}{s':Shared},Inv (cxC X N' scope s3 H3 fp) ([]++H4_ fp s7.heap) σ' H' s'->N σ' H'->∃m,m<n/\∃i σ' H',Inv (cxC X N' scope s3 H3 fp) [] σ' H' s'/\tn i s'.heap/\(∀b∈fp,H' b=none)/\W i m σ' H':=λ{σ' H' s'} J n10=>by obtain⟨m',hm,w10⟩:=hN σ' H' n10;show⟨m',hm,i+1,σ',H',J.unpinned,T.keep _ _ _ st7 λb hb o e=>(J.pin (b,o) (AI_ _ (AI_ _ (e1_ hb e)))).1,λb hb=>?_,w10⟩;obtain⟨o,e,d⟩:=T.obj _ _ st7 b hb;show(J.pin (b,o) (AI_ _ (AI_ _ (e1_ hb e)))).2.1
   show thn (tF (hg s3 H3 fp _ s7 σ5 H7 x u _ I7' r7 (step x H7 y7))) λ_ s8 ⟨σ8,H8,I8,q8⟩=>?_;show thn (tF (ht s3 H3 fp _ s8 σ8 H8 _ I8 q8)) λok s8' ⟨H8',I8',q8'⟩=>?_;cases ok with
   |false=>show again I8' (by simpa using q8')
   |true =>rw[if_pos rfl]at q8'⊢;show thn (tF (he s3 H3 fp _ s8' σ8 H8' _ I8' q8')) λv s9 ⟨y,H9,I9,r9,xs,hl9,hz9,n9⟩=>?_;show thn (tF (bA_ (X:=cxC X N' scope s3 H3 fp) _ s9 σ8 H9 (.ref s2.heap.objs.size) [y] (.ref s2.heap.objs.size) [v] (λ_ H'=>N σ8 H') I9 rfl (.cons r9 .nil) ⟨xs,hl9,hz9,n9⟩)) λ_ s10 ⟨_,H10,I10,_,n10⟩=>again I10 n10
 show codeAny_compStart_list loop (T.self _ 0 _ _ _ st4 loop)
theorem aF_(hc:X.calm=true)(hxe:X.xe=λ_ _=>False)(S:Scp X.env.scope X.N N' ix scope)(hi:PI X tg iter wi)(hg:∀s H ex,PG (cxC X N' scope s H ex) tg g)(ht:∀s H ex,PF (cxC X N' scope s H ex) ifs tt)(he:∀s H ex,PE (cxC X N' scope s H ex) elt te)
  (hs:∀x,foldedSetIterable iter X.env x=pure x:=by intro _;rfl):PE X (.ListComp elt [⟨tg,iter,ifs,0⟩] scope pos) (Js_ ix wi g tt te):=by
 intro pins s σ H Q I h;rw[eval_ListComp];show DP_ (use:=none) rfl hs (iR_ λp hp e=>I.ok.has p.1 (S.free p hp e)) S.kind S.names (kr_ (C:=λX=>X.calm=true) (λ_ _ _=>hc) hxe S hi.c hg ht he I h λD C H' s' K1 F ⟨m,hn⟩ q=>?_);show⟨m,hn,λh' sb=>?_⟩;obtain⟨g0,g1,g2,g3,g4,g5⟩:=F;show⟨.ref D,H',K1.turned (t':=s'.toks) (λb o hb e=>sb.extBut b o hb e) g0 g1 g3 g4 g5,rfl,q⟩
theorem gj_{i:Nat}{y:Str}{py spos:Pos}(hc:X.calm=true)(hxe:X.xe=λ_ _=>False)(hN:X.N.Nodup)(hy:X.N[i]?=some y)(hl:X.env.scope.names.lookup y=some .local)
  (hsw:swapsWith (.ListComp elt [⟨tg,iter,ifs,0⟩] scope pos) (some (.Name y py)) spos.line X.env=pure true)
  (S:Scp X.env.scope X.N N' ix scope) (hi:PI X tg iter wi) (hg:∀s H ex,PG (cxC X N' scope s H ex) tg g) (ht:∀s H ex,PF (cxC X N' scope s H ex) ifs tt) (he:∀s H ex,PE (cxC X N' scope s H ex) elt te)
  (hs:∀x,foldedSetIterable iter X.env x=pure x:=by intro _;rfl):PS X (.Assign [.Name y py] (.ListComp elt [⟨tg,iter,ifs,0⟩] scope pos) spos) (KH_ (Js_ ix wi g tt te) (HU_ i)):=by
 intro pins s σ H D I h;rw[exec_Assign_Name_used _ _ _ _ hsw];show Ae_ (DE_ (Ae_ ?_));change wpAny _ X.A (do let _ <-comprehension (.ListComp elt [⟨tg,iter,ifs,0⟩] scope pos) scope X.env _ (newList []) false (eval iter X.env) (some (assign (.Name y py) X.env))) _ _ s
 show Ae_ (Bu_ (DP_ (use:=some (assign (.Name y py) X.env)) (Q:=λ_ s'=>SP X pins D .next s') rfl hs (iR_ λp hp e=>I.ok.has p.1 (S.free p hp e)) S.kind S.names
  (kr_ (C:=λX=>X.calm=true) (λ_ _ _=>hc) hxe S hi.c hg ht he I h λL C H' s' K1 F ⟨m,hn⟩ q=>?_)) (λ_ s' hq=>Ao_ (Ao_ hq)) λ_ _ e=>e)
 change wpAny _ X.A (assign (.Name y py) X.env (.ref L)) _ _ _;obtain⟨g0,g1,g2,g3,g4,g5⟩:=F;show wpAny_assign_Name (j8_ K1 hN hy (.inl hl) (v:=.ref L) rfl (λs2 I2 ⟨a,sb,ha⟩=>?_) (.inr hl))
 have hCa:C≠a:=by
  rcases ha with rfl|ha
  .show g1
  .show λz=>g4 _ _ ha z.symm
 show⟨m,hn.sameBut sb hCa,λh' sb'=>?_⟩;show⟨_,H',I2.turned (t':=s2.toks) (λb o hb e=>sb'.extBut b o hb e) g0 g1 g3 g4 g5,q⟩
end
def K7_(scope psc:Scope):Scope :=
 {scope with names:=scope.names.map λ(n,k)=>if(k == .free && psc.kind == .function && psc.names.lookup n == some .cell)then(n,.cell)else(n,k)}
def GD_(psc:Scope)(PN N':List Str)(ix:List (Option Nat))(scope:Scope):Bool :=
 scope.kind == .function &&
 scope.names.all (λx=>x.2 != .local ||scope.names.lookup x.1 == some .local) &&
 scope.names.all (λx=>x.2 != .free ||scope.names.lookup x.1 == some .free) &&
 scope.names.all (λx=>x.2 != .cell || !scope.names.contains (x.1,NameKind.free)) &&
 scope.names.all (λx=>x.2 != .free ||(psc.names.lookup x.1 == some .cell ||psc.names.lookup x.1 == some .free)) &&
 ix.length == N'.length &&
 (List.range N'.length).all (λj=>match ix[j]?,N'[j]? with|some (some i),some x=>PN[i]? == some x && scope.names.contains (x,NameKind.free)|_,_=>true)
theorem aM_{psc:Scope}{PN:List Str}(h:GD_ psc PN N' ix scope=true):Scp psc PN N' ix scope:=by
 unfold GD_ at h;simp only[Cw_,DQ_,beq_iff_eq,Bool.or_eq_true,EE_,ne_eq,Da_,Bool.not_eq_true',AP_]at h;obtain⟨⟨⟨⟨⟨⟨h1,h2⟩,h3⟩,h4⟩,h5⟩,h6⟩,h7⟩:=h;show⟨h1,λx hx e=>(h2 x hx).resolve_left λz=>z e,λx hx e=>(h3 x hx).resolve_left λz=>z e,λx hx e hm=>?_,λx hx e=>(h5 x hx).resolve_left λz=>z e,h6,λj i x e1 e2=>?_⟩
 .have:=(h4 x hx).resolve_left λz=>z e;rw[Da_.mpr hm]at this;cases this
 .have hj:j<N'.length:=(Ar_.mp e1).1;have:=h7 j hj;rw[e1,e2]at this;simp only[Cw_,beq_iff_eq,Da_]at this;show this
variable {x:Str}{pos:Pos}{i:Nat}{e:Expr}{te:TE}
theorem pvc(i:Nat)(hN:X.N[i]?=some x:=by rfl) (hv:X.env.scope.names.lookup x=some .cell:=by rfl) (hd:(x == ("__debug__" : Str))=false:=by decide) (hcd:(x == ("__classdict__" : Str))=false:=by decide):PE X (.Name x pos) (LW_ i):=pD_ hN (.inr (.inl hv)) hd hcd
theorem bp_{pos':Pos}(hN:X.N.Nodup)(hi:X.N[i]?=some x)(hx:X.env.scope.names.lookup x=some .cell)(hf:X.fn x=true)(he:PE X e te)(hs:swapsWith e (some (.Name x pos')) pos.line X.env=pure false):PS X (.Assign [.Name x pos'] e pos) (KH_ te (HU_ i)):=
 pJ_ hN hi (.inr hx) he hs (.inl hf)
theorem dG_(hN:X.N.Nodup)(hi:X.N[i]?=some x)(hx:X.env.scope.names.lookup x=some .cell)(hf:X.fn x=true):PG X (.Name x pos) (HU_ i):=no_ hN hi (.inr hx) (.inl hf)
theorem ap_{tg l:Expr}{tl:TE}(hK:X.K=K)(hl:PE X l tl):PI X tg l (Km_ K tl):=hK▸qk_ hl
theorem qt_{tg l:Expr}{tl:TE}(hK:X.K=K)(hl:PE X l tl):PI X tg l (L7_ K tl):=hK▸ru_ hl
theorem o2_(hK:X.K=K):IxR X (ML_ K):=hK▸nB_
inductive Dt where
 |non|bl (b:Bool)|int (i:Int)|str (x:Str)|tup (xs:List Dt)|lst (xs:List Dt)
mutual
def Rep(H:Hp):V->Dt->Prop
 |v,.non=>v=.non
 |v,.bl b=>v=.bl b
 |v,.int i=>v=.int i
 |v,.str x=>v=.str x
 |v,.tup ds=>∃p xs,v=.ref p/\H p=some (.tup xs)/\FE_ H xs ds
 |v,.lst ds=>∃p xs,v=.ref p/\H p=some (.lst xs)/\FE_ H xs ds
def FE_(H:Hp):List V->List Dt->Prop
 |xs,[]=>xs=[]
 |xs,d::ds=>∃x r,xs=x::r/\Rep H x d/\FE_ H r ds
end
mutual
theorem Rep.mono{H H':Hp}(e:Fo_ H H'):∀{v:V}(d:Dt),Rep H v d->Rep H' v d
 |v,.non,h=>h
 |v,.bl b,h=>h
 |v,.int i,h=>h
 |v,.str x,h=>h
 |v,.tup ds,⟨p,xs,h1,h2,h3⟩=>⟨p,xs,h1,e _ _ h2,FE_.mono e ds h3⟩
 |v,.lst ds,⟨p,xs,h1,h2,h3⟩=>⟨p,xs,h1,e _ _ h2,FE_.mono e ds h3⟩
theorem FE_.mono{H H':Hp}(e:Fo_ H H'):∀{xs:List V}(ds:List Dt),FE_ H xs ds->FE_ H' xs ds
 |xs,[],h=>h
 |xs,d::ds,⟨x,r,h1,h2,h3⟩=>⟨x,r,h1,Rep.mono e d h2,FE_.mono e ds h3⟩
end
mutual
theorem Rep.inj{H:Hp}:∀{v:V}(d e:Dt),Rep H v d->Rep H v e->d=e
 |v,.non,e,h,h'=>by
  cases h;cases e <;> first|rfl|(simp[Rep]at h')
 |v,.bl b,e,h,h'=>by
  cases h;cases e <;> simp[Rep]at h' <;> simp[h']
 |v,.int i,e,h,h'=>by
  cases h;cases e <;> simp[Rep]at h' <;> simp[h']
 |v,.str x,e,h,h'=>by
  cases h;cases e <;> simp[Rep]at h' <;> simp[h']
 |v,.tup ds,e,⟨p,xs,h1,h2,h3⟩,h'=>by
  subst h1;cases e with
  |tup es =>
   obtain⟨p',xs',g1,g2,g3⟩:=h';cases g1;rw[h2]at g2;cases g2;rw[FE_.inj ds es h3 g3]
  |lst es =>
   obtain⟨p',xs',g1,g2,g3⟩:=h';cases g1;rw[h2]at g2;cases g2
  |_=>simp[Rep]at h'
 |v,.lst ds,e,⟨p,xs,h1,h2,h3⟩,h'=>by
  subst h1;cases e with
  |tup es =>
   obtain⟨p',xs',g1,g2,g3⟩:=h';cases g1;rw[h2]at g2;cases g2
  |lst es =>
   obtain⟨p',xs',g1,g2,g3⟩:=h';cases g1;rw[h2]at g2;cases g2;rw[FE_.inj ds es h3 g3]
  |_=>simp[Rep]at h'
theorem FE_.inj{H:Hp}:∀{xs:List V}(ds es:List Dt),FE_ H xs ds->FE_ H xs es->ds=es
 |xs,[],es,h,h'=>by
  cases h;cases es with
  |nil=>rfl
  |cons e es=>obtain⟨x,r,g,_⟩:=h';cases g
 |xs,d::ds,es,⟨x,r,h1,h2,h3⟩,h'=>by
  subst h1;cases es with
  |nil=>cases h'
  |cons e es =>obtain⟨x',r',g1,g2,g3⟩:=h';cases g1;rw[Rep.inj d e h2 g2,FE_.inj ds es h3 g3]
end
theorem FE_.length{H:Hp}:∀{xs:List V}{ds:List Dt},FE_ H xs ds->xs.length=ds.length
 |xs,[],h=>by cases h;rfl
 |xs,d::ds,⟨x,r,h1,h2,h3⟩=>by subst h1;simp[FE_.length h3]
theorem FE_.get{H:Hp}:∀{xs:List V}{ds:List Dt}{i:Nat}{d:Dt},FE_ H xs ds->ds[i]?=some d->∃x,xs[i]?=some x/\Rep H x d
 |xs,[],i,d,h,e=>by simp at e
 |xs,d'::ds,0,d,⟨x,r,h1,h2,h3⟩,e=>by
  subst h1;simp at e;subst e;show⟨x,rfl,h2⟩
 |xs,d'::ds,i+1,d,⟨x,r,h1,h2,h3⟩,e=>by subst h1;obtain⟨y,hy,hr⟩:=FE_.get (i:=i) (d:=d) h3 (by simpa using e);show⟨y,by simpa using hy,hr⟩
theorem FE_.append{H:Hp}:∀{xs:List V}{ds:List Dt}{ys:List V}{es:List Dt},FE_ H xs ds->FE_ H ys es->FE_ H (xs++ys) (ds++es)
 |xs,[],ys,es,h,g=>by cases h;show g
 |xs,d::ds,ys,es,⟨x,r,h1,h2,h3⟩,g=>by subst h1;show⟨x,r++ys,rfl,h2,FE_.append h3 g⟩
mutual
def deq:Dt->Dt->Option Bool
 | .non,.non=>some true
 | .bl a,.bl b=>some (a == b)
 | .int a,.int b=>some (a == b)
 | .str a,.str b=>some (a == b)
 | .tup xs,.tup ys=>deqs xs ys
 | .lst xs,.lst ys=>if xs.length=ys.length then deqs xs ys else some false
 |_,_=>none
def deqs:List Dt->List Dt->Option Bool
 |[],[]=>some true
 |x::xs,y::ys=>match deq x y,deqs xs ys with
  |some a,some b=>some (a && b)
  |_,_=>none
 |_,_=>some false
end
mutual
def dep:Dt->Nat
 | .tup ds=>deps ds+1
 | .lst ds=>deps ds+1
 |_=>0
def deps:List Dt->Nat
 |[]=>0
 |d::ds=>max (dep d) (deps ds)
end
def eAt(ds es:List Dt)(j:Nat):Bool:=match ds[j]?,es[j]? with
 |some d,some e=>(deq d e).getD false
 |_,_=>false
theorem bX_:∀(ds es:List Dt)(b:Bool),deqs ds es=some b->((List.range (min ds.length es.length)).all (eAt ds es) && ds.length == es.length)=b
 |[],[],b,h=>by cases h;rfl
 |[],_::_,b,h=>by cases h;simp
 |_::_,[],b,h=>by cases h;simp
 |d::ds,e::es,b,h=>by
  rw[deqs]at h;cases h1:deq d e with
  |none=>rw[h1]at h;cases h
  |some a =>
   cases h2:deqs ds es with
   |none=>rw[h1,h2]at h;cases h
   |some c =>
    rw[h1,h2]at h;cases h;rw[<-bX_ ds es c h2];simp only[AH_,Nat.succ_min_succ,Fa_,EJ_,Fi_,Bool.and_assoc];congr 1
    .simp[eAt,h1]
    .congr 1;simp
mutual
theorem jl_:∀(d:Dt)(b:Bool),deq d d=some b->b=true
 | .non,b,h=>by cases h;rfl
 | .bl a,b,h=>by simp[deq]at h;show h
 | .int a,b,h=>by simp[deq]at h;show h
 | .str a,b,h=>by simp[deq]at h;show h
 | .tup xs,b,h=>hI_ xs b h
 | .lst xs,b,h=>by rw[deq,if_pos rfl]at h;show hI_ xs b h
theorem hI_:∀(ds:List Dt)(b:Bool),deqs ds ds=some b->b=true
 |[],b,h=>by cases h;rfl
 |d::ds,b,h=>by
  rw[deqs]at h;cases h1:deq d d with
  |none=>rw[h1]at h;cases h
  |some a =>
   cases h2:deqs ds ds with
   |none=>rw[h1,h2]at h;cases h
   |some c =>rw[h1,h2]at h;cases h;rw[jl_ d a h1,hI_ ds c h2];rfl
end
def Vw(K:PySem.W.Frag)(H J:Hp):Prop:=(∀q xs,J q=some (.tup xs)->SqT K H q xs)/\∀q xs,J q=some (.lst xs)->SqL K H q xs
theorem Vw.refl:Vw K H H:=⟨λ_ _ h=>.inl (.inl h),λ_ _ h=>.inl (.inl h)⟩
mutual
theorem nG_(I:Inv X pins σ H s){J:Hp}(hJ:Vw X.K H J):∀(d e:Dt){A:Around}{x y:V}{u v:Value}{b:Bool},Rep J x d->Rep J y e->FY_ x u->FY_ y v->deq d e=some b->A.units+dep d<cLine->SeqAt.EqAt A s u v b
 | .non,e,A,x,y,u,v,b,hx,hy,rx,ry,hb,hu=>by
  cases e <;> first|(cases hb;cases hx;cases hy;cases rx;cases ry;show Dh_ _)|(simp[deq]at hb)
 | .bl a,e,A,x,y,u,v,b,hx,hy,rx,ry,hb,hu=>by
  cases e <;> first|(cases hb;cases hx;cases hy;cases rx;cases ry;show EC_ _ _)|(simp[deq]at hb)
 | .int a,e,A,x,y,u,v,b,hx,hy,rx,ry,hb,hu=>by
  cases e <;> first|(cases hb;cases hx;cases hy;obtain⟨t,rfl⟩:=rx;obtain⟨t',rfl⟩:=ry;show SeqAt.EqAt.int_int _ _ _ _)|(simp[deq]at hb)
 | .str a,e,A,x,y,u,v,b,hx,hy,rx,ry,hb,hu=>by
  cases e <;> first|(cases hb;cases hx;cases hy;obtain⟨t,rfl⟩:=rx;obtain⟨t',rfl⟩:=ry;show SeqAt.EqAt.str_str _ _ _ _)|(simp[deq]at hb)
 | .tup ds,e,A,x,y,u,v,b,hx,hy,rx,ry,hb,hu=>by
  cases e with
  |tup es =>
   obtain⟨p,xs,e1,hp,hr⟩:=id hx;obtain⟨q,ys,e2,hq,hs⟩:=id hy;subst e1 e2;cases rx;cases ry;by_cases hpq:p=q
   .subst hpq;have:=Rep.inj _ _ hx hy;cases this;rw[jl_ _ b hb];show Dh_ _
   .obtain⟨its,r1,pl1,_⟩:=I.tuple (hJ.1 _ _ hp);obtain⟨its',r2,pl2,_⟩:=I.tuple (hJ.1 _ _ hq);have l1:=r1.length;have l2:=r2.length;have g1:=hr.length;have g2:=hs.length;have hu':A.in1.units+deps ds<cLine:=by have:A.units+(deps ds+1)<cLine:=hu;rw[A7_];lia
    have hb':deqs ds es=some b:=hb;rw[<-bX_ ds es b hb'];have:=SeqAt.RcAt.tuples (e:=eAt ds es) (A:=A) (s:=s) pl1 pl2 (BF_ (Cy_ _ _) hu) (λj h1 h2=>by have:=fi_ I hJ ds es hr hs r1 r2 hb' hu' j (by simpa using h1) (by simpa using h2);simpa using this);simp only[As_,<-l1,<-l2,g1,g2]at this;show Dy_ hpq this
  |_=>simp[deq]at hb
 | .lst ds,e,A,x,y,u,v,b,hx,hy,rx,ry,hb,hu=>by
  cases e with
  |lst es =>
   obtain⟨p,xs,e1,hp,hr⟩:=id hx;obtain⟨q,ys,e2,hq,hs⟩:=id hy;subst e1 e2;cases rx;cases ry;by_cases hpq:p=q
   .subst hpq;have:=Rep.inj _ _ hx hy;cases this;rw[jl_ _ b hb];show Dh_ _
   .obtain⟨its,r1,pl1,_⟩:=I.list (hJ.2 _ _ hp);obtain⟨its',r2,pl2,_⟩:=I.list (hJ.2 _ _ hq);have l1:=r1.length;have l2:=r2.length;have g1:=hr.length;have g2:=hs.length;have hu0:A.units<cLine:=BF_ (Cy_ _ _) hu;have hu':A.in1.units+deps ds<cLine:=by have:A.units+(deps ds+1)<cLine:=hu;rw[A7_];lia
    rw[deq]at hb;by_cases hl:ds.length=es.length
    .rw[if_pos hl]at hb;rw[<-bX_ ds es b hb];have:=SeqAt.RcAt.lists (e:=eAt ds es) (A:=A) (s:=s) pl1.isList pl2.isList (by simp only[As_];lia) hu0 (λj h1 h2=>by have:=fi_ I hJ ds es hr hs r1 r2 hb hu' j (by simpa using h1) (by simpa using h2);simpa using this);simp only[As_,<-l1,g1]at this;show Dy_ hpq ?_;have e3:min ds.length es.length=ds.length:=o_
     rw[e3,hl];simpa[hl]using this
    .rw[if_neg hl]at hb;cases hb;show Dy_ hpq (SeqAt.RcAt.lists_lengths pl1.isList pl2.isList (by simp only[As_,EE_,ne_eq];lia) hu0)
  |_=>simp[deq]at hb
theorem fi_(I:Inv X pins σ H s){J:Hp}(hJ:Vw X.K H J):∀(ds es:List Dt){A:Around}{xs ys:List V}{us vs:List Value}{b:Bool},FE_ J xs ds->FE_ J ys es->FR_ xs us->FR_ ys vs->deqs ds es=some b->A.units+deps ds<cLine ->
  ∀(j:Nat)(h1:j<us.length)(h2:j<vs.length),SeqAt.EqAt A s us[j] vs[j] (eAt ds es j)
 |[],es,A,xs,ys,us,vs,b,hx,hy,rx,ry,hb,hu,j,h1,h2=>by
  cases hx;cases rx;show absurd h1 (Nat.not_lt_zero _)
 |d::ds,es,A,xs,ys,us,vs,b,⟨x,r,e1,hd,hr⟩,hy,rx,ry,hb,hu,j,h1,h2=>by
  subst e1;cases es with
  |nil =>
   cases hy;cases ry;show absurd h2 (Nat.not_lt_zero _)
  |cons e es =>
   obtain⟨y,r',e2,he,hs⟩:=hy;subst e2;cases rx with
   |cons rx rxs =>
    cases ry with
    |cons ry rys =>
     rw[deqs]at hb;cases g1:deq d e with
     |none=>rw[g1]at hb;cases hb
     |some a =>
      cases g2:deqs ds es with
      |none=>rw[g1,g2]at hb;cases hb
      |some c =>
       have hm:A.units+max (dep d) (deps ds)<cLine:=hu;cases j with
       |zero =>
        have:=nG_ I hJ d e (A:=A) hd he rx ry g1 o_;simpa[eAt,g1]using this
       |succ j =>have:=fi_ I hJ ds es (A:=A) hr hs rxs rys g2 o_ j (by simpa using h1) (by simpa using h2);simpa[eAt]using this
end
def MG_(K:PySem.W.Frag):R2:=λx y H Q=>∃J p q d e b,Vw K H J/\x=.ref p/\y=.ref q/\Rep J x d/\Rep J y e/\deq d e=some b/\dep d<=60/\Q (.bl b) H
theorem pQ_(hK:X.K=K)(hu:X.A.units+64<cLine):OpR X (compareOp .Eq) (MG_ K):=by
 subst hK;intro pins s σ H x y v u Q I rx ry h;obtain⟨J,p,q,d,e,b,hJ,e1,e2,hx,hy,hb,hd,k⟩:=h;subst e1 e2;cases rx;cases ry;have fin:EP X pins σ Q (.bool b) s:=⟨.bl b,H,I,rfl,k⟩;cases d with
 |tup ds =>
  cases e with
  |tup es =>
   obtain⟨_,xs,z,hp,hr⟩:=hx;cases z;obtain⟨_,ys,z,hq,hs⟩:=hy;cases z;obtain⟨its,r1,pl1,_⟩:=I.tuple (hJ.1 _ _ hp);obtain⟨its',r2,pl2,_⟩:=I.tuple (hJ.1 _ _ hq);have l1:=r1.length;have l2:=r2.length;have g1:=hr.length;have g2:=hs.length;have hd':deps ds+1<=60:=hd;have hu':X.A.in1.units+deps ds<cLine:=by rw[A7_];lia
   have hb':deqs ds es=some b:=hb;show SeqAt.eq_tupleAt (e:=eAt ds es) pl1 pl2 o_ (λj h1 h2=>by have:=fi_ I hJ ds es hr hs r1 r2 hb' hu' j (by simpa using h1) (by simpa using h2);simpa using this) ?_;simp only[As_,<-l1,<-l2,g1,g2];rw[bX_ ds es b hb'];show fin
  |_=>simp[deq]at hb
 |lst ds =>
  cases e with
  |lst es =>
   obtain⟨_,xs,z,hp,hr⟩:=hx;cases z;obtain⟨_,ys,z,hq,hs⟩:=hy;cases z;obtain⟨its,r1,pl1,_⟩:=I.list (hJ.2 _ _ hp);obtain⟨its',r2,pl2,_⟩:=I.list (hJ.2 _ _ hq);have l1:=r1.length;have l2:=r2.length;have g1:=hr.length;have g2:=hs.length;have hd':deps ds+1<=60:=hd;have hu':X.A.in1.units+deps ds<cLine:=by rw[A7_];lia
   rw[deq]at hb;by_cases hl:ds.length=es.length
   .rw[if_pos hl]at hb;show SeqAt.eq_listAt (e:=eAt ds es) pl1.isList pl2.isList (by simp only[As_];lia) o_ (λj h1 h2=>by have:=fi_ I hJ ds es hr hs r1 r2 hb hu' j (by simpa using h1) (by simpa using h2);simpa using this) ?_;have e3:=bX_ ds es b hb;have e4:min ds.length es.length=ds.length:=o_
    rw[e4,hl]at e3;simp only[beq_self_eq_true,Bool.and_true]at e3;simp only[As_,<-l1,g1,hl,e3];show fin
   .rw[if_neg hl]at hb;cases hb;show SeqAt.eq_list_lengthsAt pl1.isList pl2.isList (by simp only[As_,EE_,ne_eq];lia) o_ fin
  |_=>simp[deq]at hb
 |_=>simp[Rep]at hx
def MM_:R2:=λx y H Q=>∃p q d e b,x=.ref p/\y=.ref q/\Rep H x d/\Rep H y e/\deq d e=some b/\dep d<=60/\Q (.bl b) H
theorem rG_(hu:X.A.units+64<cLine):OpR X (compareOp .Eq) MM_:=λpins s σ H x y v u Q I rx ry ⟨p,q,d,e,b,h⟩=>pQ_ rfl hu pins s σ H x y v u Q I rx ry ⟨H,p,q,d,e,b,Vw.refl,h⟩
def MU_(K:PySem.W.Frag):R2:=λx y H Q=>∃J p q d e b,Vw K H J/\x=.ref p/\y=.ref q/\Rep J x d/\Rep J y e/\deq d e=some b/\dep d<=60/\Q (.bl (!b)) H
theorem rH_(hK:X.K=K)(hu:X.A.units+64<cLine):OpR X (compareOp .NotEq) (MU_ K):=by
 subst hK;intro pins s σ H x y v u Q I rx ry h;obtain⟨J,p,q,d,e,b,hJ,e1,e2,hx,hy,hb,hd,k⟩:=h;subst e1 e2;cases rx;cases ry;have fin:EP X pins σ Q (.bool (!b)) s:=⟨.bl (!b),H,I,rfl,k⟩;cases d with
 |tup ds =>
  cases e with
  |tup es =>
   obtain⟨_,xs,z,hp,hr⟩:=hx;cases z;obtain⟨_,ys,z,hq,hs⟩:=hy;cases z;obtain⟨its,r1,pl1,_⟩:=I.tuple (hJ.1 _ _ hp);obtain⟨its',r2,pl2,_⟩:=I.tuple (hJ.1 _ _ hq);have l1:=r1.length;have l2:=r2.length;have g1:=hr.length;have g2:=hs.length;have hd':deps ds+1<=60:=hd;have hu':X.A.in1.units+deps ds<cLine:=by rw[A7_];lia
   have hb':deqs ds es=some b:=hb;show SeqAt.RcNeAt.tuples (e:=eAt ds es) pl1 pl2 o_ (λj h1 h2=>by have:=fi_ I hJ ds es hr hs r1 r2 hb' hu' j (by simpa using h1) (by simpa using h2);simpa using this) _ _ _ _ ?_;simp only[As_,<-l1,<-l2,g1,g2];rw[bX_ ds es b hb'];show fin
  |_=>simp[deq]at hb
 |lst ds =>
  cases e with
  |lst es =>
   obtain⟨_,xs,z,hp,hr⟩:=hx;cases z;obtain⟨_,ys,z,hq,hs⟩:=hy;cases z;obtain⟨its,r1,pl1,_⟩:=I.list (hJ.2 _ _ hp);obtain⟨its',r2,pl2,_⟩:=I.list (hJ.2 _ _ hq);have l1:=r1.length;have l2:=r2.length;have g1:=hr.length;have g2:=hs.length;have hd':deps ds+1<=60:=hd;have hu':X.A.in1.units+deps ds<cLine:=by rw[A7_];lia
   rw[deq]at hb;by_cases hl:ds.length=es.length
   .rw[if_pos hl]at hb;show SeqAt.RcNeAt.lists (e:=eAt ds es) pl1.isList pl2.isList (by simp only[As_];lia) o_ (λj h1 h2=>by have:=fi_ I hJ ds es hr hs r1 r2 hb hu' j (by simpa using h1) (by simpa using h2);simpa using this) _ _ _ _ ?_;have e3:=bX_ ds es b hb;have e4:min ds.length es.length=ds.length:=o_
    rw[e4,hl]at e3;simp only[beq_self_eq_true,Bool.and_true]at e3;simp only[As_,<-l1,g1,hl,e3];show fin
   .rw[if_neg hl]at hb;cases hb;show SeqAt.RcNeAt.lists_lengths pl1.isList pl2.isList (by simp only[As_,EE_,ne_eq];lia) o_ _ _ _ _ fin
  |_=>simp[deq]at hb
 |_=>simp[Rep]at hx
def MV_:R2:=λx y H Q=>∃p q d e b,x=.ref p/\y=.ref q/\Rep H x d/\Rep H y e/\deq d e=some b/\dep d<=60/\Q (.bl (!b)) H
theorem hJ_(hu:X.A.units+64<cLine):OpR X (compareOp .NotEq) MV_:=λpins s σ H x y v u Q I rx ry ⟨p,q,d,e,b,h⟩=>rH_ rfl hu pins s σ H x y v u Q I rx ry ⟨H,p,q,d,e,b,Vw.refl,h⟩
variable {h':Heap}
theorem Inv.turnedL{t':Nat}{ch:List Addr}(I:Inv X pins σ H s)(k:∀b o,b∉ch->s.heap.get? b=some o->h'.get? b=some o)(hf:∀b∈ch,HY_ X pins H b):Inv X pins σ H {s with heap:=h',toks:=t'}:=by
 have nit:∀b u,H b=some u->b∉ch:=λb u e z=>by rw[(hf b z).1]at e;cases e
 show I.step (g':=s.gens) (d':=s.drawn) (ch:=ch) (λb hb=>?_) (λb o _ _ hc e _=>k b o hc e) (λb o _ _ hc e _=>⟨o.slots,k b o hc e⟩) (λ_ _ _ _ n=>n)
  (λb o hc e=>⟨o,k b o hc e⟩) (λ_ _ e=>e) (λ_ _ _ e=>e) (λb ps e=>⟨#[],by rw[e];simp⟩) (λm hm=>?_) (λb u e=>?_) I.bare
 .obtain⟨g0,g1,g2,g3,g4,g5⟩:=hf b hb;show⟨g3,g1,g4,g5⟩
 .obtain⟨o,es,ep,ho,r⟩:=hm;show⟨o,es,ep,k _ o (λz=>(hf _ z).2.1 rfl) ho,r⟩
 .show(I.hok b u e).stay (λc v hc q=>k c v ?_ q) (λ_ q=>q) λ_ _ q=>q
  rcases hc with z|z
  .rw[z];show nit b u e
  .show nit c _ z
def Itz(K:PySem.W.Frag)(a b:Addr):It :=
  ⟨λi H=>∃xs ys x y,SqL K H a xs/\SqL K H b ys/\xs[i]?=some x/\ys[i]?=some y,
   λi H v H'=>∃T x y,v=.ref T/\H T=none/\H'=upd H T (.tup [x,y])/\(∀xs,SqL K H a xs->xs[i]?=some x)/\(∀ys,SqL K H b ys->ys[i]?=some y),
   λi H=>∃xs ys,SqL K H a xs/\SqL K H b ys/\(xs.length<=i\/ys.length<=i)⟩
def L8_(z TI TO i1 i2 l1 l2:Addr)(i:Nat)(h:Heap):Prop:=IsZip h z TI TO .none/\IsPair h TI (.ref i1) (.ref i2)/\(∃a b,IsPair h TO a b)/\h.IsListIter i1 l1 i/\h.IsListIter i2 l2 i
theorem o3_{elts:List Expr}{kt:Nat}{tpos:Pos}{z TI TO i1 i2 l1 l2:Addr}(D:ZipApart z TI TO i1 i2 l1 l2):
  J6_ P w K (.Tuple elts kt tpos) (Itz K l1 l2) [z,TI,TO,i1,i2] z (L8_ z TI TO i1 i2 l1 l2) where
 mem:=s_
 obj:=λi h st b hb=>by
  obtain⟨s1,s2,⟨a,c,s3⟩,⟨o4,s4,c4,d4⟩,⟨o5,s5,c5,d5⟩⟩:=st;simp only[Aq_,Ba_,Cf_]at hb
  rcases hb with rfl|rfl|rfl|rfl|rfl
  .show⟨_,s1,λv e=>by cases(show Data.fields _=Data.cell v from e)⟩
  .show⟨_,s2,λv e=>by cases(show Data.seq _ _=Data.cell v from e)⟩
  .show⟨_,s3,λv e=>by cases(show Data.seq _ _=Data.cell v from e)⟩
  .show⟨o4,s4,λv e=>by rw[d4]at e;cases e⟩
  .show⟨o5,s5,λv e=>by rw[d5]at e;cases e⟩
 keep:=λi h h' st k=>by obtain⟨s1,s2,⟨a,c,s3⟩,s4,s5⟩:=st;show⟨k z s_ _ s1,k TI s_ _ s2,⟨a,c,k TO s_ _ s3⟩,s4.at λo e=>k i1 s_ o e,s5.at λo e=>k i2 s_ o e⟩
 item:=by
  intro X hP hw hK hc i pins s σ H E I hf st hg;subst hP hw hK;obtain⟨xs,ys,x,y,hq1,hq2,hx,hy⟩:=hg;obtain⟨its1,rv1,p1,z1⟩:=I.list hq1;obtain⟨its2,rv2,p2,z2⟩:=I.list hq2;obtain⟨u1,hu1,ru1⟩:=rv1.get hx;obtain⟨u2,hu2,ru2⟩:=rv2.get hy;obtain⟨s1,s2,⟨a,c,s3⟩,s4,s5⟩:=id st;show Er_ D s1 s2 s3 s4 s5 p1.isList p2.isList (x:=u1) (y:=u2) (by simpa using hu1) (by simpa using hu2) λh' g1 g2 g3 g4 g5 g6 g7=>?_;show⟨_,rfl,wpAny_letOwnedTupleGo_zip g1 λh'' k1 k2=>?_⟩
  have lt:∀b∈[z,TI,TO,i1,i2],b<s.heap.objs.size:=λb hb=>by
   simp only[Aq_,Ba_,Cf_]at hb
   rcases hb with rfl|rfl|rfl|rfl|rfl
   .show Ap_ s1
   .show Ap_ s2
   .show Ap_ s3
   .obtain⟨o,e,_⟩:=s4;show Ap_ e
   .obtain⟨o,e,_⟩:=s5;show Ap_ e
  have hT:H s.heap.objs.size=none:=I.hok.fresh (Af_ _)
  have I1:Inv X pins σ (upd H s.heap.objs.size (.tup [x,y])) {s with heap:=s.heap.push {cls:=.type "tuple",data:=.seq #[u1,u2]}} :=
   I.laid (t':=s.toks) (λb u e=>Al_ _ e) (Af_ _) ⟨by change 2<=sizeLine;decide,[u1,u2],.cons ru1 (.cons ru2 .nil),⟨_,AA_ _ rfl,rfl,_,rfl⟩⟩
  have f1:∀b∈[z,TI,TO,i1,i2],HY_ X pins (upd H s.heap.objs.size (.tup [x,y])) b:=λb hb=>⟨by rw[aj_ (AE_ (lt b hb))];show(hf b hb).1,(hf b hb).2⟩
  have I2:Inv X pins σ (upd H s.heap.objs.size (.tup [x,y])) {s with heap:=h''}:=by
   show Inv.turnedL (s:={s with heap:=s.heap.push {cls:=.type "tuple",data:=.seq #[u1,u2]}}) (ch:=[z,TI,TO,i1,i2]) (t':=s.toks) I1 (λb o hb e=>?_) f1;simp only[Aq_,Ba_,Cf_,not_or]at hb;show k2.extBut b o hb.1 ?_;by_cases hbT:b=s.heap.objs.size
   .subst hbT;have e':(s.heap.push {cls:=.type "tuple",data:=.seq #[u1,u2]}).get? s.heap.objs.size=some o:=e;rw[AA_ _ rfl]at e';cases e';show g5
   .have hb2:s.heap.get? b=some o:=by have e':(s.heap.push {cls:=.type "tuple",data:=.seq #[u1,u2]}).get? b=some o:=e;show(Ck_ _ _ _ hbT).symm.trans e'
    show g7 b o hb.1 hb.2.2.1 hb.2.2.2.1 hb.2.2.2.2 hb2
  show⟨.ref s.heap.objs.size,_,I2,rfl,⟨_,x,y,rfl,hT,rfl,λxs' h'=>by rw[I.list_inj h' hq1];show hx,λys' h'=>by rw[I.list_inj h' hq2];show hy⟩,?_,λb hb=>(f1 b hb).1⟩;show⟨k1,?_,?_,?_,?_⟩
  .show k2.extBut _ _ D.TIz (g7 _ _ D.TIz D.TITO D.TIi1 D.TIi2 s2)
  .show⟨u1,u2,k2.extBut _ _ D.TOz g2⟩
  .show g3.at λo e=>k2.extBut _ _ D.i1z e
  .show g4.at λo e=>k2.extBut _ _ D.i2z e
 done:=by
  intro X hP hw hK hc i pins s σ H E I hf st hg;subst hP hw hK;obtain⟨xs,ys,hq1,hq2,he⟩:=hg;obtain⟨its1,rv1,p1,z1⟩:=I.list hq1;obtain⟨its2,rv2,p2,z2⟩:=I.list hq2;obtain⟨s1,s2,⟨a,c,s3⟩,s4,s5⟩:=id st;have l1:=rv1.length;have l2:=rv2.length
  show EF_ (I.ok.hd hc) D s1 s2 s3 s4 s5 p1.isList p2.isList (by
   rcases he with he|he
   .show .inl (by simp;lia)
   .show .inr (by simp;lia)) λh' k=>⟨rfl,?_⟩
  show Inv.turnedL (ch:=[z,TI,TO,i1,i2]) (t':=s.toks) I (λb o hb e=>?_) hf;simp only[Aq_,Ba_,Cf_,not_or]at hb;show k b o hb.1 hb.2.2.1 hb.2.2.2.1 hb.2.2.2.2 e
 self:=λ_ _ _ _ _ st h=>DR_ st.1 h
def M0_(K:PySem.W.Frag)(ta:TA):TI:=λσ H R=>ta σ H λvs H1=>∃a b,vs=[.ref a,.ref b]/\(∃xs,SqL K H1 a xs)/\(∃ys,SqL K H1 b ys)/\R (Itz K a b) H1
variable {elts:List Expr}{kt:Nat}{tpos:Pos}
variable{p:Pos}
theorem nH_{a b:Expr}{ta:TA}(hK:X.K=K)(hg:Gl X "zip") (hm:X.mg "zip"=none) (ha:PA X [a,b] ta) (hs:Fv_ [a,b]=true:=by rfl):PI X (.Tuple elts kt tpos) (.Call (.Name "zip" p) [a,b] [] pos) (M0_ K ta):=by
 subst hK;intro pins s σ H R I h;have h':Gk_ a=true/\Fv_ [b]=true:=by simpa[Fv_]using hs
 show Call_ (dg_ I hg hm pP_ (AV_ (thn (ha pos pins s σ H _ I h) λus s1 ⟨vs,H1,I1,r1,q1⟩=>?_) (aw_ h'.1) (be_ h'.2)));obtain⟨l1,l2,e,⟨xs,hx⟩,⟨ys,hy⟩,q⟩:=q1;subst e;obtain⟨u1,u2,rfl,e1,e2⟩:=Hl_ r1;cases e1;cases e2;obtain⟨its1,rv1,p1,z1⟩:=I1.list hx;obtain⟨its2,rv2,p2,z2⟩:=I1.list hy;have hl1:l1<s1.heap.objs.size:=by obtain⟨o,e,_⟩:=p1.isList;show Ap_ e
 have hl2:l2<s1.heap.objs.size:=by obtain⟨o,e,_⟩:=p2.isList;show Ap_ e
 show call_zip_2 p1.isList p2.isList λh' g1 g2 g3 g4 g5 g6 g7=>?_;have I2:Inv X pins σ H1 {s1 with heap:=h'}:=I1.kept (t':=s1.toks) g7;show DR_ g1 ⟨_,[s1.heap.objs.size+4,s1.heap.objs.size+2,s1.heap.objs.size+3,s1.heap.objs.size,s1.heap.objs.size+1],_,Itz X.K l1 l2,H1,rfl,I2,o3_ (zipApart_new hl1 hl2),⟨g1,g2,⟨_,_,g3⟩,g4,g5⟩,λb hb=>?_,q⟩
 have hb':s1.heap.objs.size<=b:=by
  simp only[Aq_,Ba_,Cf_]at hb
  rcases hb with rfl|rfl|rfl|rfl|rfl <;> first|show Cy_ _ _|show Af_ _
 show I1.fpOk hb' (I1.hok.fresh hb')
theorem gP_:∀{ns:List Int}{us:List Value},FR_ (ns.map V.int) us->IntsAre us ns
 |[],us,r=>by rw[CO_]at r;cases r;show .nil
 |n::ns,us,r=>by
  rw[Av_]at r;cases r with
  |cons a b =>obtain⟨t,rfl⟩:=a;show .cons n t (gP_ b)
def MK_(K:PySem.W.Frag):List V->Hp->VK->Prop:=λxs H Q=>∃(p:Addr)(ns:List Int),xs=[V.ref p]/\SqL K H p (ns.map V.int)/\Q (.int ns.sum) H
theorem o4_(hK:X.K=K)(hc:X.calm=true):Gz_ X (.builtin "sum") (MK_ K):=by
 subst hK;intro pins s σ H xs us Q I r h;obtain⟨p,ns,rfl,hq,q⟩:=h;obtain⟨u,rfl,e⟩:=G0_ r;cases e;obtain⟨its,rv,pl,hz⟩:=I.list hq;have hi:=gP_ rv;obtain⟨zs,e⟩:=(hi.allInts:AllInts its.toArray).items;show sum_intListG (xs:=zs) (I.ok.hd hc) (e▸pl.isList) λh' tk t' hk=>⟨.int ns.sum,H,I.kept hk,⟨t',?_⟩,q⟩;have e2:numsOf (intItems zs).toList=ns:=by rw[<-e];show hi.numsOf
 rw[nums_intItems]at e2;rw[preSum_eq,AR_ s_,e2]
def Ka_:List V->Hp->VK->Prop:=λxs H Q=>∃p ys,xs=[V.ref p]/\(H p=some (.lst ys)\/H p=some (.tup ys))/\∀l,H l=none->Q (.ref l) (upd H l (.lst ys))
theorem dh_:Gz_ X (.type "list") Ka_:=by intro pins s σ H xs us Q I r h;obtain⟨p,ys,e,hp,q⟩:=h;show kk_ pins s σ H xs us Q I r ⟨p,ys,e,hp.imp (λz=>.inl (.inl z)) (λz=>.inl (.inl z)),q⟩
theorem b5_{es:List Expr}{t:TA}{n:String}{r:List V->Hp->VK->Prop}(hc:Gz_ X (.type n) r)(hg:Gl X x)(hm:X.mg x=none)(hv:bootBuiltins x=some (.type n))(ha:PA X (e::es) t)(hs:Fv_ (e::es)=true:=by rfl) (hn:x ≠ "__name__" := by decide) (hdb:(x == ("__debug__" : Str))=false:=by decide):
  PE X (.Call (.Name x p) (e::es) [] pos) (tCB r t):=
 have h':Gk_ e=true/\Fv_ es=true:=by simpa[Fv_]using hs
 nz_ hc hg hm hv ha hn hdb (aw_ h'.1) (be_ h'.2)
def G4_(B H:Hp):Hp:=λb=>match B b with|some _=>none|none=>H b
def G2_(B:Hp)(D:Addr)(H:Hp):Hp:=λb=>if b=D then none else G4_ B H b
variable{B:Hp}{b:Addr}
theorem aV_(h:G4_ B H b=some o):B b=none/\H b=some o:=by
 unfold G4_ at h;cases e:B b with
 |some z=>rw[e]at h;cases h
 |none=>rw[e]at h;show⟨rfl,h⟩
theorem bF_(h:B b=none):G4_ B H b=H b:=by unfold G4_;rw[h]
theorem gk_{D:Addr}(h:G2_ B D H b=some o):b≠D/\B b=none/\H b=some o:=by
 unfold G2_ at h;by_cases e:b=D
 .rw[if_pos e]at h;cases h
 .rw[if_neg e]at h;show⟨e,aV_ h⟩
theorem aR_{D:Addr}(e:b≠D)(h:B b=none):G2_ B D H b=H b:=by unfold G2_;rw[if_neg e,bF_ h]
theorem aq_:Fo_ (G4_ B H) H:=λb o h=>(aV_ h).2
theorem eu_{D:Addr}:Fo_ (G2_ B D H) H:=λb o h=>(gk_ h).2.2
theorem hj_{D:Addr}:Fo_ (G2_ B D H) (G4_ B H):=λb o h=>by obtain⟨h1,h2,h3⟩:=gk_ h;rw[bF_ h2];show h3
theorem ev_{D:Addr}(e:Fo_ H H'):Fo_ (G2_ B D H) (G2_ B D H'):=λb o h=>by obtain⟨h1,h2,h3⟩:=gk_ h;rw[aR_ h1 h2];show e _ _ h3
theorem hK_(e:Fo_ H H'):Fo_ (G4_ B H) (G4_ B H'):=λb o h=>by obtain⟨h1,h2⟩:=aV_ h;rw[bF_ h1];show e _ _ h2
theorem hL_{B':Hp}(e:Fo_ B B'):Fo_ (G4_ B' H) (G4_ B H):=λb o h=>by obtain⟨h1,h2⟩:=aV_ h;rw[bF_ (e.free h1)];show h2
theorem fM_{D:Addr}:G2_ B D (upd H D o)=G2_ B D H:=by
 funext b;unfold G2_ G4_;by_cases e:b=D
 .rw[if_pos e,if_pos e]
 .rw[if_neg e,if_neg e,aj_ e]
theorem ew_{H3:Hp}{D:Addr}(hB:Fo_ B H)(hD:∃o,H D=some o):Fo_ (G4_ H H3) (G2_ B D H3):=λb o h=>by obtain⟨h1,h2⟩:=aV_ h;obtain⟨z,hz⟩:=hD;rw[aR_ (ae_ hz h1).symm (hB.free h1)];show h2
theorem fj_{H3:Hp}{D:Addr}(hs:Fo_ H H3)(hD:H D=none):Fo_ H (G2_ (λ_=>none) D H3):=λb o h=>by rw[aR_ (ae_ h hD) rfl];show hs _ _ h
theorem ay_{J:It}{g:TG}{te:TE}{σ:St}{H:Hp}{Q:VK}(n:Nat)(B:Hp)(Pσ:St->Prop)(ds:List Dt)(hB:Fo_ B H)(h0:Pσ σ)(hlen:ds.length=n)(hz:n<=1000)
  (hgo:∀i H',i<n->Fo_ H H'->J.go i H') (hst:∀H',Fo_ H H'->J.stop n H')
  (hs:∀D i x d σ' H' H'',H D=none->(∃o,H' D=some o)->Fo_ H H'->i<n->ds[i]?=some d->J.yld i H' x H''->Pσ σ'->∀R:St->V->Hp->Prop,
   (∀σ2 v H3,Pσ σ2->Fo_ H' H3->Rep (G2_ B D H3) v d->R σ2 v H3)->g x σ' H'' λσ2 H2=>te σ2 H2 λv H3=>R σ2 v H3)
  (hd:∀D H',H D=none->Fo_ H H'->Rep (G4_ B H') (.ref D) (.lst ds)->Q (.ref D) H'):H3_ J g J7_ te σ H Q:=by
 intro D hD;have hBD:B D=none:=hB.free hD;show⟨λi m σ' H'=>m=n-i/\i<=n/\Pσ σ'/\Fo_ H H'/\∃ys,H' D=some (.lst ys)/\FE_ (G2_ B D H') ys (ds.take i)/\ys.length=i,⟨n,s_,AD_ _,h0,Fo_.new hD,[],ab_,rfl,rfl⟩,?_⟩;rintro i m σ' H' ⟨rfl,hi,hp,hs',ys,hys,hr,hl⟩;by_cases hlt:i<n
 .show .inr ⟨hgo i H' hlt hs',λσ2 H2=>Pσ σ2/\Fo_ H H2/\∃ys,H2 D=some (.lst ys)/\FE_ (G2_ B D H2) ys (ds.take (i+1))/\ys.length=i+1,λσ2 H2 ⟨a,b,c⟩=>⟨n-(i+1),o_,rfl,hlt,a,b,c⟩,λx H'' hy=>?_⟩;have hdi:ds[i]?=some ds[i]:=by simp[hlen,hlt]
  simp only[J7_,if_true];show hs D i x ds[i] σ' H' H'' hD ⟨_,hys⟩ hs' hlt hdi hy hp _ λσ2 v H3 hp2 s3 hv=>?_;show⟨ys,s3 _ _ hys,by rw[hl];show Fq_ o_,hp2,(hs'.trans s3).upd hD,ys++[v],ab_,?_,by simp[hl]⟩;rw[fM_];have e:ds.take (i+1)=ds.take i++[ds[i]]:=by rw[Bn_,hdi];rfl
  rw[e];show(FE_.mono (ev_ s3) _ hr).append ⟨v,[],rfl,hv,rfl⟩
 .have e:i=n:=o_
  subst e;show .inl ⟨hst H' hs',hd D H' hD hs' ⟨D,ys,rfl,?_,?_⟩⟩
  .rw[bF_ hBD];show hys
  .rw[AR_ o_]at hr;show FE_.mono hj_ _ hr
theorem FE_.of_get{xs:List V}{ds:List Dt}{x:V}(h:FE_ H xs ds)(e:xs[i]?=some x):∃d,ds[i]?=some d/\Rep H x d:=by
 have hi:i<xs.length:=(Ar_.mp e).1;have hi':i<ds.length:=by rw[<-h.length];show hi
 obtain⟨y,hy,hr⟩:=h.get (i:=i) (d:=ds[i]) (by simp[hi']);rw[e]at hy;cases hy;show⟨ds[i],by simp[hi'],hr⟩
theorem bh_{X:Cx}{K:PySem.W.Frag}{es:List Expr}{k:Nat}{t:TGs}{n:Nat}{pos:Pos}(hK:X.K=K)(hc:X.calm=true)(h:PGs X es t)
  (hn:(assignEach es X.env).length=n:=by rfl) (hst:(assignEach es X.env).findIdx? (·.1)=none:=by rfl):PG X (.Tuple es k pos) (Me_ K n t):=hK▸rt_ hc h hn hst
def IG_(D:Addr)(o:HO):Hp:=λb=>if b=D then some o else none
theorem nI_{D:Addr}(h:H D=some o):Fo_ (IG_ D o) H:=λb z e=>by
 unfold IG_ at e;by_cases q:b=D
 .rw[if_pos q]at e;cases e;rw[q];show h
 .rw[if_neg q]at e;cases e
theorem o5_{H3:Hp}{D D2:Addr}(hs:Fo_ H H3)(h1:H D=none)(h2:H D2=none):Fo_ H (G2_ (IG_ D o) D2 H3):=λb z e=>by rw[aR_ (ae_ e h2) (by unfold IG_;rw[if_neg (ae_ e h1)])];show hs _ _ e
variable {M:Model}{E:Value->Shared->Prop}{env:Env}{outer:List Env}{L e:Addr}{Q:Unit->Shared->Prop}
variable {N:List Str}{qual:Str}{f:Addr}{cd:Value}{s₀:Shared}{H₀:Hp}{E:XK}
variable {σ:List (Option V)}
def exO(C:Value)(a:Addr):HO:=.ext λh=>∃o,h.get? a=some o/\o.cls=C
def HT_.unb(D:HT_)(i:Nat):HT_:={nx:=λσ H=>D.nx (σ.set i none) H,rt:=D.rt,bk:=λσ H=>D.bk (σ.set i none) H,ct:=λσ H=>D.ct (σ.set i none) H}
def tTry(K:PySem.W.Frag)(Py:Addr)(sp:Sp)(ta:TA)(i:Nat)(ts:TS):TS:=λD σ H=>ta σ H λvs H1=>sp vs H1 (λ_ _=>False) λc _ H2 =>∃C,c=.ref C/\PySem.W.mroIn K C (.ref Py)=some true/\∀ea,H2 ea=none->ts (D.unb i) (σ.set i (some (.ref ea))) (upd H2 ea (exO (.ref C) ea))
structure KitE(K:PySem.W.Frag)(C:Addr):Prop where
 cl:(PySem.W.clsIn K C).isSome=true
 ga:PySem.W.findIn K (.ref C) "__getattribute__"=some (some (.builtin "BaseException.__getattribute__"))
 gh:PySem.W.findIn K (.ref C) "__getattr__"=some none
 at_:PySem.W.findIn K (.ref C) "__class__"=some (some (.builtin "object.__class__"))
 get:PySem.W.specialIn K (.builtin "object.__class__") "__get__"=some (some (.builtin "getset_descriptor.__get__"))
 set:PySem.W.takesIn K (.builtin "object.__class__")=some true
 obj:PySem.W.mroIn K C (.type "object")=some true
 exc:PySem.W.mroIn K C (.type "BaseException")=some true
def Mw_(x:Addr)(D:Value)(h:Heap):Prop:=∃o,h.get? x=some o/\o.cls=D
theorem Mw_.ty{x:Addr}{D:Value}{h:Heap}(p:Mw_ x D h):PySem.W.Looks M h (typeOf (.ref x)) D:=by obtain⟨o,h1,h2⟩:=p;show h2▸(PySem.W.Looks.ld h1).andThen .now
def L1_(K:PySem.W.Frag):List V->Hp->VK->Prop:=λxs H Q=>∃(ea C:Addr)(c:V)(b:Bool),xs=[.ref ea,c]/\H ea=some (exO (.ref C) ea)/\KitE K C /\
 ((∃T,c=.ty T/\PySem.W.kitOne K (.ref C) (.type T)=some b)\/(∃D,c=.ref D/\PySem.W.kitOne K (.ref C) (.ref D)=some b)\/∃(tp:Addr)(ys:List Addr),c=.ref tp/\H tp=some (.tup (ys.map V.ref))/\PySem.W.kitAny K (.ref C) (ys.map Value.ref)=some b)/\Q (.bl b) H
def Mc_(i j k:Nat)(ta:TA):TS:=λD σ H=>ta σ H λvs H1=>∃v w y,vs=[v,w,y]/\D.nx (((σ.set i (some v)).set j (some w)).set k (some y)) H1
def Itd(hi:Int)(n:Nat):It:=⟨λi _=>i<n,λi H x H'=>H'=H/\x=.int (hi-i),λi _=>n<=i⟩
theorem lm_{tg:Expr}(it:Addr)(hi:Int)(n:Nat):J6_ P w K tg (Itd hi n) [it] it (λi h=>IsRangeIter h it (hi+(i:Nat)*(-1)) ((n:Int)-(i:Nat)) (-1)) where
 mem:=s_
 obj:=λi h st b hb=>by
  have e:b=it:=by simpa using hb
  subst e;show⟨_,st,λv z=>by have z':Data.fields _=Data.cell v:=z;cases z'⟩
 keep:=λi h h' st k=>k it s_ _ st
 item:=by intro X hP hw hK hc i pins s σ H E I hf st hg;subst hP hw hK;obtain⟨f0,f1,f2,f3,f4,f5⟩:=hf it s_;have W:=Walks.range (prog:=X.prog) (w:=X.w) (I.ok.hd hc) it hi (-1) n;show W.item i s _ _ hg st λv h' tk hv st' kk=>?_;obtain⟨t,rfl⟩:=hv;have I1:Inv X pins σ H {s with heap:=h',toks:=tk}:=I.turned (λb o hb e=>kk b o (by simpa using hb) e) f0 f1 f3 f4 f5;show⟨_,rfl,Jz_ (s:={s with heap:=h',toks:=tk}) (n := "range_iterator") st' rfl rfl d_ ⟨.int (hi-i),H,I1,⟨t,?_⟩,⟨rfl,rfl⟩,st',λb hb=>(hf b hb).1⟩⟩;rw[Cg_,Dv_,CR_]
 done:=by intro X hP hw hK hc i pins s σ H E I hf st hg;subst hP hw hK;obtain⟨f0,f1,f2,f3,f4,f5⟩:=hf it s_;show Ed_ (I.ok.hd hc) st (by have:n<=i:=hg;lia) λh' eb=>⟨rfl,I.turned (t':=s.toks) (λb o hb e=>eb b o hb e) f0 f1 f3 f4 f5⟩
 self:=λ_ _ _ _ _ st h=>Ee_ st h
def KQ_(ta:TA):TI:=λσ H R=>ta σ H λvs H1=>∃i j:Int,vs=[.int i,.int j,.int (-1)]/\(0<=j/\j<=i/\i<2 ^ 30)/\R (Itd i (i-j).toNat) H1
theorem Lm_{i j:Int}(h:j<=i):Builtin.Range.rangeSize i j (-1)=i-j:=by unfold Builtin.Range.rangeSize;rw[if_neg d_,show -(-1:Int)=1 by decide,Int.ediv_one];split <;> lia
theorem LM_{i j:Int}(h0:0<=j)(h:j<=i)(h1:i<2 ^ 30):Builtin.Range.small i j (-1)=true:=by unfold Builtin.Range.small;rw[Lm_ h];simp only[Builtin.Range.rangeFitsLong,Cw_,Bool.or_eq_true,EZ_,beq_iff_eq,show ¬ (-1:Int) > 0 by decide,CP_];lia
theorem nJ_{tg a b c:Expr}{ta:TA}(hg:Gl X "range") (hm:X.mg "range"=none) (ha:PA X [a,b,c] ta) (hs:Fv_ [a,b,c]=true:=by rfl):
  PI X tg (.Call (.Name "range" p) [a,b,c] [] pos) (KQ_ ta):=by
 have h':Gk_ a=true/\Fv_ [b,c]=true:=by simpa[Fv_]using hs
 intro pins s σ H R I h;show Call_ (dg_ I hg hm EB_ (AV_ (thn (ha pos pins s σ H _ I h) λus s1 ⟨vs,H1,I1,r1,q1⟩=>?_) (aw_ h'.1) (be_ h'.2)));obtain⟨i,j,e,⟨q1,q2,q3⟩,q⟩:=q1;subst e;cases r1 with
 |cons r rr =>
  cases rr with
  |cons r' rr =>
   cases rr with
   |cons r'' rr =>
    cases rr;obtain⟨t,rfl⟩:=r;obtain⟨t',rfl⟩:=r';obtain⟨t'',rfl⟩:=r'';show call_range_3 d_ ?_ (Or.inl (CQ_ r_));show wpAny_pyIter_range (E0_ ..) (LM_ q1 q2 q3) ?_;have I2:Inv X pins σ H1 {s1 with heap:=s1.heap.push {cls:=.type "range",data:=.fields #[.int i t,.int j t',.int (-1) t'']},toks:=s1.toks}:=I1.kept λb o e=>Al_ _ e
    show⟨(s1.heap.push {cls:=.type "range",data:=.fields #[.int i t,.int j t',.int (-1) t'']}).objs.size,[(s1.heap.push {cls:=.type "range",data:=.fields #[.int i t,.int j t',.int (-1) t'']}).objs.size],_,_,H1,rfl,
     I2.kept (t':=s1.toks) λb o e=>Al_ _ e,lm_ _ i (i-j).toNat,?_,λb hb=>?_,q⟩
    .have e1:i+((0:Nat):Int)*(-1)=i:=s_
     have e2:(((i-j).toNat:Nat):Int)-((0:Nat):Int)=Builtin.Range.rangeSize i j (-1):=by rw[Lm_ q2];lia
     change IsRangeIter _ _ (i+((0:Nat):Int)*(-1)) ((((i-j).toNat:Nat):Int)-((0:Nat):Int)) (-1);rw[e1,e2];show AA_ _ rfl
    .have e:b=(s1.heap.push {cls:=.type "range",data:=.fields #[.int i t,.int j t',.int (-1) t'']}).objs.size:=by simpa using hb
     subst e;show I2.fpOk (Af_ _) (I2.hok.fresh (Af_ _))
theorem qu_{hi:Int}{n:Nat}{g:TG}{tb:TS}{D:HT_}{σ:St}{H:Hp}(Pv:Nat->St->Hp->Prop)(h0:Pv 0 σ H)
  (hs:∀i σ H,i<n->Pv i σ H->g (.int (hi-i)) σ H λσ2 H2=>tb {D with nx:=Pv (i+1),ct:=Pv (i+1),bk:=D.nx} σ2 H2) (hd:∀σ H,Pv n σ H->D.nx σ H):HN_ (Itd hi n) g tb D σ H:=by
 show⟨λi m σ H=>i<=n/\m=n-i/\Pv i σ H,⟨n,AD_ _,o_,h0⟩,?_⟩;rintro i m σ H ⟨h1,rfl,p⟩;by_cases e:i=n
 .subst e;show .inl ⟨Af_ _,hd _ _ p⟩
 .show .inr ⟨show i<n by lia,Pv (i+1),λσ' H' q=>⟨n-(i+1),o_,o_,rfl,q⟩,?_⟩;rintro x H' ⟨rfl,rfl⟩;show hs i σ _ o_ p
def MH_:V->Option Int->Option Int->Hp->VK->Prop:=λx lo hi H Q=>∃a xs,x=.ref a/\H a=some (.lst xs)/\∀p,H p=none->Q (.ref p) (upd H p (.lst (HS_ xs lo hi)))
theorem dH_:SlR X MH_:=by intro pins s σ H x v vl vu lo hi sl Q I rx hs pl pu h;obtain⟨a,xs,e,hx,q⟩:=h;show qn_ pins s σ H x v vl vu lo hi sl Q I rx hs pl pu ⟨a,xs,e,.inl (.inl hx),q⟩
theorem hk_(xs:List V)(k:Nat)(h:k<=xs.length):HS_ xs (some (k:Int)) none=xs.drop k:=by unfold HS_;rw[HT.sIx_nat,HT.sIx_none,CJ_ h];show AR_ s_
theorem pR_(xs:List V)(k:Nat)(h:k<=xs.length):HS_ xs none (some (k:Int))=xs.take k:=by unfold HS_;rw[HT.sIx_nat,HT.sIx_none,CJ_ h];simp
theorem qv_(xs:List V)(j k:Nat)(h1:j<=k)(h:k<=xs.length):HS_ xs (some (j:Int)) (some (k:Int))=(xs.drop j).take (k-j):=by unfold HS_;rw[HT.sIx_nat,HT.sIx_nat,CJ_ h,CJ_ o_]
def grow(S H H':Hp):Hp:=λb=>match H b with|some _=>S b|none=>H' b
variable{S:Hp}
theorem e3_(h:H b=some o):grow S H H' b=S b:=by unfold grow;rw[h]
theorem jm_(h:H b=none):grow S H H' b=H' b:=by unfold grow;rw[h]
theorem cC_(s:Fo_ S H):Fo_ S (grow S H H'):=λb o h=>by rw[e3_ (s _ _ h)];show h
theorem jn_(s:Fo_ S H)(t:Fo_ H H'):Fo_ (grow S H H') H':=λb o h=>by
 unfold grow at h;cases e:H b with
 |some z=>rw[e]at h;show t _ _ (s _ _ h)
 |none=>rw[e]at h;show h
theorem cu_{a:Addr}(s:Fo_ S H)(h:S a=none):Fo_ S (upd H a o):=λb z e=>by rw[aj_ (ae_ e h)];show s _ _ e
theorem hl_{a:Addr}(s:Fo_ S H)(h:H a=none):Fo_ (upd S a o) (upd H a o):=λb z e=>by
 by_cases q:b=a
 .subst q;rw[ab_]at e⊢;show e
 .rw[aj_ q]at e⊢;show s _ _ e
theorem bn_{a:Addr}(s:Fo_ S H)(h:H a=none):Fo_ S (upd S a o):=Fo_.new (s.free h)
def I3_:V->List V->Hp->VK->Prop:=λx vs H Q=>∃(l:Addr)(xs:List V)(i:Int)(y:V),x=.ref l/\vs=[.int i,y]/\H l=some (.lst xs)/\0<=i/\i.toNat<=xs.length/\xs.length<1000/\Q .non (upd H l (.lst (xs.take i.toNat++y::xs.drop i.toNat)))
theorem ks_:MtM X "list.insert" I3_:=by
 intro pins s σ H x vs v us Q I rx rv h;obtain⟨l,xs,i,y,rfl,rfl,hH,h0,h1,h2,q⟩:=h;cases rx;obtain⟨u,w,rfl,ru,rw'⟩:=rv.two;obtain⟨t,rfl⟩:=ru;obtain⟨z,its,n,r,hl,e⟩:=I.lstM hH;show DK_ F.slot_list_insert ⟨_,e,rfl⟩ F.entry_list_insert (F.args_list_insert_3 _ _ _) (AutoSeq1.list_insert_list_int_val_1 l its.toArray n i t w (by rw[fitsIndex_both (k:=i) o_ o_];decide) (by rw[As_];lia)) ⟨e,?_⟩;show⟨.non,_,I.lset (its':=its.take i.toNat++w::its.drop i.toNat) hH e ?_ ((r.take _).append (.cons rw' (r.drop _))) ?_,rfl,q⟩
 .dsimp only
  rw[if_neg o_,As_,CJ_ o_];simp;show AR_ s_
 .have:=Fq_ h2;simp;lia
def Ite(K:PySem.W.Frag)(a:Addr):It :=
  ⟨λi H=>∃xs x,SqL K H a xs/\xs[i]?=some x,
   λi H v H'=>∃T x,v=.ref T/\H T=none/\H'=upd H T (.tup [.int i,x])/\(∀xs,SqL K H a xs->xs[i]?=some x),
   λi H=>∃xs,SqL K H a xs/\xs.length<=i⟩
def K2_(e it l:Addr)(i:Nat)(h:Heap):Prop:=(∃old,IsEnum h e it i old)/\h.IsListIter it l i
theorem nK_{it l:Addr}(hei:e≠it):
  J6_ P w K (.Tuple elts kt tpos) (Ite K l) [e,it] e (K2_ e it l) where
 mem:=s_
 obj:=λi h st b hb=>by
  obtain⟨⟨old,s1⟩,⟨o4,s4,c4,d4⟩⟩:=st;simp only[Aq_,Ba_,Cf_]at hb
  rcases hb with rfl|rfl
  .show⟨_,s1,λv e=>by cases(show Data.fields _=Data.cell v from e)⟩
  .show⟨o4,s4,λv e=>by rw[d4]at e;cases e⟩
 keep:=λi h h' st k=>by obtain⟨⟨old,s1⟩,s4⟩:=st;show⟨⟨old,k e s_ _ s1⟩,s4.at λo q=>k it s_ o q⟩
 item:=by
  intro X hP hw hK hc i pins s σ H E I hf st hg;subst hP hw hK;obtain⟨xs,x,hq,hx⟩:=hg;obtain⟨its,rv,p1,z1⟩:=I.list hq;obtain⟨u,hu,ru⟩:=rv.get hx;obtain⟨⟨old,s1⟩,s4⟩:=id st;show wpAny_pyNext_enum_item s1 s4 p1.isList (x:=u) (by simpa using hu) hei λh' g1 g2 g3 g4 g5=>?_;show⟨_,rfl,wpAny_letOwnedTupleGo_enum g1 λh'' k1 k2=>?_⟩
  have lt:∀b∈[e,it],b<s.heap.objs.size:=λb hb=>by
   simp only[Aq_,Ba_,Cf_]at hb
   rcases hb with rfl|rfl
   .show Ap_ s1
   .obtain⟨o,e,_⟩:=s4;show Ap_ e
  have hT:H s.heap.objs.size=none:=I.hok.fresh (Af_ _)
  have I1:Inv X pins σ (upd H s.heap.objs.size (.tup [.int i,x])) {s with heap:=s.heap.push {cls:=.type "tuple",data:=.seq #[.int i s.toks,u]}} :=
   I.laid (t':=s.toks) (λb u e=>Al_ _ e) (Af_ _) ⟨by change 2<=sizeLine;decide,[.int i s.toks,u],.cons ⟨_,rfl⟩ (.cons ru .nil),⟨_,AA_ _ rfl,rfl,_,rfl⟩⟩
  have f1:∀b∈[e,it],HY_ X pins (upd H s.heap.objs.size (.tup [.int i,x])) b:=λb hb=>⟨by rw[aj_ (AE_ (lt b hb))];show(hf b hb).1,(hf b hb).2⟩
  have I2:Inv X pins σ (upd H s.heap.objs.size (.tup [.int i,x])) {s with heap:=h'',toks:=s.toks+1}:=by
   show Inv.turnedL (s:={s with heap:=s.heap.push {cls:=.type "tuple",data:=.seq #[.int i s.toks,u]}}) (ch:=[e,it]) (t':=s.toks+1) I1 (λb o hb q=>?_) f1;simp only[Aq_,Ba_,Cf_,not_or]at hb;show(k2.2 b hb.1).trans ?_;by_cases hbT:b=s.heap.objs.size
   .subst hbT;have e':(s.heap.push {cls:=.type "tuple",data:=.seq #[.int i s.toks,u]}).get? s.heap.objs.size=some o:=q;rw[AA_ _ rfl]at e';cases e';show g3
   .have hb2:s.heap.get? b=some o:=by have e':(s.heap.push {cls:=.type "tuple",data:=.seq #[.int i s.toks,u]}).get? b=some o:=q;show(Ck_ _ _ _ hbT).symm.trans e'
    show g5 b o hb.1 hb.2 hb2
  show⟨.ref s.heap.objs.size,_,I2,rfl,⟨_,x,rfl,hT,rfl,λxs' h'=>by rw[I.list_inj h' hq];show hx⟩,?_,λb hb=>(f1 b hb).1⟩;show⟨⟨u,k1⟩,g2.at λo q=>(k2.2 it hei.symm).trans q⟩
 done:=by intro X hP hw hK hc i pins s σ H E I hf st hg;subst hP hw hK;obtain⟨xs,hq,he⟩:=hg;obtain⟨its,rv,p1,z1⟩:=I.list hq;obtain⟨⟨old,s1⟩,s4⟩:=id st;have l1:=rv.length;show wpAny_pyNext_enum_end (I.ok.hd hc) s1 s4 p1.isList (by simp;lia) λh' k=>⟨rfl,?_⟩;show Inv.turnedL (ch:=[e,it]) (t':=s.toks) I (λb o hb q=>?_) hf;simp only[Aq_,Ba_,Cf_,not_or]at hb;show k b o hb.2 q
 self:=λ_ _ _ _ _ st h=>by obtain⟨⟨old,s1⟩,_⟩:=st;show wpAny_pyIter_enum s1 h
def KJ_(K:PySem.W.Frag)(ta:TA):TI:=λσ H R=>ta σ H λvs H1=>∃a,vs=[.ref a]/\(∃xs,SqL K H1 a xs)/\R (Ite K a) H1
theorem qw_{a:Expr}{ta:TA}(hK:X.K=K)(hg:Gl X "enumerate") (hm:X.mg "enumerate"=none) (ha:PA X [a] ta) (hs:Fv_ [a]=true:=by rfl):PI X (.Tuple elts kt tpos) (.Call (.Name "enumerate" p) [a] [] pos) (KJ_ K ta):=by
 subst hK;intro pins s σ H R I h;have h':Gk_ a=true/\Fv_ []=true:=by simpa[Fv_]using hs
 show Call_ (dg_ I hg hm ko_ (AV_ (thn (ha pos pins s σ H _ I h) λus s1 ⟨vs,H1,I1,r1,q1⟩=>?_) (aw_ h'.1) (be_ h'.2)));obtain⟨l,e,⟨xs,hx⟩,q⟩:=q1;subst e;obtain⟨u1,rfl,e1⟩:=G0_ r1;cases e1;obtain⟨its1,rv1,p1,z1⟩:=I1.list hx;show call_enumerate_list p1.isList λh' g1 g2 g3 g4=>?_;have I2:Inv X pins σ H1 {s1 with heap:=h'}:=I1.kept (t':=s1.toks) g4;show wpAny_pyIter_enum g1 ⟨_,[s1.heap.objs.size+1,s1.heap.objs.size],_,Ite X.K l,H1,rfl,I2,nK_ (Nat.succ_ne_self _),⟨⟨_,g1⟩,g2⟩,λb hb=>?_,q⟩
 have hb':s1.heap.objs.size<=b:=by
  simp only[Aq_,Ba_,Cf_]at hb
  rcases hb with rfl|rfl <;> first|show Cy_ _ _|show Af_ _
 show I1.fpOk hb' (I1.hok.fresh hb')
section
variable {κ:Type}[DecidableEq κ]
def Gf_(kvs:List (κ×V))(k:κ):Option V:=(kvs.find? λkv=>decide (kv.1=k)).map (·.2)
def GH_(kvs:List (κ×V))(k:κ)(v:V):List (κ×V):=
 if(kvs.any λkv=>decide (kv.1=k))=true then kvs.map (λkv=>if kv.1=k then(kv.1,v)else kv)else kvs++[(k,v)]
theorem bw_{p:κ×V}{r:List (κ×V)}{k:κ}(e:p.1=k):Gf_ (p::r) k=some p.2:=by simp[Gf_,Ca_,e]
theorem br_{p:κ×V}{r:List (κ×V)}{k:κ}(e:¬ p.1=k):Gf_ (p::r) k=Gf_ r k:=by simp[Gf_,Ca_,e]
theorem dI_(k:κ):∀kvs:List (κ×V),(kvs.any λkv=>decide (kv.1=k))=(Gf_ kvs k).isSome
 |[]=>rfl
 |p::r=>by
  rw[CC_];by_cases e:p.1=k
  .simp only[bw_ e,BQ_ e,Bool.true_or,Option.isSome_some]
  .rw[br_ e,Bf_ e,Bool.false_or];show dI_ k r
theorem md_(k j:κ)(y:V):∀kvs:List (κ×V),Gf_ (kvs.map λkv=>if kv.1=k then(kv.1,y)else kv) j=(Gf_ kvs j).map λx=>if j=k then y else x
 |[]=>rfl
 |p::r=>by
  have ih:=md_ k j y r;rw[Av_];by_cases h:p.1=k
  .rw[if_pos h];by_cases e:p.1=j
   .rw[bw_ (p:=(p.1,y)) e,bw_ e,B7_,if_pos (e.symm.trans h)]
   .rw[br_ (p:=(p.1,y)) e,br_ e,ih]
  .rw[if_neg h];by_cases e:p.1=j
   .rw[bw_ (p:=p) e,bw_ e,B7_,if_neg (λz=>h (e.trans z))]
   .rw[br_ (p:=p) e,br_ e,ih]
theorem kt_(k j:κ)(y:V):∀kvs:List (κ×V),Gf_ kvs k=none->Gf_ (kvs++[(k,y)]) j=if j=k then some y else Gf_ kvs j
 |[],_=>by
  by_cases e:k=j
  .rw[if_pos e.symm];show bw_ (p:=(k,y)) e
  .rw[if_neg (λz=>e z.symm)];show br_ (p:=(k,y)) e
 |p::r,hn=>by
  rw[List.cons_append];have hk:¬ p.1=k:=λz=>by rw[bw_ z]at hn;cases hn
  rw[br_ hk]at hn;have ih:=kt_ k j y r hn;by_cases e:p.1=j
  .rw[bw_ e,bw_ e,if_neg (λz=>hk (e.trans z))]
  .rw[br_ e,br_ e,ih]
theorem dJ_(kvs:List (κ×V))(k j:κ)(y:V):Gf_ (GH_ kvs k y) j=if j=k then some y else Gf_ kvs j:=by
 unfold GH_;by_cases a:(kvs.any λkv=>decide (kv.1=k))=true
 .rw[if_pos a,md_];rw[dI_]at a;by_cases e:j=k
  .obtain⟨x,hx⟩:=DN_.mp a;rw[if_pos e,e,hx,B7_,if_pos rfl]
  .rw[if_neg e];cases Gf_ kvs j with
   |none=>rfl
   |some x=>rw[B7_,if_neg e]
 .rw[if_neg a];show kt_ k j y kvs ?_;rw[dI_]at a;cases q:Gf_ kvs k with
  |none=>rfl
  |some x=>rw[q]at a;show(a rfl).elim
theorem bt_(kvs:List (κ×V))(k:κ)(v:V):(GH_ kvs k v).length<=kvs.length+1:=by
 unfold GH_;split
 .rw[Ab_];lia
 .rw[At_,AH_,List.length_nil];lia
theorem o6_{kvs:List (κ×V)}{k:κ}(v:V)(h:Gf_ kvs k=none):GH_ kvs k v=kvs++[(k,v)]:=by unfold GH_;rw[dI_,h];show if_neg d_
theorem IV_.isSome_eq{o:Option V}{u:Option Value}(r:IV_ o u):o.isSome=u.isSome:=by
 cases o with
 |none=>cases u with
  |none=>rfl
  |some _=>show(show False from r).elim
 |some _=>cases u with
  |none=>show(show False from r).elim
  |some _=>rfl
theorem IV_.getD{o:Option V}{u:Option Value}{d:V}{d':Value}(r:IV_ o u)(rd:FY_ d d'):FY_ (o.getD d) (u.getD d'):=by
 cases o with
 |none=>cases u with
  |none=>show rd
  |some _=>show(show False from r).elim
 |some _=>cases u with
  |none=>show(show False from r).elim
  |some _=>show r
theorem KV.val{kvs:List (κ×V)}{vs:List (κ×Value)}(r:KV kvs vs)(k:κ):IV_ (Gf_ kvs k) (valueAt vs k):=by
 unfold KV at r
 induction r with
 |nil=>show True.intro
 | @cons p q ps qs h t ih =>
  obtain⟨h1,h2⟩:=h;by_cases e:p.1=k
  .have e':q.1=k:=h1.symm.trans e;have b:valueAt (q::qs) k=some q.2:=by simp[valueAt,Ca_,e']
   rw[bw_ e,b];show h2
  .have e':¬ q.1=k:=λz=>e (h1.trans z);have b:valueAt (q::qs) k=valueAt qs k:=by simp[valueAt,Ca_,e']
   rw[br_ e,b];show ih
theorem KV.any{kvs:List (κ×V)}{vs:List (κ×Value)}(r:KV kvs vs)(k:κ):(kvs.any λkv=>decide (kv.1=k))=vs.any λkv=>decide (kv.1=k):=by
 unfold KV at r
 induction r with
 |nil=>rfl
 |cons h t ih=>rw[CC_,CC_,ih,h.1]
theorem KV.repl{kvs:List (κ×V)}{vs:List (κ×Value)}(r:KV kvs vs)(k:κ){y:V}{u:Value}(ry:FY_ y u):
  KV (kvs.map λkv=>if kv.1=k then(kv.1,y)else kv) (vs.map λkv=>if kv.1=k then(kv.1,u)else kv):=by
 unfold KV at r⊢
 induction r with
 |nil=>show .nil
 | @cons p q ps qs h t ih =>
  rw[Av_,Av_];show .cons ?_ ih;obtain⟨h1,h2⟩:=h;by_cases e:p.1=k
  .rw[if_pos e,if_pos (h1.symm.trans e)];show⟨h1,ry⟩
  .rw[if_neg e,if_neg (λz=>e (h1.trans z))];show⟨h1,h2⟩
theorem KV.put{kvs:List (κ×V)}{vs:List (κ×Value)}(r:KV kvs vs)(k:κ){y:V}{u:Value}(ry:FY_ y u):KV (GH_ kvs k y) (stored vs k u):=by
 unfold GH_ stored;rw[r.any k];by_cases e:(vs.any λkv=>decide (kv.1=k))=true
 .rw[if_pos e,if_pos e];show r.repl k ry
 .rw[if_neg e,if_neg e];show Paired.snoc r ⟨rfl,ry⟩
theorem KV.length{kvs:List (κ×V)}{vs:List (κ×Value)}(r:KV kvs vs):kvs.length=vs.length:=EI_ r
end
theorem H6_{k:Key}{u:Value}(r:FY_ (kV k) u):(FK_ P w).is k u=true:=by
 cases k with
 |inl i=>obtain⟨t,e⟩:=(show ∃t,u=Value.int i t from r);subst e;show lg_ P w i t
 |inr x=>obtain⟨t,e⟩:=(show ∃t,u=Value.str x t from r);subst e;show lh_ P w x t
theorem ku_{P:Program}{w:World}:∀{ks:List Key}{us:List Value},FR_ (ks.map kV) us->ItemsAre (FK_ P w) ks us
 |[],_,r=>by rw[CO_]at r;cases r;show .nil
 |k::ks,_,r=>by
  rw[Av_]at r;cases r with
  |cons h t=>show .cons (H6_ h) (ku_ t)
abbrev KT(H:Hp):List (List Key×V)->List (List Key×Addr×Value)->Prop:=Paired λp q=>p.1=q.1/\H q.2.1=some (.tup (p.1.map kV))/\FY_ p.2 q.2.2
variable{kvs:List (List Key×V)}{xs:List (List Key×Addr×Value)}
theorem KT.val(r:KT H kvs xs)(k:List Key):IV_ (Gf_ kvs k) ((atKey xs k).map (·.2)):=by
 induction r with
 |nil=>show True.intro
 | @cons p q ps qs h t ih =>
  obtain⟨h1,_,h2⟩:=h;by_cases e:p.1=k
  .have e':q.1=k:=h1.symm.trans e;have b:atKey (q::qs) k=some q.2:=by simp[atKey,Ca_,e']
   rw[bw_ e,b];show h2
  .have e':¬ q.1=k:=λz=>e (h1.trans z);have b:atKey (q::qs) k=atKey qs k:=by simp[atKey,Ca_,e']
   rw[br_ e,b];show ih
theorem KT.repl(r:KT H kvs xs)(k:List Key){y:V}{u:Value}(ry:FY_ y u):
  KT H (kvs.map λkv=>if kv.1=k then(kv.1,y)else kv) (xs.map (putAt k u)):=by
 induction r with
 |nil=>show .nil
 | @cons p q ps qs h t ih =>
  rw[Av_,Av_];show .cons ?_ ih;obtain⟨h1,h2,h3⟩:=h;unfold putAt;by_cases e:p.1=k
  .rw[if_pos e,if_pos (h1.symm.trans e)];show⟨h1,h2,ry⟩
  .rw[if_neg e,if_neg (λz=>e (h1.trans z))];show⟨h1,h2,h3⟩
theorem KT.put(r:KT H kvs xs)(k:List Key){y:V}{u:Value}(hb:H b=some (.tup (k.map kV)))(ry:FY_ y u):
  KT H (GH_ kvs k y) (storedH xs k b u):=by
 have e:(kvs.any λkv=>decide (kv.1=k))=(atKey xs k).isSome:=by rw[dI_,(r.val k).isSome_eq,Option.isSome_map]
 unfold GH_ storedH;rw[e];by_cases q:(atKey xs k).isSome=true
 .rw[if_pos q,if_pos q];show r.repl k ry
 .rw[if_neg q,if_neg q];show Paired.snoc r ⟨rfl,hb,ry⟩
theorem KT.keeps(r:KT H kvs xs)(ht:∀b ys,H b=some (.tup ys)->H' b=some (.tup ys)):KT H' kvs xs :=
 Paired.mapP r λ_ _ z=>⟨z.1,ht _ _ z.2.1,z.2.2⟩
variable {h:Heap}{a:Addr}
theorem LA_{u:HO}(ok:HOk P w H h)(e:Rd H a u):Gc_ P w H h a u:=e.ok ok
theorem IH_{kvs:List (Key×V)}(ok:HOk P w H h)(e:Rd H a (.dK kvs)):kvs.length<=sizeLine/\(a == sysModules)=false/\∃vs,KV kvs vs/\h.DictOf (FK_ P w) a vs :=
 show Gc_ P w H h a (.dK kvs)from LA_ ok e
theorem JD_{kvs:List (Key×V)}(ok:HOk P w H h)(e:H a=some (.dK kvs)):kvs.length<=sizeLine/\(a == sysModules)=false/\∃vs,KV kvs vs/\h.DictOf (FK_ P w) a vs:=IH_ ok (.inl e)
theorem iS_{ks:List Key}(ok:HOk P w H h)(e:H a=some (.tup (ks.map kV))):(tupleKind (FK_ P w)).is h ks a:=by obtain⟨_,its,r,o,h1,h2,n,h3⟩:=(show Gc_ P w H h a (.tup (ks.map kV))from ok a _ e);show⟨o,its.toArray,n,h1,h2,h3,by simpa using ku_ r⟩
theorem II_(ok:HOk P w H h)(e:Rd H a (.dT kvs)):kvs.length<=sizeLine/\(a == sysModules)=false /\
  ∃xs,KT H kvs xs/\h.DictOfH (tupleKind (FK_ P w)) a xs:=by
 obtain⟨z,y,xs,r,o,es,ep,h1,h2,h3,h4,h5⟩:=(show Gc_ P w H h a (.dT kvs)from LA_ ok e);show⟨z,y,xs,r,o,es,ep,h1,h2,h3,h4,λx hx=>?_,h5⟩
 have all:∀{l:List (List Key×V)}{m:List (List Key×Addr×Value)},KT H l m->∀x∈m,(tupleKind (FK_ P w)).is h x.1 x.2.1:=by
  intro l m q
  induction q with
  |nil=>intro x hx;show nomatch hx
  | @cons p q ps qs hq t ih =>
   intro x hx
   rcases Aq_.mp hx with e|hx
   .subst e;show iS_ ok (by rw[<-hq.1];show hq.2.1)
   .show ih x hx
 show all r x hx
theorem Ml_(ok:HOk P w H h)(e:H a=some (.dT kvs)):kvs.length<=sizeLine/\(a == sysModules)=false /\
  ∃xs,KT H kvs xs/\h.DictOfH (tupleKind (FK_ P w)) a xs:=II_ ok (.inl e)
def GY_(H:Hp)(a:Addr)(y:V)(r:Option V):Prop :=
 (∃kvs k,Rd H a (.dK kvs)/\y=kV k/\r=Gf_ kvs k)\/∃kvs k b,Rd H a (.dT kvs)/\y=.ref b/\H b=some (.tup (k.map kV))/\r=Gf_ kvs k
def Ix_(H:Hp)(a:Addr)(y v:V)(H':Hp):Prop :=
 (∃kvs k,H a=some (.dK kvs)/\y=kV k/\kvs.length<sizeLine/\H'=upd H a (.dK (GH_ kvs k v))) \/
 ∃kvs k b,H a=some (.dT kvs)/\y=.ref b/\H b=some (.tup (k.map kV))/\kvs.length<sizeLine/\H'=upd H a (.dT (GH_ kvs k v))
theorem GY_.k{kvs:List (Key×V)}{k:Key}(e:H a=some (.dK kvs)):GY_ H a (kV k) (Gf_ kvs k):=.inl ⟨kvs,k,.inl e,rfl,rfl⟩
theorem GY_.t{k:List Key}(e:H a=some (.dT kvs))(eb:H b=some (.tup (k.map kV))):GY_ H a (.ref b) (Gf_ kvs k):=.inr ⟨kvs,k,b,.inl e,rfl,eb,rfl⟩
theorem Ix_.k{kvs:List (Key×V)}{k:Key}{v:V}(e:H a=some (.dK kvs))(hl:kvs.length<sizeLine):Ix_ H a (kV k) v (upd H a (.dK (GH_ kvs k v))):=.inl ⟨kvs,k,e,rfl,hl,rfl⟩
theorem Ix_.t{k:List Key}{v:V}(e:H a=some (.dT kvs))(eb:H b=some (.tup (k.map kV)))(hl:kvs.length<sizeLine):
  Ix_ H a (.ref b) v (upd H a (.dT (GH_ kvs k v))):=.inr ⟨kvs,k,b,e,rfl,eb,hl,rfl⟩
variable {σ:St}{y v:V}{u r:Value}{o:Option V}{E:Value->Shared->Prop}
theorem Inv.big(I:Inv X pins σ H s):sysModules<s.heap.objs.size:=by have h:mainGlobals<s.heap.objs.size:=(I.mod.glob.keeps I.bk).lt;show Nat.lt_trans d_ h
theorem nL_{Q:Value->Shared->Prop}(hu:A.units+1<cLine)(I:Inv X pins σ H s)(g:GY_ H a y (some v))(ry:FY_ y u)(h:∀w' s',Inv X pins σ H s'->FY_ v w'->Q w' s'):
  wpAny (model X.prog X.w) A (getItem (.ref a) u) Q E s:=by
 rcases g with⟨kvs,k,e,ey,l⟩|⟨kvs,k,b,e,ey,eb,l⟩
 .subst ey;obtain⟨z,hd,vs,rel,dd⟩:=IH_ I.hok e;obtain⟨w',hw,rw'⟩:=IV_.some_of (v:=v) (o:=valueAt vs k) (by rw[l];show rel.val k);show wpAny_getItem_of (H6_ ry) dd.mapOf hw (h w' _ (I.tok _) rw')
 .subst ey;cases(show u=Value.ref b from ry);obtain⟨z,hd,xs,rel,dd⟩:=II_ I.hok e;obtain⟨w',hw,rw'⟩:=IV_.some_of (v:=v) (o:=(atKey xs k).map (·.2)) (by rw[l];show rel.val k);obtain⟨p,hp,hp2⟩:=Option.map_eq_some_iff.mp hw;show wpAny_getItem_heap (CS_ hu) (iS_ I.hok eb) dd hp ?_;rw[hp2];show h w' _ (I.tok _) rw'
theorem d_in{Q:Value->Shared->Prop}(hu:A.units+1<cLine)(I:Inv X pins σ H s)(g:GY_ H a y o)(ry:FY_ y u)(h:∀s',Inv X pins σ H s'->Q (.bool o.isSome) s'):
  wpAny (model X.prog X.w) A (compareOp .In u (.ref a)) Q E s:=by
 rcases g with⟨kvs,k,e,ey,l⟩|⟨kvs,k,b,e,ey,eb,l⟩
 .subst ey;obtain⟨z,hd,vs,rel,dd⟩:=IH_ I.hok e;show wpAny_in_of (H6_ ry) hd dd.mapOf ?_;rw[<-(rel.val k).isSome_eq,<-l];show h _ (I.tok _)
 .subst ey;cases(show u=Value.ref b from ry);obtain⟨z,hd,xs,rel,dd⟩:=II_ I.hok e;show wpAny_in_heap (CS_ hu) (iS_ I.hok eb) hd dd ?_;have q:=(rel.val k).isSome_eq;rw[Option.isSome_map]at q;rw[<-q,<-l];show h _ (I.tok _)
theorem jo_{t':Nat}{ob:HO}(I:Inv X pins σ H s)(mu:Mut (H a))(hs:Heap.SameBut a s.heap h')(he:∃q,h'.get? a=some q)(new:Gc_ X.prog X.w (upd H a ob) h' a ob):
  Inv X pins σ (upd H a ob) {s with heap:=h',toks:=t'} :=
 I.write (x:=a) (e:=a) mu (.inl rfl) (λb q hb z=>(hs.2 b hb).trans z) he new
theorem me_{kvs:List (Key×V)}{vs:List (Key×Value)}(z:kvs.length<=sizeLine)(hd:(a == sysModules)=false)(rel:KV kvs vs)(dd:h'.DictOf (FK_ P w) a vs):
  Gc_ P w H' h' a (.dK kvs):=⟨z,hd,vs,rel,dd⟩
theorem nM_(hu:A.units+1<cLine)(I:Inv X pins σ H s)(g:Ix_ H a y v H')(ry:FY_ y u)(rv:FY_ v r)(h:∀s',Inv X pins σ H' s'->Q () s'):
  wpAny (model X.prog X.w) A (setItem (.ref a) u r) Q E s:=by
 rcases g with⟨kvs,k,e,ey,l,eH⟩|⟨kvs,k,b,e,ey,eb,l,eH⟩
 .subst ey eH;obtain⟨z,hd,vs,rel,dd⟩:=JD_ I.hok e;have hz:vs.length<=sizeLine:=by rw[<-rel.length];show z
  have hl:(GH_ kvs k v).length<=sizeLine:=by have:=bt_ kvs k v;lia
  show wpAny_setItem_pairs (hsz:=hz) (H6_ ry) dd λh' dd' hs=>h _ ?_;have he:∃q,h'.get? a=some q:=let⟨q,_,_,hq,_⟩:=dd';⟨q,hq⟩;show jo_ I (by rw[e];show True.intro) hs he (me_ hl hd (rel.put k rv) dd')
 .subst ey eH;cases(show u=Value.ref b from ry);obtain⟨z,hd,xs,rel,dd⟩:=Ml_ I.hok e;have hz:xs.length<=sizeLine:=by rw[<-EI_ rel];show z
  have hl:(GH_ kvs k v).length<=sizeLine:=by have:=bt_ kvs k v;lia
  show wpAny_setItem_heap (hsz:=hz) (CS_ hu) (iS_ I.hok eb) dd λh' dd' hs=>h _ ?_;obtain⟨q,es,ep,hq,h2,h3,h4,_,h5⟩:=dd';show jo_ I (by rw[e];show True.intro) hs ⟨q,hq⟩ ⟨hl,hd,_,(rel.put k eb rv).keeps λc ys ec=>?_,q,es,ep,hq,h2,h3,h4,h5⟩;rw[aj_ (Mk_ ec e (λz=>nomatch z))];show ec
def Mz_(i:Expr):Prop:=∀ov iv,subscripted i false ov iv=operate [ov,iv] (getItem ov iv)
theorem qx_{prog:Program}{w:World}{A:Around}{E:Value->Shared->Prop}{s:Shared}{env:Env}{value slice:Expr}{pos:Pos}{T id:String}{Q:Value->Shared->Prop}
  (hl:typeLookup (.type T) "__getitem__"=pure (some (.builtin id))) (hs:Mz_ slice)
  (h:wpAny (model prog w) A (eval value env) (λo s₁=>wpAny (model prog w) A (eval slice env) (λi s₂=>s₂.TypeIs o T/\wpAny (model prog w) A (getItem o i) Q E s₂) E s₁) E s):
  wpAny (model prog w) A (eval (.Subscript value slice pos) env) Q E s:=by
 show Subscript_ (Bu_ h (λo s₁ h₁=>Bu_ h₁ (λi s₂ h₂=>?_) λ_ _ x=>x) λ_ _ x=>x);obtain⟨hT,h₂⟩:=h₂;unfold subscriptTail;show Ae_ ?_;rw[getitemInPython_of_ne hT.not_modules];show Ae_ (wpAny_specialOf hT hl ?_);have fin:wpAny (model prog w) A (subscripted slice false o i) (λr s₃=>wpAny (model prog w) A (letTemporaryGo value o r >>= λ_=>pure r) Q E s₃) E s₂:=by rw[hs o i];show wpAny_operating (Bu_ h₂ (λr s₃ h₃=>Ae_ (wpAny_letTemporaryGo (Ao_ h₃))) λ_ _ x=>x)
 first
  |show Ao_ (Ae_ fin)
  |show Ae_ (Ao_ (Ae_ fin))
  |show Ae_ fin
theorem ln_(I:Inv X pins σ H s)(g:GY_ H a y o):s.TypeIs (.ref a) "dict" := by
 rcases g with⟨kvs,k,e,_,_⟩|⟨kvs,k,b,e,_,_,_⟩
 .obtain⟨_,_,vs,_,dd⟩:=IH_ I.hok e;show dd.typeIs
 .obtain⟨_,_,xs,_,dd⟩:=II_ I.hok e;show dd.typeIs
def KW_(td ty:TE):TE:=λσ H Q=>td σ H λx H1=>ty σ H1 λy H2=>onR x λa=>∃v,GY_ H2 a y (some v)/\Q v H2
def MD_(ty td:TE):TE:=λσ H Q=>ty σ H λy H1=>td σ H1 λx H2=>onR x λa=>∃o,GY_ H2 a y o/\Q (.bl o.isSome) H2
def Kg_(ty td:TE):TE:=λσ H Q=>ty σ H λy H1=>td σ H1 λx H2=>onR x λa=>∃o,GY_ H2 a y o/\Q (.bl (!o.isSome)) H2
def KN_(td ty tv:TE):TS:=λD σ H=>tv σ H λv H1=>td σ H1 λx H2=>ty σ H2 λy H3=>onR x λa=>∃H4,Ix_ H3 a y v H4/\D.nx σ H4
section
variable {o i e value:Expr}{pos':Pos}{td ty tv:TE}
theorem bY_(hu:X.A.units+1<cLine)(ho:PE X o td)(hi:PE X i ty)(hs:Mz_ i:=by intro _ _;rfl):PE X (.Subscript o i pos) (KW_ td ty):=by intro pins s σ H Q I h;show qx_ PySem.F.slot_dict_getitem.lookup hs (thn (ho pins s σ H _ I h) λu s1 ⟨x,H1,I1,rx,q1⟩=>thn (hi pins s1 σ H1 _ I1 q1) λiv s2 ⟨y,H2,I2,ry,q9⟩=>?_);obtain⟨a,ex,v,g,q2⟩:=er_ q9;subst ex;obtain rfl:u=Value.ref a:=rx;show⟨ln_ I2 g,nL_ hu I2 g ry λw' s3 I3 rw'=>⟨v,H2,I3,rw',q2⟩⟩
theorem nN_(hu:X.A.units+1<cLine)(hi:PE X i ty)(ho:PE X o td):PC X .In i o (MD_ ty td):=by intro pins s σ H Q I h;show thn (hi pins s σ H _ I h) λiv s1 ⟨y,H1,I1,ry,q1⟩=>thn (ho pins s1 σ H1 _ I1 q1) λu s2 ⟨x,H2,I2,rx,q9⟩=>?_;obtain⟨a,ex,ov,g,q2⟩:=er_ q9;subst ex;obtain rfl:u=Value.ref a:=rx;show d_in hu I2 g ry λs3 I3=>⟨.bl ov.isSome,H2,I3,rfl,q2⟩
theorem ex_(hu:X.A.units+1<cLine)(ho:PE X o td)(hi:PE X i ty)(hv:PE X value tv)(hs:swapsWith value (some (.Subscript o i pos')) pos.line X.env=pure false):
  PS X (.Assign [.Subscript o i pos'] value pos) (KN_ td ty tv):=by
 intro pins s σ H D I h;show wpAny_Assign_Subscript (thn (hv pins s σ H _ I h) λr s1 ⟨v,H1,I1,rv,q1⟩=>thn (ho pins s1 σ H1 _ I1 q1) λu s2 ⟨x,H2,I2,rx,q2⟩=>thn (hi pins s2 σ H2 _ I2 q2) λiv s3 ⟨y,H3,I3,ry,q9⟩=>?_) hs;obtain⟨a,ex,H4,g,q3⟩:=er_ q9;subst ex;obtain rfl:u=Value.ref a:=rx;show nM_ hu I3 g ry rv λs4 I4=>⟨σ,H4,I4,q3⟩
end
theorem o7_(h:Heap)(hb:sysModules<h.objs.size):Gc_ P w H (h.push {cls:=.type "dict",data:=.dict #[]}) h.objs.size (.dK []):=
 ⟨AD_ _,B2_.mpr (Ne.symm (AE_ hb)),[],.nil,Ea_ h⟩
theorem o8_(h:Heap)(hb:sysModules<h.objs.size):Gc_ P w H (h.push {cls:=.type "dict",data:=.dict #[]}) h.objs.size (.dT []):=
 ⟨AD_ _,B2_.mpr (Ne.symm (AE_ hb)),[],.nil,_,#[],0,AA_ _ rfl,⟨rfl,rfl,rfl⟩,rfl,rfl,BS_⟩
def Kd_:TE:=λ_ H Q=>∀p,H p=none->Q (.ref p) (upd H p (.dK []))
def JT_:TE:=λ_ H Q=>∀p,H p=none->Q (.ref p) (upd H p (.dT []))
theorem hm_:PE X (.Dict [] [] pos) Kd_:=λpins s σ H Q I h =>wpAny_Dict_empty ⟨.ref s.heap.objs.size,_,I.laid (a:=s.heap.objs.size) (o:=.dK []) (t':=s.toks) (λ_ _ q=>Al_ _ q) (Af_ _) (o7_ s.heap I.big),rfl,h _ (I.hok.fresh (Af_ _))⟩
theorem mf_:PE X (.Dict [] [] pos) JT_:=λpins s σ H Q I h =>wpAny_Dict_empty ⟨.ref s.heap.objs.size,_,I.laid (a:=s.heap.objs.size) (o:=.dT []) (t':=s.toks) (λ_ _ q=>Al_ _ q) (Af_ _) (o8_ s.heap I.big),rfl,h _ (I.hok.fresh (Af_ _))⟩
def GE_(kvs more:List (Key×V)):List (Key×V):=more.foldl (λacc kv=>GH_ acc kv.1 kv.2) kvs
theorem KV.merge:∀{more:List (Key×V)}{rs:List (Key×Value)}{kvs:List (Key×V)}{vs:List (Key×Value)},KV more rs->KV kvs vs->KV (GE_ kvs more) (merged vs rs):=by
 intro more rs kvs vs r;unfold KV at r
 induction r generalizing kvs vs with
 |nil=>intro q;show q
 | @cons p q ps qs h t ih =>
  intro r0;have e:KV (GH_ kvs p.1 p.2) (stored vs q.1 q.2):=by have:=r0.put p.1 h.2;rw[<-h.1];show this
  show ih e
structure M2(X:Cx)(o:Expr)(m:Str)(apos:Pos)(e f:Expr)(cpos:Pos):Prop where
 base:attributeBase o m X.env (eval o X.env)=eval o X.env
 few:((backTo cpos (starEach [e,f] X.env)).all (λx=>!x.1) && (backToKw cpos (keywordEach [] X.env)).all (λx=>x.1.isSome)
  && decide (([e,f]:List Expr).length+([]:List Keyword).length+(if([]:List Keyword).isEmpty then 0 else 1)<30))=true
 line:(apos.endLine == cpos.line)=true
 trees:backTo cpos (starEach [e,f] X.env)=[(false,eval e X.env),(false,eval f X.env)]
def IsD(H:Hp)(a:Addr):Prop:=(∃kvs,Rd H a (.dK kvs))\/∃kvs,Rd H a (.dT kvs)
theorem rI_(I:Inv X pins σ H s)(d:IsD H a):
  s.TypeIs (.ref a) "dict" /\ (∀b,Value.ref a=.ref b->∃ob,s.heap.get? b=some ob/\ob.dict=none)/\(a == sysModules)=false:=by
 rcases d with⟨kvs,e⟩|⟨kvs,e⟩
 .obtain⟨_,hd,vs,_,dd⟩:=IH_ I.hok e;show⟨dd.typeIs,λb q=>?_,hd⟩;cases q;obtain⟨ob,_,_,h1,h2,_⟩:=dd;show⟨ob,h1,h2.2.1⟩
 .obtain⟨_,hd,xs,_,dd⟩:=II_ I.hok e;show⟨dd.typeIs,λb q=>?_,hd⟩;cases q;obtain⟨ob,_,_,h1,h2,_⟩:=dd;show⟨ob,h1,h2.2.1⟩
variable {d:V}
theorem rJ_{Q:Value->Shared->Prop}(hu:A.units+1<cLine)(I:Inv X pins σ H s)(g:GY_ H a y o)(ry:FY_ y u)(rd:FY_ d r)(h:∀w' s',Inv X pins σ H s'->FY_ (o.getD d) w'->Q w' s'):
  wpAny (model X.prog X.w) A (call (.builtin "dict.get") [.ref a,u,r]) Q E s:=by
 rcases g with⟨kvs,k,e,ey,l⟩|⟨kvs,k,b,e,ey,eb,l⟩
 .subst ey;obtain⟨z,hd,vs,rel,dd⟩:=IH_ I.hok e;show DS_ Db_ dd.typeIs Ej_ (D3_ _ _ _) (meets_dict_get_default (FK_ X.prog X.w) a (H6_ ry) hd r) ⟨_,dd.mapOf,h _ _ (I.tok _) ?_⟩;rw[l];show(rel.val k).getD rd
 .subst ey;cases(show u=Value.ref b from ry);obtain⟨z,hd,xs,rel,dd⟩:=II_ I.hok e;show DS_ Db_ dd.typeIs Ej_ (D3_ _ _ _) (meetsH_dict_get_default (tupleKind (FK_ X.prog X.w)) a b hd r) ⟨CS_ hu,k,xs,iS_ I.hok eb,dd,h _ _ (I.tok _) ?_⟩;rw[l];show(rel.val k).getD rd
def J2_(td ty tx:TE):TE:=λσ H Q=>td σ H λx H1=>∃a,x=.ref a/\IsD H1 a/\ty σ H1 λy H2=>tx σ H2 λz H3=>∃o,GY_ H3 a y o/\Q (o.getD z) H3
section
variable {o e f:Expr}{apos cpos:Pos}{td ty tx:TE}
theorem jp_(hu:X.A.units+1<cLine)(ho:PE X o td)(he:PE X e ty)(hf:PE X f tx)(m:M2 X o "get" apos e f cpos):PE X (.Call (.Attribute o "get" apos) [e,f] [] cpos) (J2_ td ty tx):=by
 intro pins s σ H Q I h;show wpAny_Call_method m.base m.few m.line B4_ Db_ PySem.F.type_dict_get (thn (ho pins s σ H _ I h) λu s1 ⟨x,H1,I1,rx,a,ex,d,q1⟩=>?_);subst ex;obtain rfl:u=Value.ref a:=rx;obtain⟨t1,t2,_⟩:=rI_ I1 d;show⟨t1,t2,?_⟩;rw[m.trees];show Ce_ rfl (ED_ (B8_ (thn (he pins s1 σ H1 _ I1 q1) λiv s2 ⟨y,H2,I2,ry,q2⟩ =>B8_ (thn (hf pins s2 σ H2 _ I2 q2) λfv s3 ⟨z,H3,I3,rz,ov,g,q3⟩=>CY_ ?_))));show rJ_ hu I3 g ry rz λw' s4 I4 rw'=>⟨_,H3,I4,rw',q3⟩
end
variable {kvs:List (Key×V)}
end L2
namespace Att
open PySem PySem.W PySem.Calls PyProof.Rows
end Att
namespace L2
open PySem PySem.Spec PyProof.Rows
variable {X:Cx}
section
variable {κ:Type}[DecidableEq κ]
theorem qy_{kvs:List (κ×V)}{k:κ}{v:V}(h:Gf_ kvs k=some v):k∈kvs.map (·.1):=by
 have q:(kvs.any λkv=>decide (kv.1=k))=true:=by
  rw[dI_,h]
  all_goals rfl
 obtain⟨p,hp,e⟩:=List.any_eq_true.mp q;show Aj_.mpr ⟨p,hp,Bb_ e⟩
end
end L2
namespace RimD
def su:Nat->(Nat->Int)->Int
 |0,_=>0
 |n+1,f=>su n f+f n
theorem a7_:∀{n:Nat}{f g:Nat->Int},(∀k,k<n->f k=g k)->su n f=su n g
 |0,_,_,_=>rfl
 |n+1,f,g,h=>by change su n f+f n=su n g+g n;rw[a7_ λk hk=>h k o_,h n o_]
theorem hM_:∀(n:Nat)(f g:Nat->Int),su n (λk=>f k+g k)=su n f+su n g
 |0,_,_=>rfl
 |n+1,f,g=>by change su n _+(f n+g n)=su n f+f n+(su n g+g n);rw[hM_ n f g];lia
theorem bV_:∀(n:Nat)(c:Int)(f:Nat->Int),su n (λk=>c*f k)=c*su n f
 |0,c,_=>(Bh_ c).symm
 |n+1,c,f=>by change su n _+c*f n=c*(su n f+f n);rw[bV_ n c f,C0_]
theorem dK_:∀{n:Nat}{f:Nat->Int},(∀k,k<n->f k=0)->su n f=0
 |0,_,_=>rfl
 |n+1,f,h=>by change su n f+f n=0;rw[dK_ λk hk=>h k o_,h n o_];rfl
theorem e4_:∀(n:Nat)(f:Nat->Int),su (n+1) f=f 0+su n (λk=>f (k+1))
 |0,f=>by change 0+f 0=f 0+0;lia
 |n+1,f=>by change su (n+1) f+f (n+1)=f 0+(su n (λk=>f (k+1))+f (n+1));rw[e4_ n f];lia
theorem mg_(f:Nat->Nat->Int):∀n:Nat,su (n+1) (λk=>su n (f k))=su (n+1) (λk=>su k λl=>f k l+f l (k-1))
 |0=>rfl
 |n+1=>by have ih:=mg_ f n;change su (n+1) (λk=>su n (f k)+f k n)+(su n (f (n+1))+f (n+1) n)=su (n+1) (λk=>su k λl=>f k l+f l (k-1))+su (n+1) (λl=>f (n+1) l+f l n);rw[hM_,ih,hM_ (n+1) (f (n+1)) λl=>f l n];change _+_+(su n (f (n+1))+f (n+1) n)=_+(su n (f (n+1))+f (n+1) n+_);lia
def sg(k:Nat):Int:=if k%2=0 then 1 else -1
theorem qz_(k:Nat):sg (k+1)=-sg k:=by
 unfold sg;by_cases h:k%2=0
 .rw[if_pos h,if_neg o_]
 .rw[if_neg h,if_pos o_];rfl
def sk(k j:Nat):Nat:=if j<k then j else j+1
abbrev Mat:=Nat->Nat->Int
def mi(A:Mat)(k:Nat):Mat:=λi j=>A (i+1) (sk k j)
def D:Nat->Mat->Int
 |0,_=>1
 |n+1,A=>su (n+1) λk=>sg k*A 0 k*D n (mi A k)
theorem eh_(n:Nat)(A:Mat):D (n+1) A=su (n+1) λk=>sg k*A 0 k*D n (mi A k):=rfl
theorem a4_:∀{n:Nat}{A B:Mat},(∀i j,i<n->j<n->A i j=B i j)->D n A=D n B
 |0,_,_,_=>rfl
 |n+1,A,B,h=>a7_ λk hk=>by have e:D n (mi A k)=D n (mi B k):=a4_ λi j hi hj=>h (i+1) (sk k j) o_ (by unfold sk;split <;> lia);change sg k*A 0 k*D n (mi A k)=_;rw[h 0 k o_ hk,e]
theorem HP_:∀{n i:Nat}{A B C:Mat}{p q:Int},i<n->(∀r c,r≠i->A r c=B r c/\A r c=C r c)->(∀c,A i c=p*B i c+q*C i c)->D n A=p*D n B+q*D n C
 |0,_,_,_,_,_,_,h,_,_=>absurd h o_
 |n+1,0,A,B,C,p,q,_,h1,h2=>by
  rw[eh_,eh_,eh_,<-bV_,<-bV_,<-hM_];show a7_ λk hk=>?_;have e1:D n (mi A k)=D n (mi B k):=a4_ λi j _ _=>(h1 (i+1) (sk k j) o_).1;have e2:D n (mi A k)=D n (mi C k):=a4_ λi j _ _=>(h1 (i+1) (sk k j) o_).2;rw[h2 k,<-e1,<-e2];generalize D n (mi A k)=d;generalize sg k=s
  grind
 |n+1,i+1,A,B,C,p,q,hi,h1,h2=>by
  rw[eh_,eh_,eh_,<-bV_,<-bV_,<-hM_];show a7_ λk hk=>?_;have e:D n (mi A k)=p*D n (mi B k)+q*D n (mi C k):=HP_ (i:=i) o_ (λr c hr=>h1 (r+1) (sk k c) o_) λc=>h2 (sk k c);have z:=h1 0 k o_;rw[e,<-z.1,<-z.2];generalize D n (mi B k)=d;generalize D n (mi C k)=d';generalize sg k=s
  grind
theorem Kw_(n:Nat)(A:Mat):D (n+2) A=su (n+2) λk=>su k λl=>sg k*sg l*(A 0 k*A 1 l-A 0 l*A 1 k)*D n λi j=>A (i+2) (sk k (sk l j)):=by
 have e:D (n+2) A=su (n+2) λk=>su (n+1) λl=>sg k*A 0 k*(sg l*A 1 (sk k l)*D n (mi (mi A k) l)):=by rw[eh_];show a7_ λk hk=>by rw[eh_,<-bV_];rfl
 rw[e,mg_ λk l=>sg k*A 0 k*(sg l*A 1 (sk k l)*D n (mi (mi A k) l))];show a7_ λk hk=>a7_ λl hl=>?_;have s1:sk k l=l:=by unfold sk;rw[if_pos hl]
 have s2:sk l (k-1)=k:=by unfold sk;rw[if_neg o_];lia
 have s3:sg (k-1)=-sg k:=by have z:=qz_ (k-1);rw[show k-1+1=k by lia]at z;lia
 have s4:∀j,sk l (sk (k-1) j)=sk k (sk l j):=λj=>by unfold sk;grind
 have d1:D n (mi (mi A k) l)=D n λi j=>A (i+2) (sk k (sk l j)):=rfl;have d2:D n (mi (mi A l) (k-1))=D n λi j=>A (i+2) (sk k (sk l j)):=a4_ λi j _ _=>by change A (i+2) (sk l (sk (k-1) j))=_;rw[s4]
 rw[s1,s2,s3,d1,d2];generalize(D n λi j=>A (i+2) (sk k (sk l j)))=d;generalize sg k=s;generalize sg l=s'
 grind
theorem rK_(n:Nat)(A B:Mat)(h0:∀c,B 0 c=A 1 c)(h1:∀c,B 1 c=A 0 c)(h:∀r c,1<r->B r c=A r c):D (n+2) B = -D (n+2) A:=by
 rw[Kw_,Kw_,show -(su (n+2) λk=>su k λl=>sg k*sg l*(A 0 k*A 1 l-A 0 l*A 1 k)*D n λi j=>A (i+2) (sk k (sk l j)))=-1*(su (n+2) λk=>su k λl=>sg k*sg l*(A 0 k*A 1 l-A 0 l*A 1 k)*D n λi j=>A (i+2) (sk k (sk l j))) by lia,<-bV_];show a7_ λk hk=>?_;rw[<-bV_];show a7_ λl hl=>?_;have d:(D n λi j=>B (i+2) (sk k (sk l j)))=D n λi j=>A (i+2) (sk k (sk l j)):=a4_ λi j _ _=>h _ _ o_;rw[h0,h1,h0,h1,d];generalize(D n λi j=>A (i+2) (sk k (sk l j)))=d
 grind
theorem Hg_:∀{n i j:Nat}{A:Mat},i<j->j<n->(∀c,A i c=A j c)->D n A=0
 |0,_,_,_,_,h,_=>absurd h o_
 |n+1,i+1,j,A,h1,h2,h=>by
  rw[eh_];show dK_ λk hk=>?_;obtain⟨j,rfl⟩:∃j',j=j'+1:=⟨j-1,o_⟩;rw[Hg_ (n:=n) (i:=i) (j:=j) o_ o_ λc=>h (sk k c),Bh_]
 |n+1,0,j,A,h1,h2,h=>by
  obtain⟨n,rfl⟩:∃m,n=m+1:=⟨n-1,o_⟩;by_cases hj:j=1
  .subst hj;rw[Kw_];show dK_ λk hk=>dK_ λl hl=>?_;rw[h k,h l,show A 1 k*A 1 l-A 1 l*A 1 k=0 by rw[AQ_ (A 1 l)];lia,Bh_,E8_]
  .have e:=rK_ n A (λr c=>if r=0 then A 1 c else if r=1 then A 0 c else A r c) (λc=>rfl) (λc=>rfl) λr c hr=>by change(if r=0 then A 1 c else if r=1 then A 0 c else A r c)=A r c;rw[if_neg o_,if_neg o_]
   have z:D (n+2) (λr c=>if r=0 then A 1 c else if r=1 then A 0 c else A r c)=0:=by rw[eh_];show dK_ λk hk=>?_;obtain⟨j,rfl⟩:∃j',j=j'+1:=⟨j-1,o_⟩;rw[Hg_ (n:=n+1) (i:=0) (j:=j) o_ o_ λc=>?_,Bh_];change(if 0+1=0 then A 1 (sk k c)else if 0+1=1 then A 0 (sk k c)else A (0+1) (sk k c))=if j+1=0 then A 1 (sk k c)else if j+1=1 then A 0 (sk k c)else A (j+1) (sk k c);rw[if_neg o_,if_pos o_,if_neg o_,if_neg o_];show h _
   change D (n+2) A=0;rw[z]at e;lia
 termination_by n i=>(n,i)
variable{n i:Nat}{A B:Mat}
theorem LE_{p:Int}(hi:i<n)(h1:∀r c,r≠i->A r c=B r c)(h2:∀c,A i c=p*B i c):D n A=p*D n B:=by
 have e:=HP_ (p:=p) (q:=0) (C:=B) hi (λr c hr=>⟨h1 r c hr,h1 r c hr⟩) λc=>by rw[h2 c];lia
 rw[e];lia
def pr:Nat->(Nat->Int)->Int
 |0,_=>1
 |n+1,e=>pr n e*e n
theorem pS_(e:Nat->Int)(A:Mat):∀{n m:Nat},m<=n->D n (λi j=>if i<m then e i*A i j else A i j)=pr m e*D n A
 |n,0,_=>by
  rw[show pr 0 e=1 from rfl,Bv_];show a4_ λi j _ _=>by rw[if_neg o_]
 |n,m+1,h=>by
  have z:=LE_ (n:=n) (i:=m) (p:=e m) (A:=λi j=>if i<m+1 then e i*A i j else A i j) (B:=λi j=>if i<m then e i*A i j else A i j) o_
   (λr c hr=>by
    by_cases q:r<m
    .rw[if_pos q,if_pos o_]
    .rw[if_neg q,if_neg o_]) λc=>by rw[if_pos o_,if_neg o_]
  rw[z,pS_ e A o_];change _=pr m e*e m*_;rw[AQ_ (pr m e) (e m),Bg_]
theorem cD_(e:Nat->Int)(A:Mat):D n (λi j=>e i*A i j)=pr n e*D n A:=by rw[<-pS_ e A (Af_ n)];show a4_ λi j hi _=>by rw[if_pos hi]
theorem dL_(c:Int):∀n:Nat,pr n (λ_=>c)=c ^ n
 |0=>(Dj_ c).symm
 |n+1=>by change pr n (λ_=>c)*c=c ^ (n+1);rw[dL_ c n,Co_]
theorem JB_(p:Int)(e:Nat->Int)(A:Mat):∀{n m:Nat},m<=n->D (n+1) (λi j=>if 0<i/\i<=m then p*A i j-e i*A 0 j else A i j)=p ^ m*D (n+1) A
 |n,0,_=>by
  rw[Dj_,Bv_];show a4_ λi j _ _=>by rw[if_neg o_]
 |n,m+1,h=>by
  have z:=HP_ (n:=n+1) (i:=m+1) (p:=p) (q:=-e (m+1)) (A:=λi j=>if 0<i/\i<=m+1 then p*A i j-e i*A 0 j else A i j) (B:=λi j=>if 0<i/\i<=m then p*A i j-e i*A 0 j else A i j)
   (C:=λi j=>if i=m+1 then A 0 j else if 0<i/\i<=m then p*A i j-e i*A 0 j else A i j) o_
   (λr c hr=>by
    have q:(0<r/\r<=m+1)=(0<r/\r<=m):=by apply propext;lia
    simp only[q,if_neg hr,and_self]) λc=>by
    rw[if_pos o_,if_neg o_,if_pos rfl,CF_,CR_]
  have y:D (n+1) (λi j=>if i=m+1 then A 0 j else if 0<i/\i<=m then p*A i j-e i*A 0 j else A i j)=0:=Hg_ (i:=0) (j:=m+1) o_ o_ λc=>by rw[if_neg o_,if_neg o_,if_pos rfl]
  rw[z,y,JB_ p e A o_,Bh_,E9_,Co_,AQ_ (p ^ m) p,Bg_]
theorem pT_:∀{n:Nat}{A:Mat},(∀i,i<n+1->A i 0=0)->D (n+1) A=0:=by
  intro n
  induction n with
  |zero=>intro A h;change 0+sg 0*A 0 0*1=0;rw[h 0 o_];lia
  |succ n ih =>
   intro A h;rw[eh_];show dK_ λk hk=>?_;cases k with
   |zero=>rw[h 0 o_];lia
   |succ k =>rw[ih λi hi=>?_,Bh_];change A (i+1) (sk (k+1) 0)=0;rw[show sk (k+1) 0=0 from rfl];show h _ o_
theorem Lx_(h:∀i,0<i->i<n+1->A i 0=0):D (n+1) A=A 0 0*D n (λi j=>A (i+1) (j+1)):=by
 rw[eh_,e4_];rw[dK_ λk hk=>?_]
 .change sg 0*A 0 0*D n (mi A 0)+0=_;rw[show sg 0=1 from rfl,Bv_,E9_];rfl
 .obtain⟨n,rfl⟩:∃m,n=m+1:=⟨n-1,o_⟩;rw[pT_ λi hi=>?_,Bh_];change A (i+1) (sk (k+1) 0)=0;show h _ o_ o_
theorem mh_(h:A 0 0≠0):A 0 0 ^ n*D (n+2) A=D (n+1) λi j=>A 0 0*A (i+1) (j+1)-A (i+1) 0*A 0 (j+1):=by have e:=JB_ (A 0 0) (λi=>A i 0) A (n:=n+1) (Af_ _);rw[Lx_ λi h1 h2=>by rw[if_pos o_,AQ_];lia]at e;simp only[Bm_,false_and,CP_]at e;rw[a4_ (B:=λi j=>A 0 0*A (i+1) (j+1)-A (i+1) 0*A 0 (j+1)) λi j hi _=>by rw[if_pos o_]]at e;rw[Co_,AQ_ _ (A 0 0),Bg_]at e;show(AY_ h e).symm
theorem rL_{k:Nat}(hk:0<k)(hn:k<n)(h0:∀c,B 0 c = -A k c)(h1:∀c,B k c=A 0 c)(h:∀r c,r≠0->r≠k->B r c=A r c):D n B=D n A:=by
 have f:∀(x y:Nat->Int),∃M:Mat,(∀c,M 0 c=x c)/\(∀c,M k c=y c)/\∀r c,r≠0->r≠k->M r c=A r c:=λx y =>⟨λr c=>if r=0 then x c else if r=k then y c else A r c,λc=>s_,λc=>by simp[show k≠0 by lia],λr c a b=>by simp[a,b]⟩;obtain⟨Mww,a0,a1,a2⟩:=f (λc=>A 0 c+A k c) (λc=>A 0 c+A k c);obtain⟨Muw,b0,b1,b2⟩:=f (A 0) (λc=>A 0 c+A k c);obtain⟨Mvw,c0,c1,c2⟩:=f (A k) (λc=>A 0 c+A k c);obtain⟨Muu,d0,d1,d2⟩:=f (A 0) (A 0);obtain⟨Mvv,e0,e1,e2⟩:=f (A k) (A k);obtain⟨Mvu,g0,g1,g2⟩:=f (A k) (A 0)
 have off:∀{M N:Mat}{r c:Nat},(∀c,M k c=N k c)->(∀r c,r≠0->r≠k->M r c=A r c)->(∀r c,r≠0->r≠k->N r c=A r c)->r≠0->M r c=N r c:=λ{M N r c} x y z hr=>by
  by_cases q:r=k
  .rw[q];show x c
  .rw[y r c hr q,z r c hr q]
 have off':∀{M N:Mat}{r c:Nat},(∀c,M 0 c=N 0 c)->(∀r c,r≠0->r≠k->M r c=A r c)->(∀r c,r≠0->r≠k->N r c=A r c)->r≠k->M r c=N r c:=λ{M N r c} x y z hr=>by
  by_cases q:r=0
  .rw[q];show x c
  .rw[y r c q hr,z r c q hr]
 have s1:=HP_ (n:=n) (i:=0) (p:=1) (q:=1) (A:=Mww) (B:=Muw) (C:=Mvw) o_ (λr c hr=>⟨off (λc=>by rw[a1,b1]) a2 b2 hr,off (λc=>by rw[a1,c1]) a2 c2 hr⟩) λc=>by rw[a0,b0,c0];lia
 have s2:=HP_ (n:=n) (i:=k) (p:=1) (q:=1) (A:=Muw) (B:=Muu) (C:=A) hn (λr c hr=>⟨off' (λc=>by rw[b0,d0]) b2 d2 hr,off' (λc=>by rw[b0]) b2 (λ_ _ _ _=>rfl) hr⟩) λc=>by rw[b1,d1];lia
 have s3:=HP_ (n:=n) (i:=k) (p:=1) (q:=1) (A:=Mvw) (B:=Mvu) (C:=Mvv) hn (λr c hr=>⟨off' (λc=>by rw[c0,g0]) c2 g2 hr,off' (λc=>by rw[c0,e0]) c2 e2 hr⟩) λc=>by rw[c1,g1,e1];lia
 have z1:D n Mww=0:=Hg_ hk hn λc=>by rw[a0,a1]
 have z2:D n Muu=0:=Hg_ hk hn λc=>by rw[d0,d1]
 have z3:D n Mvv=0:=Hg_ hk hn λc=>by rw[e0,e1]
 have s4:=LE_ (n:=n) (i:=0) (p:=-1) (A:=B) (B:=Mvu) o_ (λr c hr=>by
  by_cases q:r=k
  .rw[q,h1,g1]
  .rw[h r c hr q,g2 r c hr q]) λc=>by rw[h0,g0];lia
 lia
def Dv(b:Int)(R:Nat)(A:Mat):Prop:=∀(m:Nat)(ρ κ:Nat->Nat),(∀i,ρ i<R)->b ^ m ∣ D (m+1) λi j=>A (ρ i) (κ j)
theorem nO_(R:Nat)(A:Mat):Dv 1 R A:=λm ρ κ _=>by rw[E1_];show Ek_ _
variable{b:Int}{R:Nat}
theorem nP_(h:Dv b R A)(π:Nat->Nat)(e:Nat->Int)(hπ:∀i,i<R->π i<R)(hB:∀i j,i<R->B i j=e i*A (π i) j):Dv b R B:=λm ρ κ hρ=>by
 have z:(D (m+1) λi j=>B (ρ i) (κ j))=pr (m+1) (λi=>e (ρ i))*D (m+1) λi j=>A (π (ρ i)) (κ j):=by rw[<-cD_];show a4_ λi j _ _=>hB _ _ (hρ i)
 rw[z];show Int.dvd_mul_of_dvd_right (h m (λi=>π (ρ i)) κ λi=>hπ _ (hρ i))
theorem nQ_(h:Dv b R A){j:Nat}(h0:0<R)(hi:i<R):b ∣ A 0 0*A i j-A i 0*A 0 j:=by
 have z:=h 1 (λr=>if r=0 then 0 else i) (λc=>if c=0 then 0 else j) (λr=>by change(if r=0 then 0 else i)<R;split <;> assumption);rw[Co_,Dj_,Bv_]at z
 have e:(D (1+1) λr c=>A (if r=0 then 0 else i) (if c=0 then 0 else j))=A 0 0*A i j-A i 0*A 0 j:=by
  change 0+sg 0*A 0 0*(0+sg 0*A i j*1)+sg 1*A 0 j*(0+sg 0*A i 0*1)=_;rw[show sg 0=1 from rfl,show sg 1 = -1 from rfl]
  grind
 rw[e]at z;show z
theorem nR_(hb:b≠0)(hp:A 0 0≠0)(h:Dv b (R+1) A)(hB:∀i j,i<R->b*B i j=A 0 0*A (i+1) (j+1)-A (i+1) 0*A 0 (j+1)):Dv (A 0 0) R B:=λm ρ κ hρ=>by
 obtain⟨t,ht⟩:=h (m+1) (λi=>match i with|0=>0|i+1=>ρ i+1) (λj=>match j with|0=>0|j+1=>κ j+1) λi=>by
  cases i with
  |zero=>show DT_ _
  |succ i=>show C6_ (hρ i)
 have e:=mh_ (n:=m) (A:=λi j=>A (match i with|0=>0|i+1=>ρ i+1) (match j with|0=>0|j+1=>κ j+1)) hp;have e2:(D (m+1) λi j=>A 0 0*A (ρ i+1) (κ j+1)-A (ρ i+1) 0*A 0 (κ j+1))=b ^ (m+1)*D (m+1) λi j=>B (ρ i) (κ j):=by rw[<-dL_,<-cD_];show a4_ λi j _ _=>(hB _ _ (hρ i)).symm
 have e3:A 0 0 ^ m*(b ^ (m+1)*t)=b ^ (m+1)*D (m+1) λi j=>B (ρ i) (κ j):=by rw[<-ht,<-e2];show e
 show⟨t,?_⟩;show AY_ (Cb_ (m:=m+1) hb) (e3.symm.trans ?_);rw[Cl_]
theorem rM_(hp:A 0 0≠0)(hB:∀i j,i<n+1->b*B i j=A 0 0*A (i+1) (j+1)-A (i+1) 0*A 0 (j+1)):A 0 0 ^ n*D (n+2) A=b ^ (n+1)*D (n+1) B:=by rw[mh_ hp,<-dL_,<-cD_];show a4_ λi j hi _=>(hB i j hi).symm
def gi(r:List Int)(j:Nat):Int:=r.getD j 0
def ma(rows:List (List Int)):Mat:=λi j=>gi (rows.getD i []) j
def FN_(piv:List Int)(b:Int)(row:List Int):List Int:=(List.range (row.length-1)).map λj=>(gi piv 0*gi row (j+1)-gi row 0*gi piv (j+1)).fdiv b
def GO_(rows:List (List Int)):Nat->Nat->Option Nat
 |_,0=>none
 |j,n+1=>if gi (rows.getD j []) 0≠0 then some j else GO_ rows (j+1) n
def Ho_(rows:List (List Int))(free:Nat):List (List Int):=match GO_ rows 0 free with
 |none=>[]
 |some 0=>rows
 |some (k+1)=>[(rows.getD (k+1) []).map λx=>-x]++(rows.drop 1).take k++[rows.getD 0 []]++rows.drop (k+2)
def FA_:Nat->Int->List (List Int)->Int×List (List Int)
 |0,b,left=>(b,left)
 |free+1,b,left=>match Ho_ left (free+1)with
  |[]=>(0,[])
  |piv::others=>FA_ free (gi piv 0) (others.map (FN_ piv b)++[piv.drop 1])
theorem hN_{rows:List (List Int)}:∀{n j:Nat},GO_ rows j n=none->∀i,j<=i->i<j+n->gi (rows.getD i []) 0=0
 |0,_,_,_,_,_=>o_
 |n+1,j,h,i,h1,h2=>by
  unfold GO_ at h;split at h
  .cases h
  .rename_i q;by_cases e:i=j
   .subst e;show Decidable.of_not_not q
   .show hN_ h i o_ o_
theorem bu_{rows:List (List Int)}:∀{n j k:Nat},GO_ rows j n=some k->j<=k/\k<j+n/\gi (rows.getD k []) 0≠0
 |0,_,_,h=>by cases h
 |n+1,j,k,h=>by
  unfold GO_ at h;split at h
  .rename_i q;cases h;show⟨Af_ _,o_,q⟩
  .obtain⟨a,b,c⟩:=bu_ h;show⟨o_,o_,c⟩
theorem kv_{f:Int->Int}(h:f 0=0)(r:List Int)(j:Nat):gi (r.map f) j=f (gi r j):=by unfold gi;simp only[Aa_,Ad_];cases r[j]? <;> simp[h]
variable{rows:List (List Int)}
theorem kw_{k:Nat}(hk:k+1<rows.length)(i:Nat):
  ([(rows.getD (k+1) []).map λx=>-x]++(rows.drop 1).take k++[rows.getD 0 []]++rows.drop (k+2)).getD i []=if i=0 then(rows.getD (k+1) []).map λx=>-x else if i=k+1 then rows.getD 0 []else rows.getD i []:=by
 have l:((rows.drop 1).take k).length=k:=by simp;lia
 simp only[Aa_,A0_,List.singleton_append,List.cons_append,CK_];by_cases h0:i=0
 .subst h0;simp
 .obtain⟨i,rfl⟩:∃j,i=j+1:=⟨i-1,o_⟩;rw[if_neg h0,B5_];by_cases h1:i<k
  .rw[AF_ (by rw[l];show h1),DO_ h1,DA_,if_neg o_,Dk_ 1 i]
  .rw[AJ_ (by rw[l];lia),l];by_cases h2:i=k
   .subst h2;simp
   .rw[if_neg o_];obtain⟨d,rfl⟩:∃d,i=k+1+d:=⟨i-(k+1),o_⟩;rw[show k+1+d-k=d+1 by lia,B5_,DA_];rw[show k+2+d=k+1+d+1 by lia]
theorem nS_{k:Nat}(hk:k+1<rows.length):([(rows.getD (k+1) []).map λx=>-x]++(rows.drop 1).take k++[rows.getD 0 []]++rows.drop (k+2)).length=rows.length:=by simp only[At_,AH_,List.length_nil,AZ_,BB_];lia
structure Hn_(w:Nat)(rows:List (List Int)):Prop where
 w:∀r∈rows,r.length=w
theorem Hn_.at{w:Nat}(h:Hn_ w rows)(hi:i<rows.length):(rows.getD i []).length=w:=by rw[Aa_,Ac_ hi];show h.w _ (AO_ _)
theorem lo_{r:List Int}{j:Nat}(h:r.length<=j):gi r j=0:=by unfold gi;rw[Aa_,Bs_ h];rfl
theorem mi_{ord:List (List Int)}{m:Nat}{w:Nat}(hl:m+1<=rows.length)(hw:Hn_ w rows)(hd:Dv b (m+1) (ma rows))(h:Ho_ rows (m+1)=ord)(hn:ord≠[]):
  ord.length=rows.length/\Hn_ w ord/\ma ord 0 0≠0/\Dv b (m+1) (ma ord)/\D (m+1) (ma ord)=D (m+1) (ma rows):=by
 unfold Ho_ at h;split at h
 .show absurd h.symm hn
 .rename_i e;subst h;obtain⟨_,_,c⟩:=bu_ e;show⟨rfl,hw,c,hd,rfl⟩
 .rename_i k e;obtain⟨_,hk,c⟩:=bu_ e;have hk':k+1<rows.length:=o_
  subst h;have at':=kw_ hk';have ln:=nS_ hk';generalize([(rows.getD (k+1) []).map λx=>-x]++(rows.drop 1).take k++[rows.getD 0 []]++rows.drop (k+2))=ord at*;have m0:∀c,ma ord 0 c = -ma rows (k+1) c:=λc=>by unfold ma;rw[at',if_pos rfl,kv_ (by rfl)]
  have m1:∀c,ma ord (k+1) c=ma rows 0 c:=λc=>by unfold ma;rw[at',if_neg o_,if_pos rfl]
  have m2:∀r c,r≠0->r≠k+1->ma ord r c=ma rows r c:=λr c a b=>by unfold ma;rw[at',if_neg a,if_neg b]
  show⟨ln,⟨λr hr=>?_⟩,?_,?_,?_⟩
  .obtain⟨i,hi,rfl⟩:=Ay_.mp hr;have e:ord[i]=ord.getD i []:=by rw[Aa_,Ac_ hi];rfl
   rw[e,at'];split
   .rw[Ab_];show hw.at hk'
   .split
    .show hw.at o_
    .show hw.at o_
  .rw[m0];have c':ma rows (k+1) 0≠0:=c;lia
  .show nP_ hd (λi=>if i=0 then k+1 else if i=k+1 then 0 else i) (λi=>if i=0 then -1 else 1) (λi hi=>?_) λi j hi=>?_
   .change(if i=0 then k+1 else if i=k+1 then 0 else i)<m+1;split
    .lia
    .split <;> lia
   .by_cases h0:i=0
    .subst h0;simp only[if_true];rw[m0];lia
    .simp only[if_neg h0];by_cases h1:i=k+1
     .subst h1;simp only[if_true];rw[m1];lia
     .simp only[if_neg h1];rw[m2 i j h0 h1];lia
  .show rL_ (k:=k+1) o_ o_ m0 m1 m2
theorem o9_{m:Nat}(hl:0<rows.length)(h:Ho_ rows (m+1)=[]):D (m+1) (ma rows)=0:=by
 unfold Ho_ at h;split at h
 .rename_i e;show pT_ λi hi=>hN_ e i o_ o_
 .subst h;simp at hl
 .simp at h
theorem lp_{piv row:List Int}(h:row.length=piv.length)(j:Nat):gi (FN_ piv b row) j=(gi piv 0*gi row (j+1)-gi row 0*gi piv (j+1)).fdiv b:=by
 by_cases hj:j<row.length-1
 .unfold FN_;change((List.range (row.length-1)).map _).getD j 0=_;rw[Aa_,Ad_,Bq_ hj];rfl
 .rw[lo_ (r:=FN_ piv b row) (by unfold FN_;simp;lia),lo_ (r:=row) (j:=j+1) o_,lo_ (r:=piv) (j:=j+1) o_];simp
theorem gl_{x:Int}(h:b ∣ x)(hb:b≠0):b*x.fdiv b=x:=Int.mul_fdiv_cancel' h
theorem kx_(V:Int):∀{free w:Nat}{b:Int}{left:List (List Int)},free<=left.length->free<=w->Hn_ w left->b≠0->Dv b free (ma left)->(free=0->b=V)->(∀m,free=m+1->D (m+1) (ma left)=b ^ m*V)->(FA_ free b left).1=V
 |0,_,b,left,_,_,_,_,_,h0,_=>h0 rfl
 |m+1,w,b,left,hl,hw,hr,hb,hd,_,h1=>by
  have v:=h1 m rfl;unfold FA_;split
  .rename_i e;rw[o9_ o_ e]at v
   rcases Dl_.mp v.symm with z|z
   .show absurd z (Cb_ hb)
   .show z.symm
  .rename_i piv others e;obtain⟨ln,rect,hp,dv,dd⟩:=mi_ hl hr hd e s_;rw[<-dd]at v;have pw:piv.length=w:=rect.w _ (.head _)
   have row:∀i j,i<others.length->ma (others.map (FN_ piv b)++[piv.drop 1]) i j=(ma (piv::others) 0 0*ma (piv::others) (i+1) (j+1)-ma (piv::others) (i+1) 0*ma (piv::others) 0 (j+1)).fdiv b:=λi j hi=>by
    unfold ma;have e1:(others.map (FN_ piv b)++[piv.drop 1]).getD i []=FN_ piv b (others.getD i []):=by rw[Aa_,AF_ (by simpa using hi),Ad_,Aa_,Ac_ hi];rfl
    have e2:(piv::others).getD (i+1) []=others.getD i []:=rfl;have e3:(piv::others).getD 0 []=piv:=rfl;rw[e1,e2,e3,lp_];rw[pw];show Hn_.at ⟨λr h=>rect.w r (.tail _ h)⟩ hi
   have ol:others.length+1=left.length:=ln;have ex:∀i j,i<m->b*ma (others.map (FN_ piv b)++[piv.drop 1]) i j=ma (piv::others) 0 0*ma (piv::others) (i+1) (j+1)-ma (piv::others) (i+1) 0*ma (piv::others) 0 (j+1):=λi j hi=>by rw[row i j o_];show gl_ (nQ_ dv o_ o_) hb
   have hp':gi piv 0≠0:=hp;show kx_ V (w:=w-1) (by simp;lia) o_ ⟨λr hx=>?_⟩ hp' ?_ (λz=>?_) λm' z=>?_
   .rcases AB_.mp hx with hx|hx
    .obtain⟨r',hr',rfl⟩:=Aj_.mp hx;have:=rect.w r' (.tail _ hr');unfold FN_;simp;lia
    .simp at hx;subst hx;simp;lia
   .show nR_ (A:=ma (piv::others)) hb hp dv ex
   .subst z;have v':D 1 (ma (piv::others))=b ^ 0*V:=v;rw[Dj_,Bv_]at v';have:D 1 (ma (piv::others))=gi piv 0:=by change 0+sg 0*gi piv 0*1=gi piv 0;rw[show sg 0=1 from rfl];lia
    lia
   .subst z;have n:=rM_ (A:=ma (piv::others)) (n:=m') hp ex;rw[v]at n;show AY_ (Cb_ (m:=m'+1) hb) (n.symm.trans ?_);change gi piv 0 ^ m'*(b ^ (m'+1)*V)=_;rw[Cl_]
theorem pa_{w:Nat}(hw:Hn_ w rows)(h:rows.length<=w):(FA_ rows.length 1 rows).1=D rows.length (ma rows):=
 kx_ _ (Af_ _) h hw d_ (nO_ _ _) (λz=>by rw[z];rfl) λm z=>by rw[E1_,Bv_,z]
end RimD
namespace RimM
def nf(t b:Int):Int×Int:=if b<0 then(t / -(Int.gcd t b:Int),b / -(Int.gcd t b:Int))else(t/(Int.gcd t b:Int),b/(Int.gcd t b:Int))
theorem gpos{t b:Int}(hb:b≠0):0<(Int.gcd t b:Int):=by have:=Int.gcd_pos_of_ne_zero_right t hb;lia
theorem pU_{t b:Int}(h:b<0):nf t b=nf (-t) (-b):=by
 have e:Int.gcd (-t) (-b)=Int.gcd t b:=by rw[Int.gcd_neg,E2_]
 unfold nf;rw[if_pos h,if_neg o_,e,Int.ediv_neg,Int.ediv_neg,EQ_ (Cz_ ..),EQ_ (BX_ ..)]
theorem mj_{t b:Int}(h:0<b):nf t b=(t/(Int.gcd t b:Int),b/(Int.gcd t b:Int)):=by unfold nf;rw[if_neg o_]
structure Low(p:Int×Int):Prop where
 pos:0<p.2
 co:Int.gcd p.1 p.2=1
theorem iT_{t b:Int}(hb:b≠0):Low (nf t b)/\t*(nf t b).2=(nf t b).1*b:=by
 have key:∀{t b:Int},0<b->Low (nf t b)/\t*(nf t b).2=(nf t b).1*b:=λ{t b} h=>by
  have g:=gpos (t:=t) (b:=b) o_;rw[mj_ h];show⟨⟨CD_ h (Cp_ g) (BX_ ..),Int.gcd_ediv_gcd_ediv_gcd o_⟩,?_⟩;change t*(b/(Int.gcd t b:Int))=t/(Int.gcd t b:Int)*b;obtain⟨x,hx⟩:=Cz_ (a:=t) (b:=b);obtain⟨y,hy⟩:=BX_ (a:=t) (b:=b)
  have e1:t/(Int.gcd t b:Int)=x:=by
   conv=>lhs;arg 1;rw[hx]
   show DU_ _ o_
  have e2:b/(Int.gcd t b:Int)=y:=by
   conv=>lhs;arg 1;rw[hy]
   show DU_ _ o_
  rw[e1,e2]
  conv=>lhs;arg 1;rw[hx]
  conv=>rhs;arg 2;rw[hy]
  rw[Bg_,Cl_]
 rcases Int.lt_or_lt_of_ne hb with h|h
 .rw[pU_ h];obtain⟨a,e⟩:=key (t:=-t) (b:=-b) o_;show⟨a,?_⟩;rw[CF_,Cg_]at e;lia
 .show key h
theorem mk_{k n m:Int}(h:k ∣ n*m)(g:Int.gcd k n=1):k ∣ m:=by have:=Int.dvd_gcd_mul_iff_dvd_mul.mpr h;rw[g]at this;simpa using this
theorem rN_{p q:Int×Int}(hp:Low p)(hq:Low q)(h:p.1*q.2=q.1*p.2):p=q:=by
 have d1:p.2 ∣ q.2:=by have:p.2 ∣ p.1*q.2:=⟨q.1,by rw[h,AQ_]⟩;show mk_ this (by rw[Dm_];show hp.co)
 have d2:q.2 ∣ p.2:=by have:q.2 ∣ q.1*p.2:=⟨p.1,by rw[<-h,AQ_]⟩;show mk_ this (by rw[Dm_];show hq.co)
 have e:p.2=q.2:=Int.dvd_antisymm (Cp_ hp.pos) (Cp_ hq.pos) d1 d2;have e1:p.1=q.1:=by rw[e]at h;show CE_ (by have:=hq.pos;lia) h
 show BC_ e1 e
theorem Ks_{t b t' b':Int}(hb:b≠0)(hb':b'≠0)(h:t*b'=t'*b):nf t b=nf t' b':=by
 obtain⟨l,e⟩:=iT_ (t:=t) hb;obtain⟨l',e'⟩:=iT_ (t:=t') hb';show rN_ l l' ?_
 have:((nf t b).1*(nf t' b').2)*(b*b')=((nf t' b').1*(nf t b).2)*(b*b'):=by
  calc ((nf t b).1*(nf t' b').2)*(b*b')=((nf t b).1*b)*((nf t' b').2*b'):=by ac_rfl
   _=(t*(nf t b).2)*((nf t' b').2*b'):=by rw[e]
   _=(t*b')*((nf t b).2*(nf t' b').2):=by ac_rfl
   _=(t'*b)*((nf t b).2*(nf t' b').2):=by rw[h]
   _=(t'*(nf t' b').2)*((nf t b).2*b):=by ac_rfl
   _=((nf t' b').1*b')*((nf t b).2*b):=by rw[e']
   _=((nf t' b').1*(nf t b).2)*(b*b'):=by ac_rfl
 show CE_ (AW_ hb hb') this
theorem hO_{p:Int×Int}(h:Low p):nf p.1 p.2=p:=by rw[mj_ h.pos,h.co];simp
end RimM
namespace RimD
open RimM
theorem jq_:∀(n:Nat)(b:Nat->Int),pr (n+1) b=b 0*pr n λi=>b (i+1)
 |0,b=>by change 1*b 0=b 0*1;lia
 |n+1,b=>by change pr (n+1) b*b (n+1)=b 0*(pr n (λi=>b (i+1))*b (n+1));rw[jq_ n b,Bg_]
theorem Ls_:∀{n:Nat}{f:Nat->Int}{K:Nat},(∀k,k<n->(f k).natAbs<=K)->(su n f).natAbs<=n*K
 |0,_,_,_=>by change 0<=_;lia
 |n+1,f,K,h=>by have a:=Ls_ (n:=n) (f:=f) (K:=K) λk hk=>h k o_;have b:=h n o_;have c:=Int.natAbs_add_le (su n f) (f n);change(su n f+f n).natAbs<=(n+1)*K;rw[Nat.succ_mul];lia
theorem rO_(k:Nat):(sg k).natAbs=1:=by unfold sg;split <;> rfl
theorem JA_{B:Nat}{r:List Int}(h:∀x∈r,x.natAbs<=2 ^ B)(j:Nat):(gi r j).natAbs<=2 ^ B:=by
 unfold gi;rw[Aa_];cases e:r[j]? with
 |none=>simp
 |some x=>show h x (Ai_ e)
end RimD
namespace RimT
variable {α:Type}[DecidableEq α]
def Jv_(p:Nat):Nat->List α->List ((Nat×Nat)×α)
 |_,[]=>[]
 |k,w::l=>((p,k),w)::Jv_ p (k+1) l
def HK_:Nat->List (List α)->List ((Nat×Nat)×α)
 |_,[]=>[]
 |o,l::T=>Jv_ o 0 l++HK_ (o+1) T
abbrev ends(T:List (List α)):=HK_ 0 T
def wi(T:List (List α))(e:Nat×Nat):Option α:=(T.getD e.1 [])[e.2]?
theorem hn_{p:Nat}{e:Nat×Nat}{w:α}:∀{l:List α}{k:Nat},(e,w)∈Jv_ p k l↔e.1=p/\k<=e.2/\l[e.2-k]?=some w
 |[],k=>by simp[Jv_]
 |a::l,k=>by
  rw[Jv_,Aq_,hn_];constructor
  .rintro(h|⟨h1,h2,h3⟩)
   .cases h;simp
   .show⟨h1,o_,?_⟩;rw[show e.2-k=(e.2-(k+1))+1 by lia,B5_];show h3
  .rintro⟨h1,h2,h3⟩;by_cases z:e.2=k
   .left;rw[z,B0_,List.getElem?_cons_zero]at h3;cases h3;show BC_ (BC_ h1 z) rfl
   .right;show⟨h1,o_,?_⟩;rw[show e.2-k=(e.2-(k+1))+1 by lia,B5_]at h3;show h3
theorem hP_{e:Nat×Nat}{w:α}:∀{T:List (List α)}{o:Nat},(e,w)∈HK_ o T↔o<=e.1/\(T.getD (e.1-o) [])[e.2]?=some w
 |[],o=>by simp[HK_]
 |l::T,o=>by
  rw[HK_,AB_,hn_,hP_];constructor
  .rintro(⟨h1,h2,h3⟩|⟨h1,h2⟩)
   .show⟨o_,?_⟩;rw[h1,B0_];show h3
   .show⟨o_,?_⟩;rw[show e.1-o=(e.1-(o+1))+1 by lia];show h2
  .rintro⟨h1,h2⟩;by_cases z:e.1=o
   .left;rw[z,B0_]at h2;show⟨z,o_,h2⟩
   .right;show⟨o_,?_⟩;rw[show e.1-o=(e.1-(o+1))+1 by lia]at h2;show h2
variable{e:Nat×Nat}
theorem jr_{T:List (List α)}{w:α}:(e,w)∈ends T↔wi T e=some w:=by unfold ends;rw[hP_];simp[wi]
theorem ml_(p:Nat):∀(l:List α)(k:Nat),(Jv_ p k l).map (·.2)=l
 |[],_=>rfl
 |a::l,k=>by rw[Jv_,Av_,ml_ p l]
theorem hQ_:∀(T:List (List α))(o:Nat),(HK_ o T).map (·.2)=T.flatten
 |[],_=>rfl
 |l::T,o=>by rw[HK_,Au_,ml_,hQ_ T,A1_]
theorem iU_(p:Nat):∀(l:List α)(k:Nat),((Jv_ p k l).map (·.1)).Nodup
 |[],_=>BS_
 |a::l,k=>by
  rw[Jv_,Av_,A5_];show⟨λh=>?_,iU_ p l (k+1)⟩;obtain⟨⟨e,w⟩,he,q⟩:=Aj_.mp h;have:=(hn_.mp he).2.1
  dsimp only at q
  rw[q]at this
  dsimp only at this
  lia
theorem hR_:∀(T:List (List α))(o:Nat),((HK_ o T).map (·.1)).Nodup
 |[],_=>BS_
 |l::T,o=>by
  rw[HK_,Au_,Br_];show⟨iU_ o l 0,hR_ T (o+1),λa ha b hb e=>?_⟩;subst e;obtain⟨⟨e,w⟩,he,q⟩:=Aj_.mp ha;obtain⟨⟨e',w'⟩,he',q'⟩:=Aj_.mp hb;have h1:=(hn_.mp he).1;have h2:=(hP_.mp he').1
  dsimp only at q q'
  rw[q]at h1;rw[q']at h2;lia
theorem gQ_(w:α):∀l:List ((Nat×Nat)×α),(l.map (·.2)).count w=(l.filter λx=>decide (x.2=w)).length
 |[]=>rfl
 |a::l=>by
  rw[Av_,CL_,gQ_ w l,Fe_];by_cases h:a.2=w
  .simp[h]
  .simp[h]
theorem mm_{T:List (List α)}{w:α}(h:T.flatten.count w=2):∃a b,(ends T).filter (λx=>decide (x.2=w))=[(a,w),(b,w)]/\a≠b/\∀e,wi T e=some w↔e=a\/e=b:=by
 have hl:((ends T).filter λx=>decide (x.2=w)).length=2:=by rw[<-gQ_,hQ_];show h
 have nd:(((ends T).filter λx=>decide (x.2=w)).map (·.1)).Nodup:=(hR_ T 0).sublist (List.Sublist.map _ List.filter_sublist)
 have mem:∀x,x∈(ends T).filter (λx=>decide (x.2=w))↔wi T x.1=some w/\x.2=w:=λx=>by
  rw[BJ_,EZ_];constructor
  .rintro⟨h1,h2⟩;show⟨?_,h2⟩;rw[<-jr_,<-h2];show h1
  .rintro⟨h1,h2⟩;show⟨?_,h2⟩;rw[<-jr_,<-h2]at h1;show h1
 generalize(ends T).filter (λx=>decide (x.2=w))=f at hl nd mem
 match f,hl with
 |[a,b],_ =>
  have ha:=(mem a).mp s_;have hb:=(mem b).mp s_;show⟨a.1,b.1,?_,?_,λe=>⟨λhe=>?_,?_⟩⟩
  .rw[show(a.1,w)=a from BC_ rfl ha.2.symm,show(b.1,w)=b from BC_ rfl hb.2.symm]
  .simp at nd;show nd
  .have:=(mem (e,w)).mpr ⟨he,rfl⟩
   rcases Aq_.mp this with z|z
   .show .inl (by rw[<-z])
   .show .inr (by rw[<-An_.mp z])
  .rintro(rfl|rfl)
   .show ha.1
   .show hb.1
def Tw(T:List (List α)):Prop:=∀w,w∈T.flatten->T.flatten.count w=2
theorem pV_{T:List (List α)}{w:α}(h:wi T e=some w):w∈T.flatten:=by rw[<-hQ_ T 0];show Aj_.mpr ⟨_,jr_.mpr h,rfl⟩
def Jq_(T:List (List α))(a b:Nat×Nat):Prop:=a≠b/\∃w,wi T a=some w/\wi T b=some w
theorem Jq_.symm{T:List (List α)}{a b:Nat×Nat}(h:Jq_ T a b):Jq_ T b a:=⟨λe=>h.1 e.symm,h.2.elim λw q=>⟨w,q.2,q.1⟩⟩
theorem qA_{T:List (List α)}(h:Tw T){a:Nat×Nat}{w:α}(ha:wi T a=some w):∃b,Jq_ T a b:=by
 obtain⟨x,y,_,ne,all⟩:=mm_ (h w (pV_ ha))
 rcases(all a).mp ha with e|e
 .show⟨y,e▸ne,w,ha,(all y).mpr (.inr rfl)⟩
 .show⟨x,λz=>ne (by rw[<-z,e]),w,ha,(all x).mpr (.inl rfl)⟩
theorem ho_{T:List (List α)}(h:Tw T){a b c:Nat×Nat}(hb:Jq_ T a b)(hc:Jq_ T a c):b=c:=by
 obtain⟨n1,w,a1,b1⟩:=hb;obtain⟨n2,w',a2,c2⟩:=hc;rw[a1]at a2;cases a2;obtain⟨x,y,_,ne,all⟩:=mm_ (h w (pV_ a1))
 rcases(all a).mp a1 with e|e <;> rcases(all b).mp b1 with e1|e1 <;> rcases(all c).mp c2 with e2|e2 <;> subst e <;> subst e1 <;> subst e2 <;> first|rfl|show absurd rfl n1|show absurd rfl n2
def rl(T:List (List α))(p:Nat):Nat:=(T.getD p []).length
def IsC(T:List (List α))(P:Nat)(c:Nat×Nat):Prop:=c.1<T.length/\c.2<rl T c.1+(if c.1<P then 1 else 0)
theorem qB_{T:List (List α)}(h:e.2<rl T e.1):∃w,wi T e=some w:=⟨_,Ac_ h⟩
theorem Ik_{T:List (List α)}{w:α}(h:wi T e=some w):e.2<rl T e.1/\e.1<T.length:=by
 have h1:e.2<rl T e.1:=(Ar_.mp h).1;show⟨h1,?_⟩
 rcases Nat.lt_or_ge e.1 T.length with z|z
 .show z
 .unfold rl at h1;rw[Aa_,Bs_ z]at h1;simp at h1
def nx(T:List (List α))(P:Nat)(c m:Nat×Nat):Nat×Nat :=
 if c.2=rl T c.1 then((c.1+P-1)%P,0)else if m.1<P then(m.1,m.2+1)else(m.1,(m.2+1)%rl T m.1)
def Nx(T:List (List α))(P:Nat)(c c':Nat×Nat):Prop:=(c.2=rl T c.1/\c'=((c.1+P-1)%P,0))\/(c.2<rl T c.1/\∃m,Jq_ T c m/\c'=if m.1<P then(m.1,m.2+1)else(m.1,(m.2+1)%rl T m.1))
variable{P:Nat}
theorem nx_c{T:List (List α)}(hP:0<P)(hPT:P<=T.length){c c':Nat×Nat}(hc:IsC T P c)(h:Nx T P c c'):IsC T P c':=by
 rcases h with⟨h1,rfl⟩|⟨h1,m,⟨_,w,_,hm⟩,rfl⟩
 .have:=Bw_ (c.1+P-1) hP;show⟨by change(c.1+P-1)%P<_;lia,by change 0<_;simp only[this,if_true];lia⟩
 .obtain⟨a,b⟩:=Ik_ hm;split
  .rename_i z;show⟨b,by change m.2+1<_;simp only[z,if_true];lia⟩
  .show⟨b,?_⟩;have:=Bw_ (m.2+1) (show 0<rl T m.1 by lia);show AL_ this (Cy_ _ _)
theorem qC_{m a b:Nat}(ha:a<m)(hb:b<m)(h:(a+1)%m=(b+1)%m):a=b:=by
 by_cases z1:a+1=m <;> by_cases z2:b+1=m
 .lia
 .rw[z1,Nat.mod_self,B1_ o_]at h;lia
 .rw[z2,Nat.mod_self,B1_ o_]at h;lia
 .rw[B1_ o_,B1_ o_]at h;lia
theorem pb_{a b:Nat}(ha:a<P)(hb:b<P)(h:(a+P-1)%P=(b+P-1)%P):a=b:=by
 have e:∀x,x<P->(x+P-1)%P=if x=0 then P-1 else x-1:=λx hx=>by
  by_cases z:x=0
  .rw[if_pos z,z,Nat.zero_add,B1_ o_]
  .rw[if_neg z,show x+P-1=(x-1)+P by lia,Nat.add_mod_right,B1_ o_]
 rw[e a ha,e b hb]at h;split at h <;> split at h <;> lia
theorem pW_{T:List (List α)}(h:Tw T)(hP:0<P){c d x:Nat×Nat}(hc:IsC T P c)(hd:IsC T P d)(h1:Nx T P c x)(h2:Nx T P d x):c=d:=by
 have post:∀{c:Nat×Nat},IsC T P c->c.2=rl T c.1->c.1<P:=λ{c} hc e=>by
  have:=hc.2;split at this
  .assumption
  .lia
 rcases h1 with⟨a1,a2⟩|⟨a1,m,am,a2⟩ <;> rcases h2 with⟨b1,b2⟩|⟨b1,m',bm,b2⟩
 .rw[a2]at b2;have e:=pb_ (post hc a1) (post hd b1) (congrArg Prod.fst b2);show BC_ e (by rw[a1,b1,e])
 .exfalso;rw[a2]at b2;have lt:=Bw_ (c.1+P-1) hP;split at b2
  .have:=congrArg Prod.snd b2;dsimp only at this;lia
  .have:=congrArg Prod.fst b2;dsimp only at this;lia
 .exfalso;rw[b2]at a2;have lt:=Bw_ (d.1+P-1) hP;split at a2
  .have:=congrArg Prod.snd a2;dsimp only at this;lia
  .have:=congrArg Prod.fst a2;dsimp only at this;lia
 .rw[a2]at b2;obtain⟨_,w,_,wm⟩:=id am;obtain⟨_,w',_,wm'⟩:=id bm;have l1:=(Ik_ wm).1;have l2:=(Ik_ wm').1
  have e:m=m':=by
   split at b2 <;> split at b2
   .have e1:=congrArg Prod.fst b2;have e2:=congrArg Prod.snd b2;dsimp only at e1 e2;show BC_ e1 o_
   .have e1:=congrArg Prod.fst b2;dsimp only at e1;lia
   .have e1:=congrArg Prod.fst b2;dsimp only at e1;lia
   .have e1:=congrArg Prod.fst b2;have e2:=congrArg Prod.snd b2;dsimp only at e1 e2;rw[<-e1]at e2 l2;show BC_ e1 (qC_ l1 l2 e2)
  subst e;show ho_ h am.symm bm.symm
def corners(T:List (List α))(P:Nat):List (Nat×Nat):=(List.range T.length).flatMap λp=>(List.range (rl T p+(if p<P then 1 else 0))).map λk=>(p,k)
theorem fk_{T:List (List α)}{c:Nat×Nat}:c∈corners T P↔IsC T P c:=by
 unfold corners IsC;rw[List.mem_flatMap];constructor
 .rintro⟨p,hp,hc⟩;obtain⟨k,hk,rfl⟩:=Aj_.mp hc;show⟨AP_.mp hp,AP_.mp hk⟩
 .rintro⟨h1,h2⟩;show⟨c.1,AP_.mpr h1,Aj_.mpr ⟨c.2,AP_.mpr h2,rfl⟩⟩
inductive Way(T:List (List α))(P:Nat):List (Nat×Nat)->Nat×Nat->Prop
 |one {c d}:Nx T P c d->Way T P [c] d
 |more {l c d}:Way T P l c->Nx T P c d->Way T P (l++[c]) d
variable{d:Nat×Nat}
theorem mn_{T:List (List α)}{l:List (Nat×Nat)}(w:Way T P l d):l≠[]:=by
 cases w with
 |one _=>simp
 |more _ _=>simp
theorem mo_{β:Type}{l m:List β}{c:β}(h:l≠[])(e:(l++m).head?=some c):l.head?=some c:=by
 cases l with
 |nil=>show absurd rfl h
 |cons a r=>show e
theorem gm_{β:Type}[DecidableEq β]:∀{l m:List β},l.Nodup->(∀x∈l,x∈m)->l.length<=m.length
 |[],_,_,_=>AD_ _
 |a::l,m,nd,h=>by
  rw[A5_]at nd
  have:=gm_ (l:=l) (m:=m.erase a) nd.2 λx hx=>by
   have hne:x≠a:=λe=>by subst e;show nd.1 hx
   show(List.mem_erase_of_ne hne).mpr (h x (Ag_ _ hx))
  have ha:=h a Ah_;rw[List.length_erase_of_mem ha]at this;have:0<m.length:=El_ ha;simp only[AH_];lia
theorem js_{T:List (List α)}(h:Tw T)(hP:0<P)(hPT:P<=T.length){c:Nat×Nat}:∀{l:List (Nat×Nat)}{d:Nat×Nat},Way T P l d->l.head?=some c->IsC T P c->IsC T P d/\(∀x∈l,IsC T P x)/\(∀x∈l,x=c\/∃y∈l,Nx T P y x)
  /\ ∃z∈l,Nx T P z d:=by
 intro l d w
 induction w with
 | @one a b hn =>
  intro hc ic;cases hc;show⟨nx_c hP hPT ic hn,λx hx=>by rw[An_.mp hx];show ic,λx hx=>.inl (An_.mp hx),c,s_,hn⟩
 | @more l' x y w hn ih =>
  intro hc ic;have hc':l'.head?=some c:=mo_ (mn_ w) hc;obtain⟨i1,i2,i3,z,hz,i4⟩:=ih hc' ic;show⟨nx_c hP hPT i1 hn,λq hq=>?_,λq hq=>?_,x,s_,hn⟩
  .rcases AB_.mp hq with q'|q'
   .show i2 q q'
   .rw[An_.mp q'];show i1
  .rcases AB_.mp hq with q'|q'
   .show(i3 q q').imp id λ⟨y,hy,e⟩=>⟨y,Bd_ _ hy,e⟩
   .rw[An_.mp q'];show .inr ⟨z,Bd_ _ hz,i4⟩
theorem qD_{T:List (List α)}(h:Tw T)(hP:0<P)(hPT:P<=T.length){c:Nat×Nat}{l:List (Nat×Nat)}(w:Way T P l d)(hc:l.head?=some c)(ic:IsC T P c)(nd:l.Nodup)(hd:d≠c):d∉l:=λhm=>by
 obtain⟨i1,i2,i3,z,hz,i4⟩:=js_ h hP hPT w hc ic
 have key:∀{l:List (Nat×Nat)}{d:Nat×Nat},Way T P l d->l.head?=some c->l.Nodup->d∈l->d=c:=by
  intro l d w
  induction w with
  | @one a b hn =>
   intro hc nd hm;cases hc;show An_.mp hm
  | @more l' x y w hn ih =>
   intro hc nd hm;have hc':l'.head?=some c:=mo_ (mn_ w) hc;obtain⟨j1,j2,j3,z,hz,j4⟩:=js_ h hP hPT w hc' ic;rw[Br_]at nd;have xnew:x∉l':=λq=>nd.2.2 x q x s_ rfl
   rcases AB_.mp hm with q|q
   .rcases j3 y q with e|⟨u,hu,e⟩
    .show e
    .have:u=x:=pW_ h hP (j2 u hu) j1 e hn;show absurd (this▸hu) xnew
   .have e:=An_.mp q;subst e
    have:z=y:=pW_ h hP (j2 z hz) j1 j4 hn;show absurd (this▸hz) xnew
 show hd (key w hc nd hm)
theorem qE_{T:List (List α)}(h:Tw T)(hP:0<P)(hPT:P<=T.length){c:Nat×Nat}{l:List (Nat×Nat)}(w:Way T P l d)(hc:l.head?=some c)(ic:IsC T P c)(nd:l.Nodup):l.length<=(corners T P).length :=
 gm_ nd λx hx=>fk_.mpr ((js_ h hP hPT w hc ic).2.1 x hx)
def ins(l:List α)(k:Nat)(w:α):List α:=l.take k++w::l.drop k
theorem gn_(l:List α)(k:Nat)(w:α):(ins l k w).length=l.length+1:=by unfold ins;simp only[At_,AZ_,AH_,BB_];lia
theorem nT_(l:List α)(k:Nat)(w x:α):(ins l k w).count x=l.count x+if w=x then 1 else 0:=by
 unfold ins;rw[BN_,CL_];have:=Bt_ k l;have e:l.count x=(l.take k).count x+(l.drop k).count x:=by rw[<-BN_,this]
 rw[e];by_cases h:w=x
 .simp[h];lia
 .simp[h]
def F0_(T:List (List α))(c:Nat×Nat)(w:α):List (List α):=T.set c.1 (ins (T.getD c.1 []) c.2 w)
theorem hS_(x:α)(l':List α):∀(T:List (List α))(p:Nat),p<T.length->(T.set p l').flatten.count x+(T.getD p []).count x=T.flatten.count x+l'.count x
 |[],p,h=>absurd h s_
 |l::T,0,h=>by
  simp only[DB_,A1_,BN_,ER_];lia
 |l::T,p+1,h=>by have:=hS_ x l' T p (by simpa using h);simp only[CT_,A1_,BN_,ES_];lia
theorem lq_(l':List α):∀(T:List (List α))(p:Nat),p<T.length->(T.set p l').flatten.length+(T.getD p []).length=T.flatten.length+l'.length
 |[],p,h=>absurd h s_
 |l::T,0,h=>by
  simp only[DB_,A1_,At_,ER_];lia
 |l::T,p+1,h=>by have:=lq_ l' T p (by simpa using h);simp only[CT_,A1_,At_,ES_];lia
theorem dM_{T:List (List α)}{c:Nat×Nat}(h:c.1<T.length)(w x:α):(F0_ T c w).flatten.count x=T.flatten.count x+if w=x then 1 else 0:=by have:=hS_ x (ins (T.getD c.1 []) c.2 w) T c.1 h;rw[nT_]at this;unfold F0_;lia
theorem hT_{T:List (List α)}{c:Nat×Nat}(h:c.1<T.length)(w:α):(F0_ T c w).flatten.length=T.flatten.length+1:=by have:=lq_ (ins (T.getD c.1 []) c.2 w) T c.1 h;rw[gn_]at this;unfold F0_;lia
theorem ax_(T:List (List α))(c:Nat×Nat)(w:α):(F0_ T c w).length=T.length:=by unfold F0_;simp
theorem hp_{T:List (List α)}{c:Nat×Nat}(w:α)(p:Nat):rl T p<=rl (F0_ T c w) p:=by
 unfold F0_ rl;rw[Aa_,Aa_,Bk_];by_cases h:c.1=p
 .subst h;by_cases h2:c.1<T.length
  .simp only[if_true,h2,Option.getD_some,gn_];rw[Aa_];lia
  .simp[h2,Bs_ (Cx_.mp h2)]
 .simp[h]
structure Gr(P W:Nat)(T:List (List Nat)):Prop where
 len:P<=T.length
 most:T.length<=P+10
 two:∀w,w<W->T.flatten.count w=2
 lt:∀w∈T.flatten,w<W
 ne:∀p,P<=p->p<T.length->0<rl T p
 tot:T.flatten.length=2*W
variable{T:List (List Nat)}
theorem Gr.tw{W:Nat}(g:Gr P W T):Tw T:=λw h=>g.two w (g.lt w h)
theorem pc_(P:Nat):Gr P 0 (List.replicate P []):=by
 have e:(List.replicate P ([]:List Nat)).flatten=[]:=by
  induction P with
  |zero=>rfl
  |succ n ih=>rw[List.replicate_succ,A1_,ih];rfl
 show⟨s_,s_,λw h=>absurd h o_,λw h=>(by rw[e]at h;cases h),λp h1 h2=>(by simp at h2;lia),(by rw[e];rfl)⟩
theorem hU_{c:Nat×Nat}(h:c.1<T.length){w x:Nat}(hx:x∈(F0_ T c w).flatten):x=w\/x∈T.flatten:=by
 by_cases e:x=w
 .show .inl e
 .right;have:=BG_.mpr hx;rw[dM_ h,if_neg (λz=>e z.symm)]at this;show BG_.mp o_
theorem qF_{W:Nat}{c:Nat×Nat}(g:Gr P W T)(hc:c.1<T.length)(h:T.length<P+10):Gr P (W+1) (F0_ T c W++[[W]]):=by
 have fl:(F0_ T c W++[[W]]).flatten=(F0_ T c W).flatten++[W]:=by rw[BP_];simp
 show⟨by simp[ax_];have:=g.len;lia,by simp[ax_];lia,λw hw=>?_,λw hw=>?_,λp h1 h2=>?_,?_⟩
 .rw[fl,BN_,dM_ hc];by_cases e:w=W
  .subst e;have:T.flatten.count w=0:=DC_.mpr λz=>absurd (g.lt w z) o_;simp[this]
  .have:=g.two w o_;rw[if_neg (λz=>e z.symm),this];rw[DC_.mpr λz=>e (An_.mp z)]
 .rw[fl]at hw
  rcases AB_.mp hw with hw|hw
  .rcases hU_ hc hw with e|e
   .lia
   .have:=g.lt w e;lia
  .have:=An_.mp hw;lia
 .simp only[At_,ax_,Cn_]at h2;by_cases e:p<T.length
  .have:=g.ne p h1 e;have a:=hp_ (T:=T) (c:=c) W p;unfold rl at a⊢;rw[Aa_,AF_ (by rw[ax_];show e),<-Aa_];unfold rl at this;lia
  .have e:p=T.length:=o_
   subst e;unfold rl;rw[Aa_,AJ_ (by rw[ax_];show Af_ _),ax_];simp
 .rw[fl,At_,hT_ hc,g.tot];simp;lia
theorem rP_{W:Nat}{c:Nat×Nat}(g:Gr P W T)(hc:c.1<T.length)(hd:d.1<T.length):Gr P (W+1) (F0_ (F0_ T c W) d W):=by
 have hd':d.1<(F0_ T c W).length:=by rw[ax_];show hd
 show⟨by rw[ax_,ax_];show g.len,by rw[ax_,ax_];show g.most,λw hw=>?_,λw hw=>?_,λp h1 h2=>?_,?_⟩
 .rw[dM_ hd',dM_ hc];by_cases e:w=W
  .subst e;have:T.flatten.count w=0:=DC_.mpr λz=>absurd (g.lt w z) o_;simp[this]
  .rw[if_neg (λz=>e z.symm),g.two w o_]
 .rcases hU_ hd' hw with e|e
  .lia
  .rcases hU_ hc e with e|e
   .lia
   .have:=g.lt w e;lia
 .rw[ax_,ax_]at h2;have:=g.ne p h1 h2;have a:=hp_ (T:=T) (c:=c) W p;have b:=hp_ (T:=F0_ T c W) (c:=d) W p;lia
 .rw[hT_ hd',hT_ hc,g.tot];lia
theorem lr_{T:List (List α)}:(corners T P).length<=T.flatten.length+P:=by
 have key:∀n,n<=T.length->((List.range n).flatMap λp=>(List.range (rl T p+(if p<P then 1 else 0))).map λk=>(p,k)).length<=(T.take n).flatten.length+min n P:=λn=>by
  induction n with
  |zero=>intro _;simp
  |succ n ih =>
   intro h;have i:=ih o_;have e:T[n]?=some T[n]:=Ac_ o_;rw[B9_,ET_,At_,Bn_,e,BP_,At_];have r:rl T n=T[n].length:=by unfold rl;rw[Aa_,e];rfl
   simp only[List.flatMap_cons,List.flatMap_nil,By_,Ab_,Bc_,Option.toList_some,A1_,List.flatten_nil,r];split <;> lia
 have:=key T.length (Af_ _);rw[C7_]at this;unfold corners;lia
theorem Gr.corners{W:Nat}(g:Gr P W T):(corners T P).length<=2*W+P:=by have:=lr_ (T:=T) (P:=P);rw[g.tot]at this;show this
end RimT
namespace L2
open PySem PySem.Spec PyProof.Rows
theorem a5_{X:Cx}{K:PySem.W.Frag}(hK:X.K=K):IxR X (L6_ K):=hK▸pM_
variable{pos:Pos}
theorem jt_{X:Cx}{x:Str}{C:Addr}(hm:X.mg x=some (.ref C))(hg:Gl X x)(hd:(x == ("__debug__" : Str))=false:=by decide):PE X (.Name x pos) (tC (.ref C)):=nj_ hg hm rfl hd
def Hu_(n:Nat):List V:=(List.range n).map λi:Nat=>V.int (i:Int)
def I1_(ta:TA):TE:=λσ H Q=>ta σ H λvs H1=>∃n:Nat,vs=[.int (n:Int)]/\n<=1000/\∀l,H1 l=none->Q (.ref l) (upd H1 l (.lst (Hu_ n)))
theorem mp_:∀{xs:List V}{us:List Value},xs.length=us.length->(∀(j:Nat) x u,xs[j]?=some x->us[j]?=some u->FY_ x u)->FR_ xs us
 |[],[],_,_=>.nil
 |[],_::_,h,_=>by simp at h
 |_::_,[],h,_=>by simp at h
 |x::xs,u::us,h,k=>.cons (k 0 x u rfl rfl) (mp_ (by simpa using h) λj y v e e'=>k (j+1) y v (by simpa using e) (by simpa using e'))
theorem ky_{X:Cx}{a:Expr}{ta:TA}{p p' pos':Pos}(hc:X.calm=true)(hg:Gl X "list") (hm:X.mg "list"=none) (hg':Gl X "range") (hm':X.mg "range"=none) (ha:PA X [a] ta) (hs:Fv_ [a]=true:=by rfl):
  PE X (.Call (.Name "list" p) [.Call (.Name "range" p') [a] [] pos'] [] pos) (I1_ ta):=by
 have h':Gk_ a=true:=by simpa[Fv_]using hs
 intro pins s σ H Q I h;show BE_ (dg_ I hg hm fh_ ?_ d_ d_);show AV_ ?_ (aw_ rfl) rfl;rw[aw_ (e:=.Call (.Name "range" p') [a] [] pos') (es:=[]) rfl];change wpAny _ _ (spliced ((false,eval (.Call (.Name "range" p') [a] [] pos') X.env)::backTo pos (starEach [] X.env))) _ _ s;show B8_ ?_;show Call_ (dg_ I hg' hm' EB_ (AV_ (thn (ha pos' pins s σ H _ I h) λus s1 ⟨vs,H1,I1,r1,q1⟩=>?_) (aw_ h') rfl));obtain⟨n,e,n1,q⟩:=q1;subst e;cases r1 with
 |cons r rr =>
  cases rr;obtain⟨t,rfl⟩:=r;show call_range_1 ?_;show CY_ ?_;have I2:Inv X pins σ H1 {s1 with heap:=s1.heap.push {cls:=.type "range",data:=.fields #[.int 0 s1.toks,.int (n:Int) t,.int 1 (s1.toks+1)]},toks:=s1.toks+1+1}:=I1.kept λb o e=>Al_ _ e;show call_list_range (n:=n) (I2.ok.hd hc) (E0_ ..) (small_one o_ o_ o_ o_) (by rw[rangeSize_one];split <;> lia) o_ λh2 tk acc c hk hS hacc=>?_;show⟨.ref _,_,I2.laid (t':=tk) hk (Af_ _) (show Gc_ X.prog X.w _ h2 _ (.lst (Hu_ n))from⟨?_,acc.toList,c,mp_ ?_ ?_,by simpa using hS⟩),rfl,q _ (I2.hok.fresh (Af_ _))⟩
  .show AN_ (Fq_ (by simp[Hu_];lia))
  .simp[Hu_,hacc.1]
  .intro j x u hx hu;have hj:j<n:=by have:=(Ar_.mp hx).1;simpa[Hu_]using this
   have hx':x=V.int (j:Int):=by rw[Hu_,Ad_,Bq_ hj]at hx;show(Ak_ hx).symm
   obtain⟨tk',rfl⟩:=hacc.2 j u (by simpa using hu);rw[hx'];show⟨tk',by rw[BK_,Dv_]⟩
open PySem.W
def Hp_{α:Type}(lt:Nat->Nat->Bool)(n:Nat):KasT α->Option α
 | .ret a=>some a
 | .ask i j k=>if i<n/\j<n then Hp_ lt n (k (lt i j))else none
theorem nU_{α:Type}{ask:Nat->Nat->(Bool->Shared->Prop)->Shared->Prop}{lt:Nat->Nat->Bool}{n:Nat}{Q:α->Shared->Prop}{s:Shared}(hc:∀i j (C:Bool->Shared->Prop),i<n->j<n->C (lt i j) s->ask i j C s):
  ∀(t:KasT α){p:α},Hp_ lt n t=some p->Q p s->t.kasWp ask Q s
 | .ret a,p,e,q=>by
  cases e;show q
 | .ask i j k,p,e,q=>by
  unfold Hp_ at e;split at e
  .rename_i h;show hc i j _ h.1 h.2 (nU_ hc (k (lt i j)) e q)
  .cases e
variable {X:Cx}{pins:List (Addr×Obj)}{σ:St}{H:Hp}{s:Shared}
theorem rQ_{h:Heap}{a:Addr}{m m':Str->Option Value}(x:h.Ns a m)(y:h.Ns a m'):m=m':=by obtain⟨o,es,ep,ho,hd,_,hf⟩:=x;obtain⟨o',es',ep',ho',hd',_,hf'⟩:=y;rw[ho]at ho';cases ho';rw[hd]at hd';cases hd';funext z;rw[<-hf z,hf' z]
theorem Inv.keeps(I:Inv X pins σ H s){m:Str->Option Value}{h':Heap}(F:Fr X.base X.env.locals h' m)(N:News X.base X.env.locals h' (Gn_ X.base s.heap X.env.locals)):
  ∀b o,b≠X.env.locals->s.heap.get? b=some o->h'.get? b=some o:=λb o hb e=>by
 cases q:X.base.get? b with
 |some u =>
  have z:=I.bk b u q;rw[e]at z;cases z;show F.keep b _ q
 |none=>show(N (b,o) (dD_ hb q e)).1
theorem Inv.led{H':Hp}{t':Nat}(I:Inv X pins σ H s){m:Str->Option Value}(hn:s.heap.Ns X.env.locals m){h':Heap}(F:Fr X.base X.env.locals h' m)(N:News X.base X.env.locals h' (Gn_ X.base s.heap X.env.locals))
  (free:∀b o,s.heap.get? b=some o->H b=none->H' b=none) (old:∀b o,H b=some o->H' b=some o) (new:∀b o,H' b=some o->H b=none->Gc_ X.prog X.w H' h' b o):Inv X pins σ H' {s with heap:=h',toks:=t'}:=by
 have kp:=I.keeps F N;show I.step (g':=s.gens) (d':=s.drawn) (ch:=[]) (λ_ z=>nomatch z) (λb o hb _ _ e _=>kp b o hb e) (λb o hb _ _ e _=>⟨o.slots,kp b o hb e⟩) (λb o _ e n=>free b o e n) (λb o _ e=>?_) (λb xs q=>old b _ q) (λb o u q=>old b _ q) (λb ps q=>⟨#[],by simpa using old b _ q⟩) (λm' hm=>?_) ?_ I.bare
 .by_cases hb:b=X.env.locals
  .subst hb;obtain⟨o',_,_,ho',_⟩:=F.ns;show⟨o',ho'⟩
  .show⟨o,kp b o hb e⟩
 .rw[rQ_ hm hn];show F.ns
 .intro b o e;cases q:H b with
  |none=>show new b o e q
  |some u =>
   have z:=old b u q;rw[e]at z;cases z;show(I.hok b o q).stay (λc v hc r=>kp c v (λw=>?_) r) (λc r=>old c _ r) λc xs r=>old c _ r
   rcases hc with rfl|hc
   .rw[w,I.free]at q;cases q
   .rw[w,I.free]at hc;cases hc
theorem kz_{ys:List V}{its:List Value}(r:FR_ ys its)(is:List Nat):FR_ (is.map λi=>ys.getD i .non) (is.map λi=>its.getD i Value.none):=by
 induction is with
 |nil=>show .nil
 |cons i is ih =>
  show .cons ?_ ih;change FY_ (ys.getD i .non) (its.getD i Value.none);rw[Aa_,Aa_];have hl:=r.length;cases e:ys[i]? with
  |none =>
   have:ys.length<=i:=DL_.mp e;rw[DL_.mpr o_];show rfl
  |some x =>obtain⟨u,hu,ru⟩:=r.get e;rw[hu];show ru
theorem Ku_{P:Program}{w:World}{h:Heap}{a:Addr}{o:HO}(x:Gc_ P w H h a o):∃ob,h.get? a=some ob:=by
 cases o with
 |lst xs=>obtain⟨_,_,_,_,e⟩:=x;show⟨_,e⟩
 |tup xs=>obtain⟨_,_,_,ob,e,_⟩:=x;show⟨_,e⟩
 |dK kvs=>obtain⟨_,_,_,_,ob,_,_,e,_⟩:=x;show⟨_,e⟩
 |dT kvs=>obtain⟨_,_,_,_,ob,_,_,e,_⟩:=x;show⟨_,e⟩
 |set S n=>obtain⟨ob,_,_,_,e,_⟩:=x;show⟨_,e⟩
 |ins C dx fs=>obtain⟨_,_,_,e,_⟩:=x;show⟨_,e⟩
 |own y=>show x
 |xd fs=>obtain⟨_,⟨ob,_,_,e,_⟩,_⟩:=x;show⟨_,e⟩
 |rng lo hi=>obtain⟨_,_,_,e⟩:=x;show⟨_,e⟩
 |frz ob u=>show⟨_,x.1⟩
 |tbl ps=>show⟨_,show h.get? a=some _ from x⟩
 |met f y=>show⟨_,show h.get? a=some _ from x⟩
 |ext φ=>show x.2.1
theorem nV_{Q:VK}{p:Addr}{ys:List V}{lt:Nat->Nat->Bool}{κ:SortKind}{pm:Array Nat}(I:Inv X pins σ H s)(hq:SqL X.K H p ys)(h2:2<=ys.length)(h64:ys.length<64)
  (kind:∀(its:List Value)(s':Shared),FR_ ys its->Inv X pins σ H s'->∀C:SortKind->Shared->Prop,C κ s'->wpAny (model X.prog X.w) X.A.in1.in1 (keyKind' its.toArray) C (λ_ _=>False) s')
  (less:∀(its:List Value)(s':Shared)(i j:Nat),FR_ ys its->Inv X pins σ H s'->i<ys.length->j<ys.length->∀C:Bool->Shared->Prop,C (lt i j) s'->wpAny (model X.prog X.w) X.A.in1.in1 (keyLt' κ (its.getD i Value.none) (its.getD j Value.none)) C (λ_ _=>False) s')
  (run:Hp_ lt ys.length (kas_sort ys.length)=some pm) (hz:pm.size<=1000) (q:∀l,H l=none->Q (.ref l) (upd H l (.lst (pm.toList.map λi=>ys.getD i .non)))):
  wpAny (model X.prog X.w) X.A (call (.builtin "sorted") [.ref p]) (EP X pins σ Q) X.xe s:=by
 obtain⟨its,rv,pl,_⟩:=I.list hq;have hl:=rv.length;obtain⟨m,hn,_⟩:=id I.loc;have F0:Fr X.base X.env.locals s.heap m:=⟨hn,I.bk,Am_ I.ok.bsz I.ok.above⟩;show kat_sorted F0 jd_ pl.isList o_ o_ λD e1 h1 F1 N1 lt1=>?_;have N1':News X.base X.env.locals h1 (Gn_ X.base s.heap X.env.locals):=λz hz'=>N1 z (Ag_ _ hz');have ND:=N1 (D,_) Ah_;have fr:∀b o,s.heap.get? b=some o->b≠D:=λb o e w=>by subst w;show absurd (lt1 (b,o) (dD_ ND.2.1 ND.2.2 e)) (Bm_ _)
 have HD:H D=none:=by
  cases w:H D with
  |none=>rfl
  |some u =>obtain⟨o,g⟩:=Ku_ (I.hok D u w);show absurd rfl (fr D o g)
 have I1:Inv X pins σ H {s with heap:=h1,toks:=s.toks}:=I.led hn F1 N1' (λ_ _ _ n=>n) (λ_ _ w=>w) (λb o w n=>by rw[w]at n;cases n);show kind its _ rv I1 _ ?_;rw[<-hl];show nU_ (lt:=lt) (n:=ys.length) (λi j C hi hj hC=>less its _ i j rv I1 hi hj C hC) _ run ?_;show KasFin.intro F1 N1 (.head λz hz' w=>?_) λh2' c F2 N2=>?_
 .show absurd (lt1 z hz') (by rw[w];show Bm_ _)
 .have N2':News X.base X.env.locals h2' (Gn_ X.base s.heap X.env.locals):=λz hz'=>N2 z (Ag_ _ hz');have hD:=(N2 (D,_) Ah_).1;show⟨.ref D,upd H D (.lst (pm.toList.map λi=>ys.getD i .non)),I.led (t':=s.toks) hn F2 N2' (λb o e n=>by rw[aj_ (fr b o e)];show n) (λb o e=>by rw[aj_ (ae_ e HD)];show e) (λb o e n=>?_),rfl,q D HD⟩;by_cases hb:b=D
  .subst hb;rw[ab_]at e;cases e;show⟨AN_ (Fq_ (by simp;lia)),_,c,kz_ rv _,hD⟩
  .rw[aj_ hb,n]at e;cases e
open HT
open PySem.SeqAt
open PySem.AutoSeq1 (wpAny_loadPart')
open PySem.MeetsSeq PySem.MeetsSeq2 PySem.MeetsSeq3
variable {prog:Program}{w:World}{A:Around}{E:Value->Shared->Prop}
theorem di_{α β:Type}{lt:Nat->Nat->Bool}{N:Nat}{f:α->KasT β}:∀(t:KasT α){a:α},Hp_ lt N t=some a->Hp_ lt N (t.bind f)=Hp_ lt N (f a)
 | .ret b,a,e=>by cases e;rfl
 | .ask i j k,a,e=>by
  unfold Hp_ at e;change(if i<N/\j<N then Hp_ lt N ((k (lt i j)).bind f)else none)=_;split at e
  .rename_i h;rw[if_pos h];show di_ (k (lt i j)) e
  .cases e
section
variable {lt:Nat->Nat->Bool}{N:Nat}
def Pm(N:Nat)(p:Array Nat):Prop:=p.Perm (List.toArray (List.range N))
theorem Pm.below{p:Array Nat}(h:Pm N p)(h0:0<N)(i:Nat):p.getD i 0<N:=by
 by_cases hi:i<p.size
 .have e:p.getD i 0=p[i]:=by simp[Array.getD,hi]
  have m:p[i]∈(List.range N):=by
   have:p[i]∈p.toList:=s_
   show(BA_.mp h).mem_iff.mp this
  rw[e];show AP_.mp m
 .have e:p.getD i 0=0:=by simp[Array.getD,hi]
  rw[e];show h0
theorem ls_{p:Array Nat}(h:Pm N p)(h0:0<N):∀(f n:Nat),∃m,Hp_ lt N (kas_asc p f n)=some m
 |0,n=>⟨n,rfl⟩
 |f+1,n=>by
  unfold kas_asc Hp_;rw[if_pos ⟨h.below h0 _,h.below h0 _⟩];cases lt (p.getD n 0) (p.getD (n-1) 0)with
  |true=>show⟨n,rfl⟩
  |false=>show ls_ h h0 f (n+1)
variable{p:Array Nat}
theorem Pm.rev(h:Pm N p)(i j:Nat):Pm N (kas_rev p i j):=(mirror_perm _ _ _ _).trans h
theorem hq_(h0:0<N):∀(f:Nat)(p:Array Nat)(n q:Nat),Pm N p->∃r,Hp_ lt N (kas_desc f p n q)=some r/\Pm N r.1
 |0,p,n,q,h=>⟨_,rfl,h⟩
 |f+1,p,n,q,h=>by
  unfold kas_desc Hp_;rw[if_pos ⟨h.below h0 _,h.below h0 _⟩];cases lt (p.getD n 0) (p.getD (n-1) 0)with
  |true =>
   simp only[if_true];split
   .show hq_ h0 f _ _ _ (h.rev _ _)
   .show hq_ h0 f _ _ _ h
  |false =>
   simp only[CU_,CP_];unfold Hp_;rw[if_pos ⟨h.below h0 _,h.below h0 _⟩];cases lt (p.getD (n-1) 0) (p.getD n 0)with
   |true=>show⟨_,rfl,h⟩
   |false=>show hq_ h0 f _ _ _ h
theorem kA_(h0:0<N){n r:Nat}(h:Pm N p):∃z,Hp_ lt N (kas_tail3 n r p)=some z/\Pm N z.2:=by obtain⟨m,hm⟩:=ls_ (lt:=lt) (h.rev 0 n) h0 (r-n) n;unfold kas_tail3;show⟨_,(di_ _ hm).trans rfl,h.rev 0 n⟩
theorem gR_(h0:0<N){n r:Nat}(h:Pm N p):∃z,Hp_ lt N (kas_descPart n r p)=some z/\Pm N z.2:=by
 obtain⟨d,hd,hp⟩:=hq_ (lt:=lt) h0 (r-(n+1)) p (n+1) 0 h;unfold kas_descPart;rw[di_ _ hd];split
 .show kA_ h0 (hp.rev _ _)
 .show kA_ h0 hp
theorem nW_(h0:0<N){r:Nat}(h:Pm N p):∃z,Hp_ lt N (kas_count r p)=some z/\Pm N z.2:=by
 obtain⟨m,hm⟩:=ls_ (lt:=lt) h h0 (r-1) 1;unfold kas_count;rw[di_ _ hm];split
 .show⟨_,rfl,h⟩
 .split
  .unfold Hp_;rw[if_pos ⟨h.below h0 _,h.below h0 _⟩];cases lt (p.getD 0 0) (p.getD (m-1) 0)with
   |true=>show⟨_,rfl,h⟩
   |false=>show gR_ h0 (h.rev _ _)
  .show gR_ h0 h
theorem hV_(h0:0<N){p:Array Nat}(h:Pm N p)(k:Nat):∀(f l r:Nat),∃m,Hp_ lt N (kas_place p k f l r)=some m
 |0,l,r=>⟨l,rfl⟩
 |f+1,l,r=>by
  unfold kas_place;split
  .show⟨l,rfl⟩
  .unfold Hp_;rw[if_pos ⟨h.below h0 _,h.below h0 _⟩];cases lt (p.getD k 0) (p.getD ((l+r)/2) 0)with
   |true=>show hV_ h0 h k f l _
   |false=>show hV_ h0 h k f _ r
theorem nX_(h0:0<N):∀(f:Nat)(p:Array Nat)(k:Nat),Pm N p->∃z,Hp_ lt N (kas_bin f p k)=some z/\Pm N z
 |0,p,k,h=>⟨p,rfl,h⟩
 |f+1,p,k,h=>by obtain⟨l,hl⟩:=hV_ (lt:=lt) h0 h k k 0 k;unfold kas_bin;rw[di_ _ hl];show nX_ h0 f _ _ ((bubble_perm _ _ _).trans h)
theorem mq_(h0:0<N):∃z,Hp_ lt N (kas_sort N)=some z/\Pm N z:=by
 obtain⟨r,hr,hp⟩:=nW_ (lt:=lt) h0 (r:=N) (p:=List.toArray (List.range N)) (Array.Perm.refl _);unfold kas_sort;rw[di_ _ hr];split
 .show nX_ h0 _ _ _ hp
 .show⟨_,rfl,hp⟩
end
theorem nY_{J:It}{g:TG}{tt:TT}{te:TE}{σ:St}{H:Hp}{Q:VK}(n:Nat)(B:Hp)(Pσ:St->Prop)(bs:Nat->Bool)(val:Nat->Dt)(hB:Fo_ B H)(h0:Pσ σ)(hz:n<=1000)(hgo:∀i H',i<n->Fo_ H H'->J.go i H')(hst:∀H',Fo_ H H'->J.stop n H')
  (hs:∀D i x σ' H' H'',H D=none->(∃o,H' D=some o)->Fo_ H H'->i<n->J.yld i H' x H''->Pσ σ'->∀(Y:St->V->Hp->Prop)(R:St->Hp->Prop),(bs i=true->∀σ2 v H3,Pσ σ2->Fo_ H' H3->Rep (G2_ B D H3) v (val i)->Y σ2 v H3)->(bs i=false->∀σ2 H3,Pσ σ2->Fo_ H' H3->R σ2 H3) ->
   g x σ' H'' λσ2 H2=>tt σ2 H2 λb H3=>if b=true then te σ2 H3 λv H4=>Y σ2 v H4 else R σ2 H3)
  (hd:∀D H',H D=none->Fo_ H H'->Rep (G4_ B H') (.ref D) (.lst (((List.range n).filter bs).map val))->Q (.ref D) H'):H3_ J g tt te σ H Q:=by
 intro D hD;have hBD:B D=none:=hB.free hD;show⟨λi m σ' H'=>m=n-i/\i<=n/\Pσ σ'/\Fo_ H H'/\∃ys,H' D=some (.lst ys)/\FE_ (G2_ B D H') ys (((List.range i).filter bs).map val),⟨n,s_,AD_ _,h0,Fo_.new hD,[],ab_,rfl⟩,?_⟩;rintro i m σ' H' ⟨rfl,hi,hp,hs',ys,hys,hr⟩;have hl:ys.length<=i:=by rw[hr.length,Ab_];have:=Es_ bs (List.range i);rw[Bc_]at this;show this
 by_cases hlt:i<n
 .show .inr ⟨hgo i H' hlt hs',λσ2 H2=>Pσ σ2/\Fo_ H H2/\∃ys,H2 D=some (.lst ys)/\FE_ (G2_ B D H2) ys (((List.range (i+1)).filter bs).map val),λσ2 H2 ⟨a,b,c⟩=>⟨n-(i+1),o_,rfl,hlt,a,b,c⟩,λx H'' hy=>?_⟩;show hs D i x σ' H' H'' hD ⟨_,hys⟩ hs' hlt hy hp _ _ (λhb σ2 v H3 hp2 s3 hv=>?_) λhb σ2 H3 hp2 s3=>?_
  .show⟨ys,s3 _ _ hys,Fq_ o_,hp2,(hs'.trans s3).upd hD,ys++[v],ab_,?_⟩;rw[fM_,B9_,Dz_,Au_];have e:([i].filter bs).map val=[val i]:=by simp[hb]
   rw[e];show(FE_.mono (ev_ s3) _ hr).append ⟨v,[],rfl,hv,rfl⟩
  .show⟨hp2,hs'.trans s3,ys,s3 _ _ hys,?_⟩;rw[B9_,Dz_,Au_];have e:([i].filter bs).map val=[]:=by simp[hb]
   rw[e,By_];show FE_.mono (ev_ s3) _ hr
 .have e:i=n:=o_
  subst e;show .inl ⟨hst H' hs',hd D H' hD hs' ⟨D,ys,rfl,?_,FE_.mono hj_ _ hr⟩⟩;rw[bF_ hBD];show hys
theorem Inv.frm(I:Inv X pins σ H s):∃m,s.heap.Ns X.env.locals m/\Fr X.base X.env.locals s.heap m:=by obtain⟨m,hn,_⟩:=id I.loc;show⟨m,hn,hn,I.bk,Am_ I.ok.bsz I.ok.above⟩
theorem Inv.led_new{X:Cx}{pins:List (Addr×Obj)}{σ:St}{H:Hp}{s:Shared}{t':Nat}{m:Str->Option Value}{h':Heap}{D:Addr}{o:HO}{ob:Obj}(I:Inv X pins σ H s)(hn:s.heap.Ns X.env.locals m)(F:Fr X.base X.env.locals h' m)
  (N:News X.base X.env.locals h' ((D,ob)::Gn_ X.base s.heap X.env.locals)) (lt1:∀q∈Gn_ X.base s.heap X.env.locals,q.1<D) (new:Gc_ X.prog X.w (upd H D o) h' D o):H D=none/\Inv X pins σ (upd H D o) {s with heap:=h',toks:=t'}:=by
 have ND:=N (D,ob) Ah_;have fr:∀b o,s.heap.get? b=some o->b≠D:=λb o e w=>by subst w;show absurd (lt1 (b,o) (dD_ ND.2.1 ND.2.2 e)) (Bm_ _)
 have HD:H D=none:=by
  cases w:H D with
  |none=>rfl
  |some u =>obtain⟨o',g⟩:=Ku_ (I.hok D u w);show absurd rfl (fr D o' g)
 show⟨HD,I.led hn F (λz hz'=>N z (Ag_ _ hz')) (λb o' e n=>by rw[aj_ (fr b o' e)];show n) (λb o' e=>by rw[aj_ (ae_ e HD)];show e) (λb o' e n=>?_)⟩;by_cases hb:b=D
 .subst hb;rw[ab_]at e;cases e;show new
 .rw[aj_ hb,n]at e;cases e
def KT_:List V->Hp->VK->Prop:=λvs H Q=>∃(p:Addr)(ns:List Int),vs=[.ref p]/\H p=some (.lst (ns.map V.int))/\ns.length<64/\∀(l:Addr)(zs:List Int),H l=none->zs.Perm ns->zs.Pairwise (· <= ·)->Q (.ref l) (upd H l (.lst (zs.map V.int)))
theorem gS_:∀{us:List Value}{ns:List Int},IntsAre us ns->FR_ (ns.map V.int) us
 |_,_,.nil=>.nil
 |_,_,.cons n t h=>.cons ⟨t,rfl⟩ (gS_ h)
theorem mY_:Gz_ X (.builtin "sorted") KT_:=by intro pins s σ H xs us Q I r h;obtain⟨p,ns,rfl,hp,h64,q⟩:=h;obtain⟨u,rfl,e⟩:=G0_ r;cases e;obtain⟨its,rv,pl,_⟩:=I.list (.inl (.inl hp));obtain⟨m,hn,F0⟩:=I.frm;show kso_sorted F0 jd_ pl.isList (mV_ rv) h64 λD vs' zs c h' F N lt1 hz hlz hpm hpw _=>?_;have hD:=(N (D,_) Ah_).1;obtain⟨HD,I2⟩:=I.led_new (t':=s.toks) (o:=.lst (zs.map V.int)) hn F N lt1 ⟨AN_ (Fq_ (by rw[Ab_];lia)),vs',c,gS_ hz,hD⟩;show⟨.ref D,_,I2,rfl,q D zs HD hpm hpw⟩
theorem Mh_{a:Addr}{v:Value}{n:Nat}{P:PySem.Fin->Shared->Prop}(ho:s.heap.get? a=some (seqObj "list" #[v] n))
  (h:∀h' c,(∀b o,b≠a->s.heap.get? b=some o->h'.get? b=some o)->h'.get? a=some (seqObj "list" #[v] c)->P (.done (.ret .none)) {s with heap:=h'}):wpAny (model prog w) A (Builtin.«list.sort» ⟨[.ref a],[]⟩) P E s:=by
 have s1:=B3_ s.heap a (Obj.mapSeq λ_=>(#[]:Array Value));obtain⟨e1,o1⟩:∃e1,(s.heap.update a (Obj.mapSeq λ_=>(#[]:Array Value))).get? a=some (seqObj "list" #[] e1):=⟨_,Dn_ ho λ_=>#[]⟩;rw[list_sort_plain];show Ae_ (listItems_at ho rfl (Ae_ (DF_ ho rfl (Ae_ (Em_ o1 rfl (Ae_ (Et_ (Ae_ (DG_ (A2_ ?_) (AD_ _))) ?_)))) ?_ (AD_ _))))
 .dsimp only
  have lt2:(#[v]:Array Value).size<2:=by change 1<2;decide
  rw[if_pos lt2];show Ae_ (Ao_ ?_);rw[if_pos lt2];have k3:∀b o,(s.heap.update a (Obj.mapSeq λ_=>(#[]:Array Value))).get? b=some o->(((s.heap.update a (Obj.mapSeq λ_=>(#[]:Array Value))).push (seqObj "tuple" #[v] 0)).push (seqObj "list" #[] 0)).get? b=some o:=λb o e=>Al_ _ (Al_ _ e);have o3:=k3 _ _ o1;have st:failedOf (SortSt.mk' general' ((#[v]:Array Value).zip #[v]) #[] 7 none)=none:=rfl;have ar:(arrOf (SortSt.mk' general' ((#[v]:Array Value).zip #[v]) #[] 7 none)).map (λx=>x.snd)=#[v]:=by rw[show arrOf (SortSt.mk' general' ((#[v]:Array Value).zip #[v]) #[] 7 none)=(#[v]:Array Value).zip #[v]from rfl];simp
  show Ae_ (Ao_ (a:=((),SortSt.mk' general' ((#[v]:Array Value).zip #[v]) #[] 7 none)) ?_);show Ae_ (Em_ o3 rfl (Ae_ (DF_ o3 rfl ?_ (AD_ _) ?_)))
  .dsimp only
   rw[ar,if_neg s_];obtain⟨c2,o4⟩:∃c2,((((s.heap.update a (Obj.mapSeq λ_=>(#[]:Array Value))).push (seqObj "tuple" #[v] 0)).push (seqObj "list" #[] 0)).update a (Obj.mapSeq λ_=>(#[v]:Array Value))).get? a=some (seqObj "list" #[v] c2):=⟨_,Dn_ o3 λ_=>#[v]⟩;show Ao_ (h _ c2 (λb o hb e=>?_) o4);rw[BU_ _ _ (Ne.symm hb)];show k3 b o ?_;rw[BU_ _ _ (Ne.symm hb)];show e
  .rw[ar];show(show 1<=sizeLine+1 from Nat.le_add_left 1 _)
 .show(show 1<=sizeLine from AN_ (Fq_ d_))
 .show(show 1<=sizeLine from AN_ (Fq_ d_))
theorem Kv_{l:Addr}{v:Value}{Q:Value->Shared->Prop}(hl:s.heap.IsList l #[v])
  (h:∀D h' c,s.heap.objs.size<=D->(∀b o,s.heap.get? b=some o->h'.get? b=some o)->h'.get? D=some (seqObj "list" #[v] c)->Q (.ref D) {s with heap:=h'}):wpAny (model prog w) A (call (.builtin "sorted") [.ref l]) Q E s:=by
 show Calls.call_function_entry kind_sorted plain_sorted entry_sorted (args_sorted1 _) ?_;unfold Builtin.«sorted»;have z1:(#[v]:Array Value).size<=sizeLine:=(show 1<=sizeLine from AN_ (Fq_ d_));show Ae_ (m:=checkCount "sorted" 1 1 _) (Ao_ (Ae_ (collect_list hl (Ae_ (DG_ ?_ z1)) z1)));have hz:((s.heap.push (seqObj "list" #[] 0)).update s.heap.objs.size (Obj.mapSeq λx=>x ++ #[v])).objs.size=s.heap.objs.size+1:=by rw[Heap.size_update,size_push']
 have kp:∀b o,s.heap.get? b=some o->(((s.heap.push (seqObj "list" #[] 0)).update s.heap.objs.size (Obj.mapSeq λx=>x ++ #[v])).push (seqObj "list" #[v] 0)).get? b=some o:=λb o q=>by have hlt:=Ap_ q;show Al_ _ ?_;rw[BU_ _ _ (DM_ hlt)];show Al_ _ q
 have ho:=AA_ ((s.heap.push (seqObj "list" #[] 0)).update s.heap.objs.size (Obj.mapSeq λx=>x ++ #[v])) (o:=seqObj "list" #[v] 0) rfl;show Ae_ (A2_ (DV_ slot_list_sort ⟨_,ho,rfl⟩ entry_list_sort (Mh_ (n:=0) ho λh' c k2 hD=>⟨_,rfl,Ao_ ⟨_,rfl,h _ h' c ?_ (λb o e=>k2 b o ?_ (kp b o e)) hD⟩⟩) (args_list_sort _)))
 .change s.heap.objs.size<=((s.heap.push (seqObj "list" #[] 0)).update s.heap.objs.size (Obj.mapSeq λx=>x ++ #[v])).objs.size;rw[hz];show Ei_ _
 .have:=Ap_ e;change b≠((s.heap.push (seqObj "list" #[] 0)).update s.heap.objs.size (Obj.mapSeq λx=>x ++ #[v])).objs.size;rw[hz];show AE_ (Bx_ this)
def K1_:List V->Hp->VK->Prop:=λvs H Q=>∃(p:Addr)(y:V),vs=[.ref p]/\H p=some (.lst [y])/\∀l,H l=none->Q (.ref l) (upd H l (.lst [y]))
theorem mZ_:Gz_ X (.builtin "sorted") K1_:=by intro pins s σ H xs us Q I r h;obtain⟨p,y,rfl,hp,q⟩:=h;obtain⟨u,rfl,e⟩:=G0_ r;cases e;obtain⟨its,rv,pl,_⟩:=I.list (.inl (.inl hp));obtain⟨v,rfl,ry⟩:=G0_ rv;show Kv_ pl.isList λD h' c hD kp ho=>?_;show⟨.ref D,_,I.laid (t':=s.toks) kp hD (show Gc_ X.prog X.w _ h' _ (.lst [y])from⟨(show 1<=sizeLine from AN_ (Fq_ d_)),[v],c,rv,ho⟩),rfl,q _ (I.hok.fresh hD)⟩
variable {h₀:Heap}{L a:Addr}{m:Str->Option Value}{news:List (Addr×Obj)}{vs:List Value}
abbrev HX_:List (Str×Value):=[(Str.ofString "reverse",.bool true)]
def J0_(a:Addr)(before:Nat)(st:SortSt):Sem PySem.Fin:=do
 let out:=(arrOf st).map (·.2)
 let moved:=(<-seqEpoch a) != before
 Builtin.List.listUpdate (.ref a) λ_=>out.reverse
 if let some x:=failedOf st then rule "list.sort.comparison-raised";throw x
 if moved then rule "list.sort.modified";raiseError "ValueError" "list modified during sort"
 ret .none
def I0_(a:Addr)(xs:Array Value)(before:Nat):Sem PySem.Fin:=do
 let two:=xs.zip xs
 rule "list.sort.reverse"
 let kd <-if xs.size<2 then pure general' else keyKind' xs
 let((),st) <-(if xs.size<2 then pure ()else sortRuns').run (SortSt.mk' kd two.reverse #[] 7 none)
 J0_ a before st
theorem ju_(a:Addr):Builtin.«list.sort» ⟨[.ref a],HX_⟩=(Builtin.List.listItems (.ref a) >>= λxs=>Builtin.List.listUpdate (.ref a) (λ_=>#[]) >>= λ_=>seqEpoch a >>= λbefore=>newTuple xs.toList >>= λheld=>newList [] >>= λstore=>holding [held,store] (I0_ a xs before)):=rfl
theorem qG_(xs:List Value):((List.toArray xs).zip (List.toArray xs)).reverse=(List.toArray xs.reverse).zip (List.toArray xs.reverse):=by have e:=kat_pairs (ks:=xs) (vs:=xs) true rfl;rw[if_pos rfl]at e;show e
theorem pd_{n:Nat}{P:PySem.Fin->Shared->Prop}(F0:Fr h₀ L s.heap m)(N0:News h₀ L s.heap news)(got:s.heap.get? a=some (seqObj "list" vs.toArray n)) (aL:a≠L) (a0:h₀.get? a=none) (na:∀q∈news,q.1≠a) (two:2<=vs.length) (few:vs.length<64)
  (ask:∀c h',Fr h₀ L h' m->News h₀ L h' ((a,seqObj "list" #[] c)::news)->wpAny (model prog w) A (keyKind' vs.toArray) (λκ s1=>(kas_sort vs.length).kasWp (kas_ask prog w A κ vs.reverse) (λp s2=>KasFin h₀ L m a c ((p.toList.map λi=>vs.reverse.getD i Value.none).reverse) (λs3=>P (.done (.ret .none)) s3) s2) s1) (λ_ _=>False) {s with heap:=h'}):
  wpAny (model prog w) A (Builtin.«list.sort» ⟨[.ref a],HX_⟩) P E s:=by
 have lt:=Ap_ got;have b1:=B3_ s.heap a (Obj.mapSeq λ_=>(#[]:Array Value));obtain⟨c,got1⟩:∃c,(s.heap.update a (Obj.mapSeq λ_=>(#[]:Array Value))).get? a=some (seqObj "list" #[] c):=⟨_,Dn_ got λ_=>#[]⟩;have F1:=((kas_fr F0 b1 aL a0).push (seqObj "tuple" vs.toArray 0)).push (seqObj "list" #[] 0);have N1:=(kas_news N0 b1 na).grown (h':=((s.heap.update a (Obj.mapSeq λ_=>(#[]:Array Value))).push (seqObj "tuple" vs.toArray 0)).push (seqObj "list" #[] 0)) λb x e=>Al_ _ (Al_ _ e)
 have N2:News h₀ L (((s.heap.update a (Obj.mapSeq λ_=>(#[]:Array Value))).push (seqObj "tuple" vs.toArray 0)).push (seqObj "list" #[] 0)) ((a,seqObj "list" #[] c)::news):=λq hq=>by
  rcases Aq_.mp hq with rfl|hq
  .show⟨Al_ _ (Al_ _ got1),aL,a0⟩
  .show N1 q hq
 have asked:=ask c _ F1 N2;have big:64<=sizeLine:=by rw[BT_];decide
 rw[ju_];show Ae_ (listItems_at got rfl (Ae_ (DF_ got rfl (Ae_ (Em_ got1 rfl (Ae_ (Et_ (Ae_ (DG_ (A2_ ?_) (AD_ _))) (by change vs.length<=_;lia))))) (by rw[As_];lia) (AD_ _))));change wpAny (model prog w) A (I0_ a vs.toArray c) P E {s with heap:=((s.heap.update a (Obj.mapSeq λ_=>(#[]:Array Value))).push (seqObj "tuple" vs.toArray 0)).push (seqObj "list" #[] 0)};unfold I0_
 dsimp only
 have n2:¬ vs.toArray.size<2:=by rw[As_];lia
 rw[if_neg n2,if_neg n2,qG_];show Ae_ (EA_ (Ae_ (Bu_ asked (λκ s0 hk=>?_) λ_ _ x=>x.elim)));have rl:vs.reverse.length=vs.length:=EO_
 show Ae_ (Bu_ (kat_run (ks:=vs.reverse) (vs:=vs.reverse) (Q:=λst s1=>∃p:Array Nat,p.size=vs.length/\arrOf st=p.map (kas_item (vs.reverse.toArray.zip vs.reverse.toArray))/\failedOf st=none/\KasFin h₀ L m a c ((p.toList.map λi=>vs.reverse.getD i Value.none).reverse) (λs2=>P (.done (.ret .none)) s2) s1)
  rfl o_ o_ (λp st s1 x1 x2 x3 x4=>⟨p,by rw[x1,rl],x2,x3,x4⟩) (by rw[rl];show hk)) ?_ λ_ _ e=>e)
 rintro⟨⟨⟩,st⟩ s1 ⟨p,hp,har,hf,news1,g,F2,N3,U,k⟩;obtain⟨pre,post,e0,hg,x1,x2⟩:=U.split;rw[e0]at N3;have now:=N3 (a,seqObj "list" #[] c) (AI_ _ (.head _));have out:=kat_snds (ks:=vs.reverse) (vs:=vs.reverse) rfl har;have outr:((arrOf st).map (·.2)).reverse=List.toArray ((p.toList.map λi=>vs.reverse.getD i Value.none).reverse):=by rw[out];simp
 unfold J0_
 dsimp only
 rw[outr];have sz:(List.toArray ((p.toList.map λi=>vs.reverse.getD i Value.none).reverse)).size=vs.length:=by rw[As_,EO_,Ab_,AS_,hp]
 have b2:=B3_ s1.heap a (Obj.mapSeq λ_=>List.toArray ((p.toList.map λi=>vs.reverse.getD i Value.none).reverse));obtain⟨c2,got2⟩:∃c2,(s1.heap.update a (Obj.mapSeq λ_=>List.toArray ((p.toList.map λi=>vs.reverse.getD i Value.none).reverse))).get? a=some (seqObj "list" (List.toArray ((p.toList.map λi=>vs.reverse.getD i Value.none).reverse)) c2):=⟨_,Dn_ now.1 λ_=>List.toArray ((p.toList.map λi=>vs.reverse.getD i Value.none).reverse)⟩;show Ae_ (Em_ now.1 rfl (Ae_ (DF_ now.1 rfl ?_ (AD_ _) (by rw[sz];lia))));rw[hf];simp only[bne_self_eq_false,CU_,CP_];show Ao_ (k _ c2 (kas_fr F2 b2 now.2.1 now.2.2) ?_);rw[hg];show news_set N3 x1 x2 b2 got2
theorem kB_(x:Value):argsOk "sorted" ⟨[x],HX_⟩:=by unfold argsOk;kernel_rfl
theorem m0_(x:Value):argsOk "list.sort" ⟨[x],HX_⟩:=by unfold argsOk;kernel_rfl
theorem m1_{l:Addr}{Q:Value->Shared->Prop}(F0:Fr h₀ L s.heap m)(N0:News h₀ L s.heap news)(isl:s.heap.IsList l vs.toArray)(two:2<=vs.length)(few:vs.length<64)
  (ask:∀D c h',Fr h₀ L h' m->News h₀ L h' ((D,seqObj "list" #[] c)::news)->(∀q∈news,q.1<D)->wpAny (model prog w) A.in1.in1 (keyKind' vs.toArray) (λκ s1=>(kas_sort vs.length).kasWp (kas_ask prog w A.in1.in1 κ vs.reverse) (λp s2=>KasFin h₀ L m D c ((p.toList.map λi=>vs.reverse.getD i Value.none).reverse) (λs3=>Q (.ref D) s3) s2) s1) (λ_ _=>False) {s with heap:=h'}):
  wpAny (model prog w) A (call (.builtin "sorted") [.ref l] HX_) Q E s:=by
 have big:64<=sizeLine:=by rw[BT_];decide
 show call_function_entry_kw kind_sorted plain_sorted entry_sorted (kB_ _) ?_;unfold Builtin.«sorted»;show Ae_ (m:=checkCount "sorted" 1 1 _) (Ao_ (Ae_ (collect_list isl (Ae_ (DG_ ?_ o_)) o_)));have sz:((s.heap.push (seqObj "list" #[] 0)).update s.heap.objs.size (Obj.mapSeq (· ++ vs.toArray))).objs.size=s.heap.objs.size+1:=(Heap.size_update ..).trans (size_push' ..);obtain⟨hx,ex⟩:∃hx,hx=(s.heap.push (seqObj "list" #[] 0)).update s.heap.objs.size (Obj.mapSeq (· ++ vs.toArray)):=⟨_,rfl⟩;rw[<-ex]at sz;have got:(hx.push (seqObj "list" vs.toArray 0)).get? (s.heap.objs.size+1)=some (seqObj "list" vs.toArray 0):=by rw[<-sz];show AA_ _ rfl
 have kp:∀b o,s.heap.get? b=some o->(hx.push (seqObj "list" vs.toArray 0)).get? b=some o:=λb o q=>by have hb:=Ap_ q;rw[Ck_ _ _ _ (by rw[sz];show AE_ (Bx_ hb)),ex,Heap.get?_update_ne _ _ _ _ (AE_ hb),Ck_ _ _ _ (AE_ hb)];show q
 have hL:=F0.ns.lt;change wpAny _ _ _ _ _ {s with heap:=((s.heap.push (seqObj "list" #[] 0)).update s.heap.objs.size (Obj.mapSeq (· ++ vs.toArray))).push (seqObj "list" vs.toArray 0)};rw[<-ex,sz];show Ae_ (A2_ (wpAny_call_entry_kw slot_list_sort ⟨_,got,rfl⟩ entry_list_sort ?body (m0_ _)))
 case body =>change wpAny (model prog w) A.in1.in1 (Builtin.«list.sort» ⟨[.ref (s.heap.objs.size+1)],HX_⟩) _ _ _;show pd_ (s:={s with heap:=hx.push (seqObj "list" vs.toArray 0)}) (F0.kept kp) (N0.grown kp) got (DM_ (Bx_ hL)) (Ey_ (Am_ F0.above (Nat.le_succ_of_le (AN_ hL)))) (λq hq=>AE_ (Bx_ (Ap_ (N0 q hq).1))) two few λc h' F' N'=>?_;show Bu_ (ask _ c h' F' N' λq hq=>Bx_ (Ap_ (N0 q hq).1)) (λκ s1 hk=>?_) λ_ _ x=>x;rw[kat_ask_eq (vs:=vs.reverse) rfl]at hk⊢;show kas_wp_mono hk λp s2 hk2=>hk2.mono λs3 hq=>⟨_,rfl,Ao_ ⟨_,rfl,hq⟩⟩
theorem m2_{Q:VK}{p:Addr}{ys:List V}{lt:Nat->Nat->Bool}{κ:SortKind}{pm:Array Nat}(I:Inv X pins σ H s)(hq:SqL X.K H p ys)(h2:2<=ys.length)(h64:ys.length<64)
  (kind:∀(its:List Value)(s':Shared),FR_ ys its->Inv X pins σ H s'->∀C:SortKind->Shared->Prop,C κ s'->wpAny (model X.prog X.w) X.A.in1.in1 (keyKind' its.toArray) C (λ_ _=>False) s')
  (less:∀(its:List Value)(s':Shared)(i j:Nat),FR_ ys.reverse its->Inv X pins σ H s'->i<ys.length->j<ys.length->∀C:Bool->Shared->Prop,C (lt i j) s'->wpAny (model X.prog X.w) X.A.in1.in1 (keyLt' κ (its.getD i Value.none) (its.getD j Value.none)) C (λ_ _=>False) s')
  (run:Hp_ lt ys.length (kas_sort ys.length)=some pm) (hz:pm.size<=1000) (q:∀l,H l=none->Q (.ref l) (upd H l (.lst (pm.toList.map λi=>ys.reverse.getD i .non).reverse))):
  wpAny (model X.prog X.w) X.A (call (.builtin "sorted") [.ref p] HX_) (EP X pins σ Q) X.xe s:=by
 obtain⟨its,rv,pl,_⟩:=I.list hq;have hl:=rv.length;obtain⟨m,hn,F0⟩:=I.frm;show m1_ F0 jd_ pl.isList o_ o_ λD e1 h1 F1 N1 lt1=>?_;have N1':News X.base X.env.locals h1 (Gn_ X.base s.heap X.env.locals):=λz hz'=>N1 z (Ag_ _ hz');have ND:=N1 (D,_) Ah_;have fr:∀b o,s.heap.get? b=some o->b≠D:=λb o e w=>by subst w;show absurd (lt1 (b,o) (dD_ ND.2.1 ND.2.2 e)) (Bm_ _)
 have HD:H D=none:=by
  cases w:H D with
  |none=>rfl
  |some u =>obtain⟨o,g⟩:=Ku_ (I.hok D u w);show absurd rfl (fr D o g)
 have I1:Inv X pins σ H {s with heap:=h1,toks:=s.toks}:=I.led hn F1 N1' (λ_ _ _ n=>n) (λ_ _ w=>w) (λb o w n=>by rw[w]at n;cases n);have rvr:FR_ ys.reverse its.reverse:=rv.reverse;show kind its _ rv I1 _ ?_;rw[<-hl];show nU_ (lt:=lt) (n:=ys.length) (λi j C hi hj hC=>less its.reverse _ i j rvr I1 hi hj C hC) _ run ?_;show KasFin.intro F1 N1 (.head λz hz' w=>?_) λh2' c F2 N2=>?_
 .show absurd (lt1 z hz') (by rw[w];show Bm_ _)
 .have N2':News X.base X.env.locals h2' (Gn_ X.base s.heap X.env.locals):=λz hz'=>N2 z (Ag_ _ hz');have hD:=(N2 (D,_) Ah_).1;show⟨.ref D,upd H D (.lst (pm.toList.map λi=>ys.reverse.getD i .non).reverse),I.led (t':=s.toks) hn F2 N2' (λb o e n=>by rw[aj_ (fr b o e)];show n) (λb o e=>by rw[aj_ (ae_ e HD)];show e) (λb o e n=>?_),rfl,q D HD⟩;by_cases hb:b=D
  .subst hb;rw[ab_]at e;cases e;show⟨AN_ (Fq_ (by simp;lia)),_,c,(kz_ rvr _).reverse,hD⟩
  .rw[aj_ hb,n]at e;cases e
def ME_(T:String):V->Prop
 | .int _=>T = "int"
 | .str _=>T = "str"
 |_=>False
theorem hW_(T:String)(I:Inv X pins σ H s):∀{ys:List V}{its:List Value},FR_ ys its->(∀y∈ys,∃a x z,y=.ref a/\H a=some (.tup [x,z])/\ME_ T x) ->
  ∃fs,KatTups s.heap its fs/\fs.length=its.length/\∀v∈fs,Looks (model X.prog X.w) s.heap (typeOf v) (.type T)
 |[],_,.nil,_=>⟨[],.nil,rfl,λv hv=>nomatch hv⟩
 |y::ys,_,.cons r1 r2,h=>by
  obtain⟨fs,t,hl,hf⟩:=hW_ T I r2 λy hy=>h y (Ag_ _ hy);obtain⟨a,x,z,rfl,ha,fx⟩:=h _ Ah_;cases r1;obtain⟨zs,rz,⟨ob,ho,hcl,n,hd⟩,_⟩:=I.tuple (.inl (.inl ha));obtain⟨u,w',rfl,ru,rw'⟩:=Hl_ rz;show⟨u::fs,.cons ho hcl hd rfl t,by simp[hl],λv hv=>?_⟩
  rcases Aq_.mp hv with rfl|hv
  .cases x with
   |int i=>obtain⟨t,rfl⟩:=ru;cases fx;show .now
   |str i=>obtain⟨t,rfl⟩:=ru;cases fx;show .now
   |_=>show absurd fx (by simp[ME_])
  .show hf v hv
theorem kC_(I:Inv X pins σ H s){a b:Addr}{x1 x2 y1 y2:V}{d1 d2 e1 e2:Dt}{b1 b2:Bool}{C:Bool->Shared->Prop}{A:Around}{E:Value->Shared->Prop}(hu:A.units+60<cLine)
  (ha:H a=some (.tup [x1,x2])) (hb:H b=some (.tup [y1,y2])) (r1:Rep H x1 d1) (r2:Rep H x2 d2) (q1:Rep H y1 e1) (q2:Rep H y2 e2) (h1:deq d1 e1=some b1) (h2:deq d2 e2=some b2) (z1:dep d1<=50) (z2:dep d2<=50)
  (c1:b1=false->∀u v,FY_ x1 u->FY_ y1 v->wpAny (model X.prog X.w) A (oneLt' true u v) C (λ_ _=>False) s)
  (c2:b1=true->b2=false->∀u v,FY_ x2 u->FY_ y2 v->wpAny (model X.prog X.w) A (oneLt' false u v) C (λ_ _=>False) s)
  (c3:b1=true->b2=true->C false s):wpAny (model X.prog X.w) A (keyLt' (tuples' true) (.ref a) (.ref b)) C E s:=by
 obtain⟨zs,rz,⟨ob,ho,hcl,n,hd⟩,_⟩:=I.tuple (.inl (.inl ha));obtain⟨u1,u2,rfl,ru1,ru2⟩:=Hl_ rz;obtain⟨ws,rw,⟨ob',ho',hcl',n',hd'⟩,_⟩:=I.tuple (.inl (.inl hb));obtain⟨v1,v2,rfl,rv1,rv2⟩:=Hl_ rw;show kat_lt ho hd ho' hd' ?_;show kat_cons (nG_ I Vw.refl d1 e1 r1 q1 ru1 rv1 h1 o_ _ _ _ _ ?_);cases b1 with
 |false=>show kat_no (c1 rfl _ _ ru1 rv1)
 |true =>
  show kat_yes (kat_cons (nG_ I Vw.refl d2 e2 r2 q2 ru2 rv2 h2 o_ _ _ _ _ ?_));cases b2 with
  |false=>show kat_no (c2 rfl rfl _ _ ru2 rv2)
  |true=>show kat_yes (kat_nil (c3 rfl rfl))
def IB_(ta:TA):TE:=λσ H Q=>ta σ H λvs H1=>∃(p x y:Addr)(c d:Int×Int),vs=[.ref p]/\H1 p=some (.lst [.ref x,.ref y])/\H1 x=some (.tup [.int c.1,.int c.2])/\H1 y=some (.tup [.int d.1,.int d.2])/\∀l zs,H1 l=none->(zs=[V.ref x,V.ref y]\/zs=[V.ref y,V.ref x])->Q (.ref l) (upd H1 l (.lst zs))
theorem pe_{p:Array Nat}(h:Pm 2 p):p.toList=[0,1]\/p.toList=[1,0]:=by
 have e:=BA_.mp h;have hl:p.toList.length=2:=by simpa using e.length_eq
 match hp:p.toList,hl with
 |[a,b],_ =>
  rw[hp]at e;have m0:=e.mem_iff (a:=0);have m1:=e.mem_iff (a:=1);have ma:=e.mem_iff (a:=a);have mb:=e.mem_iff (a:=b);simp[List.range,List.range.loop]at m0 m1 ma mb
  rcases ma with rfl|rfl <;> rcases mb with rfl|rfl <;> simp_all
theorem kD_{X:Cx}(hu:X.A.units+64<cLine){pins:List (Addr×Obj)}{s:Shared}{σ:St}{H:Hp}{p x y:Addr}{c d:Int×Int}{Q:VK}(I:Inv X pins σ H s)(hp:H p=some (.lst [.ref x,.ref y]))(hx:H x=some (.tup [.int c.1,.int c.2]))(hy:H y=some (.tup [.int d.1,.int d.2]))
  (q:∀l zs,H l=none->(zs=[V.ref x,V.ref y]\/zs=[V.ref y,V.ref x])->Q (.ref l) (upd H l (.lst zs))):wpAny (model X.prog X.w) X.A (call (.builtin "sorted") [.ref p] HX_) (EP X pins σ Q) X.xe s:=by
 have all:∀z∈[V.ref x,V.ref y],∃(a:Addr)(e:Int×Int),z=.ref a/\H a=some (.tup [.int e.1,.int e.2]):=λz hz=>by
  rcases Aq_.mp hz with rfl|hz
  .show⟨x,c,rfl,hx⟩
  .rw[An_.mp hz];show⟨y,d,rfl,hy⟩
 let lt:Nat->Nat->Bool:=λi j=>let e:=if i=0 then d else c;let f:=if j=0 then d else c;if e.1=f.1 then(if e.2=f.2 then false else decide (e.2<f.2))else decide (e.1<f.1)
 obtain⟨pm,hr,hpm⟩:=mq_ (lt:=lt) (N:=2) d_;have pz:pm.size=2:=by simpa using(BA_.mp hpm).length_eq
 show m2_ (lt:=lt) (κ:=tuples' true) (pm:=pm) I (.inl (.inl hp)) (Af_ _) (by change 2<64;decide) ?kind ?less hr o_ λl nl=>q l _ nl ?_
 case kind =>
  intro its s' rv I' C hC;obtain⟨fs,t,hf,lk⟩:=hW_ "int" I' rv λz hz=>by obtain⟨a,e,rfl,ha⟩:=all z hz;show⟨a,_,_,rfl,ha,rfl⟩
  have hl:=rv.length;have hl2:fs.length=2:=by rw[hf,<-hl];rfl
  show kat_kind t o_ lk d_ hC
 case less =>
  intro its s' i j rv I' hi hj C hC;have u2:X.A.in1.in1.units+60<cLine:=by rw[A7_,A7_];lia
  have pick:∀i,i<2->∃a,its.getD i Value.none=.ref a/\H a=some (.tup [.int (if i=0 then d else c).1,.int (if i=0 then d else c).2]):=λi hi=>by
   obtain⟨u,w',rfl,ru,rw'⟩:=Hl_ (show FR_ [V.ref y,V.ref x] its from rv);cases ru;cases rw'
   match i,hi with
   |0,_=>show⟨y,rfl,hy⟩
   |1,_=>show⟨x,rfl,hx⟩
  obtain⟨a,ea,ha⟩:=pick i hi;obtain⟨b,eb,hb⟩:=pick j hj;rw[ea,eb];have hlt:lt i j=if(if i=0 then d else c).1=(if j=0 then d else c).1 then(if(if i=0 then d else c).2=(if j=0 then d else c).2 then false else decide ((if i=0 then d else c).2<(if j=0 then d else c).2))else decide ((if i=0 then d else c).1<(if j=0 then d else c).1):=rfl;rw[hlt]at hC;generalize(if i=0 then d else c)=e at*;generalize(if j=0 then d else c)=f at*;show kC_ I' u2 ha hb (d1:=.int e.1) (d2:=.int e.2) (e1:=.int f.1) (e2:=.int f.2) (b1:=decide (e.1=f.1)) (b2:=decide (e.2=f.2)) rfl rfl rfl rfl (by rw[deq];rfl) (by rw[deq];rfl) (by simp[dep]) (by simp[dep]) (λh u v ru rv=>?_) (λh1 h2 u v ru rv=>?_) (λh1 h2=>?_)
  .obtain⟨t,rfl⟩:=ru;obtain⟨t',rfl⟩:=rv;rw[if_neg (CV_ h)]at hC;show oneLt_int hC
  .obtain⟨t,rfl⟩:=ru;obtain⟨t',rfl⟩:=rv;rw[if_pos (Bb_ h1),if_neg (CV_ h2)]at hC;show kat_one _ _ (lt_int hC)
  .rw[if_pos (Bb_ h1),if_pos (Bb_ h2)]at hC;show hC
 .rcases pe_ hpm with e|e <;> rw[e]
  .show .inl rfl
  .show .inr rfl
theorem m3_{a:Expr}{ta:TA}{p cp kp:Pos}{k:Nat}(hu:X.A.units+64<cLine)(hg:Gl X "sorted") (hm:X.mg "sorted"=none) (ha:PA X [a] ta) (hs:Fv_ [a]=true:=by rfl):
  PE X (.Call (.Name "sorted" p) [a] [⟨some "reverse",.Constant (.bool true) k cp,kp⟩] pos) (IB_ ta):=by
 have h':Gk_ a=true:=by simpa[Fv_]using hs
 intro pins s σ H Q I h;show BE_ (dg_ I hg hm kn_ ?_ d_ d_);show callWith_kw (thn (ha pos pins s σ H _ I h) λus s1 ⟨vs,H1,I1,r1,q1⟩=>?_) (by rw[aw_ h'];rfl) (by rw[aw_ h'];rfl) rfl rfl;obtain⟨p,x,y,c,d,rfl,hp,hx,hy,q⟩:=q1;obtain⟨u,rfl,e⟩:=G0_ r1;cases e;show kws_cons (thn (Je_ pins s1 σ H1 (λv H2=>v=.bl true/\H2=H1) I1 ⟨rfl,rfl⟩) λv s2 ⟨z,H2,I2,r2,e1,e2⟩=>?_);subst e1 e2;cases r2;show kws_nil (kD_ hu I2 hp hx hy q)
def K5_:List V->Hp->VK->Prop:=λvs H Q=>∃(p:Addr)(ys:List V)(nm:Nat->Str),vs=[.ref p]/\H p=some (.lst ys)/\ys.length<64 /\
 (∀i,i<ys.length->∃(a w:Addr)(e:Int×Int),ys[i]?=some (.ref a)/\H a=some (.tup [.str (nm i),.ref w])/\H w=some (.tup [.int e.1,.int e.2]))/\(∀i j,i<ys.length->j<ys.length->nm i=nm j->i=j) /\
 ∀l zs,H l=none->zs.Perm ys->Q (.ref l) (upd H l (.lst zs))
theorem nZ_{pm:Array Nat}{ys:List V}(h:Pm ys.length pm):(pm.toList.map λi=>ys.getD i .non).Perm ys:=by
 have e:=BA_.mp h
 have e2:(List.range ys.length).map (λi=>ys.getD i .non)=ys:=by
  apply CA_
  .simp
  .intro i h1 h2;simp[h2]
 have e3:=e.map λi=>ys.getD i V.non;rw[List.toList_toArray,e2]at e3;show e3
theorem m4_(hu:X.A.units+64<cLine):Gz_ X (.builtin "sorted") K5_:=by
 intro pins s σ H xs us Q I r h;obtain⟨p,ys,nm,rfl,hp,h64,it,inj,q⟩:=h;by_cases h0:ys.length=0
 .have e0:ys=[]:=Ci_ h0;subst e0;show mY_ pins s σ H _ us Q I r ⟨p,[],rfl,hp,d_,λl zs nl pm _=>q l _ nl (by rw[pm.eq_nil];show .nil)⟩
 by_cases h1:ys.length=1
 .obtain⟨y,rfl⟩:=Ch_.mp h1;show mZ_ pins s σ H _ us Q I r ⟨p,y,rfl,hp,λl nl=>q l _ nl (.refl _)⟩
 obtain⟨u,rfl,e⟩:=G0_ r;cases e
 let lt:Nat->Nat->Bool:=λi j=>if nm i=nm j then false else decide ((nm i).cps.toList<(nm j).cps.toList)
 obtain⟨pm,hr,hpm⟩:=mq_ (lt:=lt) (N:=ys.length) o_;have pz:pm.size=ys.length:=by simpa using(BA_.mp hpm).length_eq
 show nV_ (lt:=lt) (κ:=tuples' true) (pm:=pm) I (.inl (.inl hp)) o_ h64 ?kind ?less hr o_ λl nl=>q l _ nl (nZ_ hpm)
 case kind =>
  intro its s' rv I' C hC;obtain⟨fs,t,hf,lk⟩:=hW_ "str" I' rv λz hz=>by obtain⟨i,hi,rfl⟩:=Ay_.mp hz;obtain⟨a,w,e,ea,ha,_⟩:=it i hi;rw[Ac_ hi]at ea;show⟨a,_,_,Ak_ ea,ha,rfl⟩
  have hl:=rv.length;show kat_kind t o_ lk d_ hC
 case less =>
  intro its s' i j rv I' hi hj C hC;have u2:X.A.in1.in1.units+60<cLine:=by rw[A7_,A7_];lia
  have pick:∀i,i<ys.length->∃(a w:Addr)(e:Int×Int),its.getD i Value.none=.ref a/\H a=some (.tup [.str (nm i),.ref w])/\H w=some (.tup [.int e.1,.int e.2]):=λi hi=>by obtain⟨a,w,e,ea,ha,hw⟩:=it i hi;obtain⟨u,hu',ru⟩:=rv.get ea;cases ru;show⟨a,w,e,by rw[Aa_,hu'];rfl,ha,hw⟩
  obtain⟨a,w1,e,ea,ha,hw1⟩:=pick i hi;obtain⟨b,w2,f,eb,hb,hw2⟩:=pick j hj;have rw1:Rep H (.ref w1) (.tup [.int e.1,.int e.2]):=⟨w1,_,rfl,hw1,_,_,rfl,rfl,_,_,rfl,rfl,rfl⟩;have rw2:Rep H (.ref w2) (.tup [.int f.1,.int f.2]):=⟨w2,_,rfl,hw2,_,_,rfl,rfl,_,_,rfl,rfl,rfl⟩;rw[ea,eb];have hlt:lt i j=if nm i=nm j then false else decide ((nm i).cps.toList<(nm j).cps.toList):=rfl;rw[hlt]at hC;have same:nm i=nm j->e=f:=λhn=>by have hij:=inj i j hi hj hn;subst hij;rw[ea]at eb;cases eb;rw[ha]at hb;cases hb;rw[hw1]at hw2;have h3:=HO.tup.inj (Ak_ hw2);have h4:=EL_ h3;have h5:=EL_ h4.2;show BC_ (V.int.inj h4.1) (V.int.inj h5.1)
  show kC_ I' u2 ha hb (d1:=.str (nm i)) (d2:=.tup [.int e.1,.int e.2]) (e1:=.str (nm j)) (e2:=.tup [.int f.1,.int f.2]) (b1:=decide (nm i=nm j)) (b2:=decide (e.1=f.1) && decide (e.2=f.2)) rfl rw1 rfl rw2 (by rw[deq];rfl) ?eq2 (by simp[dep]) (by simp[dep,deps]) (λh u v ru rv=>?_) (λh1 h2 u v ru rv=>?_) (λh1 h2=>?_)
  case eq2=>simp[deq,deqs];rfl
  .obtain⟨t,rfl⟩:=ru;obtain⟨t',rfl⟩:=rv;rw[if_neg (CV_ h)]at hC;show oneLt_str hC
  .have:=same (Bb_ h1);subst this;simp at h2
  .rw[if_pos (Bb_ h1)]at hC;show hC
def KZ_:R2:=λx y H Q=>∃i n,x=.str i/\y=.int n/\MulOk i n/\Q (.str (Txt.mul i n)) H
theorem iV_:OpR X (binaryOp .Mult) KZ_:=by intro pins s σ H x y v u Q I rx ry h;obtain⟨i,n,rfl,rfl,ok,q⟩:=h;obtain⟨t,rfl⟩:=rx;obtain⟨t',rfl⟩:=ry;show SB.mul ok λt' k=>⟨.str (Txt.mul i n),H,I.tok _,⟨_,rfl⟩,q⟩
theorem n0_(i j:Str):(i++j).length=i.length+j.length:=by change(i.cps++j.cps).size=_;rw[Array.size_append];rfl
def MQ_:V->Option Int->Option Int->Hp->VK->Prop:=λx lo hi H Q=>∃z:Str,x=.str z/\z.length<=sizeLine/\∀y:Str,y.length<=z.length->(∀c∈y.cps.toList,c∈z.cps.toList)->Q (.str y) H
theorem n1_{v:Value}{o:Option Int}(h:IsPart v o):∃l:Option (Int×Tok),v=partValue l/\l.map (·.1)=o:=by
 cases h with
 |none=>show⟨none,rfl,rfl⟩
 |int i t=>show⟨some (i,t),rfl,rfl⟩
theorem pX_:SlR X MQ_:=by
 intro pins s σ H x v vl vu lo hi sl Q I rx hs pl pu h;obtain⟨z,rfl,hz,q⟩:=h;obtain⟨t,rfl⟩:=rx;obtain⟨l,rfl,el⟩:=n1_ pl;obtain⟨u,rfl,eu⟩:=n1_ pu;show⟨"str",_,F.slot_str_getitem.lookup,typeIs_str _ _ _,?_⟩;show wpAny_getItem_str_slice (l:=l) (u:=u) (st:=none) hs rfl ?_;have le:=sliceIndices_le (l.map (·.1)) (u.map (·.1)) z.length;unfold sliceMade;by_cases hc:(((none:Option (Int×Tok)).map (·.1)).getD 1 == 1 && (slicePicked z l u none).length == z.length)=true
 .rw[if_pos hc];show⟨.str z,H,I,⟨_,rfl⟩,q z (Af_ _) λ_ h=>h⟩
 .rw[if_neg hc];have hl:(⟨((slicePicked z l u none).filterMap (z.cps[·]?)).toArray⟩:Str).length<=z.length:=by change(((slicePicked z l u none).filterMap (z.cps[·]?)).toArray).size<=_;rw[As_];show Am_ (List.length_filterMap_le _ _) le
  show⟨Am_ hl hz,.str _,H,I.tok _,⟨_,rfl⟩,q _ hl λc hc=>?_⟩;have hc2:c∈(slicePicked z l u none).filterMap (z.cps[·]?):=by simpa using hc
  obtain⟨i,_,hi⟩:=BD_.mp hc2;show Array.mem_toList_iff.mpr (Array.mem_of_getElem? hi)
def I6_:V->List V->Hp->VK->Prop:=λx vs H Q=>∃(a:Addr)(kvs:List (Key×V))(k:Key)(z:V),x=.ref a/\vs=[kV k,z]/\H a=some (.dK kvs)/\kvs.length<1000/\(∀v,Gf_ kvs k=some v->Q v H)/\(Gf_ kvs k=none->Q z (upd H a (.dK (GH_ kvs k z))))
theorem fN_:MtR X "dict.setdefault" I6_:=by
 intro pins s σ H x xs v us Q I rx r h;obtain⟨a,kvs,k,z,rfl,rfl,e,hz,h1,h2⟩:=h;cases rx;obtain⟨u,w',rfl,ru,rw'⟩:=Hl_ r;obtain⟨_,hd,vs,rel,dd⟩:=JD_ I.hok e;have hl:vs.length<=sizeLine:=by rw[<-rel.length];show AN_ (Fq_ (AN_ hz))
 show DS_ Cq_ dd.typeIs PySem.F.entry_dict_setdefault (PySem.F.args_dict_setdefault_3 _ _ _) (kt_meets_setdefault (FK_ X.prog X.w) a (H6_ ru) hd w') ⟨vs,dd,hl,λv hv=>?_,λhn h' dd' hs=>?_⟩
 .have rv:=rel.val k;rw[hv]at rv;cases e2:Gf_ kvs k with
  |none=>rw[e2]at rv;cases rv
  |some y =>rw[e2]at rv;show⟨y,H,I.tok _,rv,h1 y e2⟩
 .have rv:=rel.val k;rw[hn]at rv;cases e2:Gf_ kvs k with
  |some y=>rw[e2]at rv;cases rv
  |none =>
   have he:∃q,h'.get? a=some q:=let⟨q,_,_,hq,_⟩:=dd';⟨q,hq⟩;have pl:(GH_ kvs k z).length<=sizeLine:=by have:=bt_ kvs k z;have:=Fq_ (n:=1000) (Af_ _);lia
   show⟨z,_,jo_ (t':=s.toks+1) I (by rw[e];show True.intro) hs he (me_ pl hd (rel.put k rw') dd'),rw',h2 e2⟩
def Idv(d:Addr)(ob:Obj)(kvs:List (Key×V)):It :=
 ⟨λi H=>H d=some (.frz ob (.dK kvs))/\i<kvs.length,λi H x H'=>H'=H/\∃k,kvs[i]?=some (k,x),λi H=>H d=some (.frz ob (.dK kvs))/\kvs.length<=i⟩
def Idk(d:Addr)(ob:Obj)(kvs:List (Key×V)):It :=
 ⟨λi H=>H d=some (.frz ob (.dK kvs))/\i<kvs.length,λi H x H'=>H'=H/\∃k v,kvs[i]?=some (k,v)/\x=kV k,λi H=>H d=some (.frz ob (.dK kvs))/\kvs.length<=i⟩
theorem iW_{α β:Type}{F:α->β->Prop}:∀{l:List α}{m:List β}{i:Nat}{a:α}{b:β},Paired F l m->l[i]?=some a->m[i]?=some b->F a b
 |_,_,_,_,_,.nil,h,_=>by cases h
 |_,_,0,_,_,.cons x _,h1,h2=>by cases h1;cases h2;show x
 |_,_,i+1,_,_,.cons _ r,h1,h2=>iW_ (i:=i) r h1 h2
theorem n2_{P:Program}{h:Heap}{d:Addr}{ob:Obj}{kvs:List (Key×V)}{es0:Array DictEntry}{ep:Nat}(ok:HOk P w H h)(e:H d=some (.frz ob (.dK kvs)))(hd:ob.data=.dict es0 ep):∃vs,KV kvs vs/\h.DictAt (FK_ P w) d vs ep:=by obtain⟨g,_,_,vs,rel,o,es,ep',ho,r1,r2,r3⟩:=(show Gc_ P w H h d (.frz ob (.dK kvs))from ok d _ e);rw[g]at ho;cases ho;rw[hd]at r2;cases r2;show⟨vs,rel,ob,es0,g,r1,hd,r3⟩
theorem Inv.freeze{d:Addr}{kvs:List (Key×V)}(I:Inv X pins σ H s)(e:H d=some (.dK kvs)):∃ob es0 ep,ob.data=.dict es0 ep/\s.heap.get? d=some ob/\Inv X pins σ (upd H d (.frz ob (.dK kvs))) s:=by obtain⟨z,hd,vs,rel,dd⟩:=JD_ I.hok e;obtain⟨ob,es,ep,ho,r1,r2,r3⟩:=id dd;show⟨ob,es,ep,r2,ho,?_⟩;have:=jo_ (h':=s.heap) (t':=s.toks) (ob:=.frz ob (.dK kvs)) I (by rw[e];show True.intro) ⟨rfl,λ_ _=>rfl⟩ ⟨ob,ho⟩ ⟨ho,z,hd,vs,rel,dd⟩;show this
def iDK(td:TE):TI:=λσ H R=>td σ H λx H1=>∃(d:Addr)(kvs:List (Key×V)),x=.ref d/\H1 d=some (.dK kvs)/\∀ob,R (Idk d ob kvs) (upd H1 d (.frz ob (.dK kvs)))
def iDV(td:TE):TI:=λσ H R=>td σ H λx H1=>∃(d:Addr)(kvs:List (Key×V)),x=.ref d/\H1 d=some (.dK kvs)/\∀ob,R (Idv d ob kvs) (upd H1 d (.frz ob (.dK kvs)))
theorem qH_{K:PySem.W.Frag}{a:Addr}{xs:List V}{g:TG}{tb:TS}{D:HT_}{σ:St}{H:Hp}(Pv:Nat->St->Hp->Prop)(h0:Pv 0 σ H)(hl:∀i σ H,i<=xs.length->Pv i σ H->SqL K H a xs)
  (hs:∀i x T σ H,xs[i]?=some x->Pv i σ H->H T=none->g (.ref T) σ (upd H T (.tup [.int i,x])) λσ2 H2=>tb {D with nx:=Pv (i+1),ct:=Pv (i+1),bk:=D.nx} σ2 H2) (hd:∀σ H,Pv xs.length σ H->D.nx σ H):HN_ (Ite K a) g tb D σ H:=by
 show⟨λi m σ H=>m=xs.length-i/\i<=xs.length/\Pv i σ H,⟨xs.length,s_,AD_ _,h0⟩,?_⟩;rintro i m σ H ⟨rfl,hi,p⟩;have q:=hl i σ H hi p;by_cases hlt:i<xs.length
 .show .inr ⟨⟨xs,xs[i],q,by simp[hlt]⟩,Pv (i+1),λσ' H' p'=>⟨xs.length-(i+1),o_,rfl,hlt,p'⟩,λx H' y=>?_⟩;obtain⟨T,y,rfl,hT,rfl,hy⟩:=y;show hs i y T σ H (hy xs q) p hT
 .have e:i=xs.length:=o_
  subst e;show .inl ⟨⟨xs,q,Af_ _⟩,hd σ H p⟩
def L0_(t:TGs):TG:=λv σ H Q=>∃(a:Addr)(x y:V),v=.ref a/\H a=some (.lst [x,y])/\t [x,y] σ H Q
end L2
namespace RimT
variable {S:Type}[DecidableEq S]
structure Net(S:Type) where
 posts:List S
 rows:List (S×List S)
 worths:List (S×(Int×Int))
def Net.all(N:Net S):List S:=(N.rows.map (·.2)).flatten
structure FZ_(N:Net S):Prop where
 nd:(N.rows.map (·.1)).Nodup
 two:∀x∈N.all,N.all.count x=2
 few:N.rows.length<=16
 tot:N.all.length<=30
 pl:N.posts.length<=6
 wl:N.worths.length<=15
def F8_(ns ws:Nat->S)(T:List (List Nat))(ord:List Nat):List (S×List S):=ord.map λp=>(ns p,(T.getD p []).map ws)
theorem n3_{α:Type}{l m:List (List α)}(h:l.Perm m):l.flatten.Perm m.flatten:=by
 induction h with
 |nil=>show .nil
 |cons x _ ih=>rw[A1_,A1_];show ih.append_left x
 |swap x y l=>rw[A1_,A1_,A1_,A1_,<-A0_,<-A0_];show List.perm_append_comm.append_right _
 |trans _ _ h1 h2=>show h1.trans h2
theorem iX_{α:Type}(d:α)(l:List α):(List.range l.length).map (λi=>l.getD i d)=l:=by
 apply CA_
 .simp
 .intro i h1 h2;simp[h2]
theorem mr_{ns ws:Nat->S}{T:List (List Nat)}{ord:List Nat}(h:ord.Perm (List.range T.length)):(((F8_ ns ws T ord).map (·.2)).flatten).Perm (T.flatten.map ws):=by
 have e:(F8_ ns ws T ord).map (·.2)=(ord.map λp=>T.getD p []).map λl=>l.map ws:=by unfold F8_;rw[Bo_,Bo_];rfl
 rw[e,<-List.map_flatten];show List.Perm.map _ ?_;have h2:=h.map λp=>T.getD p [];rw[iX_]at h2;show n3_ h2
theorem fO_{α β:Type}[DecidableEq α][DecidableEq β]{f:α->β}{x:α}:∀{l:List α},(∀a∈l,f a=f x->a=x)->(l.map f).count (f x)=l.count x
 |[],_=>rfl
 |a::l,h=>by
  rw[Av_,CL_,CL_,fO_ λa ha=>h a (Ag_ _ ha)];congr 1;by_cases e:a=x
  .subst e;simp
  .have:f a≠f x:=λz=>e (h a Ah_ z);simp[e,this]
theorem rR_{P W:Nat}{T:List (List Nat)}(g:Gr P W T){ns ws:Nat->S}{ord:List Nat}(h:ord.Perm (List.range T.length))(hP:P<=6)(hW:W<=15)
  (hn:∀a b,a<T.length->b<T.length->ns a=ns b->a=b) (hw:∀a b,a<W->b<W->ws a=ws b->a=b) {ps:List S} {wo:List (S×(Int×Int))} (hps:ps.length<=6) (hwo:wo.length<=15):FZ_ (⟨ps,F8_ ns ws T ord,wo⟩:Net S):=by
 have al:=mr_ (ns:=ns) (ws:=ws) h;have e:((F8_ ns ws T ord).map (·.1))=ord.map ns:=by unfold F8_;rw[Bo_];rfl
 show⟨?_,λx hx=>?_,?_,?_,hps,hwo⟩
 .change((F8_ ns ws T ord).map (·.1)).Nodup;rw[e];unfold List.Nodup;rw[Cm_];show DW_ (λ{a b} ha hb ne z=>ne (hn a b (AP_.mp (h.mem_iff.mp ha)) (AP_.mp (h.mem_iff.mp hb)) z)) (h.nodup_iff.mpr List.nodup_range)
 .have hx':x∈T.flatten.map ws:=al.mem_iff.mp hx;obtain⟨w,hw1,rfl⟩:=Aj_.mp hx';change(((F8_ ns ws T ord).map (·.2)).flatten).count (ws w)=2;rw[al.count_eq,fO_ λa ha z=>hw a w (g.lt a ha) (g.lt w hw1) z];show g.two w (g.lt w hw1)
 .change(F8_ ns ws T ord).length<=16;unfold F8_;have:=h.length_eq;rw[Bc_]at this;rw[Ab_];have:=g.most;lia
 .change(((F8_ ns ws T ord).map (·.2)).flatten).length<=30;rw[al.length_eq,Ab_,g.tot];lia
abbrev End(S:Type):=S×Nat
def H2_:List (S×List (End S))->S->End S->List (S×List (End S))
 |[],w,e=>[(w,[e])]
 | (k,es)::r,w,e=>if k=w then(k,es++[e])::r else(k,es)::H2_ r w e
theorem hX_{w:S}{e:End S}:∀{a:List (S×List (End S))},(∀kv∈a,kv.1≠w)->H2_ a w e=a++[(w,[e])]
 |[],_=>rfl
 | (k,es)::r,h=>by have:k≠w:=h (k,es) Ah_;rw[H2_,if_neg this,hX_ λkv hkv=>h kv (Ag_ _ hkv)];rfl
theorem dj_{w:S}{e:End S}:∀{a:List (S×List (End S))},(∃kv∈a,kv.1=w)->∃i es,a[i]?=some (w,es)/\(∀j kv,j<i->a[j]?=some kv->kv.1≠w)/\H2_ a w e=a.set i (w,es++[e])
 |[],h=>by obtain⟨kv,hkv,_⟩:=h;cases hkv
 | (k,es)::r,h=>by
  by_cases hk:k=w
  .subst hk;show⟨0,es,rfl,λj kv hj=>absurd hj o_,by rw[H2_,if_pos rfl];rfl⟩
  .obtain⟨i,es',h1,h2,h3⟩:=dj_ (w:=w) (e:=e) (a:=r) (by
    obtain⟨kv,hkv,hw⟩:=h
    rcases Aq_.mp hkv with rfl|hkv
    .show absurd hw hk
    .show⟨kv,hkv,hw⟩)
   show⟨i+1,es',h1,λj kv hj hkv=>?_,by rw[H2_,if_neg hk,h3];rfl⟩;cases j with
   |zero=>cases hkv;show hk
   |succ j=>show h2 j kv o_ hkv
def FW_(p:S):Nat->List S->List (S×End S)
 |_,[]=>[]
 |k,w::ws=>(w,(p,k))::FW_ p (k+1) ws
def occ(rows:List (S×List S)):List (S×End S):=(rows.map λr=>FW_ r.1 0 r.2).flatten
def F2_(l:List (S×End S)):List (S×List (End S)):=l.foldl (λa x=>H2_ a x.1 x.2) []
theorem e5_(l:List (S×End S))(x:S×End S):F2_ (l++[x])=H2_ (F2_ l) x.1 x.2:=by unfold F2_;rw[List.foldl_append];rfl
theorem jv_{w:S}{e:End S}{kv:S×List (End S)}:∀{a:List (S×List (End S))},kv∈H2_ a w e->(kv.1=w/\((∃es,(w,es)∈a/\kv.2=es++[e])\/((∀x∈a,x.1≠w)/\kv.2=[e])))\/kv∈a
 |[],h=>by
  have:=An_.mp h;subst this;show .inl ⟨rfl,.inr ⟨λx hx=>(by cases hx),rfl⟩⟩
 | (k,es)::r,h=>by
  by_cases hk:k=w
  .subst hk;rw[H2_,if_pos rfl]at h
   rcases Aq_.mp h with h|h
   .subst h;show .inl ⟨rfl,.inl ⟨es,Ah_,rfl⟩⟩
   .show .inr (Ag_ _ h)
  .rw[H2_,if_neg hk]at h
   rcases Aq_.mp h with h|h
   .subst h;show .inr Ah_
   .rcases jv_ h with⟨e1,e2⟩|h
    .show .inl ⟨e1,?_⟩
     rcases e2 with⟨es',h1,h2⟩|⟨h1,h2⟩
     .show .inl ⟨es',Ag_ _ h1,h2⟩
     .show .inr ⟨λx hx=>?_,h2⟩
      rcases Aq_.mp hx with rfl|hx
      .show hk
      .show h1 x hx
    .show .inr (Ag_ _ h)
theorem ey_{w:S}{e:End S}:∀{a:List (S×List (End S))},(H2_ a w e).map (·.1)=if(∃kv∈a,kv.1=w)then a.map (·.1)else a.map (·.1)++[w]
 |[]=>by simp[H2_]
 | (k,es)::r=>by
  by_cases hk:k=w
  .subst hk;rw[H2_,if_pos rfl,if_pos ⟨(k,es),Ah_,rfl⟩];rfl
  .rw[H2_,if_neg hk,Av_,ey_ (a:=r)];by_cases hr:∃kv∈r,kv.1=w
   .rw[if_pos hr,if_pos (by obtain⟨kv,h1,h2⟩:=hr;show⟨kv,Ag_ _ h1,h2⟩)];rfl
   .rw[if_neg hr,if_neg (λ⟨kv,h1,h2⟩=>by
     rcases Aq_.mp h1 with rfl|h1
     .show hk h2
     .show hr ⟨kv,h1,h2⟩)]
    rfl
theorem bZ_:∀(n:Nat)(l:List (S×End S)),l.length=n->((F2_ l).map (·.1)).Nodup/\(∀kv∈F2_ l,kv.2=(l.filter λx=>decide (x.1=kv.1)).map (·.2))/\(∀x∈l,∃kv∈F2_ l,kv.1=x.1)/\(∀kv∈F2_ l,∃x∈l,x.1=kv.1)
 |0,l,h=>by
  have:=Ci_ h;subst this;show⟨BS_,λkv hkv=>(by cases hkv),λx hx=>(by cases hx),λkv hkv=>(by cases hkv)⟩
 |n+1,l,h=>by
  obtain⟨m,x,rfl⟩:∃m x,l=m++[x]:=by show⟨l.dropLast,l.getLast (λe=>by rw[e]at h;cases h),(Ds_ _).symm⟩
  have hm:m.length=n:=by simpa using h
  obtain⟨h1,h2,h3,h4⟩:=bZ_ n m hm;rw[e5_]
  have fe:∀w,((m++[x]).filter λy=>decide (y.1=w))=(m.filter λy=>decide (y.1=w))++(if x.1=w then[x]else[]):=λw=>by
   rw[Dz_];by_cases e:x.1=w
   .simp[e]
   .simp[e]
  show⟨?_,λkv hkv=>?_,λy hy=>?_,λkv hkv=>?_⟩
  .rw[ey_];by_cases hc:∃kv∈F2_ m,kv.1=x.1
   .rw[if_pos hc];show h1
   .rw[if_neg hc];show Br_.mpr ⟨h1,s_,λa ha b hb e=>?_⟩;obtain⟨kv,hkv,rfl⟩:=Aj_.mp ha;show hc ⟨kv,hkv,by rw[e];show An_.mp hb⟩
  .rw[fe,Au_]
   rcases jv_ hkv with⟨e1,e2⟩|hkv'
   .rw[e1,if_pos rfl]
    rcases e2 with⟨es,h5,h6⟩|⟨h5,h6⟩
    .rw[h6];have:=h2 _ h5;simp only at this;rw[this];rfl
    .rw[h6];have:(m.filter λy=>decide (y.1=x.1))=[]:=by show List.filter_eq_nil_iff.mpr λy hy z=>?_;obtain⟨kv2,h7,h8⟩:=h3 y hy;show h5 kv2 h7 (h8.trans (Bb_ z))
     rw[this];rfl
   .by_cases e:x.1=kv.1
    .
     exfalso;obtain⟨i,es,g1,g2,g3⟩:=dj_ (w:=x.1) (e:=x.2) (a:=F2_ m) ⟨kv,hkv',e.symm⟩;rw[g3]at hkv;obtain⟨j,hj,ej⟩:=Ay_.mp hkv;rw[Bz_]at hj;have hji:(F2_ m)[j]?=some ((F2_ m)[j]):=Ac_ hj;have hi:i<(F2_ m).length:=(Ar_.mp g1).1;by_cases hij:i=j
     .subst hij;rw[Eu_]at ej;have e9:kv.2=es++[x.2]:=by rw[<-ej]
      obtain⟨j2,hj2,ej2⟩:=Ay_.mp hkv';have k1:((F2_ m).map (·.1))[j2]?=((F2_ m).map (·.1))[i]?:=by rw[Ad_,Ad_,Ac_ hj2,ej2,g1];change some kv.1=some x.1;rw[e]
      have:=(BO_ (by rw[Ab_];show hj2) h1).mp k1;subst this;rw[Ac_ hj2,ej2]at g1;have e10:=congrArg Prod.snd (Ak_ g1);rw[e9]at e10;have:=congrArg List.length e10;simp at this
     .rw[EU_ hij]at ej;have k1:((F2_ m).map (·.1))[j]?=((F2_ m).map (·.1))[i]?:=by rw[Ad_,Ad_,hji,ej,g1];change some kv.1=some x.1;rw[e]
      show hij ((BO_ (by rw[Ab_];show hj) h1).mp k1).symm
    .rw[if_neg e];rw[h2 kv hkv'];simp
  .by_cases hc:∃kv∈F2_ m,kv.1=y.1
   .have hk:y.1∈(H2_ (F2_ m) x.1 x.2).map (·.1):=by
     rw[ey_];obtain⟨kv,g1,g2⟩:=hc;have:y.1∈(F2_ m).map (·.1):=Aj_.mpr ⟨kv,g1,g2⟩;split
     .show this
     .show Bd_ _ this
    obtain⟨kv,g1,g2⟩:=Aj_.mp hk;show⟨kv,g1,g2⟩
   .rcases AB_.mp hy with hy|hy
    .show absurd (h3 y hy) hc
    .have e:=An_.mp hy;subst e;have hk:y.1∈(H2_ (F2_ m) y.1 y.2).map (·.1):=by rw[ey_,if_neg hc];show AI_ _ (An_.mpr rfl)
     obtain⟨kv,g1,g2⟩:=Aj_.mp hk;show⟨kv,g1,g2⟩
  .rcases jv_ hkv with⟨e1,_⟩|hkv'
   .show⟨x,AI_ _ (An_.mpr rfl),e1.symm⟩
   .obtain⟨y,g1,g2⟩:=h4 kv hkv';show⟨y,Bd_ _ g1,g2⟩
theorem go_(p:S):∀(ws:List S)(k:Nat),(FW_ p k ws).map (·.1)=ws
 |[],_=>rfl
 |w::ws,k=>by rw[FW_,Av_,go_ p ws (k+1)]
theorem hY_(rows:List (S×List S)):(occ rows).map (·.1)=(rows.map (·.2)).flatten:=by unfold occ;rw[List.map_flatten,Bo_];congr 1;show Bj_ λr _=>go_ r.1 r.2 0
def Gp_(N:Net S):List (S×List (End S)):=F2_ (occ N.rows)
theorem lt_(N:Net S):((Gp_ N).map (·.1)).Nodup:=(bZ_ _ _ rfl).1
theorem iY_(w:S):∀l:List (S×End S),((l.filter λx=>decide (x.1=w)).map (·.2)).length=(l.map (·.1)).count w
 |[]=>rfl
 |x::l=>by
  have ih:=iY_ w l;rw[Av_,CL_,<-ih];by_cases e:x.1=w
  .simp[e]
  .simp[e]
theorem hr_{N:Net S}(ok:FZ_ N){kv:S×List (End S)}(h:kv∈Gp_ N):∃a b,kv.2=[a,b]:=by
 obtain⟨_,h2,_,h4⟩:=bZ_ _ (occ N.rows) rfl;have hl:kv.2.length=2:=by rw[h2 kv h,iY_,hY_];obtain⟨x,x1,x2⟩:=h4 kv h;show ok.two kv.1 ?_;change kv.1∈(N.rows.map (·.2)).flatten;rw[<-hY_,<-x2];show Aj_.mpr ⟨x,x1,rfl⟩
 match hk:kv.2,hl with
 |[a,b],_=>show⟨a,b,rfl⟩
theorem pY_{N:Net S}{kv:S×List (End S)}(h:kv∈Gp_ N){a:End S}(ha:a∈kv.2):(kv.1,a)∈occ N.rows:=by obtain⟨_,h2,_,_⟩:=bZ_ _ (occ N.rows) rfl;rw[h2 kv h]at ha;obtain⟨x,x1,rfl⟩:=Aj_.mp ha;obtain⟨x2,x3⟩:=BJ_.mp x1;have e:x.1=kv.1:=Bb_ x3;rw[<-e];show x2
end RimT
namespace L2
open PySem PySem.Spec PyProof.Rows
variable {X:Cx}
open PySem.W
end L2
namespace PySem
open Sem (wp)
theorem lu_:typeLookup (.type "list") "keys"=pure none:=Eb_ r_
theorem jw_{prog:Program}{w:World}{A:Around}{E:Value->Shared->Prop}{s:Shared}{a:Addr}{o:Obj}{xs:Array Value}{k:Nat}{name:Str}{Q:Option Value->Shared->Prop}
  (hx:s.heap.get? a=some o) (hc:o.cls=.type "list") (hdat:o.data=.seq xs k) (hd:o.dict=none) (hmiss:typeLookup (.type "list") name=pure none) (hname:(["__module__","__name__","__qualname__","__doc__","__annotations__"]:List Str).contains name=false) (hA:A.handled=none)
  (h:∀h' tk,(∀b ob,s.heap.get? b=some ob->h'.get? b=some ob)->Q none {s with heap:=h',toks:=tk}) (hsz:name.length+100<=sizeLine:=by size_fits):
  wpAny (model prog w) A (getAttr? (.ref a) name) Q E s:=by
 obtain⟨c,dct,dat,sl⟩:=o;simp only at hc hdat hd;subst hc hdat hd;obtain⟨hp,g,d,tk,os⟩:=s;have hT:∀tk',(⟨hp,g,d,tk',os⟩:Shared).TypeIs (.ref a) "list" := λ_=>⟨_,hx,rfl⟩;have f1:=sub_AttributeError;have f3:=F.slot_list_getattribute.lookup;have f4:=F.slot_list_getattribute.bind (.ref a);have f5:=am_list_getattr_none;unfold getAttr? getAttrBy? getAttrBy
 repeat (any_goals (first|assumption|show hT _|((with_reducible change wpAny _ _ (call (Value.builtin "list.__getattribute__") _ _) _ _ _);show DK_ F.slot_list_getattribute (hT _) am_entry_list_getattribute (F.args_list_getattribute_2 _ _) (meets_getattribute_miss_list a xs k sl name _ hmiss hname hsz) ⟨hx,hA,λh' tk' e hx'=>?_⟩)|wp_step))
 obtain⟨t',u',he⟩:=hx'.there;change wpAny _ _ (getattributeRaised _ _ _ _ _ _ _) _ _ _;unfold getattributeRaised
 repeat (any_goals (first|assumption|wp_step))
 show h _ _ hx'.keeps
namespace F
theorem rim_entry_dict_update_loop:entryFor table "dict.update.loop"=some Builtin.«dict.update.loop»:=entryFor_of_tree (by kernel_rfl)
theorem rim_plain_dict_update_loop:plainId "dict.update.loop"=true:=r_
end F
section
variable {prog:Program}{w:World}{K:Type}[DecidableEq K]{knd:KeyKind prog w K}{A:Around}{R:Result->Shared->Prop}
theorem ez_{d it p:Addr}{its:Array Value}{h0:Heap}(hh:A.handled=none)(hdi:d≠it)(hp:h0.IsList p its)(hpi:p≠it)(hpd:p≠d):
  ∀(ps:List (K×Value))(i:Nat)(j:Int)(D:List (K×Value))(s:Shared),its.size=i+ps.length->D.length+ps.length<=1000->s.heap.IsListIter it p i->s.heap.DictOf knd d D ->
   (∀b o,b≠it->b≠d->h0.get? b=some o->s.heap.get? b=some o) ->
   (∀m q,ps[m]?=some q->∃(a:Addr)(kv:Value)(o:Obj)(n:Nat),its[i+m]?=some (.ref a)/\a≠it/\a≠d/\h0.get? a=some o/\o.cls=.type "tuple" /\ o.data=.seq #[kv,q.2] n/\knd.is q.1 kv=true) ->
   (∀h' tk,(∀b o,b≠it->b≠d->h0.get? b=some o->h'.get? b=some o)->h'.DictOf knd d (merged D ps)->R (.ok (.ret .none)) {s with heap:=h',toks:=tk}) ->
   codeAny (model prog w) A (.builtin "dict.update.loop" ⟨[.ref d,.ref it,rawInt j,.none],[]⟩) R s
 |[],i,j,D,s,hz,hl,hi,hD,hk,hit,hR=>by
  obtain⟨op,hop,hpr⟩:=id hp;have hp':s.heap.IsList p its:=⟨op,hk p op hpi hpd hop,hpr⟩;show BW_ F.rim_entry_dict_update_loop ?_;rw[BL_ F.rim_plain_dict_update_loop _];change wpAny _ A.in1 (pyNext (.ref it) >>= _) _ _ s;show Ae_ (C8_ hh hi hp' (C1_ (by simp at hz;lia)) λh' eb=>?_);change wpAny _ A.in1 (Builtin.Dict.addKeywords d [] >>= _) _ _ _;show Ae_ (Ao_ (Ao_ (hR h' s.toks (λb o h1 h2 e=>eb b o h1 (hk b o h1 h2 e)) (hD.extBut eb hdi))))
 |q::ps,i,j,D,s,hz,hl,hi,hD,hk,hit,hR=>by
  obtain⟨op,hop,hpr⟩:=id hp;have hp':s.heap.IsList p its:=⟨op,hk p op hpi hpd hop,hpr⟩;obtain⟨a,kv,o,n,e1,a1,a2,ho,hc,hd,kis⟩:=hit 0 q rfl;show BW_ F.rim_entry_dict_update_loop ?_;rw[BL_ F.rim_plain_dict_update_loop _];change wpAny _ A.in1 (pyNext (.ref it) >>= _) _ _ s;show Ae_ (CZ_ hi hp' e1 λh1 hi1 sb=>?_);have ho1:h1.get? a=some o:=(sb.2 a a1).trans (hk a o a1 a2 ho);have hT:({s with heap:=h1}:Shared).TypeIs (.ref a) "tuple" := ⟨_,ho1,hc⟩;change wpAny _ A.in1 (holding [Value.ref a] _ >>= _) _ _ _;show Ae_ (A2_ ?_);show Ae_ ?_;show wpAny_tryCatch ?_;unfold Builtin.Dict.pairItems;show Ae_ (Do_ hT ?_);rw[if_pos d_];show Ae_ (Cr_ ho1 hd ?_);show Ao_ ?_;change wpAny _ A.in1 (holding [kv,q.2] (dictSet d kv q.2)) _ _ _;show A2_ ?_;have hD1:({s with heap:=h1}:Shared).heap.DictOf knd d D:=hD.sameBut sb hdi;show EV_ kis hD1 (λh2 hD2 sb2=>?_) (by simp at hl;rw[BT_];lia);show Ao_ ⟨C4_ F.rim_plain_dict_update_loop _,?_⟩;have sl:=DX_ D q.1 q.2;show ez_ hh hdi hp hpi hpd ps (i+1) (j+1) (stored D q.1 q.2) {s with heap:=h2,toks:=s.toks+1} (by simp at hz;lia) (by simp at hl;lia) ?_ hD2 (λb o h1' h2' e=>?_) (λm r e=>?_) λh' tk k3 hD3=>?_
  .obtain⟨oi,hoi,hir⟩:=hi1;show⟨oi,(sb2.2 it (Ne.symm hdi)).trans hoi,hir⟩
  .show(sb2.2 b h2').trans ((sb.2 b h1').trans (hk b o h1' h2' e))
  .obtain⟨a',kv',o',n',z1,z2⟩:=hit (m+1) r e;show⟨a',kv',o',n',by rw[show i+1+m=i+(m+1) by lia];show z1,z2⟩
  .show hR h' tk k3 hD3
end
end PySem
namespace L2
open PySem PySem.Spec PyProof.Rows PySem.W
variable {X:Cx}{pins:List (Addr×Obj)}{σ:St}{H:Hp}{s:Shared}
theorem ms_(I:Inv X pins σ H s):∀{kvs:List (Key×V)}{ys:List V}{its:List Value},FR_ ys its->ys.length=kvs.length->(∀(i:Nat)(q:Key×V),kvs[i]?=some q->∃a,ys[i]?=some (.ref a)/\H a=some (.tup [kV q.1,q.2])) ->
  ∃ps:List (Key×Value),KV kvs ps/\ps.length=its.length/\∀(m:Nat)(q:Key×Value),ps[m]?=some q->∃(a:Addr)(kv:Value)(o:Obj)(n:Nat),its[m]?=some (.ref a)/\H a≠none/\s.heap.get? a=some o/\o.cls=.type "tuple" /\ o.data=.seq #[kv,q.2] n/\(FK_ X.prog X.w).is q.1 kv=true
 |[],[],_,.nil,_,_=>⟨[],.nil,rfl,λm q e=>by simp at e⟩
 |[],_::_,_,_,e,_=>nomatch e
 |_::_,[],_,_,e,_=>nomatch e
 |kv::kvs,y::ys,_,.cons r1 r2,e,h=>by
  obtain⟨ps,rel,hl,hp⟩:=ms_ I r2 (by simpa using e) λi q hq=>h (i+1) q hq;obtain⟨a,ea,ha⟩:=h 0 kv rfl;cases ea;cases r1;obtain⟨zs,rz,⟨ob,ho,hcl,n,hd⟩,_⟩:=I.tuple (.inl (.inl ha));obtain⟨u1,u2,rfl,ru1,ru2⟩:=Hl_ rz;show⟨(kv.1,u2)::ps,.cons ⟨rfl,ru2⟩ rel,by simp[hl],λm q hq=>?_⟩;cases m with
  |zero =>
   cases hq;show⟨a,u1,ob,n,rfl,(by rw[ha];show Option.some_ne_none _),ho,hcl,hd,H6_ ru1⟩
  |succ m=>show hp m q hq
def J4_:List V->Hp->VK->Prop:=λvs H Q=>∃(p:Addr)(ys:List V)(kvs:List (Key×V)),vs=[.ref p]/\H p=some (.lst ys)/\ys.length=kvs.length/\kvs.length<=900/\(∀(i:Nat)(q:Key×V),kvs[i]?=some q->∃a,ys[i]?=some (.ref a)/\H a=some (.tup [kV q.1,q.2])) /\
 ∀l,H l=none->Q (.ref l) (upd H l (.dK (GE_ [] kvs)))
theorem hZ_{K:Type}[DecidableEq K]:∀(ps D:List (K×Value)),(merged D ps).length<=D.length+ps.length
 |[],D=>Af_ _
 |q::ps,D=>by have a:=hZ_ ps (stored D q.1 q.2);have b:=DX_ D q.1 q.2;change(merged (stored D q.1 q.2) ps).length<=_;rw[AH_];lia
theorem iZ_(hc:X.calm=true):Gz_ X (.type "dict") J4_:=by
 intro pins s σ H xs us Q I r h;obtain⟨p,ys,kvs,rfl,hp,hl,hz,hk,q⟩:=h;obtain⟨u,rfl,e⟩:=G0_ r;cases e;obtain⟨_,its,c,rv,hop⟩:=(show Gc_ X.prog X.w H s.heap p (.lst ys)from I.hok p _ hp);obtain⟨ps,rel,pl,hit⟩:=ms_ I rv hl hk;have hh:=I.ok.hd hc;have hlt:∀{b:Addr}{o:Obj},s.heap.get? b=some o->b<s.heap.objs.size:=λe=>Ap_ e;show callType_codes (Q₁:=λobj s₁=>obj=.ref s.heap.objs.size/\s₁={s with heap:=s.heap.push {cls:=.type "dict",data:=.dict #[]}}) F.kt_called_dict (EG_ _) F.entry_dict_init (kt_code_dict_new _ ⟨rfl,rfl⟩) ?_;rintro obj s₁ ⟨rfl,rfl⟩;have hnew:(s.heap.push {cls:=.type "dict",data:=.dict #[]}).DictOf (FK_ X.prog X.w) s.heap.objs.size []:=Ea_ s.heap;show⟨hnew.typeIs,F.args_dict_init_2 _ _,?_⟩;unfold Builtin.«dict.__init__»;show Ae_ ?_;unfold Builtin.Dict.selfAndRest;show Ae_ (Ev_ hnew.typeIs ?_);change wpAny _ _ (pure (s.heap.objs.size,[Value.ref p])) _ _ _;show Ao_ ?_;change wpAny _ _ (Builtin.Dict.updateFrom "dict.__init__" s.heap.objs.size (.ref p) [] .none) _ _ _;unfold Builtin.Dict.updateFrom;have hop1:(s.heap.push {cls:=.type "dict",data:=.dict #[]}).get? p=some (seqObj "list" its.toArray c):=Al_ _ hop;have hT:({s with heap:=s.heap.push {cls:=.type "dict",data:=.dict #[]}}:Shared).TypeIs (.ref p) "list" := ⟨_,hop1,rfl⟩;show Ae_ (Do_ hT ?_);rw[if_pos d_];show Ae_ (jw_ hop1 rfl rfl rfl lu_ r_ hh λh1 tk k1=>?_);rw[if_pos Option.isNone_none];show Ae_ (EA_ ?_);have hop2:=k1 _ _ hop1;have dsz:s.heap.objs.size<h1.objs.size:=by obtain⟨od,_,_,hod,_⟩:=hnew;show Ap_ (k1 _ _ hod)
 show Ae_ (wpAny_pyIter_list (items:=its.toArray) ⟨_,hop2,rfl,c,rfl⟩ ?_);show Ao_ ⟨C4_ F.rim_plain_dict_update_loop _,?_⟩;have below:∀{b:Addr}{o:Obj},s.heap.get? b=some o->b≠h1.objs.size/\b≠s.heap.objs.size:=λe=>⟨AE_ (Nat.lt_trans (hlt e) dsz),AE_ (hlt e)⟩;have rl:kvs.length=ps.length:=rel.length;show ez_ (A:=X.A.in1) (knd:=FK_ X.prog X.w) (its:=its.toArray) (h0:=s.heap) (p:=p) hh (AE_ dsz) ⟨_,hop,rfl,c,rfl⟩ (below hop).1 (below hop).2 ps 0 0 [] _ (by simp;lia) (by simp;lia) ?_ ?_ (λb o b1 b2 e=>?_) (λm q hq=>?_) λh' tk' k3 hD3=>?_
 .show⟨_,AA_ h1 rfl,rfl,rfl⟩
 .obtain⟨od,es,ep,hod,dr⟩:=hnew;show⟨od,es,ep,Al_ _ (k1 _ _ hod),dr⟩
 .show Al_ _ (k1 _ _ (Al_ _ e))
 .obtain⟨a,kv,o,n,e1,_,ho,z⟩:=hit m q hq;show⟨a,kv,o,n,by simpa using e1,(below ho).1,(below ho).2,ho,z⟩
 .have rm:KV (GE_ [] kvs) (merged [] ps):=KV.merge rel .nil;have ml:=hZ_ ps [];have mz:(GE_ [] kvs).length<=sizeLine:=by rw[show(GE_ [] kvs).length=(merged [] ps).length from rm.length];show AN_ (Fq_ (by simp at ml;lia))
  show⟨rfl,.ref _,_,I.laid (a:=s.heap.objs.size) (o:=.dK (GE_ [] kvs)) (t':=tk') (λb o e=>k3 b o (below e).1 (below e).2 e) (Af_ _) (me_ mz (B2_.mpr (Ne.symm (AE_ I.big))) rm hD3),rfl,q _ (I.hok.fresh (Af_ _))⟩
abbrev TK(P:Program)(w:World):=tupleKind (FK_ P w)
variable {prog:Program}{w:World}{A:Around}{R:Result->Shared->Prop}
variable{h h':Heap}
theorem jx_{k:List Key}{b:Addr}(e:(TK prog w).is h k b)(m:∀o,h.get? b=some o->h'.get? b=some o):(TK prog w).is h' k b:=by obtain⟨o,its,n,h1,h2⟩:=e;show⟨o,its,n,m _ h1,h2⟩
def K6_(kvs more:List (List Key×V)):List (List Key×V):=more.foldl (λacc kv=>GH_ acc kv.1 kv.2) kvs
def K9_(H:Hp)(p:Addr)(kvs:List (List Key×V)):Prop:=∃ys,H p=some (.lst ys)/\ys.length=kvs.length/\∀(i:Nat)(q:List Key×V),kvs[i]?=some q->∃a b,ys[i]?=some (.ref a)/\H a=some (.tup [.ref b,q.2])/\H b=some (.tup (q.1.map kV))
def LZ_:V->List V->Hp->VK->Prop:=λx vs H Q=>∃(a p:Addr)(kvs0 kvs:List (List Key×V)),x=.ref a/\vs=[.ref p]/\H a=some (.dT kvs0)/\K9_ H p kvs/\kvs0.length+kvs.length<=900/\Q .non (upd H a (.dT (K6_ kvs0 kvs)))
def GX_(led:Bool):Obj:={cls:=.type "set",dict:=none,data:=.set #[] 0 (.fresh 0 0 led)}
def SzO(a:Addr)(n:Nat):HO:=.ext λh=>∃o es ep t,h.get? a=some o/\o.ExactSet/\o.data=.set es ep t/\t.fits es.size=true/\es.size=n/\es.size<scanBound
theorem rS_:bootBuiltins "set"=some (.type "set"):=r_
def KX_:List V->Hp->VK->Prop:=λvs H Q=>∃(a:Addr)(n:Nat),vs=[.ref a]/\H a=some (SzO a n)/\Q (.int n) H
theorem n4_:Gz_ X (.builtin "len") KX_:=by intro pins s σ H xs us Q I r h;obtain⟨a,n,rfl,ha,q⟩:=h;obtain⟨u,rfl,e⟩:=G0_ r;cases e;obtain⟨⟨o,es,ep,t,g1,g2,g3,g4,rfl,g6⟩,_,_⟩:=(show Gc_ X.prog X.w H s.heap a (SzO a n)from I.hok a _ ha);show call_len_set g1 g2 g3 g4 (by unfold scanBound at g6;lia) ⟨.int es.size,H,I.tok _,⟨_,rfl⟩,q⟩
open PySem.SetTable
def lp(m:Nat):Nat->Nat×Nat->Nat×Nat
 |0,x=>x
 |n+1,x=>lp m n (leap m x.1 x.2)
theorem rT_(m a b:Nat)(x:Nat×Nat):lp m (a+b) x=lp m b (lp m a x):=by
 induction a generalizing x with
 |zero=>rw[Nat.zero_add];rfl
 |succ a ih=>rw[show a+1+b=(a+b)+1 by lia];show ih _
theorem rU_(m n:Nat)(x:Nat×Nat):(lp m n x).2=x.2/32 ^ n:=by
 induction n generalizing x with
 |zero=>simp[lp]
 |succ n ih =>change(lp m n _).2=_;rw[ih,show(leap m x.1 x.2).2=x.2/32 from rfl,Nat.div_div_eq_div_mul,Nat.pow_succ,Nat.mul_comm]
variable{m:Nat}
theorem Mi_(n:Nat){x:Nat×Nat}(h:x.1<=m):(lp m n x).1<=m:=by
 induction n generalizing x with
 |zero=>show h
 |succ n ih=>show ih (x:=leap m x.1 x.2) (Nat.lt_succ_iff.mp (Bw_ _ o_))
def okM(m:Nat):Prop:=m=7\/m=31
theorem Ln_(hm:okM m):∀i,i<=m->∀j,j<=m->∃n,n<=m/\(lp m n (i,0)).1=j:=by
 have key:∀m,((List.range (m+1)).all λi=>(List.range (m+1)).all λj=>(List.range (m+1)).any λn=>(lp m n (i,0)).1 == j)=true->∀i,i<=m->∀j,j<=m->∃n,n<=m/\(lp m n (i,0)).1=j:=λm h i hi j hj=>by have h1:=DQ_.mp h i (AP_.mpr o_);have h2:=DQ_.mp h1 j (AP_.mpr o_);obtain⟨n,hn,e⟩:=List.any_eq_true.mp h2;show⟨n,by have:=AP_.mp hn;lia,by simpa using e⟩
 rcases hm with rfl|rfl
 .show key 7 r_
 .show key 31 r_
theorem Lr_(hm:okM m){i p:Nat}(hi:i<=m)(hp:p<2 ^ 64){j:Nat}(hj:j<=m):∃n,n<=13+m/\(lp m n (i,p)).1=j:=by
 obtain⟨n,hn,e⟩:=Ln_ hm (lp m 13 (i,p)).1 (Mi_ 13 hi) j hj;show⟨13+n,o_,?_⟩;have z:(lp m 13 (i,p)).2=0:=by rw[rU_];show Nat.div_eq_of_lt (AL_ hp d_)
 rw[rT_,<-e];congr 2;show BC_ rfl z
theorem n5_(h:Int):bits h<2 ^ 64:=by unfold bits;have h1:=AC_ h (show(2:Int) ^ 64≠0 by decide);have h2:=Ax_ h (show(0:Int)<2 ^ 64 by decide);lia
def Fr(t:SetTable):Nat->Probe->Prop
 |0,p=>t.slot p.j=.empty
 |n+1,p=>t.slot p.j=.empty\/Fr t n (t.advance p)
theorem Fr.up{t:SetTable}{n:Nat}{p:Probe}(h:Fr t n p):Fr t (n+1) p:=by
 induction n generalizing p with
 |zero=>show .inl h
 |succ n ih =>
  rcases h with h|h
  .show .inl h
  .show .inr (ih h)
theorem Fr.le{t:SetTable}{n:Nat}{p:Probe}(h:Fr t n p)(l:n<=m):Fr t m p:=by
 induction l with
 |refl=>show h
 |step _ ih=>show ih.up
def St0(t:SetTable)(x:Nat×Nat):Probe:={j:=x.1,more:=runEnd t.mask x.1-x.1,i:=x.1,perturb:=x.2,dummy:=none}
theorem Fr.run{t:SetTable}{n:Nat}{i p:Nat}(h:Fr t n (St0 t (leap t.mask i p))):∀(k j:Nat),Fr t (n+k+1) {j:=j,more:=k,i:=i,perturb:=p,dummy:=none}
 |0,j=>.inr (by
  change Fr t n _;unfold advance;rw[if_neg (by show Bm_ 0)];show h)
 |k+1,j=>.inr (by unfold advance;rw[if_pos (by show DT_ k)];show Fr.run h k (j+1))
theorem rV_(m i:Nat):runEnd m i-i<=9:=by unfold runEnd;split <;> lia
theorem LB_{t:SetTable}:∀(n:Nat)(x:Nat×Nat),t.slot (lp t.mask n x).1=.empty->Fr t (10*n) (St0 t x)
 |0,x,h=>h
 |n+1,x,h=>by have:=Fr.run (LB_ n (leap t.mask x.1 x.2) h) (runEnd t.mask x.1-x.1) x.1;show this.le (by have:=rV_ t.mask x.1;lia)
structure Tk(t:SetTable)(n:Nat):Prop where
 pl:t.place.size=n
 dm:t.dummies = #[]
 ms:(t.mask=7/\n<=4)\/(t.mask=31/\n<=6)
variable{n:Nat}
theorem Tk.ok{t:SetTable}(h:Tk t n):okM t.mask:=by rcases h.ms with h|h;show .inl h.1;show .inr h.1
theorem Tk.fits{t:SetTable}(h:Tk t n):t.fits n=true:=by
 unfold SetTable.fits SetTable.fill;rw[h.pl,h.dm]
 rcases h.ms with⟨e,l⟩|⟨e,l⟩ <;> rw[e] <;> simp <;> lia
theorem Tk.gw{t:SetTable}(h:Tk t n):t.gaveWay=false:=by
 unfold SetTable.gaveWay
 rcases h.ms with⟨e,_⟩|⟨e,_⟩ <;> rw[e] <;> rfl
theorem Tk.slot{t:SetTable}(h:Tk t n)(j:Nat):(t.slot j=.empty)\/∃i,t.slot j=.live i/\t.place[i]?=some j:=by
 unfold SetTable.slot;simp only;by_cases c:(t.place[below t.place j]? == some j)=true
 .rw[if_pos c];show .inr ⟨_,rfl,by simpa using c⟩
 .rw[if_neg c];show .inl ?_;rw[h.dm];rfl
theorem Tk.free{t:SetTable}(h:Tk t n):∃j,j<=t.mask/\t.slot j=.empty:=by
 have nm:n<t.mask+1:=by rcases h.ms with⟨e,l⟩|⟨e,l⟩ <;> lia
 by_cases c:∃j,j∈List.range (t.mask+1)/\j∉t.place.toList
 .obtain⟨j,h1,h2⟩:=c;show⟨j,by have:=AP_.mp h1;lia,?_⟩
  rcases h.slot j with e|⟨i,_,e⟩
  .show e
  .show absurd (by rw[<-Array.getElem?_toList]at e;show Ai_ e) h2
 .have:=RimT.gm_ (l:=List.range (t.mask+1)) (m:=t.place.toList) List.nodup_range λx hx=>CM_ λz=>c ⟨x,hx,z⟩;rw[Bc_,AS_,h.pl]at this;lia
theorem Tk.fr{t:SetTable}(h:Tk t n)(hs:Int):∃m,m<10*turns t.mask/\Fr t m (t.probeStart hs):=by obtain⟨j,hj,e⟩:=h.free;obtain⟨k,hk,ek⟩:=Lr_ h.ok (i:=bits hs%(t.mask+1)) (p:=bits hs) (Nat.lt_succ_iff.mp (Bw_ _ o_)) (n5_ hs) hj;show⟨10*k,by unfold turns;lia,?_⟩;show LB_ k (bits hs%(t.mask+1),bits hs) (by rw[ek];show e)
theorem pZ_{t:SetTable}{p:Probe}(h:p.dummy=none):(t.advance p).dummy=none:=by
 unfold advance;split
 .show h
 .show h
theorem Tk.go{t:SetTable}(h:Tk t n)(ha:Nat->Int)(hs:Int):∀(m f:Nat)(p:Probe),m<f->p.dummy=none->Fr t m p->(∃j,SetTable.probe.go t ha hs f p=some (.empty j none))\/∃j i nx k,SetTable.probe.go t ha hs f p=some (.candidate j i nx)/\t.slot j=.live i/\t.place[i]?=some j/\k<m/\Fr t k nx/\nx.dummy=none
 |m,0,p,hl,_,_=>absurd hl (Nat.not_lt_zero _)
 |m,f+1,p,hl,hd,hf=>by
  unfold SetTable.probe.go
  rcases h.slot p.j with e|⟨i,e,ep⟩
  .rw[e];show .inl ⟨p.j,by simp only;rw[hd]⟩
  .rw[e];simp only;cases m with
   |zero=>rw[show t.slot p.j=.empty from hf]at e;cases e
   |succ m =>
    rcases hf with hf|hf
    .rw[hf]at e;cases e
    .split
     .show .inr ⟨p.j,i,_,m,rfl,e,ep,Nat.lt_succ_self m,hf,pZ_ hd⟩
     .rcases h.go ha hs m f _ o_ (pZ_ hd) hf with⟨j,e2⟩|⟨j,i2,nx,k,e2,e3,e4,e5,e6,e7⟩
      .show .inl ⟨j,e2⟩
      .show .inr ⟨j,i2,nx,k,e2,e3,e4,o_,e6,e7⟩
theorem Tk.met{t:SetTable}(h:Tk t n){ha:Nat->Int}{hs:Int}{p:Probe}(hm:m<10*turns t.mask)(hd:p.dummy=none)(hf:Fr t m p){r:Option Met}(e:t.probe ha hs p=r):(∃j,r=some (.empty j none))\/∃j i nx k,r=some (.candidate j i nx)/\t.slot j=.live i/\t.place[i]?=some j/\k<m/\Fr t k nx/\nx.dummy=none:=by subst e;show h.go ha hs m _ p hm hd hf
def cnt(l:List (Option Nat)):Nat:=(l.filterMap id).length
theorem n6_:∀(l:List (Option Nat))(j k:Nat),l[j]?=some none->cnt (l.set j (some k))=cnt l+1
 |[],j,k,h=>by simp at h
 |x::l,0,k,h=>by
  obtain rfl:x=none:=by simpa using h
  simp[cnt]
 |x::l,j+1,k,h=>by have:=n6_ l j k (by simpa using h);unfold cnt at*;rw[CT_];cases x <;> simp[CH_] <;> simpa using this
theorem mt_:∀(l:List (Option Nat)),cnt l<l.length->∃j:Nat,l[j]?=some none
 |[],h=>absurd h (Nat.not_lt_zero _)
 |none::l,_=>⟨0,rfl⟩
 |some x::l,h=>by obtain⟨j,e⟩:=mt_ l (by unfold cnt at*;simp at h;simpa using h);show⟨j+1,e⟩
theorem n7_{o:Array (Option Nat)}{m:Nat}:∀(n f:Nat)(x:Nat×Nat),n<f->o.getD (lp m n x).1 (some 0)=none->∃r,SetTable.layClean.free m o f x.1 x.2=some r/\o.getD r (some 0)=none
 |n,0,x,hl,_=>absurd hl (Nat.not_lt_zero _)
 |n,f+1,x,hl,h=>by
  unfold SetTable.layClean.free;cases e:(List.range (runEnd m x.1+1-x.1)).find? λk=>(o.getD (x.1+k) (some 0)).isNone with
  |some k =>
   have:=List.find?_some e;show⟨_,rfl,by simpa using this⟩
  |none =>
   cases n with
   |zero =>
    have z:=List.find?_eq_none.mp e 0 (AP_.mpr (by unfold runEnd;split <;> lia));rw[Nat.add_zero,show o.getD x.1 (some 0)=none from h]at z;show absurd rfl z
   |succ n =>simp only;show n7_ n f (leap m x.1 x.2) o_ h
theorem getD_none{o:Array (Option Nat)}{r:Nat}(h:o.getD r (some 0)=none):r<o.size/\o.toList[r]?=some none:=by
 rw[Array.getD_eq_getD_getElem?]at h;cases e:o[r]? with
 |none=>rw[e]at h;cases h
 |some y =>rw[e]at h;obtain rfl:y=none:=h;show⟨(Array.getElem?_eq_some_iff.mp e).1,by rw[Array.getElem?_toList];show e⟩
theorem n8_:∀(hs:List Int)(o:Array (Option Nat))(k:Nat),o.size=32->cnt o.toList=k->(∀m,some m∈o.toList->m<k)->k+hs.length<=6->∃o',(hs.foldl (init:=some (o,k)) λacc h=>do
  let(owner,k) <-acc
  let j <-SetTable.layClean.free 31 owner (turns 31) (bits h%(31+1)) (bits h)
  pure (owner.setIfInBounds j (some k),k+1))=some (o',k+hs.length)/\o'.size=32/\cnt o'.toList=k+hs.length/\∀m,some m∈o'.toList->m<k+hs.length
 |[],o,k,h1,h2,h3,h4=>⟨o,rfl,h1,h2,h3⟩
 |h::hs,o,k,h1,h2,h3,h4=>by
  rw[AH_]at h4;obtain⟨j,ej⟩:=mt_ o.toList (by rw[h2,AS_,h1];lia);have jl:j<32:=by have:=(Ar_.mp ej).1;rw[AS_,h1]at this;show this
  obtain⟨n,hn,en⟩:=Lr_ (m:=31) (.inr rfl) (i:=bits h%(31+1)) (p:=bits h) (Nat.lt_succ_iff.mp (Bw_ _ o_)) (n5_ h) (j:=j) o_;obtain⟨r,e1,e2⟩:=n7_ (o:=o) (m:=31) n (turns 31) (bits h%(31+1),bits h) (by unfold turns;lia) (by rw[en,Array.getD_eq_getD_getElem?,<-Array.getElem?_toList,ej];rfl);obtain⟨rl,er⟩:=getD_none e2
  obtain⟨o',z1,z2,z3,z4⟩:=n8_ hs (o.setIfInBounds r (some k)) (k+1) (by rw[Array.size_setIfInBounds];show h1) (by rw[Array.toList_setIfInBounds,n6_ _ _ _ er,h2]) (λm hm=>by
   rw[Array.toList_setIfInBounds]at hm
   rcases CN_ hm with hm|hm
   .have:=h3 m hm;lia
   .cases hm;lia) o_
  show⟨o',?_,z2,by rw[z3,AH_];lia,λm hm=>by have:=z4 m hm;rw[AH_];lia⟩;rw[List.foldl_cons,AH_,show k+(hs.length+1)=k+1+hs.length by lia,<-z1];congr 1;change(SetTable.layClean.free 31 o (turns 31) (bits h%(31+1)) (bits h)).bind _=_;rw[e1];rfl
theorem n9_(l:List (Option Nat)):(List.range l.length).map (λj=>l.getD j none)=l:=by show CA_ s_ λi h1 h2=>?_;simp[Aa_,h2]
theorem oa_{t:SetTable}{hs:Array Int}(h:hs.size=5):∃t' od,t.relaid hs (grown 5)=some (t',od)/\Tk t' 5/\od.size=5/\∀i∈od.toList,i<5:=by
 obtain⟨o,z1,z2,z3,z4⟩:=n8_ hs.toList (Array.replicate 32 none) 0 d_ r_ (λm hm=>by simp at hm) (by rw[AS_,h];lia);have lc:SetTable.layClean 31 hs=some o:=by unfold SetTable.layClean;rw[<-Array.foldl_toList];rw[show(31+1:Nat)=32 from rfl]at z1⊢;rw[z1];rfl
 have l5:hs.toList.length=5:=by rw[AS_];show h
 rw[l5,Nat.zero_add]at z3 z4
 have live2:((List.range (31+1)).filterMap λj=>(o.getD j none).map (j,·)).map (·.2)=o.toList.filterMap id:=by
  rw[List.map_filterMap];have e:(λj=>Option.map (λx:Nat×Nat=>x.2) ((o.getD j none).map (j,·)))=λj=>id (o.toList.getD j none):=funext λj=>by rw[Option.map_map];change Option.map (λx=>x) _=_;rw[Option.map_id',Array.getD_eq_getD_getElem?,<-Array.getElem?_toList,Aa_];rfl
  rw[e];change List.filterMap (id ∘ λj=>o.toList.getD j none) _=_;rw[<-List.filterMap_map];congr 1;have:=n9_ o.toList;rw[AS_,z2]at this;show this
 have ll:((List.range (31+1)).filterMap λj=>(o.getD j none).map (j,·)).length=5:=by have:=congrArg List.length live2;rw[Ab_]at this;rw[this];show z3
 show⟨{mask:=31,place:=(((List.range (31+1)).filterMap λj=>(o.getD j none).map (j,·)).map (·.1)).toArray,dummies:=#[],finger:=t.finger,led:=t.led,moves:=t.movedTo 31,plain:=t.plain},(((List.range (31+1)).filterMap λj=>(o.getD j none).map (j,·)).map (·.2)).toArray,?_,⟨?_,rfl,.inr ⟨rfl,d_⟩⟩,?_,λi hi=>?_⟩
 .unfold relaid;rw[show sizeAbove (grown 5)-1=31 from by rfl'];unfold laid;rw[lc];rfl
 .simpa using ll
 .simpa using ll
 .have hi:i∈((List.range (31+1)).filterMap λj=>(o.getD j none).map (j,·)).map (·.2):=by simpa using hi
  rw[live2]at hi;obtain⟨x,hx,e⟩:=BD_.mp hi;cases x with
  |none=>cases e
  |some y=>cases e;show z4 _ hx
theorem Tk.put{t:SetTable}(h:Tk t n)(j:Nat):(t.put j).1.place.size=n+1/\(t.put j).1.dummies = #[]/\(t.put j).1.mask=t.mask:=by
 unfold SetTable.put;show⟨?_,?_,rfl⟩
 .change(insertAt t.place (below t.place j) j).size=_;have:=(SetTable.insertAt_perm t.place (below t.place j) j).length_eq;rw[AS_,AS_,Array.size_push,h.pl]at this;show this
 .change(if has t.dummies j then _ else t.dummies)=_;rw[h.dm];rfl
variable {P:Program}{E:Value->Shared->Prop}
theorem rW_{v:Value}(h:carriedByValue v=true):ofAClassStatement n v=pure false:=by
 cases v <;> first|(cases n <;> rfl)|cases h
variable{ks:List Key}{a:Addr}{Q:Bool->Shared->Prop}
theorem ob_(hk:(TK P w).is s.heap ks a)(h:Q false s):wpAny (model P w) A (ofAClassStatement 8 (.ref a)) Q E s:=by
 have hT:=IsTupleKey.typeIs hk;obtain⟨o,items,n,ho,_,hd,hi⟩:=hk;unfold ofAClassStatement;show Ae_ (Do_ hT ?_)
 dsimp only
 rw[if_pos d_];show Ae_ (Ao_ ?_);rw[if_neg d_];change wpAny _ _ (seqItems? (.ref a) >>= _) _ _ s;show Ae_ (Cr_ ho hd ?_);change wpAny _ _ (forIn items _ _ >>= _) _ _ s;show Ae_ ?_;rw[<-Array.forIn_toList];show wpAny_forIn_list _ (λrest r s'=>r.1=none/\s'=s/\∀v∈rest,carriedByValue v=true) _ ?_ ?_ _ _ ⟨rfl,rfl,hi.byValue⟩
 .rintro v rest r s' ⟨hr,rfl,hall⟩;rw[rW_ (hall v Ah_)];show Ae_ (Ao_ ?_);rw[if_neg d_];show Ao_ ⟨rfl,rfl,λu hu'=>hall u (Ag_ _ hu')⟩
 .rintro⟨r1,r2⟩ s' ⟨hr,rfl,_⟩;simp only at hr;subst hr;show Ao_ h
theorem qI_{v:Value}(h:carriedByValue v=true):∃b,hashByValue n v=pure b:=by
 cases v <;> first|(cases n <;> show⟨_,rfl⟩)|cases h
theorem qJ_(hk:(TK P w).is s.heap ks a)(h:∀b,Q b s):wpAny (model P w) A (hashByValue 8 (.ref a)) Q E s:=by
 have hT:=IsTupleKey.typeIs hk;obtain⟨o,items,n,ho,_,hd,hi⟩:=hk;unfold hashByValue;show Ae_ (wpAny_specialOf hT F.slot_tuple_hash.lookup ?_);change wpAny _ _ (seqItems? (.ref a) >>= _) _ _ s;show Ae_ (Cr_ ho hd ?_);change wpAny _ _ (forIn items _ _ >>= _) _ _ s;show Ae_ ?_;rw[<-Array.forIn_toList];show wpAny_forIn_list _ (λrest r s'=>r.1=none/\s'=s/\∀v∈rest,carriedByValue v=true) _ ?_ ?_ _ _ ⟨rfl,rfl,hi.byValue⟩
 .rintro v rest r s' ⟨hr,rfl,hall⟩;obtain⟨b,eb⟩:=qI_ (n:=7) (hall v Ah_);rw[eb];show Ae_ (Ao_ ?_);cases b
  .rw[if_pos d_];show Ao_ (Ao_ (h false))
  .rw[if_neg d_];show Ao_ ⟨rfl,rfl,λu hu'=>hall u (Ag_ _ hu')⟩
 .rintro⟨r1,r2⟩ s' ⟨hr,rfl,_⟩;simp only at hr;subst hr;show Ao_ (h true)
theorem pf_{vs:List Value}(hk:(TK P w).is s.heap ks a)(hv:∀v∈vs,∃k b,v=Value.ref b/\(TK P w).is s.heap k b)(h:Q false s):wpAny (model P w) A (searchCouldBeSeen (.ref a) vs) Q E s:=by
 unfold searchCouldBeSeen;show Ae_ ?_;show wpAny_forIn_list _ (λrest r s'=>s'=s/\r.1=none/\∀v∈rest,∃k b,v=Value.ref b/\(TK P w).is s.heap k b) _ ?_ ?_ _ _ ⟨rfl,rfl,hv⟩
 .rintro x rest r s' ⟨rfl,hr,hrest⟩;obtain⟨k',b,rfl,hb⟩:=hrest x Ah_;have keep:∀v∈rest,∃k b,v=Value.ref b/\(TK P w).is s'.heap k b:=λv hv=>hrest v (Ag_ _ hv)
  have fin:wpAny (model P w) A (pure (ForInStep.yield ((none:Option Bool),()))) (λr s'_1=>match r with
   |ForInStep.yield b'=>s'_1=s'/\b'.fst=none/\∀v∈rest,∃k b,v=Value.ref b/\(TK P w).is s'.heap k b
   |ForInStep.done b'=>wpAny (model P w) A (match b'.fst with
     |some r=>pure r
     |none=>pure false) Q E s'_1) E s':=Ao_ ⟨rfl,rfl,keep⟩
  dsimp only
  split
  .show fin
  .show Ae_ ((TK P w).quiet hk ?_);rw[if_neg d_];show Ae_ ((TK P w).quiet hb ?_);rw[if_neg d_];show Ae_ (ob_ hk ?_);rw[if_neg d_];show Ae_ (ob_ hb ?_);rw[if_neg d_];show fin
 .rintro⟨r1,r2⟩ s' ⟨rfl,hr,_⟩;simp only at hr;subst hr;show Ao_ h
theorem rX_{α:Type}{c:Prop}[Decidable c]{m:Sem Bool}{u:Sem Unit}{K:Sem α}{Q:α->Shared->Prop}(hK:wpAny (model P w) A K Q E s)(hm:∀Q':Bool->Shared->Prop,Q' false s->wpAny (model P w) A m Q' E s):wpAny (model P w) A (if c then m >>= λb=>if b=true then u >>= λ_=>K else K else K) Q E s:=by
 split
 .show Ae_ (hm _ ?_);rw[if_neg d_];show hK
 .show hK
def EsP(P:Program)(w:World)(h:Heap)(es:Array (Int×Value))(ks:List (List Key)):Prop:=∀e∈es.toList,∃k b,e.2=Value.ref b/\k∈ks/\(TK P w).is h k b
theorem kE_{a x:Addr}{o:Obj}{es:Array (Int×Value)}{ep:Nat}{t:SetTable}{ks:List (List Key)}{kx:List Key}{hs:Int}{Q:SetFound->Shared->Prop}(hu:A.units<cLine)(ho:s.heap.get? a=some o)(hd:o.data=.set es ep t)(tk:Tk t es.size)(hes:EsP P w s.heap es ks)(hx:(TK P w).is s.heap kx x)
  (h1:(∃e∈es.toList,∃b,e.2=Value.ref b/\(TK P w).is s.heap kx b)->Q (.there none) s) (h2:∀j,Q (.free j false) s):
  ∀(m f:Nat)(st:Option SetTable.Probe),m<f->m<10*SetTable.turns t.mask->(st.getD (t.probeStart hs)).dummy=none->Fr t m (st.getD (t.probeStart hs))->wpAny (model P w) A (setSearchFrom a (.ref x) hs true f st) Q E s
 |m,0,st,hl,_,_,_=>absurd hl (Nat.not_lt_zero _)
 |m,f+1,st,hl,hm,hdm,hf=>by
  unfold setSearchFrom;show Ae_ (wpAny_setState_of ho hd tk.fits ?_)
  dsimp only
  rw[tk.gw,if_neg d_];generalize st.getD (t.probeStart hs)=p at*;generalize hr:SetTable.probe t _ hs p=r
  rcases tk.met hm hdm hf hr with⟨j,rfl⟩|⟨j,i,nx,k,rfl,e3,e4,e5,e6,e7⟩
  .show Ao_ (h2 j)
  .have hi:i<es.size:=by rw[<-tk.pl];show(Array.getElem?_eq_some_iff.mp e4).1
   obtain⟨ky,b,eb,hky,hyb⟩:=hes es[i] s_;have ei:es[i]?=some (es[i].1,.ref b):=by rw[Array.getElem?_eq_getElem hi,<-eb]
   dsimp only
   rw[ei];show rX_ ?_ λQ' q=>pf_ hx (λv hv=>?_) q
   rotate_left
   .obtain⟨e,he,rfl⟩:=Aj_.mp hv;have he:e∈es.toList:=by have:=(Array.mem_filter.mp (Array.mem_toList_iff.mp he)).1;show Array.mem_toList_iff.mpr this
    obtain⟨k,b,z1,_,z2⟩:=hes e he;show⟨k,b,z1,z2⟩
   dsimp only
   show Ae_ (A2_ ((TK P w).eqBool hu hyb hx ?_));show Ae_ (wpAny_setState_of ho hd tk.fits ?_);by_cases c:ky=kx
   .rw[BQ_ c];subst c;show Ao_ (h1 ⟨es[i],s_,b,eb,hyb⟩)
   .rw[Bf_ c]
    dsimp only
    rw[if_neg d_];have sm:t.sameMemory t.moves t.mask=some true:=by unfold SetTable.sameMemory;rw[if_pos s_]
    rw[sm]
    dsimp only
    rw[if_pos rfl,e3]
    dsimp only
    rw[ei]
    dsimp only
    show Ae_ (wpAny_isSame_ref_self ?_);show Ae_ (Ao_ ?_);rw[if_pos rfl]
    dsimp only
    rw[if_neg d_];show kE_ hu ho hd tk hes hx h1 h2 k f (some nx) o_ o_ e7 e6
def Jr_(P:Program)(w:World)(h:Heap)(a:Addr)(ks:List (List Key)):Prop :=
 ∃o es ep t,h.get? a=some o/\o.ExactSet/\o.data=.set es ep t/\Tk t es.size/\es.size<=ks.length/\EsP P w h es ks/\(es.size=0->ks=[])/\(es.size=1->∀k∈ks,∀k'∈ks,k=k')
theorem EsP.mono{es:Array (Int×Value)}{ks:List (List Key)}{o:Obj}{es0 ep t} (e:EsP P w h es ks) (ho:h.get? a=some o) (hd:o.data=.set es0 ep t) (sb:Heap.SameBut a h h'):EsP P w h' es ks:=λx hx=>by obtain⟨k,b,e1,e2,e3⟩:=e x hx;show⟨k,b,e1,e2,jx_ e3 λo' ho'=>(sb.2 b λc=>?_).trans ho'⟩;subst c;obtain⟨o2,its,n,z1,z2,z3,_⟩:=e3;cases z1.symm.trans ho;rw[hd]at z3;cases z3
theorem pg_{a:Addr}{o:Obj}{es:Array (Int×Value)}{ep:Nat}{t:SetTable}{Q:Unit->Shared->Prop}(ho:s.heap.get? a=some o)(hd:o.data=.set es ep t)(hf:t.fits es.size=true)(h5:es.size=5)
  (h:∀es' t',Tk t' es'.size->es'.size=5->(∀e∈es'.toList,e∈es.toList)->Q () {s with heap:=s.heap.update a (Obj.putSet es' t')}):wpAny (model P w) A (setRelay a (SetTable.grown 5)) Q E s:=by
 unfold setRelay;show Ae_ (wpAny_setState_of ho hd hf ?_)
 dsimp only
 rw[if_neg (by rw[BT_];decide +kernel)];obtain⟨t',od,e1,e2,e3,e4⟩:=oa_ (t:=t) (hs:=es.map (·.1)) (by rw[Array.size_map];show h5);rw[e1]
 have fm:∀l:List Nat,(∀i∈l,i<5)->(l.filterMap λi=>es[i]?).length=l.length:=λl=>by
  induction l with
  |nil=>show λ_=>rfl
  |cons i l ih =>intro hl;have hi:=hl i Ah_;rw[List.filterMap_cons_some (b:=es[i]'o_) (Array.getElem?_eq_getElem _),AH_,AH_,ih λj hj=>hl j (Ag_ _ hj)]
 have sz:(od.filterMap (es[·]?)).size=5:=by rw[<-AS_,Array.toList_filterMap,fm _ e4,AS_,e3]
 show Ae_ ?_;change wpAny _ _ (if((od.filterMap (es[·]?)).size != es.size)=true then _ else pure (od.filterMap (es[·]?),t')) _ _ s;rw[if_neg (by rw[sz,h5];decide)];show Ao_ ?_;show wpAny_storeSet_of ho hd (h _ _ (by rw[sz];show e2) sz λe he=>?_) (by rw[sz,BT_];decide);rw[Array.toList_filterMap]at he;obtain⟨i,_,ei⟩:=BD_.mp he;rw[<-Array.getElem?_toList]at ei;show Ai_ ei
theorem p0_{o:Obj}{es:Array (Int×Value)}{ep:Nat}{t:SetTable}(ho:h.get? a=some o)(hd:o.data=.set es ep t)(es':Array (Int×Value))(t':SetTable):(h.update a (Obj.putSet es' t')).get? a=some {o with data:=.set es' (ep+1) t'}:=by have:=Heap.get?_update_self (Obj.putSet es' t') ho (by rw[putSet_of es' t' hd];rfl);rw[putSet_of es' t' hd]at this;show this
theorem rY_{a x:Addr}{ks:List (List Key)}{kx:List Key}{hs:Int}{Q:Bool->Shared->Prop}(hu:A.units<cLine)(hS:Jr_ P w s.heap a ks)(hl:ks.length<=5)(hx:(TK P w).is s.heap kx x)
  (h:∀b h',Heap.SameBut a s.heap h'->Jr_ P w h' a (ks++[kx])->Q b {s with heap:=h'}):wpAny (model P w) A (setAddHashed a (.ref x) hs) Q E s:=by
 obtain⟨o,es,ep,t,ho,hex,hd,tk,le,hes,z0,z1⟩:=hS;have hes':EsP P w s.heap es (ks++[kx]):=λe he=>let⟨k,b,e1,e2,e3⟩:=hes e he;⟨k,b,e1,Bd_ _ e2,e3⟩;unfold setAddHashed setAddHashedIn;show A2_ (Ae_ (wpAny_setState_of ho hd tk.fits ?_))
 dsimp only
 rw[if_neg (by unfold byScan;simp[Value.scannable])];unfold setSearch;obtain⟨m,hm,fr⟩:=tk.fr hs
 have hm2:m<100000:=by
  have:10*SetTable.turns t.mask<=460:=by
   unfold SetTable.turns
   rcases tk.ms with⟨e,_⟩|⟨e,_⟩ <;> rw[e] <;> decide
  lia
 show Ae_ (kE_ hu ho hd tk hes hx (λhfound=>?_) (λj=>?_) m 100000 none hm2 hm rfl fr)
 .obtain⟨e,he,b,eb,hb⟩:=hfound;obtain⟨ke,b',eb',hke,hkb⟩:=hes e he;cases eb.symm.trans eb';have kk:ke=kx:=(TK P w).inj hkb hb;subst kk;show Ao_ (show Q false {s with heap:=s.heap}from h _ _ (Heap.SameBut.refl _ _) ⟨o,es,ep,t,ho,hex,hd,tk,by rw[At_];lia,hes',λc=>?_,λc k hk k' hk'=>?_⟩)
  .rw[z0 c]at hke;cases hke
  .have al:∀q∈ks++[ke],q=ke:=λq hq=>by
    rcases AB_.mp hq with hq|hq
    .show z1 c q hq ke hke
    .show An_.mp hq
   rw[al k hk,al k' hk']
 .dsimp only
  show Ae_ (wpAny_setState_of ho hd tk.fits ?_)
  dsimp only
  have pt:=tk.put j;generalize hp:t.put j=tp at*;obtain⟨t1,p⟩:=tp
  dsimp only at pt⊢
  have sz:(SetTable.insertAt es p (hs,Value.ref x)).size=es.size+1:=by have:=(SetTable.insertAt_perm es p (hs,Value.ref x)).length_eq;rw[AS_,AS_,Array.size_push]at this;show this
  have mem:∀e∈(SetTable.insertAt es p (hs,Value.ref x)).toList,e∈es.toList\/e=(hs,Value.ref x):=λe he=>by
   have:=(SetTable.insertAt_perm es p (hs,Value.ref x)).mem_iff.mp he;rw[Array.toList_push]at this
   rcases AB_.mp this with h|h
   .show .inl h
   .show .inr (An_.mp h)
  generalize SetTable.insertAt es p (hs,Value.ref x)=es1 at*
  have hes1:EsP P w s.heap es1 (ks++[kx]):=λe he=>by
   rcases mem e he with h|rfl
   .show hes' e h
   .show⟨kx,x,rfl,AI_ _ Ah_,hx⟩
  have one:es1.size=1->∀k∈ks++[kx],∀k'∈ks++[kx],k=k':=λc k hk k' hk'=>by have:=z0 o_;rw[this]at hk hk';rw[An_.mp hk,An_.mp hk']
  have tail:∀t2:SetTable,t2.place=t1.place->t2.dummies=t1.dummies->t2.mask=t1.mask->wpAny (model P w) A (do
    storeSet a es1 t2
    if(!false && t2.tooFull)=true then do
     setRelay a (SetTable.grown (es.size+1))
     pure true
    else pure true) Q E s:=λt2 p1 p2 p3=>by
   have n6:es1.size<=sizeLine:=by rw[sz,BT_];lia
   show Ae_ (wpAny_storeSet_of ho hd ?_ n6);have ho1:=p0_ ho hd es1 t2;have sb1:=B3_ s.heap a (Obj.putSet es1 t2);have pl2:t2.place.size=es1.size:=by rw[p1,pt.1,sz]
   have dm2:t2.dummies = #[]:=by rw[p2,pt.2.1]
   have mk2:t2.mask=t.mask:=by rw[p3,pt.2.2]
   have fits2:t2.fits es1.size=true:=by
    unfold SetTable.fits SetTable.fill;rw[pl2,dm2,mk2,sz]
    rcases tk.ms with⟨e,l⟩|⟨e,l⟩ <;> rw[e] <;> simp <;> lia
   split
   .rename_i full
    have f5:es1.size=5:=by
     have:t2.tooFull=true:=by simpa using full
     unfold SetTable.tooFull SetTable.fill at this;rw[pl2,dm2,mk2,sz]at this;have:=Bb_ this
     rcases tk.ms with⟨e,l⟩|⟨e,l⟩ <;> rw[e]at this <;> simp at this <;> lia
    have e4:es.size+1=5:=o_
    rw[e4];show Ae_ (pg_ ho1 rfl fits2 f5 λes2 t3 tk3 s5 mem3=>?_);have sb2:=sb1.trans (B3_ (s.heap.update a (Obj.putSet es1 t2)) a (Obj.putSet es2 t3));show Ao_ (h _ _ sb2 ⟨_,es2,ep+1+1,t3,p0_ ho1 rfl es2 t3,hex,rfl,tk3,by rw[At_];change es2.size<=ks.length+1;lia,EsP.mono (λe he=>hes1 e (mem3 e he)) ho hd sb2,λc=>o_,λc=>o_⟩)
   .rename_i full;show Ao_ (h _ _ sb1 ⟨_,es1,ep+1,t2,ho1,hex,rfl,⟨pl2,dm2,?_⟩,by rw[At_];change es1.size<=ks.length+1;lia,EsP.mono hes1 ho hd sb1,λc=>o_,one⟩);rw[mk2]
    rcases tk.ms with⟨e,l⟩|⟨e,l⟩
    .show .inl ⟨e,?_⟩;have:¬ t2.tooFull=true:=by simpa using full
     unfold SetTable.tooFull SetTable.fill at this;rw[pl2,dm2,mk2,e]at this;have:=λc=>this (BQ_ c);simp at this;lia
    .show .inr ⟨e,o_⟩
  split
  .show Ae_ (qJ_ hx λb=>?_);cases b
   .show tail _ rfl rfl rfl
   .show tail _ rfl rfl rfl
  .show Ae_ (Ao_ ?_);show tail _ rfl rfl rfl
theorem Jr_.keep{ks:List (List Key)}(e:Jr_ prog w h a ks)(k:∀b o,h.get? b=some o->(b=a\/∃k,(TK prog w).is h k b)->h'.get? b=some o):Jr_ prog w h' a ks:=by obtain⟨o,es,ep,t,ho,g1,g2,g3,g4,g5,g6⟩:=e;show⟨o,es,ep,t,k _ _ ho (.inl rfl),g1,g2,g3,g4,λx hx=>?_,g6⟩;obtain⟨q,b,e1,e2,e3⟩:=g5 x hx;show⟨q,b,e1,e2,jx_ e3 λo' ho'=>k _ _ ho' (.inr ⟨q,e3⟩)⟩
theorem fP_{S it p:Addr}{its:List Value}{ks:List (List Key)}{h0:Heap}(hu:A.units+1<cLine)(hh:A.handled=none)(hSi:S≠it)(hp:h0.IsList p its.toArray)(hpi:p≠it)(hpS:p≠S)(hz:its.length=ks.length)(hb:ks.length<=6)
  (hv:∀(m:Nat)(v:Value),its[m]?=some v->∃k q,ks[m]?=some k/\v=.ref q/\(TK prog w).is h0 k q/\q≠it/\q≠S):
  ∀(k i:Nat)(s:Shared),ks.length=i+k->s.heap.IsListIter it p i->Jr_ prog w s.heap S (ks.take i) ->
   (∀b o,b≠it->b≠S->h0.get? b=some o->s.heap.get? b=some o) ->
   (∀h' tk,(∀b o,b≠it->b≠S->h0.get? b=some o->h'.get? b=some o)->Jr_ prog w h' S ks->R (.ok (.ret .none)) {s with heap:=h',toks:=tk}) ->
   codeAny (model prog w) A (.builtin "set.update.loop" ⟨[.ref S,.ref it],[]⟩) R s
 |0,i,s,hk,hi,hS,kp,hR=>by
  obtain⟨op,hop,hpr⟩:=id hp;have hp':s.heap.IsList p its.toArray:=⟨op,kp p op hpi hpS hop,hpr⟩;show BW_ PyProof.Rows.F.entry_set_update_loop ?_;rw[BL_ PyProof.Rows.F.plain_set_update_loop _];change wpAny _ A.in1 (pyNext (Value.ref it) >>= _) _ _ s;have hit':=id hi;obtain⟨oi,hoi,hcl,hdt⟩:=hit';show Ae_ (C8_ hh hi hp' (C1_ (by simp;lia)) λh' eb=>?_);change wpAny _ A.in1 (ret Value.none) _ _ _;have et:ks.take i=ks:=AR_ o_;rw[et]at hS;show Ao_ (hR h' s.toks (λb o h1 h2 e=>eb b o h1 (kp b o h1 h2 e)) (hS.keep λb o hb hc=>eb b o (λc=>?_) hb))
  rcases hc with rfl|⟨k,z⟩
  .show hSi c
  .subst c;obtain⟨o2,_,_,y1,y2,y3,_⟩:=z;cases y1.symm.trans hoi;rw[hdt]at y3;cases y3
 |k+1,i,s,hk,hi,hS,kp,hR=>by
  obtain⟨op,hop,hpr⟩:=id hp;have hp':s.heap.IsList p its.toArray:=⟨op,kp p op hpi hpS hop,hpr⟩;have hit:i<its.length:=o_
  have e1:its.toArray[i]?=some its[i]:=by simp[hit]
  obtain⟨t,q,ht,er,tq,q1,q2⟩:=hv i its[i] (Ac_ hit);show BW_ PyProof.Rows.F.entry_set_update_loop ?_;rw[BL_ PyProof.Rows.F.plain_set_update_loop _];change wpAny _ A.in1 (pyNext (Value.ref it) >>= _) _ _ s;show Ae_ (CZ_ hi hp' e1 λh1 hi1 sb=>?_);rw[er];change wpAny _ A.in1 (holding [Value.ref q] (setAdd S (Value.ref q)) >>= _) _ _ _;show Ae_ (A2_ ?_);unfold setAdd;show A2_ ?_;have tq1:(TK prog w).is h1 t q:=jx_ tq λo e=>(sb.2 q q1).trans (kp q o q1 q2 e);show Ae_ ((TK prog w).pyHash (s:={s with heap:=h1}) (show A.in1.units<cLine from hu) tq1 ?_)
  have hS1:Jr_ prog w h1 S (ks.take i):=hS.keep λb o hb hc=>(sb.2 b λc=>by
   rcases hc with rfl|⟨k,z⟩
   .show hSi c
   .subst c;obtain⟨oi,hoi,hcl,hdt⟩:=hi;obtain⟨o2,_,_,y1,y2,y3,_⟩:=z;cases y1.symm.trans hoi;rw[hdt]at y3;cases y3).trans hb
  show rY_ (s:={s with heap:=h1,toks:=s.toks+(TK prog w).draws t}) (show A.in1.units<cLine from hu) hS1 (by rw[AZ_];lia) tq1 λbb h2 sb2 hS2=>?_;have tk:ks.take (i+1)=ks.take i++[t]:=by rw[Bn_,ht];rfl
  rw[<-tk]at hS2;show Ao_ ⟨C4_ PyProof.Rows.F.plain_set_update_loop _,fP_ hu hh hSi hp hpi hpS hz hb hv k (i+1) {s with heap:=h2,toks:=s.toks+(TK prog w).draws t} o_ ?_ hS2 (λb o h1' h2' e=>?_) λh' tk' k3 hS3=>?_⟩
  .obtain⟨oi,hoi,hir⟩:=hi1;show⟨oi,(sb2.2 it (Ne.symm hSi)).trans hoi,hir⟩
  .show(sb2.2 b h2').trans ((sb.2 b h1').trans (kp b o h1' h2' e))
  .show hR h' tk' k3 hS3
theorem oc_{led:Bool}(ho:h.get? a=some (GX_ led)):Jr_ prog w h a [] :=
 ⟨GX_ led,#[],0,.fresh 0 0 led,ho,⟨rfl,rfl,rfl⟩,rfl,⟨rfl,rfl,.inl ⟨rfl,d_⟩⟩,Af_ _,λe he=>absurd he Ba_,λ_=>rfl,λc=>nomatch c⟩
def kP(p:Int×Int):List Key:=[.inl p.1,.inl p.2]
theorem rZ_{p q:Int×Int}(h:kP p=kP q):p=q:=by
 unfold kP at h;injection h with h1 h2
 injection h2 with h2 _
 show BC_ (Sum.inl.inj h1) (Sum.inl.inj h2)
def K3_:List V->Hp->VK->Prop:=λvs H Q=>∃(p:Addr)(xs:List V)(ps:List (Int×Int)),vs=[.ref p]/\H p=some (.lst xs)/\xs.length=ps.length/\ps.length<=6/\(∀(i:Nat)(x:V),xs[i]?=some x->∃q z,ps[i]?=some z/\x=.ref q/\H q=some (.tup [.int z.1,.int z.2]))/\∀(a:Addr)(n:Nat),H a=none->(n=1->∀x∈ps,∀y∈ps,x=y)->Q (.ref a) (upd H a (SzO a n))
theorem od_(hu:X.A.units+64<cLine)(hc:X.calm=true):Gz_ X (.type "set") K3_:=by
 intro pins s σ H xs us Q I r h;obtain⟨p,xs,ps,rfl,hp,hxl,h6,hel,q⟩:=h;obtain⟨u,rfl,e⟩:=G0_ r;cases e;obtain⟨z,its,n,rv,hl,ho⟩:=I.lstM hp;have hl':its.length=(ps.map kP).length:=by rw[<-hl,Ab_,hxl]
 have hh:=I.ok.hd hc;obtain⟨c,tl,hmro⟩:=F.called_set.mro;have m1:=F.called_set.made;have m2:=F.called_set.sub;have m3:=F.called_set.notType;have m4:=F.called_set.canCreate;have m5:=F.typeCall_set_1 (.ref p);show wpAny_call (codeAny_of_tree ?_);change wpAny _ _ (callAny (Value.type "set") _) _ _ _;show Ao_ ⟨Code.quiet_builtin _ r_,BW_ F.entry_type_call ?_⟩;rw[Around.under_plain (weight_type_call_type "set" [Value.ref p] []) rfl]
 repeat (any_goals first|assumption|wp_step)
 show Dg_ (code_set_new_1 (.ref p) (E:=X.xe) (Q₁:=λob s₁=>∃led:Bool,ob=.ref s.heap.objs.size/\s₁={s with heap:=s.heap.push (GX_ led)}) λled=>⟨led,rfl,rfl⟩) λres s₁ hres=>?_;cases res with
 |error e=>show hres
 |ok fl =>
  cases fl with
  |next=>show hres.elim
  |brk=>show hres.elim
  |cont=>show hres.elim
  |ret ob =>
   obtain⟨led,rfl,rfl⟩:=hres;have hS:(s.heap.push (GX_ led)).get? s.heap.objs.size=some (GX_ led):=AA_ _ rfl;have hT:Shared.TypeIs {s with heap:=s.heap.push (GX_ led)} (.ref s.heap.objs.size) "set" := ⟨_,hS,rfl⟩;have i1:=F.called_set.init.lookup;have i2:=F.called_set.init.bind (.ref s.heap.objs.size)
   repeat (any_goals first|assumption|wp_step)
   show Dg_ (codeAny_call_builtin (R:=wants (λr s₂=>r=.none/\∃h' tk,s₂={s with heap:=h',toks:=tk}/\Jr_ X.prog X.w h' s.heap.objs.size (ps.map kP)/\(∀b o,s.heap.get? b=some o->h'.get? b=some o)) X.xe) F.called_set.init.plain F.entry_set_init (check_set_init_1 hT ?_)) λr₂ s₂ hr₂=>?_
   .have ho':(s.heap.push (GX_ led)).get? p=some {cls:=.type "list",data:=.seq its.toArray n}:=Al_ _ ho;have n1:=F.sub_list_set;have n2:=F.sub_list_frozenset;have n3:(Value.type "list"== Value.type "dict")=false:=d_
    have hl1:(s.heap.push (GX_ led)).IsList p its.toArray:=⟨_,ho',rfl,n,rfl⟩;unfold Builtin.«set.__init__» noKeywords Builtin.Frozenset.updateFrom;generalize hPI:pyIter=PI
    wp_walk
    subst hPI;show wpAny_pyIter_list hl1 ?_;show Ae_ (wpAny_runValue ?_);have psz:p<s.heap.objs.size:=Ap_ ho;have hsz:(s.heap.push (GX_ led)).objs.size=s.heap.objs.size+1:=BY_ _ _;have nb:∀{b:Addr}{o:Obj},s.heap.get? b=some o->b≠(s.heap.push (GX_ led)).objs.size/\b≠s.heap.objs.size:=λe=>by have:=Ap_ e;rw[hsz];show⟨AE_ (Bx_ this),AE_ this⟩
    show fP_ (A:=X.A.in1.in1) (h0:=s.heap) (its:=its) (ks:=ps.map kP) (show X.A.units+1+1+1<cLine by lia) (show X.A.in1.in1.handled=none from hh) (by rw[hsz];show AE_ (Nat.lt_succ_self _)) ⟨_,ho,rfl,n,rfl⟩ (nb ho).1 (nb ho).2 hl' (by rw[Ab_];show h6) (λm v hv=>?_) (ps.map kP).length 0 _ o_ ?_ ?_ ?_ λh' tk k3 hS3=>?_
    .have hm:m<ps.length:=by have:=(Ar_.mp hv).1;rw[hl',Ab_]at this;show this
     obtain⟨qa,z,hz,ex,hq⟩:=hel m (xs[m]'o_) (Ac_ _);obtain⟨w',hw,rw'⟩:=rv.get (i:=m) (x:=.ref qa) (by rw[Ac_ o_,ex]);rw[hv]at hw;cases hw;cases rw';have kq:(TK X.prog X.w).is s.heap (kP z) qa:=iS_ I.hok hq;obtain⟨oq,_,_,hoq,_⟩:=id kq;show⟨kP z,qa,by rw[Ad_,hz];rfl,rfl,kq,(nb hoq).1,(nb hoq).2⟩
    .show⟨_,AA_ _ rfl,rfl,rfl⟩
    .show oc_ (Al_ _ hS)
    .show λb o b1 b2 e=>Al_ _ (Al_ _ e)
    .show Ao_ ?_;change wpAny _ _ (ret Value.none) _ _ _;show Ao_ ⟨rfl,h',tk,rfl,hS3,λb o e=>k3 b o (nb e).1 (nb e).2 e⟩
   .cases r₂ with
    |error e=>show hr₂
    |ok fl₂ =>
     cases fl₂ with
     |next=>show hr₂.elim
     |brk=>show hr₂.elim
     |cont=>show hr₂.elim
     |ret r =>
      obtain⟨rfl,h',tk,rfl,hS',hk'⟩:=hr₂
      repeat (any_goals first|assumption|wp_step)
      obtain⟨o,es,ep,t,g1,g2,g3,g4,g5,_,_,g8⟩:=hS';have fr:=I.hok.fresh (Af_ s.heap.objs.size);have sm:es.size<scanBound:=by rw[Ab_]at g5;unfold scanBound;lia
      show⟨.ref _,_,I.laid (a:=s.heap.objs.size) (o:=SzO s.heap.objs.size es.size) (t':=tk) hk' (Af_ _) ⟨⟨o,es,ep,t,g1,g2,g3,g4.fits,rfl,sm⟩,⟨o,g1⟩,λh1 h2 ⟨o',es',ep',t',f1,f2⟩ k=>⟨o',es',ep',t',k _ f1,f2⟩⟩,rfl,q _ _ fr λe x hx y hy=>rZ_ (g8 e _ (Aj_.mpr ⟨x,hx,rfl⟩) _ (Aj_.mpr ⟨y,hy,rfl⟩))⟩
def Ko_:V->List V->Hp->VK->Prop:=λx vs H Q=>∃(l:Addr)(xs:List Str)(t:Str)(j:Nat),x=.ref l/\vs=[.str t]/\H l=some (.lst (xs.map V.str))/\xs.length<=1000/\xs[j]?=some t/\(∀m,m<j->xs[m]?≠some t)/\Q (.int j) H
def KL_(t u:TS):TS:=λD σ H=>∀kk:St->Hp->Prop,(∀σ' H',u D σ' H'->kk σ' H')->t {D with nx:=kk} σ H
theorem ar_{st:Stmt}{rest:List Stmt}{t u:TS}(h1:PS X st t)(h2:PSs X rest u):PSs X (st::rest) (KL_ t u):=λpins s σ H D I h=>ad_ h1 h2 pins s σ H D I (h (u D) λ_ _ q=>q)
theorem qK_{t u:TS}{D:HT_}(h:∀kk:St->Hp->Prop,(∀σ' H',u D σ' H'->kk σ' H')->t {D with nx:=kk} σ H):KL_ t u D σ H:=h
theorem r0_{kk u:St->Hp->Prop}(h:∀σ' H',u σ' H'->kk σ' H')(q:u σ H):kk σ H:=h _ _ q
theorem Mq_{A G:Prop}(h:A->G)(a:A):G:=h a
variable{K:PySem.W.Frag}
theorem p1_{CX:CXT}{mg:Str->Option Value}{base:Heap}{N:List Str}{q:Str}{sc:Scope}{f:Addr}{cd:Value}{o:List Env}{E:XK}:(J3_ CX P w K mg base N q sc f cd A o s H E).K=K:=rfl
abbrev SHP:=St->Hp->Prop
theorem kF_{lo:Int}{n:Nat}{g:TG}{tb:TS}{nx bk ct:SHP}{rt:VK}{σ:St}{H:Hp}(Pv:Nat->St->Hp->Prop)(h0:Pv 0 σ H)
  (hs:∀(i:Nat) σ H,i<n->∀(kk kb:SHP),(∀σ' H',Pv (i+1) σ' H'->kk σ' H')->(∀σ' H',nx σ' H'->kb σ' H')->∀G:Prop,((g (.int (lo+i)) σ H λσ2 H2=>tb ⟨kk,rt,kb,kk⟩ σ2 H2)->G)->Pv i σ H->G) (hd:∀σ H,Pv n σ H->nx σ H):HN_ (Itr lo n) g tb ⟨nx,rt,bk,ct⟩ σ H :=
 b4_ Pv h0 (λi σ H hi p=>hs i σ H hi _ _ (λ_ _ q=>q) (λ_ _ q=>q) _ id p) hd
theorem jy_{K:PySem.W.Frag}{a:Addr}{xs:List V}{g:TG}{tb:TS}{nx bk ct:SHP}{rt:VK}{σ:St}{H:Hp}(Pv:Nat->St->Hp->Prop)(h0:Pv 0 σ H)(hl:∀i σ H,i<=xs.length->Pv i σ H->SqL K H a xs)
  (hs:∀(i:Nat) x σ H,xs[i]?=some x->∀(kk kb:SHP),(∀σ' H',Pv (i+1) σ' H'->kk σ' H')->(∀σ' H',nx σ' H'->kb σ' H')->∀G:Prop,((g x σ H λσ2 H2=>tb ⟨kk,rt,kb,kk⟩ σ2 H2)->G)->Pv i σ H->G) (hd:∀σ H,Pv xs.length σ H->nx σ H):HN_ (Itl K a) g tb ⟨nx,rt,bk,ct⟩ σ H :=
 gi_ Pv h0 hl (λi x σ H hx p=>hs i x σ H hx _ _ (λ_ _ q=>q) (λ_ _ q=>q) _ id p) hd
theorem ph_{c:TT}{tb:TS}{nx bk ct:SHP}{rt:VK}{σ:St}{H:Hp}(Pv:St->Hp->Prop)(μ:St->Hp->Nat)(h0:Pv σ H)
  (hs:∀σ H,∀kb:SHP,(∀σ' H',nx σ' H'->kb σ' H')->∀G:Prop,((c σ H λb H1=>if b=true then ∃N:St->Hp->Prop,(∀σ' H',N σ' H'->∃m',m'<μ σ H/\m'=μ σ' H'/\Pv σ' H')/\tb ⟨N,rt,kb,N⟩ σ H1 else kb σ H1)->G)->Pv σ H->G):IZ_ c tb ⟨nx,rt,bk,ct⟩ σ H :=
 hE_ Pv μ h0 λσ H p=>hs σ H nx (λ_ _ q=>q) _ id p
def Idi(d:Addr)(ob:Obj)(kvs:List (Key×V)):It :=
 ⟨λi H=>H d=some (.frz ob (.dK kvs))/\i<kvs.length,λi H x H'=>∃T k v,x=.ref T/\H T=none/\kvs[i]?=some (k,v)/\H'=upd H T (.tup [kV k,v]),λi H=>H d=some (.frz ob (.dK kvs))/\kvs.length<=i⟩
theorem m5_{elts:List Expr}{kt:Nat}{tpos:Pos}{d it:Addr}{ob:Obj}{kvs:List (Key×V)}{es0:Array DictEntry}{ep:Nat}(hob:ob.data=.dict es0 ep):
  J6_ P w K (.Tuple elts kt tpos) (Idi d ob kvs) [it] it (λi h=>∃ok ov,IsItemIter h it d i kvs.length ep ok ov) where
 mem:=s_
 obj:=λi h st b hb=>by
  have e:b=it:=by simpa using hb
  subst e;obtain⟨ok,ov,e⟩:=st;show⟨_,e,λv z=>by cases(show Data.fields _=Data.cell v from z)⟩
 keep:=λi h h' st k=>let⟨ok,ov,e⟩:=st;⟨ok,ov,k it s_ _ e⟩
 item:=by
  intro X hP hw hK hc i pins s σ H E I hf st hg;subst hP hw hK;obtain⟨e,hi⟩:=hg;obtain⟨vs,rel,da⟩:=n2_ I.hok e hob;have hl:kvs.length=vs.length:=rel.length;have hx:vs[i]?=some (vs[i]'o_):=Ac_ _;have hk:kvs[i]?=some (kvs[i]):=Ac_ _;obtain⟨e1,e2⟩:=iW_ rel hk hx;obtain⟨ok,ov,st⟩:=st;rw[hl]at st;show wpAny_pyNext_items_item st da (k:=(vs[i]'o_).1) (v:=(vs[i]'o_).2) hx λkey h' kis g1 g3 g4 g5=>?_;show⟨_,rfl,wpAny_letOwnedTupleGo_items (s:={s with heap:=h'}) g1 λh'' k1 k2=>?_⟩
  have rk:FY_ (kV (kvs[i]).1) key:=by
   rw[e1]
   rcases a3_ kis with⟨j,t,ek,ev⟩|⟨y,t,ek,ev⟩
   .rw[ek];show⟨t,ev⟩
   .rw[ek];show⟨t,ev⟩
  have lt:it<s.heap.objs.size:=Ap_ st;have hT:H s.heap.objs.size=none:=I.hok.fresh (Af_ _)
  have I1:Inv X pins σ (upd H s.heap.objs.size (.tup [kV (kvs[i]).1,(kvs[i]).2])) {s with heap:=s.heap.push {cls:=.type "tuple",data:=.seq #[key,(vs[i]'o_).2]}} :=
   I.laid (t':=s.toks) (λb u e=>Al_ _ e) (Af_ _) ⟨by change 2<=sizeLine;decide,[key,(vs[i]'o_).2],.cons rk (.cons e2 .nil),⟨_,AA_ _ rfl,rfl,_,rfl⟩⟩
  have f1:∀b∈[it],HY_ X pins (upd H s.heap.objs.size (.tup [kV (kvs[i]).1,(kvs[i]).2])) b:=λb hb=>by have e:b=it:=An_.mp hb;show⟨by rw[aj_ (e▸AE_ lt)];show(hf b hb).1,(hf b hb).2⟩
  have I2:Inv X pins σ (upd H s.heap.objs.size (.tup [kV (kvs[i]).1,(kvs[i]).2])) {s with heap:=h''}:=by
   show Inv.turnedL (s:={s with heap:=s.heap.push {cls:=.type "tuple",data:=.seq #[key,(vs[i]'o_).2]}}) (ch:=[it]) (t':=s.toks) I1 (λb o hb q=>?_) f1;simp only[An_]at hb;show(k2.2 b hb).trans ?_;by_cases hbT:b=s.heap.objs.size
   .subst hbT;have e':(s.heap.push {cls:=.type "tuple",data:=.seq #[key,(vs[i]'o_).2]}).get? s.heap.objs.size=some o:=q;rw[AA_ _ rfl]at e';cases e';show g3
   .have hb2:s.heap.get? b=some o:=by have e':(s.heap.push {cls:=.type "tuple",data:=.seq #[key,(vs[i]'o_).2]}).get? b=some o:=q;show(Ck_ _ _ _ hbT).symm.trans e'
    show g5 b o hb hb2
  show⟨.ref s.heap.objs.size,_,I2,rfl,⟨_,_,_,rfl,hT,hk,rfl⟩,?_,λb hb=>(f1 b hb).1⟩;rw[hl];show⟨_,_,k1⟩
 done:=by intro X hP hw hK hc i pins s σ H E I hf st hg;subst hP hw hK;obtain⟨e,hi⟩:=hg;obtain⟨vs,rel,da⟩:=n2_ I.hok e hob;have hl:kvs.length=vs.length:=rel.length;obtain⟨f0,f1,f2,f3,f4,f5⟩:=hf it s_;obtain⟨ok,ov,st⟩:=st;rw[hl]at st;show wpAny_pyNext_items_end (I.ok.hd hc) st da (Bs_ o_) λh' eb=>⟨rfl,I.turned (t':=s.toks) (λb o hb e=>eb b o hb e) f0 f1 f3 f4 f5⟩
 self:=λ_ _ _ _ _ st h=>let⟨_,_,e⟩:=st;kcp_self e h
def iDI(td:TE):TI:=λσ H R=>td σ H λx H1=>∃(d:Addr)(kvs:List (Key×V)),x=.ref d/\H1 d=some (.dK kvs)/\∀ob,R (Idi d ob kvs) (upd H1 d (.frz ob (.dK kvs)))
theorem oe_{elts:List Expr}{kt:Nat}{tpos:Pos}{o:Expr}{td:TE}{apos cpos:Pos}(ho:PE X o td)(hbase:attributeBase o "items" X.env (eval o X.env)=eval o X.env:=by rfl) (hline:(apos.endLine == cpos.line)=true:=by rfl):PI X (.Tuple elts kt tpos) (.Call (.Attribute o "items" apos) [] [] cpos) (iDI td):=by
 intro pins s σ H R I h;show D2_ hbase hline (thn (ho pins s σ H _ I h) λv s1 ⟨x,H1,I1,r1,d,kvs,e,hd,q⟩=>?_);subst e;cases r1;obtain⟨ob,es0,ep,hob,hoo,I2⟩:=I1.freeze hd;obtain⟨_,hsys,vs0,_,dd⟩:=JD_ I1.hok hd;show⟨"dict","dict.items",B4_,D4_,PySem.F.type_dict_items,dd.typeIs,λb q=>?_,Ce_ rfl (EN_ ?_)⟩
 .cases q;obtain⟨o2,_,_,h1,h2,_⟩:=id dd;show⟨o2,h1,h2.2.1⟩
 show DS_ D4_ dd.typeIs PySem.F.entry_dict_items (PySem.F.args_dict_items_1 _) (meets_dict_items (FK_ X.prog X.w) d hsys) ⟨⟨vs0,dd⟩,?_⟩;have I3:Inv X pins σ (upd H1 d (.frz ob (.dK kvs))) {s1 with heap:=s1.heap.push {cls:=.type "dict_items",data:=.fields #[.ref d]}}:=I2.kept (t':=s1.toks) λb o e=>Al_ _ e;obtain⟨vs,rel,da⟩:=n2_ (kvs:=kvs) I3.hok ab_ hob;show wpAny_pyIter_items (s:={s1 with heap:=s1.heap.push {cls:=.type "dict_items",data:=.fields #[.ref d]}}) ⟨_,AA_ _ rfl,rfl,rfl⟩ da ?_;rw[<-show kvs.length=vs.length from rel.length];show⟨(s1.heap.push {cls:=.type "dict_items",data:=.fields #[.ref d]}).objs.size,[_],_,_,upd H1 d (.frz ob (.dK kvs)),rfl,I3.kept (t':=s1.toks) λb o e=>Al_ _ e,m5_ hob,⟨_,_,AA_ _ rfl⟩,λb hb=>?_,q ob⟩;have e:b=_:=An_.mp hb;subst e;show I3.fpOk (Af_ _) (I3.hok.fresh (Af_ _))
abbrev Mt_:=St->Hp->Prop
theorem r1_{d:Addr}{ob:Obj}{kvs:List (Key×V)}{g:TG}{tb:TS}{nx bk ct:Mt_}{rt:VK}{σ:St}{H:Hp}(Pv:Nat->St->Hp->Prop)(h0:Pv 0 σ H)(hl:∀i σ H,i<=kvs.length->Pv i σ H->H d=some (.frz ob (.dK kvs)))
  (hs:∀(i:Nat) k x T σ H,kvs[i]?=some (k,x)->H T=none->∀(kk kb:Mt_),(∀σ' H',Pv (i+1) σ' H'->kk σ' H')->(∀σ' H',nx σ' H'->kb σ' H')->∀G:Prop,((g (.ref T) σ (upd H T (.tup [kV k,x])) λσ2 H2=>tb ⟨kk,rt,kb,kk⟩ σ2 H2)->G)->Pv i σ H->G) (hd:∀σ H,Pv kvs.length σ H->nx σ H):HN_ (Idi d ob kvs) g tb ⟨nx,rt,bk,ct⟩ σ H:=by
 show⟨λi m σ H=>m=kvs.length-i/\i<=kvs.length/\Pv i σ H,⟨kvs.length,s_,AD_ _,h0⟩,?_⟩;rintro i m σ H ⟨rfl,hi,p⟩;have q:=hl i σ H hi p;by_cases hlt:i<kvs.length
 .show .inr ⟨⟨q,hlt⟩,Pv (i+1),λσ' H' p'=>⟨kvs.length-(i+1),o_,rfl,hlt,p'⟩,λx H' y=>?_⟩;obtain⟨T,k,v,rfl,hT,hk,rfl⟩:=y;show hs i k v T σ H hk hT _ _ (λ_ _ q=>q) (λ_ _ q=>q) _ id p
 .have e:i=kvs.length:=o_
  subst e;show .inl ⟨⟨q,Af_ _⟩,hd σ H p⟩
def NX(K:PySem.W.Frag)(H:Hp):Prop:=∀a o,K.lookup a=some o->H a=none
theorem Mg_(I:Inv X pins σ H s):NX X.K H:=λa o e=>by have h1:=I.ok.mod.kin a o e;obtain⟨h2,h3⟩:=I.ok.bs a o h1;show I.base.free a o h2 h3 (I.ok.noex a o h1)
def KK_(K:PySem.W.Frag)(t:TE):TE:=λσ H Q=>t σ H λv H'=>NX K H'->Q v H'
theorem eA_{e:Expr}{t:TE}(hK:X.K=K)(he:PE X e t):PE X e (KK_ K t):=by subst hK;intro pins s σ H Q I h;show thn (he pins s σ H _ I h) λv s1 ⟨x,H1,I1,r1,q1⟩=>⟨x,H1,I1,r1,q1 (Mg_ I1)⟩
def MF_(K:PySem.W.Frag):List V->Hp->VK->Prop:=λxs H Q=>∃a ys,xs=[.ref a,.ty "tuple"]/\SqT K H a ys/\Q (.bl true) H
theorem pi_(hK:X.K=K):Gz_ X (.builtin "isinstance") (MF_ K):=by subst hK;intro pins s σ H xs us Q I r h;obtain⟨a,ys,rfl,hS,q⟩:=h;obtain⟨u,w',rfl,rx,ry⟩:=Hl_ r;cases(show w'=Value.type "tuple"from ry);cases(show u=Value.ref a from rx);obtain⟨its,rr,⟨ob,ho,hc,_⟩,hz⟩:=I.tuple hS;show EP_ ho hc ⟨.bl true,H,I,rfl,q⟩
theorem eB_{J:It}{g:TG}{te:TE}{σ:St}{H:Hp}{Q:VK}(F:Hp->Hp)(hF:∀A A',Fo_ A A'->Fo_ (F A) (F A'))(n:Nat)(B:Hp)(Pσ:St->Prop)(ds:List Dt)(hB:Fo_ B H)(h0:Pσ σ)(hlen:ds.length=n)(hz:n<=1000)
  (hgo:∀i H',i<n->Fo_ H H'->J.go i H') (hst:∀H',Fo_ H H'->J.stop n H')
  (hs:∀D i x d σ' H' H'',H D=none->(∃o,H' D=some o)->Fo_ H H'->i<n->ds[i]?=some d->J.yld i H' x H''->Pσ σ'->∀R:St->V->Hp->Prop,
   (∀σ2 v H3,Pσ σ2->Fo_ H' H3->Rep (F (G2_ B D H3)) v d->R σ2 v H3)->g x σ' H'' λσ2 H2=>te σ2 H2 λv H3=>R σ2 v H3)
  (hd:∀D H' ys,H D=none->Fo_ H H'->H' D=some (.lst ys)->FE_ (F (G2_ B D H')) ys ds->Q (.ref D) H'):H3_ J g J7_ te σ H Q:=by
 intro D hD;show⟨λi m σ' H'=>m=n-i/\i<=n/\Pσ σ'/\Fo_ H H'/\∃ys,H' D=some (.lst ys)/\FE_ (F (G2_ B D H')) ys (ds.take i)/\ys.length=i,⟨n,s_,AD_ _,h0,Fo_.new hD,[],ab_,rfl,rfl⟩,?_⟩;rintro i m σ' H' ⟨rfl,hi,hp,hs',ys,hys,hr,hl⟩;by_cases hlt:i<n
 .show .inr ⟨hgo i H' hlt hs',λσ2 H2=>Pσ σ2/\Fo_ H H2/\∃ys,H2 D=some (.lst ys)/\FE_ (F (G2_ B D H2)) ys (ds.take (i+1))/\ys.length=i+1,λσ2 H2 ⟨a,b,c⟩=>⟨n-(i+1),o_,rfl,hlt,a,b,c⟩,λx H'' hy=>?_⟩;have hdi:ds[i]?=some (ds[i]'o_):=Ac_ _;simp only[J7_,if_true];show hs D i x _ σ' H' H'' hD ⟨_,hys⟩ hs' hlt hdi hy hp _ λσ2 v H3 hp2 s3 rep=>?_;show⟨ys,s3 _ _ hys,by rw[hl];show Fq_ o_,hp2,λb o h=>?_,ys++[v],ab_,?_,by simp[hl]⟩
  .rw[aj_ (ae_ h hD)];show s3 b o (hs' b o h)
  .rw[fM_,Bn_,hdi];show(FE_.mono (hF _ _ (ev_ s3)) _ hr).append ⟨v,[],rfl,rep,rfl⟩
 .have e:i=n:=o_
  subst e;show .inl ⟨hst H' hs',hd D H' ys hD hs' hys ?_⟩
  rwa[AR_ o_]at hr
theorem qL_{K:PySem.W.Frag}{a:Addr}{xs:List V}{g:TG}{tb:TS}{nx bk ct:St->Hp->Prop}{rt:VK}{σ:St}{H:Hp}(Pv:Nat->St->Hp->Prop)(h0:Pv 0 σ H)(hl:∀i σ H,i<=xs.length->Pv i σ H->SqT K H a xs)
  (hs:∀(i:Nat) x σ H,xs[i]?=some x->∀(kk kb:St->Hp->Prop),(∀σ' H',Pv (i+1) σ' H'->kk σ' H')->(∀σ' H',nx σ' H'->kb σ' H')->∀G:Prop,((g x σ H λσ2 H2=>tb ⟨kk,rt,kb,kk⟩ σ2 H2)->G)->Pv i σ H->G) (hd:∀σ H,Pv xs.length σ H->nx σ H):HN_ (Itt K a) g tb ⟨nx,rt,bk,ct⟩ σ H:=by
 show⟨λi m σ H=>m=xs.length-i/\i<=xs.length/\Pv i σ H,⟨xs.length,s_,AD_ _,h0⟩,?_⟩;rintro i m σ H ⟨rfl,hi,p⟩;have q:=hl i σ H hi p;by_cases hlt:i<xs.length
 .show .inr ⟨⟨xs,xs[i],q,by simp[hlt]⟩,Pv (i+1),λσ' H' p'=>⟨xs.length-(i+1),o_,rfl,hlt,p'⟩,λx H' y=>?_⟩;obtain⟨rfl,hy⟩:=y;show hs i x σ H' (hy xs q) _ _ (λ_ _ q=>q) (λ_ _ q=>q) _ id p
 .have e:i=xs.length:=o_
  subst e;show .inl ⟨⟨xs,q,Af_ _⟩,hd σ H p⟩
end L2
namespace RimM
structure Is(p:Int×Int)(t b:Int):Prop where
 low:Low p
 ne:b≠0
 eq:p.1*b=t*p.2
variable{b:Int}
theorem GQ_{t:Int}(h:b≠0):Is (nf t b) t b:=⟨(iT_ h).1,h,(iT_ h).2.symm⟩
variable{p:Int×Int}
theorem Is.to{t:Int}(h:Is p t b):p=nf t b:=by have:=h.low.pos;rw[<-hO_ h.low];show Ks_ o_ h.ne h.eq
theorem Is.conv{t t' b':Int}(h:Is p t b)(hb:b'≠0)(e:t*b'=t'*b):Is p t' b':=by rw[h.to,Ks_ h.ne hb e];show GQ_ hb
theorem r2_(h:Low p):Is p p.1 p.2:=⟨h,by have:=h.pos;lia,rfl⟩
theorem Is.mul{q:Int×Int}{t t' b':Int}(h:Is p t b)(h':Is q t' b'):Is (nf (p.1*q.1) (p.2*q.2)) (t*t') (b*b'):=by
 have p0:=h.low.pos;have q0:=h'.low.pos;show(GQ_ (AW_ o_ o_)).conv (AW_ h.ne h'.ne) ?_
 calc p.1*q.1*(b*b')=(p.1*b)*(q.1*b'):=by ac_rfl
  _=(t*p.2)*(t'*q.2):=by rw[h.eq,h'.eq]
  _=t*t'*(p.2*q.2):=by ac_rfl
theorem Is.add{q:Int×Int}{t t' b':Int}(h:Is p t b)(h':Is q t' b'):Is (nf (p.1*q.2+q.1*p.2) (p.2*q.2)) (t*b'+t'*b) (b*b'):=by
 have p0:=h.low.pos;have q0:=h'.low.pos;show(GQ_ (AW_ o_ o_)).conv (AW_ h.ne h'.ne) ?_
 calc (p.1*q.2+q.1*p.2)*(b*b')=(p.1*b)*(q.2*b')+(q.1*b')*(p.2*b):=by rw[C2_];congr 1 <;> ac_rfl
  _=(t*p.2)*(q.2*b')+(t'*q.2)*(p.2*b):=by rw[h.eq,h'.eq]
  _=(t*b'+t'*b)*(p.2*q.2):=by rw[C2_];congr 1 <;> ac_rfl
theorem Is.sub{q:Int×Int}{t t' b':Int}(h:Is p t b)(h':Is q t' b'):Is (nf (p.1*q.2-q.1*p.2) (p.2*q.2)) (t*b'-t'*b) (b*b'):=by
 have p0:=h.low.pos;have q0:=h'.low.pos;show(GQ_ (AW_ o_ o_)).conv (AW_ h.ne h'.ne) ?_
 calc (p.1*q.2-q.1*p.2)*(b*b')=(p.1*b)*(q.2*b')-(q.1*b')*(p.2*b):=by rw[E3_];congr 1 <;> ac_rfl
  _=(t*p.2)*(q.2*b')-(t'*q.2)*(p.2*b):=by rw[h.eq,h'.eq]
  _=(t*b'-t'*b)*(p.2*q.2):=by rw[E3_];congr 1 <;> ac_rfl
theorem dk_{t:Int}(hb:b≠0):(nf t b).1.natAbs<=t.natAbs/\(nf t b).2.natAbs<=b.natAbs:=by
 have key:∀{t b:Int},0<b->(nf t b).1.natAbs<=t.natAbs/\(nf t b).2.natAbs<=b.natAbs:=λ{t b} h=>by rw[mj_ h];show⟨by have:=BI_ t (Int.gcd t b:Int);lia,by have:=BI_ b (Int.gcd t b:Int);lia⟩
 rcases Int.lt_or_lt_of_ne hb with h|h
 .rw[pU_ h];have:=key (t:=-t) (b:=-b) o_;lia
 .show key h
theorem gp_(hb:b≠0):nf 0 b=(0,1):=by
 have:nf 0 1=(0,1):=d_
 rw[<-this];show Ks_ hb d_ o_
theorem qM_(hb:b≠0):Is (0,1) 0 b:=⟨⟨d_,d_⟩,hb,s_⟩
end RimM
namespace RimT
theorem fl_{α:Type}:∀{a b:List α},a.Nodup->b.Nodup->(∀x,x∈a↔x∈b)->a.Perm b
 |[],b,_,_,h=>by
  have:b=[]:=List.eq_nil_iff_forall_not_mem.mpr λx hx=>absurd ((h x).mpr hx) Ba_;rw[this]
 |x::a,b,na,nb,h=>by
  obtain⟨s,t,rfl⟩:=List.append_of_mem ((h x).mp Ah_);obtain⟨n1,n2⟩:=A5_.mp na;have p:(x::(s++t)).Perm (s++x::t):=List.perm_middle.symm;obtain⟨m1,m2⟩:=A5_.mp (p.nodup_iff.mpr nb);show(List.Perm.cons x (fl_ n2 m2 λy=>?_)).trans p;have hy:=h y;rw[<-p.mem_iff,Aq_,Aq_]at hy;constructor
  .intro hm;show(hy.mp (.inr hm)).resolve_left λz=>n1 (z▸hm)
  .intro hm;show(hy.mpr (.inr hm)).resolve_left λz=>m1 (z▸hm)
section
variable {S:Type}[DecidableEq S]
structure F1_(N:Net S):Prop where
 pnd:N.posts.Nodup
 pin:∀p∈N.posts,p∈N.rows.map (·.1)
 p0:0<N.posts.length
def pts(N:Net S):List S:=N.posts++(N.rows.map (·.1)).filter λx=>decide (x∉N.posts)
theorem h0_{N:Net S}(ok:FZ_ N)(po:F1_ N):(pts N).Nodup :=
 Br_.mpr ⟨po.pnd,ok.nd.filter _,λa ha b hb e=>by have:=(BJ_.mp hb).2;rw[decide_eq_true_iff]at this;show this (e▸ha)⟩
theorem bz_{N:Net S}(po:F1_ N){x:S}:x∈pts N↔x∈N.rows.map (·.1):=by
 unfold pts;rw[AB_,BJ_,decide_eq_true_iff];constructor
 .rintro(h|h)
  .show po.pin x h
  .show h.1
 .intro h;by_cases hp:x∈N.posts
  .show .inl hp
  .show .inr ⟨h,hp⟩
theorem pj_{N:Net S}(ok:FZ_ N)(po:F1_ N):(pts N).Perm (N.rows.map (·.1)):=fl_ (h0_ ok po) ok.nd λx=>bz_ po
theorem lv_{N:Net S}(ok:FZ_ N)(po:F1_ N):(pts N).length=N.rows.length:=by rw[(pj_ ok po).length_eq,Ab_]
variable (d0:S)
def pid(N:Net S)(x:S):Nat:=(pts N).idxOf x
variable {d0}
theorem i0_{N:Net S}{x:S}(h:x∈pts N):pid N x<(pts N).length:=E6_ h
theorem of_{N:Net S}{x:S}(h:x∈pts N):(pts N)[pid N x]?=some x:=by rw[Ac_ (i0_ h)];show congrArg some (Fd_ (i0_ h))
theorem p2_{N:Net S}(ok:FZ_ N)(po:F1_ N){p:Nat}{x:S}(h:(pts N)[p]?=some x):pid N x=p:=by have hp:=(Ar_.mp h).1;have hm:=Ai_ h;show(BO_ (i0_ hm) (h0_ ok po)).mp (by rw[of_ hm,h])
theorem lw_{x:S×End S}:∀{rows:List (S×List S)},x∈occ rows↔∃r∈rows,r.1=x.2.1/\r.2[x.2.2]?=some x.1:=by
 intro rows
 have row:∀(p:S)(ws:List S)(k:Nat),x∈FW_ p k ws↔p=x.2.1/\k<=x.2.2/\ws[x.2.2-k]?=some x.1:=by
  intro p ws
  induction ws with
  |nil=>intro k;simp[FW_]
  |cons w ws ih =>
   intro k;rw[FW_,Aq_,ih];constructor
   .rintro(e|⟨e1,e2,e3⟩)
    .subst e;show⟨rfl,Af_ _,s_⟩
    .show⟨e1,o_,?_⟩;rw[show x.2.2-k=(x.2.2-(k+1))+1 by lia];show e3
   .rintro⟨e1,e2,e3⟩;by_cases h:x.2.2=k
    .left;rw[h,B0_]at e3;have:w=x.1:=Ak_ e3;show BC_ this.symm (BC_ e1.symm h)
    .right;show⟨e1,o_,?_⟩;rw[show x.2.2-k=(x.2.2-(k+1))+1 by lia]at e3;show e3
 unfold occ;rw[List.mem_flatten];constructor
 .rintro⟨l,hl,hx⟩;obtain⟨r,hr,rfl⟩:=Aj_.mp hl;obtain⟨e1,_,e3⟩:=(row _ _ _).mp hx;show⟨r,hr,e1,e3⟩
 .rintro⟨r,hr,e1,e2⟩;show⟨_,Aj_.mpr ⟨r,hr,rfl⟩,(row _ _ _).mpr ⟨e1,AD_ _,e2⟩⟩
end
end RimT
namespace RimM
def Ws(p:Int×Int):Prop:=Low p/\0<p.1/\p.1<=1000/\p.2<=1000
theorem LF_{t b:Int}(t0:0<t)(t1:t<=1000)(b0:0<b)(b1:b<=1000):Ws (nf t b):=by
 have h:=GQ_ (t:=t) (b:=b) o_;have hp:=h.low.pos;have ha:=dk_ (t:=t) (b:=b) o_;have h1:0<(nf t b).1:=by have e:=h.eq;have h3:0<t*(nf t b).2:=Be_ t0 hp;rw[<-e]at h3;show Int.pos_of_mul_pos_left h3 b0
 show⟨h.low,h1,o_,o_⟩
def bot{S:Type}:List (S×(Int×Int))->Int
 |[]=>1
 |x::l=>x.2.2*bot l
theorem og_{S:Type}:∀{l:List (S×(Int×Int))},(∀x∈l,Ws x.2)->0<bot l/\bot l<=1000 ^ l.length
 |[],_=>⟨by change(0:Int)<1;decide,by change(1:Int)<=1;decide⟩
 |x::l,h=>by obtain⟨a,b⟩:=og_ (l:=l) λy hy=>h y (Ag_ _ hy);have w:=h x Ah_;have wp:=w.1.pos;show⟨Be_ wp a,?_⟩;rw[AH_,Co_,AQ_ ((1000:Int) ^ l.length)];show Int.mul_le_mul w.2.2.2 b (Cp_ a) d_
theorem lx_{S:Type}:∀{l:List (S×(Int×Int))}{x:S×(Int×Int)},x∈l->x.2.2 ∣ bot l
 |y::l,x,h=>by
  rcases Aq_.mp h with rfl|h
  .show Int.dvd_mul_right _ _
  .show DH_ (lx_ h) (Int.dvd_mul_left _ _)
theorem r3_{n:Nat}(h:n<=15):(1000:Int) ^ n<=1000 ^ 15:=by
 have h1:∀m:Nat,(1000:Int) ^ n<=1000 ^ (n+m):=λm=>by
  induction m with
  |zero=>show CG_ _
  |succ m ih =>have h0:(0:Int)<1000 ^ (n+m):=E4_ d_;rw[<-Nat.add_assoc,Co_];generalize(1000:Int) ^ (n+m)=z at*;lia
 have h2:=h1 (15-n)
 rwa[show n+(15-n)=15 by lia]at h2
def Xw(B:Int)(p:Int×Int):Int:=p.1*(B/p.2)
variable{B:Int}{p:Int×Int}
theorem Mj_(h:Low p)(hB:0<B)(hd:p.2 ∣ B):Is p (Xw B p) B :=
 ⟨h,o_,by unfold Xw;rw[Bg_,Dr_ hd]⟩
theorem Mo_(h:Ws p)(hB:0<B):(Xw B p).natAbs<=(1000*B).natAbs:=by have hp:=h.1.pos;have h1:B/p.2<=B:=Int.ediv_le_self _ o_;have h0:0<=B/p.2:=Int.ediv_nonneg o_ o_;have h2:p.1*(B/p.2)<=1000*B:=Int.mul_le_mul h.2.2.1 h1 h0 d_;have h3:0<=p.1*(B/p.2):=Dt_ (Cp_ h.2.1) h0;unfold Xw;lia
theorem Is.plusB{q:Int×Int}{x y:Int}(h:Is p x B)(h':Is q y B):nf (p.1*q.2+q.1*p.2) (p.2*q.2)=nf (x+y) B:=by have z:=h.add h';show(z.conv h.ne (by rw[<-C2_,Bg_])).to
theorem Is.minusB{q:Int×Int}{x y:Int}(h:Is p x B)(h':Is q y B):nf (p.1*q.2-q.1*p.2) (p.2*q.2)=nf (x-y) B:=by have z:=h.sub h';show(z.conv h.ne (by rw[<-E3_,Bg_])).to
end RimM
namespace RimT
open RimM
variable {S:Type}[DecidableEq S]
def cf(x y:S)(e:S×S×Int):Int:=(if x=e.1/\y=e.1 then e.2.2 else 0)-(if x=e.1/\y=e.2.1 then e.2.2 else 0)+(if x=e.2.1/\y=e.2.1 then e.2.2 else 0)-(if x=e.2.1/\y=e.1 then e.2.2 else 0)
def sm(E:List (S×S×Int))(x y:S):Int:=(E.map (cf x y)).sum
def fadd(f:S->S->Int)(a b:S)(d:Int):S->S->Int:=λx y=>if x=a/\y=b then f x y+d else f x y
theorem qN_(E:List (S×S×Int))(e:S×S×Int)(x y:S):sm (E++[e]) x y=sm E x y+cf x y e:=by unfold sm;rw[Au_,Cc_];simp
theorem qO_(x y:S)(e:S×S×Int):cf x y e=cf y x e:=by unfold cf;simp only[and_comm (a:=y=_)];lia
theorem qP_(E:List (S×S×Int))(x y:S):sm E x y=sm E y x:=by unfold sm;congr 1;show Bj_ λe _=>qO_ x y e
theorem four(f:S->S->Int)(p q:S)(X:Int):fadd (fadd (fadd (fadd f p p X) p q (-X)) q q X) q p (-X)=λx y=>f x y+cf x y (p,q,X):=by funext x y;unfold fadd cf;simp only;split <;> split <;> split <;> split <;> lia
theorem qQ_{f:S->S->Int}{n m:Nat}{a b:S}{d:Int}(h:∀x y,(f x y).natAbs<=n*m)(hd:d.natAbs<=m)(x y:S):(fadd f a b d x y).natAbs<=(n+1)*m:=by unfold fadd;have:=h x y;rw[En_];split <;> lia
theorem Lo_{m:Nat}:∀(E:List (S×S×Int)),(∀e∈E,e.2.2.natAbs<=m)->∀x y,(sm E x y).natAbs<=4*E.length*m
 |[],_,x,y=>AD_ _
 |e::E,h,x,y=>by
  have a:=Lo_ E (λz hz=>h z (Ag_ _ hz)) x y;have b:=h e Ah_;have c:(cf x y e).natAbs<=4*m:=by unfold cf;split <;> split <;> split <;> split <;> lia
  unfold sm at a⊢;rw[Av_,A3_,AH_,Nat.mul_add,En_,Nat.mul_one];lia
end RimT
namespace PySem
variable {prog:Program}{w:World}{A:Around}{E:Value->Shared->Prop}{s:Shared}
def GW_(h:Heap)(z TI TO T:Addr):Prop:=∃b:Bool,h.get? z=some {cls:=.type "zip",dict:=none,data:=.fields #[rawInt T,.bool b,.bool false,.ref TI,.ref TO],slots:=#[]}
theorem mu_{z TI TO T:Addr}{o:Obj}{Q:Bool->Shared->Prop}(hz:GW_ s.heap z TI TO T)(hT:s.heap.get? T=some o)(hQ:∀h',GW_ h' z TI TO T->Heap.SameBut z s.heap h'->Q false {s with heap:=h'}):
  wpAny (model prog w) A (Builtin.SmallTypes.ownedTupleIsFree (.ref z)) Q E s:=by
 obtain⟨b,hz⟩:=hz;unfold Builtin.SmallTypes.ownedTupleIsFree;show Ae_ (C3_ hz rfl (x:=rawInt T) rfl ?_);change wpAny _ _ (loadIfAlive (T:Int).toNat >>= _) _ _ _;show Ae_ (show wpAny _ _ (loadIfAlive (T:Int).toNat) _ _ _ from ?_);have e:(loadIfAlive (T:Int).toNat:Sem (Option Obj))=.loadIfAlive T .pure:=rfl;rw[e];have step:∀{P:Option Obj->Shared->Prop},P (s.heap.get? T) s->wpAny (model prog w) A (.loadIfAlive T .pure:Sem (Option Obj)) P E s:=λh Γ p hΓ=>by rw[Sem.wp_loadIfAlive];show h
 show step ?_;rw[hT];change wpAny _ _ (field (.ref z) 1 >>= _) _ _ _;show Ae_ (C3_ hz rfl (x:=.bool b) rfl ?_);cases b with
 |true =>
  change wpAny _ _ (pure false) _ _ _;show Ao_ (hQ s.heap ⟨true,hz⟩ ⟨rfl,λ_ _=>rfl⟩)
 |false =>change wpAny _ _ (setField (.ref z) 1 (.bool true) >>= _) _ _ _;show Ae_ (wpAny_setField_rec hz s_ λh₁ hz₁ hs₁=>Ao_ (hQ h₁ ⟨true,hz₁⟩ hs₁))
theorem iI_{z TI TO T i1 i2 l1 l2:Addr}{k1 k2:Nat}{xs ys:Array Value}{x y:Value}{o:Obj}{Q:Value->Shared->Prop}(D:ZipApart z TI TO i1 i2 l1 l2)
  (hz:GW_ s.heap z TI TO T) (hTI:IsPair s.heap TI (.ref i1) (.ref i2)) (hT:s.heap.get? T=some o)
  (h1:s.heap.IsListIter i1 l1 k1) (h2:s.heap.IsListIter i2 l2 k2) (hl1:s.heap.IsList l1 xs) (hl2:s.heap.IsList l2 ys) (hx:xs[k1]?=some x) (hy:ys[k2]?=some y)
  (hQ:∀h',GW_ h' z TI TO T->h'.IsListIter i1 l1 (k1+1)->h'.IsListIter i2 l2 (k2+1)->IsPair h' s.heap.objs.size x y ->
   (∀c o,c≠z->c≠i1->c≠i2->s.heap.get? c=some o->h'.get? c=some o)->Q (.ref s.heap.objs.size) {s with heap:=h'}):
  wpAny (model prog w) A (Builtin.«zip.__next__» ⟨[.ref z],[]⟩) (λfin s'=>∃v,fin=.done (.ret v)/\Q v s') E s:=by
 obtain⟨b,hz'⟩:=id hz;change wpAny _ _ (field (.ref z) 2 >>= _) _ _ _;show Ae_ (C3_ hz' rfl (x:=.bool false) rfl ?_);change wpAny _ _ (field (.ref z) 3 >>= _) _ _ _;show Ae_ (C3_ hz' rfl (x:=.ref TI) rfl ?_);show Ae_ (Cr_ hTI rfl ?_);change wpAny _ _ (Builtin.SmallTypes.ownedTupleIsFree (.ref z) >>= _) _ _ _;show Ae_ (mu_ hz hT λh₁ hz₁ hs₁=>?_);simp only[CU_,CP_];show Ae_ ?_;simp only[List.forIn_toArray,D9_,List.forIn_nil];have g1:h₁.IsListIter i1 l1 k1:=h1.extBut hs₁.extBut D.i1z;have q1:h₁.IsList l1 xs:=hl1.extBut hs₁.extBut D.l1z;show Ae_ (Ae_ (A2_ ?_));change wpAny _ _ (Builtin.SmallTypes.nextOf (.ref i1) >>= _) _ _ _;show Ae_ (Eo_ g1 q1 hx λh₂ h1₂ hs₂=>Ao_ ?_);show Ao_ ?_;show Ae_ (Ae_ (A2_ ?_));change wpAny _ _ (Builtin.SmallTypes.nextOf (.ref i2) >>= _) _ _ _;show Ae_ (Eo_ ((h2.extBut hs₁.extBut D.i2z).extBut hs₂.extBut D.i12.symm) ((hl2.extBut hs₁.extBut D.l2z).extBut hs₂.extBut D.l2i1) hy λh₃ h2₃ hs₃=>Ao_ ?_);show Ao_ (Ao_ ?_);change wpAny _ _ (newTuple [x,y] >>= _) _ _ _;show Ae_ (Et_ ?_);have hsz:h₃.objs.size=s.heap.objs.size:=hs₃.1.trans (hs₂.1.trans hs₁.1);have up:∀c o,h₃.get? c=some o->(h₃.push {cls:=.type "tuple",data:=.seq #[x,y]}).get? c=some o:=λc o e=>Al_ _ e;have z3:GW_ h₃ z TI TO T:=let⟨b,e⟩:=hz₁;⟨b,hs₃.extBut _ _ D.i2z.symm (hs₂.extBut _ _ D.i1z.symm e)⟩;show Ao_ ⟨_,rfl,?_⟩;change Q (.ref h₃.objs.size) _;rw[hsz];show hQ _ (let⟨b,e⟩:=z3;⟨b,up _ _ e⟩) ((h1₂.extBut hs₃.extBut D.i12).at λo e=>up _ o e) (h2₃.at λo e=>up _ o e) ?_ λc o c1 c2 c3 e=>up _ _ (hs₃.extBut _ _ c3 (hs₂.extBut _ _ c2 (hs₁.extBut _ _ c1 e)));rw[<-hsz];show AA_ _ rfl
theorem jz_{z TI TO T i1 i2 l1 l2:Addr}{k1 k2:Nat}{xs ys:Array Value}{o:Obj}{Q:Fin->Shared->Prop}(hh:A.handled=none)(D:ZipApart z TI TO i1 i2 l1 l2)
  (hz:GW_ s.heap z TI TO T) (hTI:IsPair s.heap TI (.ref i1) (.ref i2)) (hT:s.heap.get? T=some o)
  (h1:s.heap.IsListIter i1 l1 k1) (hl1:s.heap.IsList l1 xs) (hx:xs[k1]?=none)
  (hE:∀h' e,(∀c o,c≠z->c≠i1->s.heap.get? c=some o->h'.get? c=some o)->(∃o,h'.get? e=some o/\o.cls=.type "StopIteration")->E (.ref e) {s with heap:=h'}):
  wpAny (model prog w) A (Builtin.«zip.__next__» ⟨[.ref z],[]⟩) Q E s:=by
 obtain⟨b,hz'⟩:=id hz;change wpAny _ _ (field (.ref z) 2 >>= _) _ _ _;show Ae_ (C3_ hz' rfl (x:=.bool false) rfl ?_);change wpAny _ _ (field (.ref z) 3 >>= _) _ _ _;show Ae_ (C3_ hz' rfl (x:=.ref TI) rfl ?_);show Ae_ (Cr_ hTI rfl ?_);change wpAny _ _ (Builtin.SmallTypes.ownedTupleIsFree (.ref z) >>= _) _ _ _;show Ae_ (mu_ hz hT λh₁ hz₁ hs₁=>?_);simp only[CU_,CP_];show Ae_ ?_;simp only[List.forIn_toArray,D9_,List.forIn_nil];show Ae_ (Ae_ (A2_ ?_));change wpAny _ _ (Builtin.SmallTypes.nextOf (.ref i1) >>= _) _ _ _;show Ae_ (wpAny_nextOf_list_end hh (h1.extBut hs₁.extBut D.i1z) (hl1.extBut hs₁.extBut D.l1z) hx λh₂ e hs₂ he=>?_);show hE h₂ e (λc o c1 c2 x=>hs₂ _ _ c2 (hs₁.extBut _ _ c1 x)) he
theorem oh_{z TI TO T i1 i2 l1 l2:Addr}{k1 k2:Nat}{xs ys:Array Value}{x y:Value}{o:Obj}{Q:Option Value->Shared->Prop}(D:ZipApart z TI TO i1 i2 l1 l2)
  (hz:GW_ s.heap z TI TO T) (hTI:IsPair s.heap TI (.ref i1) (.ref i2)) (hT:s.heap.get? T=some o)
  (h1:s.heap.IsListIter i1 l1 k1) (h2:s.heap.IsListIter i2 l2 k2) (hl1:s.heap.IsList l1 xs) (hl2:s.heap.IsList l2 ys) (hx:xs[k1]?=some x) (hy:ys[k2]?=some y)
  (hQ:∀h',GW_ h' z TI TO T->h'.IsListIter i1 l1 (k1+1)->h'.IsListIter i2 l2 (k2+1)->IsPair h' s.heap.objs.size x y ->
   (∀c o,c≠z->c≠i1->c≠i2->s.heap.get? c=some o->h'.get? c=some o)->Q (some (.ref s.heap.objs.size)) {s with heap:=h'}):
  wpAny (model prog w) A (pyNext (.ref z)) Q E s:=by
 obtain⟨b,hz'⟩:=id hz;have ht:s.TypeIs (.ref z) "zip" := ⟨_,hz',rfl⟩;unfold pyNext
 show Ae_ (wpAny_attempt (D5_ (name:=Str.ofString "__next__") ht Dp_
  (DV_ Dp_ ht F.entry_zip_next (iI_ D hz hTI hT h1 h2 hl1 hl2 hx hy λh' a1 a2 a3 a4 a5=>Ao_ (hQ h' a1 a2 a3 a4 a5)) (F.args_zip_next_1 _))))
theorem jA_{z TI TO T i1 i2 l1 l2:Addr}{k1:Nat}{xs:Array Value}{o:Obj}{Q:Option Value->Shared->Prop}(hh:A.handled=none)(D:ZipApart z TI TO i1 i2 l1 l2)
  (hz:GW_ s.heap z TI TO T) (hTI:IsPair s.heap TI (.ref i1) (.ref i2)) (hT:s.heap.get? T=some o)
  (h1:s.heap.IsListIter i1 l1 k1) (hl1:s.heap.IsList l1 xs) (hx:xs[k1]?=none)
  (hQ:∀h',(∀c o,c≠z->c≠i1->s.heap.get? c=some o->h'.get? c=some o)->Q none {s with heap:=h'}):wpAny (model prog w) A (pyNext (.ref z)) Q E s:=by
 obtain⟨b,hz'⟩:=id hz;have ht:s.TypeIs (.ref z) "zip" := ⟨_,hz',rfl⟩;unfold pyNext
 show Ae_ (wpAny_attempt (D5_ (name:=Str.ofString "__next__") ht Dp_
  (DV_ Dp_ ht F.entry_zip_next (jz_ (xs:=xs) (ys:=xs) (k2:=0) hh D hz hTI hT h1 hl1 hx λh' e hk he=>?_) (F.args_zip_next_1 _))))
 obtain⟨o',ho,hc⟩:=he;show Ae_ (wpAny_isInstance (T := "StopIteration") (b:=true) ⟨o',ho,hc⟩ isSubtype_stop (Ao_ (hQ _ hk)))
theorem h1_:typeLookup (.type "zip") "keys"=pure none:=Eb_ r_
theorem h2_:typeLookup (.type "zip") "__getattr__"=pure none:=Eb_ r_
theorem cT_:entryFor table "zip.__getattribute__"=some Builtin.«object.__getattribute__» :=
 entryFor_alias (id' := "object.__getattribute__") (by kernel_rfl) r_ r_ (by kernel_rfl)
theorem jB_(a:Addr)(vs:Array Value)(u:Tok):
  Meets (Builtin.«object.__getattribute__» ⟨[.ref a,.str "keys" u],[]⟩) (λA R s=>s.heap.get? a=some {cls:=.type "zip",dict:=none,data:=.fields vs,slots:=#[]}/\raisesAttr (.ref a) "keys" A R s):=
 Meets.of_wp λprog w A R s hs=>by
  obtain⟨hp,g,d,tk,os⟩:=s;obtain⟨hx,hs⟩:=hs;have ht:(⟨hp,g,d,tk,os⟩:Shared).TypeIs (.ref a) "zip" := ⟨_,hx,rfl⟩;have hmiss:=h1_;unfold Builtin.«object.__getattribute__»
  repeat (any_goals (first|assumption|wp_step))
  show wpAny_raiseAttrError hs.1 hs.2 (attrMsg_fits r_ (by size_fits))
theorem kG_{a:Addr}{vs:Array Value}{Q:Option Value->Shared->Prop}(hx:s.heap.get? a=some {cls:=.type "zip",dict:=none,data:=.fields vs,slots:=#[]}) (hA:A.handled=none)
  (h:∀h' tk,(∀b ob,s.heap.get? b=some ob->h'.get? b=some ob)->Q none {s with heap:=h',toks:=tk}):
  wpAny (model prog w) A (getAttr? (.ref a) "keys") Q E s:=by
 obtain⟨hp,g,d,tk,os⟩:=s;have ht:∀tk',(⟨hp,g,d,tk',os⟩:Shared).TypeIs (.ref a) "zip" := λ_=>⟨_,hx,rfl⟩;have f1:=sub_AttributeError;have f3:=F.slot_zip_getattribute.lookup;have f4:=F.slot_zip_getattribute.bind (.ref a);have f5:=h2_;unfold getAttr? getAttrBy? getAttrBy
 repeat (any_goals (first|assumption|show ht _|((with_reducible change wpAny _ _ (call (Value.builtin "zip.__getattribute__") _ _) _ _ _);show DK_ F.slot_zip_getattribute (ht _) cT_ (F.args_zip_getattribute_2 _ _) (jB_ a vs _) ⟨hx,hA,λh' tk' e hx'=>?_⟩)|wp_step))
 obtain⟨t',u',he⟩:=hx'.there;change wpAny _ _ (getattributeRaised _ _ _ _ _ _ _) _ _ _;unfold getattributeRaised
 repeat (any_goals (first|assumption|wp_step))
 show h _ _ hx'.keeps
structure Zst(h:Heap)(z TI TO i1 i2 l1 l2 d:Addr)(i:Nat):Prop where
 ti:IsPair h TI (.ref i1) (.ref i2)
 one:h.IsListIter i1 l1 i
 two:h.IsListIter i2 l2 i
 st:(IsZip h z TI TO .none/\∃a b,IsPair h TO a b)\/∃T o,T≠z/\T≠i1/\T≠i2/\T≠TO/\T≠d/\GW_ h z TI TO T/\h.get? T=some o
theorem Zst.next{z TI TO i1 i2 l1 l2 d:Addr}{i:Nat}{xs ys:Array Value}{x y:Value}{Q:Option Value->Shared->Prop}(D:ZipApart z TI TO i1 i2 l1 l2)(hd:d<s.heap.objs.size)(Z:Zst s.heap z TI TO i1 i2 l1 l2 d i)
  (hl1:s.heap.IsList l1 xs) (hl2:s.heap.IsList l2 ys) (hx:xs[i]?=some x) (hy:ys[i]?=some y)
  (hQ:∀h' a,s.heap.objs.size<=a->Zst h' z TI TO i1 i2 l1 l2 d (i+1)->IsPair h' a x y->(∀c o,c≠z->c≠TO->c≠i1->c≠i2->s.heap.get? c=some o->h'.get? c=some o)->Q (some (.ref a)) {s with heap:=h'}):
  wpAny (model prog w) A (pyNext (.ref z)) Q E s:=by
 obtain⟨ti,one,two,st⟩:=Z;have b1:i1<s.heap.objs.size:=by obtain⟨o,e,_⟩:=one;show Ap_ e
 have b2:i2<s.heap.objs.size:=by obtain⟨o,e,_⟩:=two;show Ap_ e
 rcases st with⟨hz,a,b,hTO⟩|⟨T,o,t1,t2,t3,t4,t5,hz,hT⟩
 .have bz:=Ap_ hz;have bT:=Ap_ hTO;show Er_ D hz ti hTO one two hl1 hl2 hx hy λh' g1 g2 g3 g4 g5 g6 g7=>hQ h' _ (Af_ _) ⟨g7 _ _ D.TIz D.TITO D.TIi1 D.TIi2 ti,g3,g4,.inr ⟨s.heap.objs.size,_,?_,?_,?_,?_,?_,⟨false,g1⟩,g5⟩⟩ g5 g7 <;> show DM_ (by assumption)
 .show oh_ D hz ti hT one two hl1 hl2 hx hy λh' g1 g2 g3 g4 g5=>hQ h' _ (Af_ _) ⟨g5 _ _ D.TIz D.TIi1 D.TIi2 ti,g2,g3,.inr ⟨T,o,t1,t2,t3,t4,t5,g1,g5 _ _ t1 t2 t3 hT⟩⟩ g4 λc o c1 c2 c3 c4 e=>g5 c o c1 c3 c4 e
theorem Zst.stop{z TI TO i1 i2 l1 l2 d:Addr}{i:Nat}{xs ys:Array Value}{Q:Option Value->Shared->Prop}(hh:A.handled=none)(D:ZipApart z TI TO i1 i2 l1 l2)(Z:Zst s.heap z TI TO i1 i2 l1 l2 d i)
  (hl1:s.heap.IsList l1 xs) (hl2:s.heap.IsList l2 ys) (hx:xs[i]?=none)
  (hQ:∀h',(∀c o,c≠z->c≠TO->c≠i1->c≠i2->s.heap.get? c=some o->h'.get? c=some o)->Q none {s with heap:=h'}):
  wpAny (model prog w) A (pyNext (.ref z)) Q E s:=by
 obtain⟨ti,one,two,st⟩:=Z
 rcases st with⟨hz,a,b,hTO⟩|⟨T,o,t1,t2,t3,t4,t5,hz,hT⟩
 .show EF_ hh D hz ti hTO one two hl1 hl2 (.inl hx) hQ
 .show jA_ hh D hz ti hT one hl1 hx λh' k=>hQ h' λc o c1 _ c3 _ e=>k c o c1 c3 e
theorem Zst.keep{z TI TO i1 i2 l1 l2 d:Addr}{i:Nat}{h h':Heap}(n:d≠z/\d≠TI/\d≠TO/\d≠i1/\d≠i2)(k:∀b o,b≠d->h.get? b=some o->h'.get? b=some o)(Z:Zst h z TI TO i1 i2 l1 l2 d i):Zst h' z TI TO i1 i2 l1 l2 d i:=by
 obtain⟨n1,n2,n3,n4,n5⟩:=n;obtain⟨ti,one,two,st⟩:=Z;show⟨k _ _ n2.symm ti,one.at λo e=>k _ o n4.symm e,two.at λo e=>k _ o n5.symm e,?_⟩
 rcases st with⟨hz,a,b,hTO⟩|⟨T,o,t1,t2,t3,t4,t5,⟨b,hz⟩,hT⟩
 .show .inl ⟨k _ _ n1.symm hz,a,b,k _ _ n3.symm hTO⟩
 .show .inr ⟨T,o,t1,t2,t3,t4,t5,⟨b,k _ _ n1.symm hz⟩,k _ _ t5 hT⟩
section
variable {K:Type}[DecidableEq K]{knd:KeyKind prog w K}{R:Result->Shared->Prop}
theorem ei_{d z TI TO i1 i2 l1 l2:Addr}{xs ys:Array Value}{h0:Heap}(hh:A.handled=none)(D:ZipApart z TI TO i1 i2 l1 l2)(n:d≠z/\d≠TI/\d≠TO/\d≠i1/\d≠i2)(m1:l1≠d)(m2:l2≠d)(hl1:h0.IsList l1 xs)(hl2:h0.IsList l2 ys):
  ∀(ps:List (K×Value))(i:Nat)(j:Int)(Dd:List (K×Value))(s:Shared),xs.size=i+ps.length->Dd.length+ps.length<=1000->Zst s.heap z TI TO i1 i2 l1 l2 d i->s.heap.DictOf knd d Dd ->
   (∀b o,b≠z->b≠TO->b≠i1->b≠i2->b≠d->h0.get? b=some o->s.heap.get? b=some o) ->
   (∀m q,ps[m]?=some q->∃kv:Value,xs[i+m]?=some kv/\ys[i+m]?=some q.2/\knd.is q.1 kv=true) ->
   (∀h' tk,(∀b o,b≠z->b≠TO->b≠i1->b≠i2->b≠d->h0.get? b=some o->h'.get? b=some o)->h'.DictOf knd d (merged Dd ps)->R (.ok (.ret .none)) {s with heap:=h',toks:=tk}) ->
   codeAny (model prog w) A (.builtin "dict.update.loop" ⟨[.ref d,.ref z,rawInt j,.none],[]⟩) R s
 |[],i,j,Dd,s,hz,hl,Z,hD,hk,hit,hR=>by
  have a1:s.heap.IsList l1 xs:=by obtain⟨o,e,r⟩:=hl1;show⟨o,hk _ o D.l1z D.l1TO D.l1i1 D.l1i2 m1 e,r⟩
  have a2:s.heap.IsList l2 ys:=by obtain⟨o,e,r⟩:=hl2;show⟨o,hk _ o D.l2z D.l2TO D.l2i1 D.l2i2 m2 e,r⟩
  show BW_ F.rim_entry_dict_update_loop ?_;rw[BL_ F.rim_plain_dict_update_loop _];change wpAny _ A.in1 (pyNext (.ref z) >>= _) _ _ s;show Ae_ (Z.stop hh D a1 a2 (C1_ (by simp at hz;lia)) λh' eb=>?_);change wpAny _ A.in1 (Builtin.Dict.addKeywords d [] >>= _) _ _ _;obtain⟨od,es,ep,g1,g2⟩:=hD;show Ae_ (Ao_ (Ao_ (hR h' s.toks (λb o h1 h2 h3 h4 h5 e=>eb b o h1 h2 h3 h4 (hk b o h1 h2 h3 h4 h5 e)) ⟨od,es,ep,eb _ _ n.1 n.2.2.1 n.2.2.2.1 n.2.2.2.2 g1,g2⟩)))
 |q::ps,i,j,Dd,s,hz,hl,Z,hD,hk,hit,hR=>by
  have a1:s.heap.IsList l1 xs:=by obtain⟨o,e,r⟩:=hl1;show⟨o,hk _ o D.l1z D.l1TO D.l1i1 D.l1i2 m1 e,r⟩
  have a2:s.heap.IsList l2 ys:=by obtain⟨o,e,r⟩:=hl2;show⟨o,hk _ o D.l2z D.l2TO D.l2i1 D.l2i2 m2 e,r⟩
  obtain⟨kv,e1,e2,kis⟩:=hit 0 q rfl;have dl:d<s.heap.objs.size:=by obtain⟨od,es,ep,g1,g2⟩:=hD;show Ap_ g1
  show BW_ F.rim_entry_dict_update_loop ?_;rw[BL_ F.rim_plain_dict_update_loop _];change wpAny _ A.in1 (pyNext (.ref z) >>= _) _ _ s;show Ae_ (Z.next D dl a1 a2 e1 e2 λh1 a ha Z1 pa k1=>?_);have ht:({s with heap:=h1}:Shared).TypeIs (.ref a) "tuple" := ⟨_,pa,rfl⟩;change wpAny _ A.in1 (holding [Value.ref a] _ >>= _) _ _ _;show Ae_ (A2_ ?_);show Ae_ ?_;show wpAny_tryCatch ?_;unfold Builtin.Dict.pairItems;show Ae_ (Do_ ht ?_);rw[if_pos d_];show Ae_ (Cr_ pa rfl ?_);show Ao_ ?_;change wpAny _ A.in1 (holding [kv,q.2] (dictSet d kv q.2)) _ _ _;show A2_ ?_;have hD1:({s with heap:=h1}:Shared).heap.DictOf knd d Dd:=by obtain⟨od,es,ep,g1,g2⟩:=hD;show⟨od,es,ep,k1 _ _ n.1 n.2.2.1 n.2.2.2.1 n.2.2.2.2 g1,g2⟩
  show EV_ kis hD1 (λh2 hD2 sb2=>?_) (by simp at hl;rw[BT_];lia);show Ao_ ⟨C4_ F.rim_plain_dict_update_loop _,?_⟩;have sl:=DX_ Dd q.1 q.2;show ei_ hh D n m1 m2 hl1 hl2 ps (i+1) (j+1) (stored Dd q.1 q.2) {s with heap:=h2,toks:=s.toks+1} (by simp at hz;lia) (by simp at hl;lia) (Z1.keep n λb o hb e=>(sb2.2 b hb).trans e) hD2 (λb o c1 c2 c3 c4 c5 e=>(sb2.2 b c5).trans (k1 _ _ c1 c2 c3 c4 (hk b o c1 c2 c3 c4 c5 e))) (λm r e=>?_) λh' tk k3 hD3=>hR h' tk k3 hD3;rw[show i+1+m=i+(m+1) by lia];show hit (m+1) r e
end
end PySem
namespace L2
open PySem PySem.Spec PyProof.Rows PySem.W
variable {X:Cx}
def J9_(K:PySem.W.Frag)(ta:TA):TE:=λσ H Q=>ta σ H λvs H1=>∃(la lb:Addr)(ks:List Key)(xs:List V),vs=[.ref la,.ref lb]/\SqL K H1 la (ks.map kV)/\SqL K H1 lb xs/\ks.length=xs.length/\ks.length<=900/\∀l,H1 l=none->Q (.ref l) (upd H1 l (.dK (GE_ [] (ks.zip xs))))
theorem kH_:∀{ks:List Key}{xs:List V}{us ws:List Value},FR_ (ks.map kV) us->FR_ xs ws->ks.length=xs.length ->
  ∃ps:List (Key×Value),KV (ks.zip xs) ps/\ps.length=us.length/\∀(m:Nat)(q:Key×Value),ps[m]?=some q->∃kv:Value,us[m]?=some kv/\ws[m]?=some q.2/\(FK_ X.prog X.w).is q.1 kv=true
 |[],[],_,_,.nil,.nil,_=>⟨[],.nil,rfl,λm q e=>by simp at e⟩
 |[],_::_,_,_,_,_,e=>nomatch e
 |_::_,[],_,_,_,_,e=>nomatch e
 |k::ks,x::xs,_,_,.cons r1 r2,.cons q1 q2,e=>by
  obtain⟨ps,rel,hl,hp⟩:=kH_ r2 q2 (by simpa using e);show⟨(k,_)::ps,.cons ⟨rfl,q1⟩ rel,by simp[hl],λm q hq=>?_⟩;cases m with
  |zero=>cases hq;show⟨_,rfl,rfl,H6_ r1⟩
  |succ m=>show hp m q hq
theorem pk_{K:PySem.W.Frag}{a b:Expr}{ta:TA}{p p' pos pos':Pos}(hK:X.K=K)(hc:X.calm=true)(hg:Gl X "dict") (hm:X.mg "dict"=none) (hg':Gl X "zip") (hm':X.mg "zip"=none) (ha:PA X [a,b] ta) (hs:Fv_ [a,b]=true:=by rfl):PE X (.Call (.Name "dict" p) [.Call (.Name "zip" p') [a,b] [] pos'] [] pos) (J9_ K ta):=by
 subst hK;intro pins s σ H Q I h;have h':Gk_ a=true/\Fv_ [b]=true:=by simpa[Fv_]using hs
 show BE_ (dg_ I hg hm (u:=.type "dict") rfl ?_);show AV_ ?_ rfl rfl;show B8_ ?_;show BE_ (dg_ I hg' hm' pP_ (AV_ (thn (ha pos' pins s σ H _ I h) λus s1 ⟨vs,H1,I1,r1,q1⟩=>?_) (aw_ h'.1) (be_ h'.2)));obtain⟨l1,l2,ks,xs,e,hx,hy,hl,hz,q⟩:=q1;subst e;obtain⟨u1,u2,rfl,e1,e2⟩:=Hl_ r1;cases e1;cases e2;obtain⟨its1,rv1,p1,z1⟩:=I1.list hx;obtain⟨its2,rv2,p2,z2⟩:=I1.list hy;have hl1:l1<s1.heap.objs.size:=by obtain⟨o,e,_⟩:=p1.isList;show Ap_ e
 have hl2:l2<s1.heap.objs.size:=by obtain⟨o,e,_⟩:=p2.isList;show Ap_ e
 show call_zip_2 p1.isList p2.isList λh' g1 g2 g3 g4 g5 g6 g7=>?_;show CY_ ?_;have hh:=I1.ok.hd hc;generalize hN:s1.heap.objs.size=N at*;have D:=zipApart_new (n:=N) hl1 hl2;show callType_codes (Q₁:=λobj s₁=>obj=.ref h'.objs.size/\s₁={s1 with heap:=h'.push {cls:=.type "dict",data:=.dict #[]}}) F.kt_called_dict (EG_ _) F.entry_dict_init (kt_code_dict_new _ ⟨rfl,rfl⟩) ?_;rintro obj s₁ ⟨rfl,rfl⟩;have hnew:(h'.push {cls:=.type "dict",data:=.dict #[]}).DictOf (FK_ X.prog X.w) h'.objs.size []:=Ea_ h';show⟨hnew.typeIs,F.args_dict_init_2 _ _,?_⟩;unfold Builtin.«dict.__init__»;show Ae_ ?_;unfold Builtin.Dict.selfAndRest;show Ae_ (Ev_ hnew.typeIs ?_);change wpAny _ _ (pure (h'.objs.size,[Value.ref (N+4)])) _ _ _;show Ao_ ?_;change wpAny _ _ (Builtin.Dict.updateFrom "dict.__init__" h'.objs.size (.ref (N+4)) [] .none) _ _ _;unfold Builtin.Dict.updateFrom;have hzp:(h'.push {cls:=.type "dict",data:=.dict #[]}).get? (N+4)=some _:=Al_ _ g1;have hT:({s1 with heap:=h'.push {cls:=.type "dict",data:=.dict #[]}}:Shared).TypeIs (.ref (N+4)) "zip" := ⟨_,hzp,rfl⟩;show Ae_ (Do_ hT ?_);rw[if_pos d_];show Ae_ (kG_ hzp hh λh1 tk k1=>?_);rw[if_pos Option.isNone_none];show Ae_ (EA_ ?_);have k2:∀c o,h'.get? c=some o->h1.get? c=some o:=λc o e=>k1 _ _ (Al_ _ e);show Ae_ (DR_ (k2 _ _ g1) ?_);show Ao_ ⟨C4_ F.rim_plain_dict_update_loop _,?_⟩;have q1:@LT.lt Nat _ l1 N:=hl1;have q2:@LT.lt Nat _ l2 N:=hl2;have ne:∀{x y:Nat},x≠y->(show Addr from x)≠(show Addr from y):=λh=>h;have rl:=rv1.length;rw[Ab_]at rl;have rl2:=rv2.length;obtain⟨ps,rel,pl,hit⟩:=kH_ (X:=X) rv1 rv2 hl;have below:∀{b:Addr}{o:Obj},s1.heap.get? b=some o->b<N:=λe=>hN▸Ap_ e;show ei_ (d:=h'.objs.size) (z:=N+4) (TI:=N+2) (TO:=N+3) (i1:=N) (i2:=N+1) (l1:=l1) (l2:=l2) (A:=X.A.in1) (knd:=FK_ X.prog X.w) (xs:=its1.toArray) (ys:=its2.toArray) (h0:=s1.heap) hh D ⟨ne o_,ne o_,ne o_,ne o_,ne o_⟩ (ne (AE_ o_)) (ne (AE_ o_)) p1.isList p2.isList ps 0 0 [] _ (by simp;lia) (by simp;lia) ⟨k2 _ _ g2,g4.at λo e=>k2 _ o e,g5.at λo e=>k2 _ o e,.inl ⟨k2 _ _ g1,_,_,k2 _ _ g3⟩⟩ ?_ (λb o _ _ _ _ _ e=>k2 _ _ (g7 _ _ e)) (λm q hq=>?_) λh2 tk' k3 hD3=>?_
 .obtain⟨od,es,ep,hod,dr⟩:=hnew;show⟨od,es,ep,k1 _ _ hod,dr⟩
 .obtain⟨kv,e1,e2,e3⟩:=hit m q hq;show⟨kv,by simpa using e1,by simpa using e2,e3⟩
 .have rm:KV (GE_ [] (ks.zip xs)) (merged [] ps):=KV.merge rel .nil;have ml:=hZ_ ps [];have mz:(GE_ [] (ks.zip xs)).length<=sizeLine:=by rw[show(GE_ [] (ks.zip xs)).length=(merged [] ps).length from rm.length];show AN_ (Fq_ (by simp at ml;lia))
  have big:@LT.lt Nat _ sysModules N:=hN▸I1.big;show⟨rfl,.ref _,_,I1.laid (a:=h'.objs.size) (o:=.dK (GE_ [] (ks.zip xs))) (t':=tk') (λb o e=>?_) o_ (me_ mz (B2_.mpr (Ne.symm (AE_ o_))) rm hD3),rfl,q _ (I1.hok.fresh o_)⟩;have:@LT.lt Nat _ b N:=below e;show k3 b o (ne (AE_ o_)) (ne (AE_ o_)) (ne (AE_ o_)) (ne (AE_ o_)) (ne (AE_ o_)) e
end L2
namespace RimM
def Ov(B:Int)(t:Nat)(r:List (Int×Int)):Prop:=∀p∈r,∃x,Is p x B/\x.natAbs<=2 ^ t
def FX_(r:List (Int×Int)):Int:=r.foldl (λc e=>c/(Int.gcd c e.2:Int)*e.2) 1
def tops(r:List (Int×Int))(L:Int):List Int:=r.map λe=>e.1*(L/e.2)
variable{p:Int×Int}{x B:Int}
theorem Is.dvd(h:Is p x B):p.2 ∣ B:=by show mk_ (n:=p.1) ⟨x,?_⟩ (by rw[Dm_];show h.low.co);rw[h.eq,AQ_]
theorem mv_{c e:Int}(hc:0<c)(he:0<e)(dc:c ∣ B)(de:e ∣ B):
  0<c/(Int.gcd c e:Int)*e/\c ∣ c/(Int.gcd c e:Int)*e/\e ∣ c/(Int.gcd c e:Int)*e/\c/(Int.gcd c e:Int)*e ∣ B:=by
 have g:=gpos (t:=c) (b:=e) o_;obtain⟨a,ha⟩:=Cz_ (a:=c) (b:=e);obtain⟨y,hy⟩:=BX_ (a:=c) (b:=e);have q:=CD_ hc (Cp_ g) ⟨a,ha⟩;have e1:c/(Int.gcd c e:Int)*(Int.gcd c e:Int)=c:=Dr_ ⟨a,ha⟩;have e2:c/(Int.gcd c e:Int)=a:=Cu_ o_ ha;show⟨Be_ q he,⟨y,?_⟩,⟨_,AQ_ _ _⟩,?_⟩
 .calc c/(Int.gcd c e:Int)*e=c/(Int.gcd c e:Int)*((Int.gcd c e:Int)*y):=by rw[<-hy]
   _=c*y:=by rw[<-Bg_,e1]
 .rw[e2];obtain⟨m,hm⟩:=de
  have co:Int.gcd a y=1:=by
   have h:=Int.gcd_mul_left (Int.gcd c e:Int) a y;rw[<-ha,<-hy]at h;have:(Int.gcd c e:Int).natAbs*Int.gcd a y=Int.gcd c e:=h.symm;have g':0<Int.gcd c e:=o_
   rw[Int.natAbs_natCast]at this;show Nat.eq_of_mul_eq_mul_left g' o_
  obtain⟨k,hk⟩:=dc;have:a ∣ y*m:=by show⟨k,AY_ (a:=(Int.gcd c e:Int)) o_ ?_⟩;rw[<-Bg_,<-hy,<-hm,<-Bg_,<-ha,hk]
  obtain⟨n,hn⟩:=mk_ this co;show⟨n,?_⟩;rw[hm,hn,<-Bg_,AQ_ e a]
theorem mw_:∀(l:List (Int×Int))(c B:Int),0<c->c ∣ B->(∀p∈l,0<p.2/\p.2 ∣ B) ->
  0<l.foldl (λc e=>c/(Int.gcd c e.2:Int)*e.2) c/\c ∣ l.foldl (λc e=>c/(Int.gcd c e.2:Int)*e.2) c/\(∀p∈l,p.2 ∣ l.foldl (λc e=>c/(Int.gcd c e.2:Int)*e.2) c)/\l.foldl (λc e=>c/(Int.gcd c e.2:Int)*e.2) c ∣ B
 |[],c,B,h0,hb,_=>⟨h0,Int.dvd_refl _,(λp hp=>absurd hp s_),hb⟩
 |q::l,c,B,h0,hb,hs=>by
  have sq:=hs q Ah_;obtain⟨l1,l2,l3,l4⟩:=mv_ h0 sq.1 hb sq.2;obtain⟨i1,i2,i3,i4⟩:=mw_ l _ B l1 l4 λp hp=>hs p (Ag_ _ hp);show⟨i1,DH_ l2 i2,λp hp=>?_,i4⟩
  rcases Aq_.mp hp with rfl|hp
  .show DH_ l3 i2
  .show i3 p hp
structure Bot(B:Int)(r:List (Int×Int))(L:Int):Prop where
 pos:0<L
 dvd:∀p∈r,p.2 ∣ L
 to:L ∣ B
variable{r:List (Int×Int)}
theorem bq_{t:Nat}(h:Ov B t r):Bot B r (FX_ r):=by obtain⟨a,_,c,d⟩:=mw_ r 1 B d_ (Ek_ _) λp hp=>let⟨x,z,_⟩:=h p hp;⟨z.low.pos,z.dvd⟩;show⟨a,c,d⟩
theorem Bot.le{L:Int}(h:Bot B r L)(hB:0<B):L<=B:=DI_ hB h.to
theorem r4_{L:Int}(h:Is p x B)(hp:p.2 ∣ L)(hL:L ∣ B):(p.1*(L/p.2)).natAbs<=x.natAbs:=by
 have p0:=h.low.pos;obtain⟨m,hm⟩:=hp;obtain⟨k,hk⟩:=hL;have e1:L/p.2=m:=Cu_ o_ hm
 have e2:x=p.1*m*k:=by
  have z:=h.eq;show AY_ (a:=p.2) o_ ?_;rw[AQ_ p.2 x,<-z,hk,hm]
  grind
 rw[e1,e2,AT_ (p.1*m)];have k0:k≠0:=λz=>by rw[z,Bh_]at hk;show h.ne hk
 show Nat.le_mul_of_pos_right _ o_
theorem gq_{t:Nat}(h:Ov B t r):∀x∈tops r (FX_ r),x.natAbs<=2 ^ t:=λx hx=>by obtain⟨e,he,rfl⟩:=Aj_.mp hx;obtain⟨y,hy,ly⟩:=h e he;have b:=bq_ h;show Am_ (r4_ hy (b.dvd e he) b.to) ly
def dot(xs ys:List Int):Int:=(List.zipWith (· * ·) xs ys).sum
theorem fQ_(x y:Int)(xs ys:List Int):dot (x::xs) (y::ys)=x*y+dot xs ys:=by simp[dot]
def Ig_(r c:List (Int×Int)):Int×Int:=nf (dot (tops r (FX_ r)) (tops c (FX_ c))) (FX_ r*FX_ c)
def Ovs(B:Int):List (Int×Int)->List Int->Prop
 |[],[]=>True
 |p::r,x::xs=>Is p x B/\Ovs B r xs
 |_,_=>False
theorem Ovs.len:∀{r:List (Int×Int)}{xs:List Int},Ovs B r xs->r.length=xs.length
 |[],[],_=>rfl
 |_::_,_::_,h=>by rw[AH_,AH_,h.2.len]
 |[],_::_,h=>h.elim
 |_::_,[],h=>h.elim
theorem Ovs.ov{t:Nat}:∀{r:List (Int×Int)}{xs:List Int},Ovs B r xs->(∀x∈xs,x.natAbs<=2 ^ t)->Ov B t r
 |[],[],_,_=>λp hp=>by cases hp
 |q::r,x::xs,h,hx=>λp hp=>by
  rcases Aq_.mp hp with rfl|hp
  .show⟨x,h.1,hx x Ah_⟩
  .show h.2.ov (λy hy=>hx y (Ag_ _ hy)) p hp
 |[],_::_,h,_=>h.elim
 |_::_,[],h,_=>h.elim
theorem Ovs.at{B:Int}:∀{r:List (Int×Int)}{xs:List Int}{i:Nat}{x:Int},Ovs B r xs->xs[i]?=some x->∃p,r[i]?=some p/\Is p x B
 |p::r,x::xs,0,_,h,e=>by cases e;show⟨p,rfl,h.1⟩
 |p::r,x::xs,i+1,_,h,e=>Ovs.at (i:=i) h.2 e
 |[],[],_,_,_,e=>by simp at e
 |[],_::_,_,_,h,_=>h.elim
 |_::_,[],_,_,h,_=>h.elim
theorem Ovs.map{α:Type}{B:Int}(f:α->Int×Int)(g:α->Int):∀{l:List α},(∀a∈l,Is (f a) (g a) B)->Ovs B (l.map f) (l.map g)
 |[],_=>trivial
 |a::l,h=>⟨h a Ah_,Ovs.map f g λb hb=>h b (Ag_ _ hb)⟩
theorem mx_{L:Int}(h:Is p x B)(hp:p.2 ∣ L):p.1*(L/p.2)*B=x*L:=by
 have p0:=h.low.pos;obtain⟨m,hm⟩:=hp;have e1:L/p.2=m:=Cu_ o_ hm;rw[e1,hm];have z:=h.eq
 grind
theorem p3_{B C L M:Int}:∀{r c:List (Int×Int)}{xs ys:List Int},Ovs B r xs->Ovs C c ys->(∀p∈r,p.2 ∣ L)->(∀p∈c,p.2 ∣ M)->dot (tops r L) (tops c M)*(B*C)=dot xs ys*(L*M)
 |[],[],[],[],_,_,_,_=>by simp[dot,tops]
 |[],q::c,[],y::ys,_,_,_,_=>by simp[dot,tops]
 |p::r,[],x::xs,[],_,_,_,_=>by simp[dot,tops]
 |p::r,q::c,x::xs,y::ys,h,h',d,d'=>by
  have ih:=p3_ h.2 h'.2 (λp hp=>d p (Ag_ _ hp)) λp hp=>d' p (Ag_ _ hp);have t1:=mx_ h.1 (d p Ah_);have t2:=mx_ h'.1 (d' q Ah_);change dot (p.1*(L/p.2)::tops r L) (q.1*(M/q.2)::tops c M)*(B*C)=dot (x::xs) (y::ys)*(L*M);rw[fQ_,fQ_,C2_,C2_,ih];congr 1;generalize p.1*(L/p.2)=a at*;generalize q.1*(M/q.2)=b at*
  calc a*b*(B*C)=(a*B)*(b*C):=by ac_rfl
   _=(x*L)*(y*M):=by rw[t1,t2]
   _=x*y*(L*M):=by ac_rfl
 |[],_,_::_,_,h,_,_,_=>h.elim
 |_::_,_,[],_,h,_,_,_=>h.elim
 |_,[],_,_::_,_,h,_,_=>h.elim
 |_,_::_,_,[],_,h,_,_=>h.elim
theorem p4_{C:Int}{t u:Nat}{c:List (Int×Int)}{xs ys:List Int}(hB:0<B)(hC:0<C)(h:Ovs B r xs)(h':Ovs C c ys)(o:Ov B t r)(o':Ov C u c):Is (Ig_ r c) (dot xs ys) (B*C):=by have b:=bq_ o;have b':=bq_ o';have e:=p3_ h h' b.dvd b'.dvd;show(GQ_ (AW_ (by have:=b.pos;lia) (by have:=b'.pos;lia))).conv (AW_ o_ o_) e
theorem oi_{m n:Nat}:∀{xs ys:List Int},(∀x∈xs,x.natAbs<=m)->(∀y∈ys,y.natAbs<=n)->(dot xs ys).natAbs<=xs.length*(m*n)
 |[],ys,_,_=>by simp[dot]
 |x::xs,[],_,_=>by simp[dot]
 |x::xs,y::ys,h,h'=>by have ih:=oi_ (λz hz=>h z (Ag_ _ hz)) λz hz=>h' z (Ag_ _ hz);have a:=AX_ (h x Ah_) (h' y Ah_);rw[<-AT_]at a;rw[fQ_,AH_,En_,Ep_];lia
end RimM
namespace RimD
variable{A:Mat}
theorem D_sw{n i k:Nat}{B:Mat}(hk:i<k)(hn:k<n)(h0:∀c,B i c=A k c)(h1:∀c,B k c=A i c)(h:∀r c,r≠i->r≠k->B r c=A r c):D n B = -D n A:=by
 have f:∀(x y:Nat->Int),∃M:Mat,(∀c,M i c=x c)/\(∀c,M k c=y c)/\∀r c,r≠i->r≠k->M r c=A r c:=λx y =>⟨λr c=>if r=i then x c else if r=k then y c else A r c,λc=>s_,λc=>by simp[show k≠i by lia],λr c a b=>by simp[a,b]⟩;obtain⟨Mww,a0,a1,a2⟩:=f (λc=>A i c+A k c) (λc=>A i c+A k c);obtain⟨Muw,b0,b1,b2⟩:=f (A i) (λc=>A i c+A k c);obtain⟨Mvw,c0,c1,c2⟩:=f (A k) (λc=>A i c+A k c);obtain⟨Muu,d0,d1,d2⟩:=f (A i) (A i);obtain⟨Mvv,e0,e1,e2⟩:=f (A k) (A k)
 have off:∀{M N:Mat}{r c:Nat},(∀c,M k c=N k c)->(∀r c,r≠i->r≠k->M r c=A r c)->(∀r c,r≠i->r≠k->N r c=A r c)->r≠i->M r c=N r c:=λ{M N r c} x y z hr=>by
  by_cases q:r=k
  .rw[q];show x c
  .rw[y r c hr q,z r c hr q]
 have off':∀{M N:Mat}{r c:Nat},(∀c,M i c=N i c)->(∀r c,r≠i->r≠k->M r c=A r c)->(∀r c,r≠i->r≠k->N r c=A r c)->r≠k->M r c=N r c:=λ{M N r c} x y z hr=>by
  by_cases q:r=i
  .rw[q];show x c
  .rw[y r c q hr,z r c q hr]
 have s1:=HP_ (n:=n) (i:=i) (p:=1) (q:=1) (A:=Mww) (B:=Muw) (C:=Mvw) o_ (λr c hr=>⟨off (λc=>by rw[a1,b1]) a2 b2 hr,off (λc=>by rw[a1,c1]) a2 c2 hr⟩) λc=>by rw[a0,b0,c0];lia
 have s2:=HP_ (n:=n) (i:=k) (p:=1) (q:=1) (A:=Muw) (B:=Muu) (C:=A) hn (λr c hr=>⟨off' (λc=>by rw[b0,d0]) b2 d2 hr,off' (λc=>by rw[b0]) b2 (λ_ _ _ _=>rfl) hr⟩) λc=>by rw[b1,d1];lia
 have s3:=HP_ (n:=n) (i:=k) (p:=1) (q:=1) (A:=Mvw) (B:=B) (C:=Mvv) hn (λr c hr=>⟨off' (λc=>by rw[c0,h0]) c2 h hr,off' (λc=>by rw[c0,e0]) c2 e2 hr⟩) λc=>by rw[c1,h1,e1];lia
 have z1:D n Mww=0:=Hg_ hk hn λc=>by rw[a0,a1]
 have z2:D n Muu=0:=Hg_ hk hn λc=>by rw[d0,d1]
 have z3:D n Mvv=0:=Hg_ hk hn λc=>by rw[e0,e1]
 lia
def Mn(b:Int)(R k:Nat)(A A0:Mat)(R0:Nat):Prop:=∀(m:Nat)(ρ κ:Nat->Nat),(∀i,ρ i<R)->∃(e:Int)(ρ0 κ0:Nat->Nat),e.natAbs=1/\(∀i,ρ0 i<R0)/\(D (m+1) λi j=>A (ρ i) (κ j))=e*b ^ m*D (m+1+k) λi j=>A0 (ρ0 i) (κ0 j)
theorem p5_:∀{n:Nat}{e:Nat->Int},(∀i,i<n->(e i).natAbs=1)->(pr n e).natAbs=1
 |0,_,_=>rfl
 |n+1,e,h=>by change(pr n e*e n).natAbs=1;rw[AT_,p5_ λi hi=>h i o_,h n o_]
theorem Kx_{B:Nat}:∀{n:Nat}{N:Mat},n<=16->(∀i j,i<n->j<n->(N i j).natAbs<=2 ^ B)->(D n N).natAbs<=2 ^ ((B+4)*n)
 |0,_,_,_=>by change 1<=2 ^ ((B+4)*0);simp
 |n+1,N,h8,h=>by
  have z:(D (n+1) N).natAbs<=(n+1)*(2 ^ B*2 ^ ((B+4)*n)):=Ls_ λk hk=>by rw[AT_,AT_,rO_,Ep_];show AX_ (h 0 k o_ hk) (Kx_ o_ λi j hi hj=>h _ _ o_ (by unfold sk;split <;> lia))
  show Am_ z (Am_ (CB_ _ h8) ?_);rw[show(16:Nat)=2 ^ 4 by rfl,<-A4_,<-A4_,Nat.mul_succ];show Aw_ d_ o_
variable{b:Int}
theorem oj_{rows ord:List (List Int)}{free:Nat}(hl:free<=rows.length)(hd:Dv b rows.length (ma rows))(h:Ho_ rows free=ord)(hn:ord≠[]):Dv b rows.length (ma ord):=by
 unfold Ho_ at h;split at h
 .show absurd h.symm hn
 .subst h;show hd
 .rename_i k' e;obtain⟨_,hk,c⟩:=bu_ e;have hk':k'+1<rows.length:=o_
  subst h;have at':=kw_ hk';generalize([(rows.getD (k'+1) []).map λx=>-x]++(rows.drop 1).take k'++[rows.getD 0 []]++rows.drop (k'+2))=ord at*;have m0:∀c,ma ord 0 c = -ma rows (k'+1) c:=λc=>by unfold ma;rw[at',if_pos rfl,kv_ (by rfl)]
  have m1:∀c,ma ord (k'+1) c=ma rows 0 c:=λc=>by unfold ma;rw[at',if_neg o_,if_pos rfl]
  have m2:∀r c,r≠0->r≠k'+1->ma ord r c=ma rows r c:=λr c a b=>by unfold ma;rw[at',if_neg a,if_neg b]
  show nP_ hd (λi=>if i=0 then k'+1 else if i=k'+1 then 0 else i) (λi=>if i=0 then -1 else 1) (λi hi=>?_) λi j hi=>?_
  .change(if i=0 then k'+1 else if i=k'+1 then 0 else i)<rows.length;split
   .lia
   .split <;> lia
  .by_cases h0:i=0
   .subst h0;simp only[if_true];rw[m0];lia
   .simp only[if_neg h0];by_cases h1:i=k'+1
    .subst h1;simp only[if_true];rw[m1];lia
    .simp only[if_neg h1];rw[m2 i j h0 h1];lia
variable{R:Nat}{B:Mat}
theorem ok_(hb:b≠0)(hp:A 0 0≠0)(h:Dv b (R+1) A)(hB:∀i j,i<R->b*B i j=A 0 0*A (i+1) (j+1)-A (i+1) 0*A 0 (j+1))(hL:∀j,B R j=A 0 (j+1)):Dv (A 0 0) (R+1) B:=by
 have step:=nR_ hb hp h hB
 have first:∀(m:Nat)(ρ κ:Nat->Nat),ρ 0=R->(∀i,0<i->i<m+1->ρ i<R)->A 0 0 ^ m ∣ D (m+1) λi j=>B (ρ i) (κ j):=λm ρ κ h0 hρ=>by
  obtain⟨t,ht⟩:=h m (λi=>if 0<i/\i<m+1 then ρ i+1 else 0) (λj=>κ j+1) λi=>by
   change(if 0<i/\i<m+1 then ρ i+1 else 0)<R+1;split
   .rename_i z;show C6_ (hρ i z.1 z.2)
   .lia
  have e:=JB_ (A 0 0) (λi=>A (ρ i+1) 0) (λi j=>A (if 0<i/\i<m+1 then ρ i+1 else 0) (κ j+1)) (n:=m) (Af_ _)
  have e2:(D (m+1) λi j=>if 0<i/\i<=m then A 0 0*A (if 0<i/\i<m+1 then ρ i+1 else 0) (κ j+1)-A (ρ i+1) 0*A (if 0<0/\0<m+1 then ρ 0+1 else 0) (κ j+1)else A (if 0<i/\i<m+1 then ρ i+1 else 0) (κ j+1))=D (m+1) λi j=>(if i=0 then 1 else b)*B (ρ i) (κ j):=a4_ λi j hi _=>by
   by_cases z:i=0
   .subst z;rw[if_neg o_,if_neg o_,if_pos rfl,h0,hL,Bv_]
   .rw[if_pos o_,if_pos o_,if_neg o_,if_neg z,hB _ _ (hρ i o_ hi)]
  have e3:pr (m+1) (λi=>if i=0 then 1 else b)=b ^ m:=by rw[jq_,if_pos rfl,Bv_,<-dL_];congr 1
  rw[e2,cD_,e3,ht]at e;show⟨t,AY_ (Cb_ (m:=m) hb) (e.trans ?_)⟩;rw[Cl_]
 intro m ρ κ hρ;by_cases hex:∃s,s<m+1/\ρ s=R
 .obtain⟨s,hs,es⟩:=hex;by_cases two:∃t,t<m+1/\t≠s/\ρ t=R
  .obtain⟨t,ht,nts,et⟩:=two
   have z:(D (m+1) λi j=>B (ρ i) (κ j))=0:=by
    rcases Nat.lt_or_gt_of_ne nts with q|q
    .show Hg_ (i:=t) (j:=s) q hs λc=>by rw[et,es]
    .show Hg_ (i:=s) (j:=t) q ht λc=>by rw[et,es]
   rw[z];show Int.dvd_zero _
  .have others:∀t,t<m+1->t≠s->ρ t<R:=λt ht nts=>by have:=hρ t;have:ρ t≠R:=λz=>two ⟨t,ht,nts,z⟩;lia
   by_cases s0:s=0
   .subst s0;show first m ρ κ es λi h1 h2=>others i h2 o_
   .have sw:=D_sw (n:=m+1) (i:=0) (k:=s) (A:=λi j=>B (ρ (if i=0 then s else if i=s then 0 else i)) (κ j)) (B:=λi j=>B (ρ i) (κ j)) o_ hs (λc=>by rw[if_neg s0,if_pos rfl]) (λc=>by rw[if_pos rfl]) λr c h1 h2=>by rw[if_neg h1,if_neg h2]
    rw[sw];show Int.dvd_neg.mpr (first m (λi=>ρ (if i=0 then s else if i=s then 0 else i)) κ (by rw[if_pos rfl];show es) λi h1 h2=>?_);change ρ (if i=0 then s else if i=s then 0 else i)<R;rw[if_neg o_];split
    .show others 0 o_ o_
    .rename_i z;show others i h2 z
 .have all:∀i,i<m+1->ρ i<R:=λi hi=>by have:=hρ i;have:ρ i≠R:=λz=>hex ⟨i,hi,z⟩;lia
  have c:(D (m+1) λi j=>B (ρ i) (κ j))=D (m+1) λi j=>B (ρ (if i<m+1 then i else 0)) (κ j):=a4_ λi j hi _=>by rw[if_pos hi]
  rw[c];show step m (λi=>ρ (if i<m+1 then i else 0)) κ λi=>?_;change ρ (if i<m+1 then i else 0)<R;split
  .rename_i z;show all i z
  .show all 0 o_
def dtO(r:List Int)(i:Nat)(x:Nat->Int):Int:=su r.length λj=>gi r j*x (j+i)
theorem qR_(r:List Int)(i:Nat)(x:Nat->Int):dtO (r.map λy=>-y) i x = -dtO r i x:=by unfold dtO;rw[Ab_,show -(su r.length λj=>gi r j*x (j+i))=-1*su r.length λj=>gi r j*x (j+i) by lia,<-bV_];show a7_ λj hj=>?_;rw[kv_ (by rfl),CF_];lia
theorem h3_(r:List Int)(j:Nat):gi (r.drop 1) j=gi r (j+1):=by unfold gi;rw[Aa_,Aa_,DA_,Dk_]
theorem h4_{r:List Int}(h:0<r.length)(i:Nat)(x:Nat->Int):dtO r i x=gi r 0*x i+dtO (r.drop 1) (i+1) x:=by unfold dtO;obtain⟨l,hl⟩:∃l,r.length=l+1:=⟨r.length-1,o_⟩;rw[hl,e4_,BB_,hl,Nat.zero_add];congr 1;show a7_ λj hj=>?_;rw[h3_,show j+1+i=j+(i+1) by lia]
theorem pl_{piv row:List Int}(hl:row.length=piv.length)(h1:0<row.length)(ex:∀j,b*gi (FN_ piv b row) j=gi piv 0*gi row (j+1)-gi row 0*gi piv (j+1))(i:Nat)(x:Nat->Int):b*dtO (FN_ piv b row) (i+1) x=gi piv 0*dtO row i x-gi row 0*dtO piv i x:=by
 rw[h4_ (r:=row) h1,h4_ (r:=piv) o_]
 have e:b*dtO (FN_ piv b row) (i+1) x=gi piv 0*dtO (row.drop 1) (i+1) x-gi row 0*dtO (piv.drop 1) (i+1) x:=by
  unfold dtO;have l1:(FN_ piv b row).length=row.length-1:=by simp[FN_]
  rw[l1,BB_,BB_,<-hl,<-bV_,<-bV_,<-bV_,show(su (row.length-1) λk=>gi piv 0*(gi (List.drop 1 row) k*x (k+(i+1))))-(su (row.length-1) λk=>gi row 0*(gi (List.drop 1 piv) k*x (k+(i+1))))=(su (row.length-1) λk=>gi piv 0*(gi (List.drop 1 row) k*x (k+(i+1)))) + -1*(su (row.length-1) λk=>gi row 0*(gi (List.drop 1 piv) k*x (k+(i+1)))) by lia,<-bV_,<-hM_];show a7_ λj hj=>?_;rw[h3_,h3_,<-Bg_,ex j]
  grind
 rw[e]
 grind
def Zr(b:Int)(n i:Nat)(L:List (List Int))(x:Nat->Int):Prop:=∀r,r<n->(if r<n-i then 0 else b*x (r-(n-i)))+dtO (L.getD r []) i x=0
theorem r5_{n i free:Nat}{L ord:List (List Int)}{x:Nat->Int}(hL:L.length=n)(hf:free=n-i)(h:Ho_ L free=ord)(hn:ord≠[])(hz:Zr b n i ord x):Zr b n i L x:=by
 unfold Ho_ at h;split at h
 .show absurd h.symm hn
 .subst h;show hz
 .rename_i k e;obtain⟨_,hk,c⟩:=bu_ e;have hk':k+1<L.length:=o_
  subst h;have at':=kw_ hk';intro r hr;by_cases r0:r=0
  .subst r0;have z:=hz (k+1) o_;rw[if_pos (show k+1<n-i by lia),at',if_neg o_,if_pos rfl]at z;rw[if_pos o_];show z
  .by_cases rk:r=k+1
   .subst rk;have z:=hz 0 o_;rw[if_pos (show 0<n-i by lia),at',if_pos rfl,qR_]at z;rw[if_pos o_];lia
   .have z:=hz r hr;rw[at',if_neg r0,if_neg rk]at z;show z
theorem qS_{b:Int}{n i:Nat}{piv:List Int}{others:List (List Int)}{x:Nat->Int}{w:Nat}(hi:i<n)(hl:others.length+1=n)(hw:Hn_ w (piv::others))(w1:0<w)(hb:b≠0)(hp:gi piv 0≠0)
  (ex:∀r j,r<others.length->b*gi (FN_ piv b (others.getD r [])) j=gi piv 0*gi (others.getD r []) (j+1)-gi (others.getD r []) 0*gi piv (j+1))
  (hz:Zr (gi piv 0) n (i+1) (others.map (FN_ piv b)++[piv.drop 1]) x):Zr b n i (piv::others) x:=by
 have pl:piv.length=w:=hw.w _ (.head _)
 have p0:dtO piv i x=0:=by
  have z:=hz (n-1) o_;have e:(others.map (FN_ piv b)++[piv.drop 1]).getD (n-1) []=piv.drop 1:=by rw[Aa_,AJ_ (by simp;lia)];simp[show n-1-others.length=0 by lia]
  rw[e,if_neg o_,show n-1-(n-(i+1))=i by lia]at z;rw[h4_ o_];show z
 intro r hr;cases r with
 |zero =>
  rw[if_pos o_];change 0+dtO piv i x=0;lia
 |succ r =>
  have hro:r<others.length:=o_
  have z:=hz r o_;have e:(others.map (FN_ piv b)++[piv.drop 1]).getD r []=FN_ piv b (others.getD r []):=by rw[Aa_,AF_ (by simpa using hro),Ad_,Aa_,Ac_ hro];rfl
  have rl:(others.getD r []).length=w:=Hn_.at ⟨λq h=>hw.w q (.tail _ h)⟩ hro;have d:=pl_ (piv:=piv) (row:=others.getD r []) (b:=b) o_ o_ (λj=>ex r j hro) i x;rw[p0,Bh_,Int.sub_zero]at d;rw[e]at z;change(if r+1<n-i then 0 else b*x (r+1-(n-i)))+dtO (others.getD r []) i x=0
  suffices key:gi piv 0*((if r+1<n-i then 0 else b*x (r+1-(n-i)))+dtO (others.getD r []) i x)=0 from(Dl_.mp key).resolve_left hp
  rw[C0_,<-d];by_cases q:r+1<n-i
  .rw[if_pos o_]at z;rw[if_pos q,Bh_,BK_,show dtO (FN_ piv b (others.getD r [])) (i+1) x=0 by lia,Bh_]
  .rw[if_neg o_,show r-(n-(i+1))=r+1-(n-i) by lia]at z;rw[if_neg q,Cl_,<-C0_,z,Bh_]
theorem my_{n:Nat}{x:Nat->Int}:∀{free w i:Nat}{b:Int}{L:List (List Int)},L.length=n->free+i=n->free<=w->Hn_ w L->b≠0->Dv b n (ma L)->(FA_ free b L).1≠0->Zr (FA_ free b L).1 n n (FA_ free b L).2 x->Zr b n i L x
 |0,w,i,b,L,_,hf,_,_,_,_,_,hz=>by
  obtain rfl:i=n:=o_
  show hz
 |m+1,w,i,b,L,hL,hf,hw,hr,hb,hd,hne,hz=>by
  rw[FA_]at hne hz;cases e:Ho_ L (m+1)with
  |nil=>rw[e]at hne;show absurd rfl hne
  |cons piv others =>
   rw[e]at hne hz
   dsimp only at hne hz
   subst hL;have dv:=oj_ (free:=m+1) o_ hd e s_;have hdm:Dv b (m+1) (ma L):=λk ρ κ h=>hd k ρ κ λj=>by have:=h j;lia
   obtain⟨ln,rect,hp,_,_⟩:=mi_ o_ hr hdm e s_;have ol:others.length+1=L.length:=ln;have pw:piv.length=w:=rect.w _ (.head _);have hp':gi piv 0≠0:=hp;have ex:∀r j,r<others.length->b*gi (FN_ piv b (others.getD r [])) j=gi piv 0*gi (others.getD r []) (j+1)-gi (others.getD r []) 0*gi piv (j+1):=λr j hr'=>by rw[lp_ (by rw[pw];show Hn_.at ⟨λq h=>rect.w q (.tail _ h)⟩ hr')];show gl_ (nQ_ (A:=ma (piv::others)) (i:=r+1) (j:=j+1) dv o_ o_) hb
   show r5_ rfl o_ e s_ (qS_ (w:=w) o_ ol rect o_ hb hp' ex ?_)
   have keep:Dv (gi piv 0) L.length (ma (others.map (FN_ piv b)++[piv.drop 1])):=by
    rw[<-ol]at dv⊢;show ok_ (A:=ma (piv::others)) hb hp dv (λr j hr'=>?_) λj=>?_
    .have e1:(others.map (FN_ piv b)++[piv.drop 1]).getD r []=FN_ piv b (others.getD r []):=by rw[Aa_,AF_ (by simpa using hr'),Ad_,Aa_,Ac_ hr'];rfl
     change b*gi ((others.map (FN_ piv b)++[piv.drop 1]).getD r []) j=_;rw[e1];show ex r j hr'
    .have e1:(others.map (FN_ piv b)++[piv.drop 1]).getD others.length []=piv.drop 1:=by rw[Aa_,AJ_ s_];simp
     change gi ((others.map (FN_ piv b)++[piv.drop 1]).getD others.length []) j=gi piv (j+1);rw[e1,h3_]
   show my_ (w:=w-1) (by simp;lia) o_ o_ ⟨λr hx=>?_⟩ hp' keep hne hz
   rcases AB_.mp hx with hx|hx
   .obtain⟨r',hr',rfl⟩:=Aj_.mp hx;have:=rect.w r' (.tail _ hr');unfold FN_;simp;lia
   .simp at hx;subst hx;simp;lia
theorem kI_{rows:List (List Int)}{w c:Nat}(hw:Hn_ (rows.length+c) rows)(hd:(FA_ rows.length 1 rows).1≠0)(hlen:(FA_ rows.length 1 rows).2.length=rows.length)(hwid:Hn_ c (FA_ rows.length 1 rows).2){r q:Nat}(hr:r<rows.length)(hq:q<c):
  (su rows.length λt=>ma rows r t*ma (FA_ rows.length 1 rows).2 t q)=(FA_ rows.length 1 rows).1*ma rows r (rows.length+q):=by
 have z:=my_ (n:=rows.length) (x:=λj=>if j<rows.length then -ma (FA_ rows.length 1 rows).2 j q else if j=rows.length+q then(FA_ rows.length 1 rows).1 else 0) (free:=rows.length) (w:=rows.length+c) (i:=0) rfl rfl o_ hw d_ (nO_ _ _) hd ?_ r hr
 .rw[if_pos o_,BK_]at z;unfold dtO at z;rw[hw.at hr]at z
  have split:∀(a b:Nat)(f:Nat->Int),su (a+b) f=su a f+su b λk=>f (a+k):=λa b f=>by
   induction b with
   |zero=>change su a f=su a f+0;lia
   |succ b ih=>change su (a+b) f+f (a+b)=su a f+((su b λk=>f (a+k))+f (a+b));lia
  have one:∀(b:Nat)(f:Nat->Int)(v:Int),q<b->(∀k,k<b->f k=if k=q then v else 0)->su b f=v:=λb f v hb hf=>by
   induction b with
   |zero=>lia
   |succ b ih =>
    change su b f+f b=v;by_cases e:b=q
    .rw[dK_ λk hk=>by rw[hf k o_,if_neg o_],hf b o_,if_pos e];lia
    .rw[ih o_ λk hk=>hf k o_,hf b o_,if_neg e];lia
  rw[split,one c (λk=>gi (rows.getD r []) (rows.length+k)*(λj=>if j<rows.length then -ma (FA_ rows.length 1 rows).2 j q else if j=rows.length+q then(FA_ rows.length 1 rows).1 else 0) (rows.length+k+0)) (gi (rows.getD r []) (rows.length+q)*(FA_ rows.length 1 rows).1) hq λk hk=>by
   change gi (rows.getD r []) (rows.length+k)*(if rows.length+k+0<rows.length then _ else if rows.length+k+0=rows.length+q then _ else 0)=_;rw[if_neg o_];by_cases e:k=q
   .rw[if_pos o_,if_pos e,e]
   .rw[if_neg o_,if_neg e,Bh_]]at z
  have e2:(su rows.length λj=>gi (rows.getD r []) j*(λj=>if j<rows.length then -ma (FA_ rows.length 1 rows).2 j q else if j=rows.length+q then(FA_ rows.length 1 rows).1 else 0) (j+0))=-1*su rows.length λt=>ma rows r t*ma (FA_ rows.length 1 rows).2 t q:=by rw[<-bV_];show a7_ λj hj=>?_;change gi (rows.getD r []) j*(if j+0<rows.length then _ else _)=_;rw[if_pos o_];change gi (rows.getD r []) j * -ma (FA_ rows.length 1 rows).2 j q = -1*(gi (rows.getD r []) j*ma (FA_ rows.length 1 rows).2 j q);rw[Cg_];lia
  rw[e2]at z;have e3:gi (rows.getD r []) (rows.length+q)=ma rows r (rows.length+q):=rfl;rw[e3,AQ_ (ma rows r (rows.length+q))]at z;lia
 .intro t ht;rw[if_neg o_,B0_,Nat.sub_zero];change _*(if t<rows.length then _ else _)+dtO _ _ _=0;rw[if_pos ht];unfold dtO;rw[hwid.at o_]
  have one:∀(b:Nat)(f:Nat->Int)(v:Int),q<b->(∀k,k<b->f k=if k=q then v else 0)->su b f=v:=λb f v hb hf=>by
   induction b with
   |zero=>lia
   |succ b ih =>
    change su b f+f b=v;by_cases e:b=q
    .rw[dK_ λk hk=>by rw[hf k o_,if_neg o_],hf b o_,if_pos e];lia
    .rw[ih o_ λk hk=>hf k o_,hf b o_,if_neg e];lia
  rw[one c _ (gi ((FA_ rows.length 1 rows).2.getD t []) q*(FA_ rows.length 1 rows).1) hq λk hk=>by
   change gi ((FA_ rows.length 1 rows).2.getD t []) k*(if k+rows.length<rows.length then _ else if k+rows.length=rows.length+q then _ else 0)=_;rw[if_neg o_];by_cases e:k=q
   .rw[if_pos o_,if_pos e,e]
   .rw[if_neg o_,if_neg e,Bh_]]
  change _ * -gi ((FA_ rows.length 1 rows).2.getD t []) q+_=0;rw[Cg_,AQ_];lia
def Mg(b:Int)(R k:Nat)(A A0:Mat)(R0:Nat):Prop:=∀(m:Nat)(ρ κ:Nat->Nat),(∀i,ρ i<R)->∃(e:Int)(t:Nat)(ρ0 κ0:Nat->Nat),e.natAbs<=1/\t<=k+m+1/\(∀i,ρ0 i<R0)/\(D (m+1) λi j=>A (ρ i) (κ j))=e*b ^ m*D t λi j=>A0 (ρ0 i) (κ0 j)
theorem r6_(R:Nat)(A:Mat):Mg 1 R 0 A A R:=λm ρ κ h=>⟨1,m+1,ρ,κ,Af_ _,o_,h,by rw[E1_,Bv_,Bv_]⟩
variable{R0:Nat}{A0:Mat}
theorem qT_{k:Nat}(h:Mg b R k A A0 R0)(π:Nat->Nat)(e:Nat->Int)(he:∀i,(e i).natAbs=1)(hπ:∀i,i<R->π i<R)(hB:∀i j,i<R->B i j=e i*A (π i) j):Mg b R k B A0 R0:=λm ρ κ hρ=>by
 have z:(D (m+1) λi j=>B (ρ i) (κ j))=pr (m+1) (λi=>e (ρ i))*D (m+1) λi j=>A (π (ρ i)) (κ j):=by rw[<-cD_];show a4_ λi j _ _=>hB _ _ (hρ i)
 obtain⟨e0,t,ρ0,κ0,a,c0,c,d⟩:=h m (λi=>π (ρ i)) κ λi=>hπ _ (hρ i);show⟨pr (m+1) (λi=>e (ρ i))*e0,t,ρ0,κ0,?_,c0,c,?_⟩
 .rw[AT_,p5_ λi _=>he _,Ep_];show a
 .rw[z,d]
  ac_rfl
theorem Lu_{k C:Nat}(h:Mg b R k A A0 R0)(hC:∀(t:Nat) (ρ κ:Nat->Nat),t<=k+1->(∀i,ρ i<R0)->(D t λi j=>A0 (ρ i) (κ j)).natAbs<=C){i j:Nat}(hi:i<R):(A i j).natAbs<=C:=by
 obtain⟨e,t,ρ0,κ0,a,c0,c,d⟩:=h 0 (λ_=>i) (λ_=>j) λ_=>hi;have z:(D (0+1) λ_ _=>A i j)=A i j:=by change 0+sg 0*A i j*1=A i j;rw[show sg 0=1 from rfl];lia
 rw[z,Dj_,Dv_]at d;rw[d,AT_];show Am_ (CB_ _ a) (by rw[Ep_];show hC t ρ0 κ0 o_ c)
theorem qU_{k:Nat}(hb:b≠0)(hp:A 0 0≠0)(h:Mg b (R+1) k A A0 R0)(hB:∀i j,i<R->b*B i j=A 0 0*A (i+1) (j+1)-A (i+1) 0*A 0 (j+1))(hL:∀j,B R j=A 0 (j+1)):Mg (A 0 0) (R+1) (k+1) B A0 R0:=by
 have step:∀(m:Nat)(ρ κ:Nat->Nat),(∀i,ρ i<R)->∃(e:Int)(t:Nat)(ρ0 κ0:Nat->Nat),e.natAbs<=1/\t<=k+1+m+1/\(∀i,ρ0 i<R0)/\(D (m+1) λi j=>B (ρ i) (κ j))=e*A 0 0 ^ m*D t λi j=>A0 (ρ0 i) (κ0 j):=λm ρ κ hρ=>by
  obtain⟨e0,t,ρ0,κ0,a,c0,c,ht⟩:=h (m+1) (λi=>match i with|0=>0|i+1=>ρ i+1) (λj=>match j with|0=>0|j+1=>κ j+1) λi=>by
   cases i with
   |zero=>show DT_ _
   |succ i=>show C6_ (hρ i)
  have e:=mh_ (n:=m) (A:=λi j=>A (match i with|0=>0|i+1=>ρ i+1) (match j with|0=>0|j+1=>κ j+1)) hp;have e2:(D (m+1) λi j=>A 0 0*A (ρ i+1) (κ j+1)-A (ρ i+1) 0*A 0 (κ j+1))=b ^ (m+1)*D (m+1) λi j=>B (ρ i) (κ j):=by rw[<-dL_,<-cD_];show a4_ λi j _ _=>(hB _ _ (hρ i)).symm
  have e3:A 0 0 ^ m*(e0*b ^ (m+1)*D t λi j=>A0 (ρ0 i) (κ0 j))=b ^ (m+1)*D (m+1) λi j=>B (ρ i) (κ j):=by rw[<-ht,<-e2];show e
  show⟨e0,t,ρ0,κ0,a,o_,c,?_⟩;show AY_ (Cb_ (m:=m+1) hb) (e3.symm.trans ?_)
  ac_rfl
 have first:∀(m:Nat)(ρ κ:Nat->Nat),ρ 0=R->(∀i,0<i->i<m+1->ρ i<R)->∃(e:Int)(t:Nat)(ρ0 κ0:Nat->Nat),e.natAbs<=1/\t<=k+1+m+1/\(∀i,ρ0 i<R0)/\(D (m+1) λi j=>B (ρ i) (κ j))=e*A 0 0 ^ m*D t λi j=>A0 (ρ0 i) (κ0 j):=λm ρ κ h0 hρ=>by
  obtain⟨e0,t,ρ0,κ0,a,c0,c,ht⟩:=h m (λi=>if 0<i/\i<m+1 then ρ i+1 else 0) (λj=>κ j+1) λi=>by
   change(if 0<i/\i<m+1 then ρ i+1 else 0)<R+1;split
   .rename_i z;show C6_ (hρ i z.1 z.2)
   .lia
  have e:=JB_ (A 0 0) (λi=>A (ρ i+1) 0) (λi j=>A (if 0<i/\i<m+1 then ρ i+1 else 0) (κ j+1)) (n:=m) (Af_ _)
  have e2:(D (m+1) λi j=>if 0<i/\i<=m then A 0 0*A (if 0<i/\i<m+1 then ρ i+1 else 0) (κ j+1)-A (ρ i+1) 0*A (if 0<0/\0<m+1 then ρ 0+1 else 0) (κ j+1)else A (if 0<i/\i<m+1 then ρ i+1 else 0) (κ j+1))=D (m+1) λi j=>(if i=0 then 1 else b)*B (ρ i) (κ j):=a4_ λi j hi _=>by
   by_cases z:i=0
   .subst z;rw[if_neg o_,if_neg o_,if_pos rfl,h0,hL,Bv_]
   .rw[if_pos o_,if_pos o_,if_neg o_,if_neg z,hB _ _ (hρ i o_ hi)]
  have e3:pr (m+1) (λi=>if i=0 then 1 else b)=b ^ m:=by rw[jq_,if_pos rfl,Bv_,<-dL_];congr 1
  rw[e2,cD_,e3,ht]at e;show⟨e0,t,ρ0,κ0,a,o_,c,AY_ (Cb_ (m:=m) hb) (e.trans ?_)⟩
  ac_rfl
 intro m ρ κ hρ;by_cases hex:∃s,s<m+1/\ρ s=R
 .obtain⟨s,hs,es⟩:=hex;by_cases two:∃t,t<m+1/\t≠s/\ρ t=R
  .obtain⟨t,ht,nts,et⟩:=two
   have z:(D (m+1) λi j=>B (ρ i) (κ j))=0:=by
    rcases Nat.lt_or_gt_of_ne nts with q|q
    .show Hg_ (i:=t) (j:=s) q hs λc=>by rw[et,es]
    .show Hg_ (i:=s) (j:=t) q ht λc=>by rw[et,es]
   rw[z];obtain⟨e0,t0,ρ0,κ0,a,c0,c,ht0⟩:=h 0 (λ_=>0) (λ_=>0) λ_=>DT_ _;show⟨0,0,ρ0,κ0,d_,o_,c,s_⟩
  .have others:∀t,t<m+1->t≠s->ρ t<R:=λt ht nts=>by have:=hρ t;have:ρ t≠R:=λz=>two ⟨t,ht,nts,z⟩;lia
   by_cases s0:s=0
   .subst s0;show first m ρ κ es λi h1 h2=>others i h2 o_
   .have sw:=D_sw (n:=m+1) (i:=0) (k:=s) (A:=λi j=>B (ρ (if i=0 then s else if i=s then 0 else i)) (κ j)) (B:=λi j=>B (ρ i) (κ j)) o_ hs (λc=>by rw[if_neg s0,if_pos rfl]) (λc=>by rw[if_pos rfl]) λr c h1 h2=>by rw[if_neg h1,if_neg h2]
    rw[sw]
    obtain⟨e0,t,ρ0,κ0,a,c0,c,d⟩:=first m (λi=>ρ (if i=0 then s else if i=s then 0 else i)) κ (by rw[if_pos rfl];show es) λi h1 h2=>by
     change ρ (if i=0 then s else if i=s then 0 else i)<R;rw[if_neg o_];split
     .show others 0 o_ o_
     .rename_i z;show others i h2 z
    show⟨-e0,t,ρ0,κ0,by rw[Du_];show a,c0,c,?_⟩;rw[d,CF_,CF_]
 .have all:∀i,i<m+1->ρ i<R:=λi hi=>by have:=hρ i;have:ρ i≠R:=λz=>hex ⟨i,hi,z⟩;lia
  have c:(D (m+1) λi j=>B (ρ i) (κ j))=D (m+1) λi j=>B (ρ (if i<m+1 then i else 0)) (κ j):=a4_ λi j hi _=>by rw[if_pos hi]
  rw[c];show step m (λi=>ρ (if i<m+1 then i else 0)) κ λi=>?_;change ρ (if i<m+1 then i else 0)<R;split
  .rename_i z;show all i z
  .show all 0 o_
theorem p6_{rows ord:List (List Int)}{free k:Nat}(hl:free<=rows.length)(hd:Mg b rows.length k (ma rows) A0 R0)(h:Ho_ rows free=ord)(hn:ord≠[]):Mg b rows.length k (ma ord) A0 R0:=by
 unfold Ho_ at h;split at h
 .show absurd h.symm hn
 .subst h;show hd
 .rename_i k' e;obtain⟨_,hk,c⟩:=bu_ e;have hk':k'+1<rows.length:=o_
  subst h;have at':=kw_ hk';generalize([(rows.getD (k'+1) []).map λx=>-x]++(rows.drop 1).take k'++[rows.getD 0 []]++rows.drop (k'+2))=ord at*;have m0:∀c,ma ord 0 c = -ma rows (k'+1) c:=λc=>by unfold ma;rw[at',if_pos rfl,kv_ (by rfl)]
  have m1:∀c,ma ord (k'+1) c=ma rows 0 c:=λc=>by unfold ma;rw[at',if_neg o_,if_pos rfl]
  have m2:∀r c,r≠0->r≠k'+1->ma ord r c=ma rows r c:=λr c a b=>by unfold ma;rw[at',if_neg a,if_neg b]
  show qT_ hd (λi=>if i=0 then k'+1 else if i=k'+1 then 0 else i) (λi=>if i=0 then -1 else 1) (λi=>by change(if i=0 then(-1:Int)else 1).natAbs=1;split <;> rfl) (λi hi=>?_) λi j hi=>?_
  .change(if i=0 then k'+1 else if i=k'+1 then 0 else i)<rows.length;split
   .lia
   .split <;> lia
  .by_cases h0:i=0
   .subst h0;simp only[if_true];rw[m0];lia
   .simp only[if_neg h0];by_cases h1:i=k'+1
    .subst h1;simp only[if_true];rw[m1];lia
    .simp only[if_neg h1];rw[m2 i j h0 h1];lia
theorem ly_{left others:List (List Int)}{piv:List Int}{free w k:Nat}(h1:free<=left.length)(hw:0<w)(hr:Hn_ w left)(hb:b≠0)(hd:Dv b left.length (ma left))(hm:Mg b left.length k (ma left) A0 R0)(e:Ho_ left free=piv::others)(hp:gi piv 0≠0)(orect:Hn_ w (piv::others))(ol:others.length+1=left.length):
  Dv (gi piv 0) left.length (ma (others.map (FN_ piv b)++[piv.drop 1]))/\Mg (gi piv 0) left.length (k+1) (ma (others.map (FN_ piv b)++[piv.drop 1])) A0 R0:=by
 have dv:=oj_ h1 hd e s_;have mg:=p6_ h1 hm e s_;have pw:piv.length=w:=orect.w _ (.head _);have ex:∀r j,r<others.length->b*gi (FN_ piv b (others.getD r [])) j=gi piv 0*gi (others.getD r []) (j+1)-gi (others.getD r []) 0*gi piv (j+1):=λr j hr'=>by rw[lp_ (by rw[pw];show Hn_.at ⟨λq h=>orect.w q (.tail _ h)⟩ hr')];show gl_ (nQ_ (A:=ma (piv::others)) (i:=r+1) (j:=j+1) dv o_ o_) hb
 have a1:∀r j,r<others.length->b*ma (others.map (FN_ piv b)++[piv.drop 1]) r j=ma (piv::others) 0 0*ma (piv::others) (r+1) (j+1)-ma (piv::others) (r+1) 0*ma (piv::others) 0 (j+1):=λr j hr'=>by
  have e1:(others.map (FN_ piv b)++[piv.drop 1]).getD r []=FN_ piv b (others.getD r []):=by rw[Aa_,AF_ (by simpa using hr'),Ad_,Aa_,Ac_ hr'];rfl
  change b*gi ((others.map (FN_ piv b)++[piv.drop 1]).getD r []) j=_;rw[e1];show ex r j hr'
 have a2:∀j,ma (others.map (FN_ piv b)++[piv.drop 1]) others.length j=ma (piv::others) 0 (j+1):=λj=>by
  have e1:(others.map (FN_ piv b)++[piv.drop 1]).getD others.length []=piv.drop 1:=by rw[Aa_,AJ_ s_];simp
  change gi ((others.map (FN_ piv b)++[piv.drop 1]).getD others.length []) j=gi piv (j+1);rw[e1,h3_]
 rw[<-ol]at dv mg⊢;show⟨ok_ (A:=ma (piv::others)) hb hp dv a1 a2,qU_ (A:=ma (piv::others)) hb hp mg a1 a2⟩
structure Fl(n at_:Nat)(A0:Mat)(V b:Int)(B:Mat):Prop where
 b0:b≠0
 dv:Dv b (n-at_) B
 mn:Mn b (n-at_) at_ B A0 n
 one:n=at_->b=V
 det:∀m,n-at_=m+1->D (m+1) B=b ^ m*V
structure Mp(n:Nat)(A:Mat)(d:Nat->Int):Prop where
 off:∀i j,i<n->j<n->i≠j->A i j<=0
 sym:∀i j,i<n->j<n->A i j=A j i
 sum:∀i,i<n->su n (A i)=d i
 pos:∀i,i<n->0<=d i
 con:∀T:Nat->Prop,(∃i,i<n/\T i)->∃i,i<n/\T i/\(0<d i\/∃j,j<n/\¬ T j/\A i j<0)
theorem p7_:∀{n:Nat}{f:Nat->Int},(∀k,k<n->f k<=0)->su n f<=0/\∀k,k<n->su n f<=f k
 |0,_,_=>⟨CG_ _,λk h=>absurd h o_⟩
 |n+1,f,h=>by
  obtain⟨a,b⟩:=p7_ (n:=n) (f:=f) λk hk=>h k o_;have c:=h n o_;show⟨by change su n f+f n<=0;lia,λk hk=>?_⟩;change su n f+f n<=f k;by_cases e:k=n
  .rw[e];lia
  .have:=b k o_;lia
theorem Mp.piv{n:Nat}{d:Nat->Int}(h:Mp (n+1) A d):0<A 0 0:=by
 have s:=h.sum 0 o_;rw[e4_]at s;have p:=h.pos 0 o_;obtain⟨a,b⟩:=p7_ (n:=n) (f:=λk=>A 0 (k+1)) λk hk=>h.off 0 (k+1) o_ o_ o_;obtain⟨i,hi,e,c⟩:=h.con (λi=>i=0) ⟨0,o_,rfl⟩;subst e
 rcases c with c|⟨j,hj,nj,c⟩
 .lia
 .obtain⟨j',rfl⟩:∃m,j=m+1:=⟨j-1,o_⟩;have:=b j' o_;lia
theorem Mp.step{n:Nat}{d:Nat->Int}(h:Mp (n+2) A d):Mp (n+1) (λi j=>A 0 0*A (i+1) (j+1)-A (i+1) 0*A 0 (j+1)) (λi=>A 0 0*d (i+1)-A (i+1) 0*d 0):=by
 have p:=h.piv;have o0:∀i,i<n+1->A (i+1) 0<=0:=λi hi=>h.off _ _ o_ o_ o_;have o1:∀j,j<n+1->A 0 (j+1)<=0:=λj hj=>h.off _ _ o_ o_ o_;have pp:∀i j,i<n+1->j<n+1->0<=A (i+1) 0*A 0 (j+1):=λi j hi hj=>Int.mul_nonneg_of_nonpos_of_nonpos (o0 i hi) (o1 j hj);have md:∀i,i<n+1->0<=A 0 0*d (i+1):=λi hi=>Dt_ o_ (h.pos _ o_);have me:∀i,i<n+1->A (i+1) 0*d 0<=0:=λi hi=>Int.mul_nonpos_of_nonpos_of_nonneg (o0 i hi) (h.pos 0 o_);have mo:∀i j,i<n+1->j<n+1->i≠j->A 0 0*A (i+1) (j+1)<=0:=λi j hi hj e=>Int.mul_nonpos_of_nonneg_of_nonpos o_ (h.off _ _ o_ o_ o_)
 have outD:∀i,i<n+1->0<d (i+1)->0<A 0 0*d (i+1)-A (i+1) 0*d 0:=λi hi hd=>by have:=Be_ p hd;have:=me i hi;lia
 have outA:∀i j,i<n+1->j<n+1->A (i+1) (j+1)<0->A 0 0*A (i+1) (j+1)-A (i+1) 0*A 0 (j+1)<0:=λi j hi hj ha=>by have:=Int.mul_neg_of_pos_of_neg p ha;have:=pp i j hi hj;lia
 show⟨λi j hi hj e=>?_,λi j hi hj=>?_,λi hi=>?_,λi hi=>?_,λT hT=>?_⟩
 .have:=mo i j hi hj e;have:=pp i j hi hj;change A 0 0*A (i+1) (j+1)-A (i+1) 0*A 0 (j+1)<=0;lia
 .change A 0 0*A (i+1) (j+1)-A (i+1) 0*A 0 (j+1)=A 0 0*A (j+1) (i+1)-A (j+1) 0*A 0 (i+1);rw[h.sym (i+1) (j+1) o_ o_,h.sym (i+1) 0 o_ o_,h.sym (j+1) 0 o_ o_,AQ_ (A 0 (i+1))]
 .have s0:=h.sum 0 o_;have s1:=h.sum (i+1) o_;rw[e4_]at s0 s1;have e:su (n+1) (λj=>A 0 0*A (i+1) (j+1)-A (i+1) 0*A 0 (j+1))=A 0 0*su (n+1) (λj=>A (i+1) (j+1))+(-A (i+1) 0)*su (n+1) (λj=>A 0 (j+1)):=by rw[<-bV_,<-bV_,<-hM_];show a7_ λj _=>?_;rw[CF_];lia
  change su (n+1) (λj=>A 0 0*A (i+1) (j+1)-A (i+1) 0*A 0 (j+1))=A 0 0*d (i+1)-A (i+1) 0*d 0;rw[e,<-s0,<-s1];generalize su (n+1) (λj=>A (i+1) (j+1))=x;generalize su (n+1) (λj=>A 0 (j+1))=y;rw[C0_,C0_,CF_,AQ_ (A 0 0) (A (i+1) 0)];lia
 .have:=md i hi;have:=me i hi;change 0<=A 0 0*d (i+1)-A (i+1) 0*d 0;lia
 .obtain⟨i0,hi0,ti0⟩:=hT;obtain⟨i,hi,ti,c⟩:=h.con (λk=>∃m,k=m+1/\T m) ⟨i0+1,o_,i0,rfl,ti0⟩;obtain⟨i,rfl,ti⟩:=ti
  rcases c with c|⟨j,hj,nj,c⟩
  .show⟨i,o_,ti,.inl (outD i o_ c)⟩
  .by_cases j0:j=0
   .subst j0;obtain⟨i2,hi2,ti2,c2⟩:=h.con (λk=>k=0\/∃m,k=m+1/\T m) ⟨0,o_,.inl rfl⟩
    rcases ti2 with rfl|⟨m,rfl,tm⟩
    .rcases c2 with c2|⟨j,hj2,nj2,c2⟩
     .show⟨i,o_,ti,.inl ?_⟩;have:=Int.mul_neg_of_neg_of_pos c c2;have:=md i o_;change 0<A 0 0*d (i+1)-A (i+1) 0*d 0;lia
     .obtain⟨j',rfl⟩:∃m,j=m+1:=⟨j-1,by have:j≠0:=λe=>nj2 (.inl e);lia⟩;have nT:¬ T j':=λz=>nj2 (.inr ⟨j',rfl,z⟩);have ij:i≠j':=λe=>nT (e▸ti);show⟨i,o_,ti,.inr ⟨j',o_,nT,?_⟩⟩;have:=Int.mul_pos_of_neg_of_neg c c2;have:=mo i j' o_ o_ ij;change A 0 0*A (i+1) (j'+1)-A (i+1) 0*A 0 (j'+1)<0;lia
    .rcases c2 with c2|⟨j,hj2,nj2,c2⟩
     .show⟨m,o_,tm,.inl (outD m o_ c2)⟩
     .obtain⟨j',rfl⟩:∃m,j=m+1:=⟨j-1,by have:j≠0:=λe=>nj2 (.inl e);lia⟩;show⟨m,o_,tm,.inr ⟨j',o_,λz=>nj2 (.inr ⟨j',rfl,z⟩),outA m j' o_ o_ c2⟩⟩
   .obtain⟨j',rfl⟩:∃m,j=m+1:=⟨j-1,o_⟩;show⟨i,o_,ti,.inr ⟨j',o_,λz=>nj ⟨j',rfl,z⟩,outA i j' o_ o_ c⟩⟩
theorem LK_:∀{n:Nat}{A:Mat}{d:Nat->Int},Mp n A d->0<D n A
 |0,_,_,_=>by change(0:Int)<1;decide
 |1,A,d,h=>by
  have p:=h.piv;rw[Lx_ λi h1 h2=>absurd h1 o_];change 0<A 0 0*1;lia
 |n+2,A,d,h=>by have p:=h.piv;have ih:=LK_ h.step;have e:=mh_ (n:=n) (A:=A) o_;rw[<-e]at ih;show DY_ ih (E4_ p) 
end RimD
namespace RimT
open RimM RimD
variable {S:Type}[DecidableEq S]
def fl(X:S->Int)(x:S)(e:S×S×Int):Int:=(if x=e.1 then e.2.2*(X e.1-X e.2.1)else 0)-(if x=e.2.1 then e.2.2*(X e.1-X e.2.1)else 0)
def Fl(E:List (S×S×Int))(X:S->Int)(x:S):Int:=(E.map (fl X x)).sum
theorem qV_(E:List (S×S×Int))(e:S×S×Int)(X:S->Int)(x:S):Fl (E++[e]) X x=Fl E X x+fl X x e:=by unfold Fl;rw[Au_,Cc_];simp
theorem qW_{E F:List (S×S×Int)}(h:E.Perm F)(X:S->Int)(x:S):Fl E X x=Fl F X x:=by
 unfold Fl
 induction h with
 |nil=>rfl
 |cons a _ ih=>rw[Av_,Av_,A3_,A3_,ih]
 |swap a b l=>simp only[Av_,A3_];lia
 |trans _ _ h1 h2=>show h1.trans h2
theorem h5_(f g:S->Int):∀L:List S,(L.map λy=>f y+g y).sum=(L.map f).sum+(L.map g).sum
 |[]=>rfl
 |y::L=>by simp only[Av_,A3_,h5_ f g L];lia
theorem hs_:∀L:List S,(L.map λ_=>(0:Int)).sum=0
 |[]=>rfl
 |y::L=>by simp only[Av_,A3_,hs_ L];rfl
theorem jC_{a:S}(c:Int)(X:S->Int):∀{L:List S},L.Nodup->a∈L->(L.map λy=>if y=a then c*X y else 0).sum=c*X a
 |y::L,nd,h=>by
  obtain⟨n1,n2⟩:=A5_.mp nd;rw[Av_,A3_];by_cases e:y=a
  .subst e;have z:(L.map λz=>if z=y then c*X z else 0)=L.map λ_=>(0:Int):=Bj_ λz hz=>by show if_neg λ(e:z=y)=>n1 (by rw[<-e];show hz)
   rw[z,hs_,if_pos rfl];lia
  .rw[if_neg e,jC_ c X n2 ((Aq_.mp h).resolve_left λz=>e z.symm)];lia
theorem r7_(X:S->Int)(x:S){e:S×S×Int}{L:List S}(nd:L.Nodup)(h1:e.1∈L)(h2:e.2.1∈L):(L.map λy=>cf x y e*X y).sum=fl X x e:=by
 have key:(L.map λy=>cf x y e*X y)=L.map λy=>(λy=>(if y=e.1 then((if x=e.1 then e.2.2 else 0)-(if x=e.2.1 then e.2.2 else 0))*X y else 0)) y+(λy=>(if y=e.2.1 then((if x=e.2.1 then e.2.2 else 0)-(if x=e.1 then e.2.2 else 0))*X y else 0)) y:=Bj_ λy _=>by unfold cf;by_cases a:x=e.1 <;> by_cases b:x=e.2.1 <;> by_cases c:y=e.1 <;> by_cases d:y=e.2.1 <;> simp[a,b,c,d] <;> grind
 rw[key,h5_,jC_ _ X nd h1,jC_ _ X nd h2];unfold fl;by_cases a:x=e.1 <;> by_cases b:x=e.2.1 <;> simp[a,b] <;> grind
theorem Jf_(X:S->Int)(x:S){L:List S}(nd:L.Nodup):∀{E:List (S×S×Int)},(∀e∈E,e.1∈L/\e.2.1∈L)->Fl E X x=(L.map λy=>sm E x y*X y).sum
 |[],_=>by
  change 0=_;rw[show(λy=>sm ([]:List (S×S×Int)) x y*X y)=λ_=>(0:Int)from funext λy=>E8_ _,hs_]
 |e::E,h=>by
  have ih:=Jf_ X x nd (E:=E) λz hz=>h z (Ag_ _ hz);obtain⟨h1,h2⟩:=h e Ah_;have k:(λy=>sm (e::E) x y*X y)=λy=>cf x y e*X y+sm E x y*X y:=funext λy=>by change(cf x y e+(E.map (cf x y)).sum)*X y=_;rw[C2_];rfl
  rw[k,h5_,r7_ X x nd h1 h2,<-ih];rfl
theorem Lv_{X:S->Int}{m M:Nat}(hX:∀x,(X x).natAbs<=M):∀{E:List (S×S×Int)},(∀e∈E,e.2.2.natAbs<=m)->∀x,(Fl E X x).natAbs<=E.length*(4*(m*M))
 |[],_,x=>AD_ _
 |e::E,h,x=>by
  have ih:=Lv_ hX (E:=E) (λz hz=>h z (Ag_ _ hz)) x;have a:=hX e.1;have b:=hX e.2.1;have d:(X e.1-X e.2.1).natAbs<=2*M:=o_
  have c:=AX_ (h e Ah_) d;rw[<-AT_]at c;have f:(fl X x e).natAbs<=4*(m*M):=by unfold fl;have:m*(2*M)=2*(m*M):=Nat.mul_left_comm _ _ _;split <;> split <;> lia
  change(fl X x e+Fl E X x).natAbs<=_;rw[AH_,En_];lia
theorem mz_{x y:S}(ne:x≠y):∀{E:List (S×S×Int)},(∀e∈E,0<=e.2.2)->sm E x y<=0/\∀e∈E,(x=e.1/\y=e.2.1\/x=e.2.1/\y=e.1)->sm E x y <= -e.2.2
 |[],_=>⟨CG_ _,λe he=>by cases he⟩
 |e::E,h=>by
  obtain⟨a,b⟩:=mz_ ne (E:=E) λz hz=>h z (Ag_ _ hz);have w:=h e Ah_;have s:sm (e::E) x y=cf x y e+sm E x y:=rfl;have c0:cf x y e<=0:=by unfold cf;have n1:¬ (x=e.1/\y=e.1):=λz=>ne (z.1.trans z.2.symm);have n2:¬ (x=e.2.1/\y=e.2.1):=λz=>ne (z.1.trans z.2.symm);rw[if_neg n1,if_neg n2];split <;> split <;> lia
  show⟨by rw[s];lia,λz hz hc=>?_⟩;rw[s]
  rcases Aq_.mp hz with rfl|hz
  .have:cf x y z <= -z.2.2:=by
    unfold cf;have n1:¬ (x=z.1/\y=z.1):=λq=>ne (q.1.trans q.2.symm);have n2:¬ (x=z.2.1/\y=z.2.1):=λq=>ne (q.1.trans q.2.symm);rw[if_neg n1,if_neg n2]
    rcases hc with hc|hc
    .rw[if_pos hc];split <;> lia
    .rw[if_pos hc];split <;> lia
   lia
  .have:=b z hz hc;lia
theorem lz_(f:S->Int)(d:S):∀(l:List S),su l.length (λj=>f (l.getD j d))=(l.map f).sum
 |[]=>rfl
 |y::l=>by rw[AH_,e4_,Av_,A3_];change f y+su l.length (λk=>f ((y::l).getD (k+1) d))=_;rw[show(λk=>f ((y::l).getD (k+1) d))=λk=>f (l.getD k d)from rfl,lz_ f d l]
def Hng(E:List (S×S×Int))(posts L:List S):Prop:=∀U:S->Prop,(∀p∈posts,U p)->(∀e∈E,U e.1↔U e.2.1)->∀x∈L,U x
theorem mA_{E:List (S×S×Int)}{posts within:List S}(d:S)(nd:(posts++within).Nodup)(hE:∀e∈E,e.1∈posts++within/\e.2.1∈posts++within)(hw:∀e∈E,0<e.2.2)(hg:Hng E posts (posts++within)):
  0<D within.length λi j=>sm E (within.getD i d) (within.getD j d):=by
 obtain⟨_,ndw,dis⟩:=Br_.mp nd;have wm:∀{i},i<within.length->within.getD i d∈within:=λ{i} hi=>by rw[Aa_,Ac_ hi];show AO_ _
 have winj:∀{i j},i<within.length->j<within.length->i≠j->within.getD i d≠within.getD j d:=λ{i j} hi hj ne e=>by rw[Aa_,Aa_,Ac_ hi,Ac_ hj]at e;show ne ((Cv_ ndw).mp e)
 have hw0:∀e∈E,0<=e.2.2:=λe he=>by have:=hw e he;lia
 have zero:∀x,(posts.map λy=>sm E x y).sum+(within.map λy=>sm E x y).sum=0:=λx=>by
  have h:=Jf_ (λ_=>1) x nd hE
  have h0:Fl E (λ_=>1) x=0:=by
   unfold Fl;rw[show E.map (fl (λ_=>(1:Int)) x)=E.map λ_=>(0:Int)from Bj_ λe _=>by unfold fl;simp];clear h hE hw hg hw0
   induction E with
   |nil=>rfl
   |cons e E ih=>rw[Av_,A3_,ih];rfl
  rw[h0,Au_,Cc_]at h;simp only[Dv_]at h;show h.symm
 have npos:∀x∈within,∀q∈posts,sm E x q<=0:=λx hx q hq=>(mz_ (λe=>dis q hq x hx e.symm) hw0).1
 have nsum:∀x∈within,∀l:List S,(∀q∈l,q∈posts)->(l.map λy=>sm E x y).sum<=0/\∀q∈l,(l.map λy=>sm E x y).sum<=sm E x q:=λx hx l=>by
  induction l with
  |nil=>intro _;show⟨CG_ _,λq hq=>by cases hq⟩
  |cons y l ih =>
   intro hl;obtain⟨a,b⟩:=ih λq hq=>hl q (Ag_ _ hq);have c:=npos x hx y (hl y Ah_);rw[Av_,A3_];show⟨o_,λq hq=>?_⟩
   rcases Aq_.mp hq with rfl|hq
   .lia
   .have:=b q hq;lia
 show LK_ (d:=λi=>-(posts.map λy=>sm E (within.getD i d) y).sum) ⟨λi j hi hj ne=>(mz_ (winj hi hj ne) hw0).1,λi j _ _=>qP_ _ _ _,λi hi=>?_,λi hi=>?_,λT hT=>?_⟩
 .have:=zero (within.getD i d);rw[lz_ (λy=>sm E (within.getD i d) y) d within];lia
 .have:=(nsum _ (wm hi) posts λq hq=>hq).1;lia
 .obtain⟨i0,hi0,ti0⟩:=hT;apply CM_;intro no;have no1:∀i,i<within.length->T i->¬ 0 < -(posts.map λy=>sm E (within.getD i d) y).sum:=λi hi ti z=>no ⟨i,hi,ti,.inl z⟩;have no2:∀i j,i<within.length->T i->j<within.length->¬ T j->¬ sm E (within.getD i d) (within.getD j d)<0:=λi j hi ti hj tj z=>no ⟨i,hi,ti,.inr ⟨j,hj,tj,z⟩⟩;have all:=hg (λx=>¬ ∃i,i<within.length/\T i/\within.getD i d=x) (λp hp ⟨i,hi,ti,e⟩=>dis p hp _ (wm hi) e.symm) (λe he=>?_) (within.getD i0 d) (AI_ _ (wm hi0))
  .show all ⟨i0,hi0,ti0,rfl⟩
  .have side:∀a b,(a=e.1/\b=e.2.1\/a=e.2.1/\b=e.1)->a∈posts++within->(∃i,i<within.length/\T i/\within.getD i d=b)->∃i,i<within.length/\T i/\within.getD i d=a:=λa b hab ha ⟨i,hi,ti,eb⟩=>by
    apply CM_;intro na;have we:=hw e he;have ne:b≠a:=λc=>na ⟨i,hi,ti,eb.trans c⟩;have lt:sm E b a <= -e.2.2:=(mz_ ne hw0).2 e he (hab.elim (λh=>.inr ⟨h.2,h.1⟩) λh=>.inl ⟨h.2,h.1⟩)
    rcases AB_.mp ha with hp|hp
    .have:=(nsum _ (wm hi) posts λq hq=>hq).2 a hp;show no1 i hi ti ?_;rw[eb]at this⊢;lia
    .obtain⟨j,hj,ej⟩:=Ay_.mp hp;have gj:within.getD j d=a:=by rw[Aa_,Ac_ hj];show ej
     show no2 i j hi ti hj (λtj=>na ⟨j,hj,tj,gj⟩) ?_;rw[eb,gj];lia
   constructor
   .show λh z=>h (side _ _ (.inl ⟨rfl,rfl⟩) (hE e he).1 z)
   .show λh z=>h (side _ _ (.inr ⟨rfl,rfl⟩) (hE e he).2 z)
theorem ol_(f X:S->Int)(c:Int):∀(l:List S)(ys:List Int),l.length=ys.length->(∀(i:Nat) x y,l[i]?=some x->ys[i]?=some y->X x=y*c)->(l.map λq=>f q*X q).sum=c*dot (l.map f) ys
 |[],[],_,_=>by simp[dot]
 |[],_::_,h,_=>by simp at h
 |_::_,[],h,_=>by simp at h
 |x::l,y::ys,h,k=>by
  have ih:=ol_ f X c l ys (by simpa using h) λi=>k (i+1);have e:=k 0 x y rfl rfl;rw[Av_,A3_,Av_,fQ_,ih,e,C0_];congr 1
  grind
structure GrH(P W:Nat)(T:List (List Nat)):Prop extends Gr P W T where
 hang:∀U:Nat->Prop,(∀p,p<P->U p)->(∀p q w,w∈T.getD p []->w∈T.getD q []->U p->U q)->∀p,p<T.length->U p
theorem om_(P:Nat):GrH P 0 (List.replicate P []):=⟨pc_ P,λU h _ p hp=>h p (by simpa using hp)⟩
variable{T:List (List Nat)}
theorem dl_{c:Nat×Nat}{w v p:Nat}(h:v∈T.getD p []):v∈(F0_ T c w).getD p []:=by
 unfold F0_;rw[Aa_,Bk_];by_cases e:c.1=p
 .subst e;by_cases h2:c.1<T.length
  .rw[if_pos rfl,if_pos h2];change v∈ins (T.getD c.1 []) c.2 w;unfold ins;rw[<-Bt_ c.2 (T.getD c.1 [])]at h
   rcases AB_.mp h with h|h
   .show Bd_ _ h
   .show AI_ _ (Ag_ _ h)
  .rw[Aa_,Bs_ o_]at h;cases h
 .rw[if_neg e,<-Aa_];show h
theorem on_{c:Nat×Nat}{w:Nat}(h:c.1<T.length):w∈(F0_ T c w).getD c.1 []:=by unfold F0_;rw[Aa_,Bk_,if_pos rfl,if_pos h];change w∈ins (T.getD c.1 []) c.2 w;unfold ins;show AI_ _ Ah_
theorem pm_{P W:Nat}{c:Nat×Nat}(g:GrH P W T)(hc:c.1<T.length)(h:T.length<P+10):GrH P (W+1) (F0_ T c W++[[W]]):=by
 have left:∀{p},p<T.length->(F0_ T c W++[[W]]).getD p []=(F0_ T c W).getD p []:=λ{p} hp=>by rw[Aa_,AF_ (by rw[ax_];show hp),<-Aa_]
 have dom:∀{p v:Nat},v∈T.getD p []->p<T.length:=λ{p v} hv=>by
  by_cases z:p<T.length
  .show z
  .rw[Aa_,Bs_ o_]at hv;cases hv
 show⟨qF_ g.toGr hc h,λU h0 cl p hp=>?_⟩;have old:∀p,p<T.length->U p:=g.hang U h0 λa b w ha hb ua=>cl a b w (by rw[left (dom ha)];show dl_ ha) (by rw[left (dom hb)];show dl_ hb) ua;rw[At_,ax_,Cn_]at hp;by_cases z:p<T.length
 .show old p z
 .have e:p=T.length:=o_
  subst e;show cl c.1 _ W (by rw[left hc];show on_ hc) ?_ (old c.1 hc);rw[Aa_,AJ_ (by rw[ax_];show Af_ _),ax_,B0_];show An_.mpr rfl
theorem qX_{P W:Nat}{c d:Nat×Nat}(g:GrH P W T)(hc:c.1<T.length)(hd:d.1<T.length):GrH P (W+1) (F0_ (F0_ T c W) d W):=
 ⟨rP_ g.toGr hc hd,λU h0 cl p hp=>g.hang U h0 (λa b w ha hb ua=>cl a b w (dl_ (dl_ ha)) (dl_ (dl_ hb)) ua) p (by rwa[ax_,ax_]at hp)⟩
def NtH{S:Type}[DecidableEq S](N:Net S):Prop:=∀U:S->Prop,(∀p∈N.posts,U p)->(∀r∈N.rows,∀r'∈N.rows,∀w∈r.2,w∈r'.2->U r.1->U r'.1)->∀r∈N.rows,U r.1
theorem nt_h{S:Type}[DecidableEq S]{P W:Nat}(g:GrH P W T){ns ws:Nat->S}{ord:List Nat}(h:ord.Perm (List.range T.length)){posts:List S}{wo:List (S×(Int×Int))}(hp:∀p,p<P->ns p∈posts):NtH ⟨posts,F8_ ns ws T ord,wo⟩:=λU h0 cl r hr=>by
 obtain⟨p,hp',rfl⟩:=Aj_.mp hr;have inr:∀{p},p<T.length->(ns p,(T.getD p []).map ws)∈F8_ ns ws T ord:=λ{p} hp=>Aj_.mpr ⟨p,h.mem_iff.mpr (AP_.mpr hp),rfl⟩
 have dom:∀{p v:Nat},v∈T.getD p []->p<T.length:=λ{p v} hv=>by
  by_cases z:p<T.length
  .show z
  .rw[Aa_,Bs_ o_]at hv;cases hv
 show g.hang (λq=>U (ns q)) (λq hq=>h0 _ (hp q hq)) (λa b w ha hb ua=>cl _ (inr (dom ha)) _ (inr (dom hb)) (ws w) (Aj_.mpr ⟨w,ha,rfl⟩) (Aj_.mpr ⟨w,hb,rfl⟩) ua) p (AP_.mp (h.mem_iff.mp hp'))
theorem Lk_{X:S->Int}{x:S}{M:Int}(hx:X x=M):∀{E:List (S×S×Int)},(∀e∈E,0<e.2.2/\X e.1<=M/\X e.2.1<=M)->0<=Fl E X x/\(Fl E X x=0->∀e∈E,(x=e.1->X e.2.1=M)/\(x=e.2.1->X e.1=M))
 |[],_=>⟨CG_ _,λ_ e he=>by cases he⟩
 |e::E,h=>by
  obtain⟨a,b⟩:=Lk_ hx (E:=E) λz hz=>h z (Ag_ _ hz);obtain⟨w,m1,m2⟩:=h e Ah_;have s:Fl (e::E) X x=fl X x e+Fl E X x:=rfl
  have f:0<=fl X x e/\(fl X x e=0->(x=e.1->X e.2.1=M)/\(x=e.2.1->X e.1=M)):=by
   unfold fl;by_cases c1:x=e.1 <;> by_cases c2:x=e.2.1
   .rw[if_pos c1,if_pos c2];show⟨o_,λ_=>⟨λ_=>by rw[<-c2];show hx,λ_=>by rw[<-c1];show hx⟩⟩
   .rw[if_pos c1,if_neg c2];have e1:X e.1=M:=by rw[<-c1];show hx
    have nn:0<=e.2.2*(X e.1-X e.2.1):=Dt_ o_ o_;show⟨o_,λz=>⟨λ_=>?_,λc=>absurd c c2⟩⟩;have z':e.2.2*(X e.1-X e.2.1)=0:=o_
    rcases Dl_.mp z' with q|q <;> lia
   .rw[if_neg c1,if_pos c2];have e1:X e.2.1=M:=by rw[<-c2];show hx
    have nn:0<=e.2.2*(X e.2.1-X e.1):=Dt_ o_ o_;have ng:e.2.2*(X e.1-X e.2.1)=-(e.2.2*(X e.2.1-X e.1)):=by rw[<-Cg_];congr 1;lia
    show⟨o_,λz=>⟨λc=>absurd c c1,λ_=>?_⟩⟩;have z':e.2.2*(X e.2.1-X e.1)=0:=o_
    rcases Dl_.mp z' with q|q <;> lia
   .rw[if_neg c1,if_neg c2];show⟨o_,λ_=>⟨λc=>absurd c c1,λc=>absurd c c2⟩⟩
  rw[s];show⟨o_,λz y hy=>?_⟩
  rcases Aq_.mp hy with rfl|hy
  .show f.2 o_
  .show b o_ y hy
theorem mB_(X:S->Int):∀{l:List S},l≠[]->∃m∈l,∀x∈l,X x<=X m
 |[],h=>absurd rfl h
 |[y],_=>⟨y,An_.mpr rfl,λx hx=>by rw[An_.mp hx];show CG_ _⟩
 |y::z::l,_=>by
  obtain⟨m,h1,h2⟩:=mB_ X (l:=z::l) s_;by_cases c:X m<=X y
  .show⟨y,Ah_,λx hx=>?_⟩
   rcases Aq_.mp hx with rfl|hx
   .show CG_ _
   .show CW_ (h2 x hx) c
  .show⟨m,Ag_ _ h1,λx hx=>?_⟩
   rcases Aq_.mp hx with rfl|hx
   .lia
   .show h2 x hx
theorem Kq_{E:List (S×S×Int)}{posts within:List S}{X:S->Int}{M:Int}(hE:∀e∈E,e.1∈posts++within/\e.2.1∈posts++within)(hw:∀e∈E,0<e.2.2)(hg:Hng E posts (posts++within))(hb:∀x∈within,Fl E X x=0)(hp:∀q∈posts,X q<=M):∀x∈posts++within,X x<=M:=by
 by_cases e0:posts++within=[]
 .rw[e0];show λx hx=>by cases hx
 .obtain⟨m,m1,m2⟩:=mB_ X e0;by_cases c:X m<=M
  .show λx hx=>CW_ (m2 x hx) c
  .have all:=hg (λx=>X x≠X m\/x∉posts++within) (λp hp'=>.inl (by have:=hp p hp';lia)) (λe he=>?_) m m1
   .rcases all with z|z
    .show absurd rfl z
    .show absurd m1 z
   .obtain⟨i1,i2⟩:=hE e he
    have side:∀y,y∈posts++within->X y=X m->(∀e∈E,(y=e.1->X e.2.1=X m)/\(y=e.2.1->X e.1=X m)):=λy hy ey=>by
     have yw:y∈within:=(AB_.mp hy).resolve_left λz=>by have:=hp y z;lia
     show(Lk_ ey λe he=>⟨hw e he,m2 _ (hE e he).1,m2 _ (hE e he).2⟩).2 (hb y yw)
    constructor
    .rintro(h|h)
     .show .inl λz=>h ((side _ i2 z e he).2 rfl)
     .show absurd i1 h
    .rintro(h|h)
     .show .inl λz=>h ((side _ i1 z e he).1 rfl)
     .show absurd i2 h
theorem p8_(X:S->Int)(x:S):∀E:List (S×S×Int),Fl E (λy=>-X y) x = -Fl E X x
 |[]=>rfl
 |e::E=>by
  change fl (λy=>-X y) x e+Fl E (λy=>-X y) x = -(fl X x e+Fl E X x);rw[p8_ X x E]
  have:fl (λy=>-X y) x e = -fl X x e:=by
   unfold fl;simp only;have k:e.2.2*(-X e.1 - -X e.2.1)=-(e.2.2*(X e.1-X e.2.1)):=by rw[<-Cg_];congr 1;lia
   rw[k];split <;> split <;> lia
  lia
theorem Lp_{E:List (S×S×Int)}{posts within:List S}{X:S->Int}{M:Int}(hE:∀e∈E,e.1∈posts++within/\e.2.1∈posts++within)(hw:∀e∈E,0<e.2.2)(hg:Hng E posts (posts++within))(hb:∀x∈within,Fl E X x=0)(hp:∀q∈posts,M<=X q):∀x∈posts++within,M<=X x:=λx hx=>by have:=Kq_ (X:=λy=>-X y) (M:=-M) hE hw hg (λy hy=>by rw[p8_,hb y hy];rfl) (λq hq=>by have:=hp q hq;change -X q <= -M;lia) x hx;lia
theorem p9_(X Y:S->Int)(x:S):∀E:List (S×S×Int),Fl E (λy=>X y-Y y) x=Fl E X x-Fl E Y x
 |[]=>rfl
 |e::E=>by
  change fl (λy=>X y-Y y) x e+Fl E (λy=>X y-Y y) x=(fl X x e+Fl E X x)-(fl Y x e+Fl E Y x);rw[p9_ X Y x E]
  have:fl (λy=>X y-Y y) x e=fl X x e-fl Y x e:=by
   unfold fl;simp only;have k:e.2.2*(X e.1-Y e.1-(X e.2.1-Y e.2.1))=e.2.2*(X e.1-X e.2.1)-e.2.2*(Y e.1-Y e.2.1):=by rw[<-Fj_];congr 1;lia
   rw[k];split <;> split <;> lia
  lia
theorem qY_{E:List (S×S×Int)}{posts within:List S}{X Y:S->Int}(hE:∀e∈E,e.1∈posts++within/\e.2.1∈posts++within)(hw:∀e∈E,0<e.2.2)(hg:Hng E posts (posts++within))(hx:∀x∈within,Fl E X x=0)(hy:∀x∈within,Fl E Y x=0)(hp:∀q∈posts,X q=Y q):∀x∈posts++within,X x=Y x:=λx hm=>by
 have b:∀z∈within,Fl E (λy=>X y-Y y) z=0:=λz hz=>by rw[p9_,hx z hz,hy z hz];rfl
 have a1:=Kq_ (X:=λy=>X y-Y y) (M:=0) hE hw hg b (λq hq=>by have:=hp q hq;change X q-Y q<=0;lia) x hm;have a2:=Lp_ (X:=λy=>X y-Y y) (M:=0) hE hw hg b (λq hq=>by have:=hp q hq;change 0<=X q-Y q;lia) x hm;lia
def Gb(E:List (S×S×Int))(X Y:S->Int):Int:=(E.map λe=>e.2.2*((X e.1-X e.2.1)*(Y e.1-Y e.2.1))).sum
theorem mC_{a:S}(v:S->Int){L:List S}(nd:L.Nodup)(h:a∈L):(L.map λy=>if y=a then v y else 0).sum=v a:=by have:=jC_ (a:=a) 1 v nd h;simpa using this
theorem Ly_(X Y:S->Int){L:List S}(nd:L.Nodup):∀{E:List (S×S×Int)},(∀e∈E,e.1∈L/\e.2.1∈L)->(L.map λx=>Y x*Fl E X x).sum=Gb E X Y
 |[],_=>by
  change _=(0:Int);rw[show(λx=>Y x*Fl ([]:List (S×S×Int)) X x)=λ_=>(0:Int)from funext λy=>Bh_ _,hs_]
 |e::E,h=>by
  have ih:=Ly_ X Y nd (E:=E) λz hz=>h z (Ag_ _ hz);obtain⟨h1,h2⟩:=h e Ah_;have k:(λx=>Y x*Fl (e::E) X x)=λx=>(λx=>((λx=>if x=e.1 then Y x*(e.2.2*(X e.1-X e.2.1))else 0) x+(λx=>if x=e.2.1 then Y x * -(e.2.2*(X e.1-X e.2.1))else 0) x)) x+(λx=>Y x*Fl E X x) x:=funext λx=>by change Y x*(fl X x e+Fl E X x)=_;unfold fl;simp only;generalize e.2.2*(X e.1-X e.2.1)=w;by_cases a:x=e.1 <;> by_cases b:x=e.2.1 <;> simp only[a,b,if_true,CP_] <;> grind
  rw[k,h5_,ih,h5_,mC_ (λx=>Y x*(e.2.2*(X e.1-X e.2.1))) nd h1,mC_ (λx=>Y x * -(e.2.2*(X e.1-X e.2.1))) nd h2];change _=e.2.2*((X e.1-X e.2.1)*(Y e.1-Y e.2.1))+Gb E X Y;congr 1
  grind
theorem jD_{X Y:S->Int}{L:List S}(x:S)(hXY:∀y∈L,X y=Y y):∀{E:List (S×S×Int)},(∀e∈E,e.1∈L/\e.2.1∈L)->Fl E X x=Fl E Y x
 |[],_=>rfl
 |e::E,h=>by change fl X x e+Fl E X x=fl Y x e+Fl E Y x;rw[jD_ x hXY λz hz=>h z (Ag_ _ hz)];congr 1;unfold fl;obtain⟨h1,h2⟩:=h e Ah_;rw[hXY _ h1,hXY _ h2]
theorem mD_{f:S->Int}:∀{l:List S},(∀x∈l,f x=0)->(l.map f).sum=0
 |[],_=>rfl
 |y::l,h=>by rw[Av_,A3_,h y Ah_,mD_ λx hx=>h x (Ag_ _ hx)];rfl
theorem pn_{E:List (S×S×Int)}{posts within:List S}{X:S->Int}(nd:(posts++within).Nodup)(hE:∀e∈E,e.1∈posts++within/\e.2.1∈posts++within)(hb:∀x∈within,Fl E X x=0):(posts.map λp=>Fl E X p).sum=0:=by
 have h:=Ly_ X (λ_=>1) nd hE
 have z:Gb E X (λ_=>1)=0:=by
  unfold Gb;rw[show(λe:S×S×Int=>e.2.2*((X e.1-X e.2.1)*(1-1)))=λ_=>(0:Int)from funext λe=>by simp];clear h hE
  induction E with
  |nil=>rfl
  |cons e E ih =>
   rw[Av_,A3_]
   have:(E.map λ_=>(0:Int)).sum=0:=by
    clear ih hb
    induction E with
    |nil=>rfl
    |cons e E ih=>rw[Av_,A3_,ih];rfl
   lia
 rw[z,Au_,Cc_]at h;simp only[Bv_]at h;rw[mD_ hb]at h;lia
end RimT
namespace Rim19
open PySem PySem.Spec PyProof.Rows L2 RimM
variable{p:List Value->Prop}
theorem byL1(h:∀a,p [a])(us:List Value)(e:us.length=1):p us:=by obtain⟨a,rfl⟩:=Ch_.mp e;show h a
variable{n:Nat}
theorem byLc(h:∀a,∀us:List Value,us.length=n->p (a::us))(us:List Value)(e:us.length=n+1):p us:=by
 cases us with
 |nil=>cases e
 |cons a us=>show h a us (Nat.succ.inj e)
theorem byL2(h:∀a b,p [a,b]):∀us:List Value,us.length=2->p us:=byLc λa=>byL1 (h a)
theorem byL3(h:∀a b c,p [a,b,c]):∀us:List Value,us.length=3->p us:=byLc λa=>byL2 (h a)
theorem byL4(h:∀a b c d,p [a,b,c,d]):∀us:List Value,us.length=4->p us:=byLc λa=>byL3 (h a)
theorem m6_:HC_ "int"=True:=eq_true (.inl rfl)
theorem lA_:HC_ "bool"=True:=eq_true (.inr (.inl rfl))
theorem kJ_:HC_ "tuple"=True:=eq_true (.inr (.inr (.inl rfl)))
theorem lB_:HC_ "list"=True:=eq_true (.inr (.inr (.inr (.inl rfl))))
theorem m7_:HC_ "str"=True:=eq_true (.inr (.inr (.inr (.inr rfl))))
theorem mE_{x y:Int}(hx:0<=x)(hy:0<y):Int.gcd y (x%y)=Int.gcd x y:=by obtain⟨m,rfl⟩:=D6_ hx;obtain⟨n,rfl⟩:=D6_ (Cp_ hy);change Int.gcd (n:Int) ((m:Int)%(n:Int))=Int.gcd (m:Int) (n:Int);rw[<-DZ_,D7_,D7_,Nat.gcd_comm n,<-Nat.gcd_rec,Nat.gcd_comm]
variable{v:V}
theorem LJ_{Q:V->Prop}:onV (some (some v)) Q=Q v:=rfl
theorem Lq_{i:Int}{Q:Int->Prop}:onI (.int i) Q=Q i:=rfl
theorem Lj_{i:Bool}{Q:Bool->Prop}:onB (.bl i) Q=Q i:=rfl
theorem LC_{i:Addr}{Q:Addr->Prop}:onR (.ref i) Q=Q i:=rfl
theorem Lw_{x:V}{Q:V->Prop}:on1 [x] Q=Q x:=rfl
theorem Ll_{x y:V}{Q:V->V->Prop}:on2 [x,y] Q=Q x y:=rfl
local macro_rules | `(tactic|walk_at "s2")=>`(tactic|simp only[LJ_,Lq_,Lj_,LC_,Lw_,Ll_,rm_,rn_,ro_,rp_,rq_,rr_,scal,tyV,List.map_cons,List.map_nil,List.length_cons,List.length_nil,List.replicate,List.cons_append,List.nil_append,List.append_nil,List.set_cons_zero,List.set_cons_succ,List.getElem?_cons_zero,List.getElem?_cons_succ,Option.some.injEq,List.cons.injEq,V.int.injEq,V.bl.injEq,V.str.injEq,V.ref.injEq,V.ty.injEq,HO.tup.injEq,HO.lst.injEq,exists_eq_left,exists_eq_left',exists_and_left,and_assoc,and_true,true_and,ab_,F4_,Ge_,IK_,Nat.zero_add,Nat.reduceAdd,Nat.reduceSub,decide_eq_true_eq,Bool.not_eq_true',decide_eq_false_iff_not,reduceCtorEq,false_or,or_false,true_or,or_true,m6_,lA_,kJ_,lB_,m7_,Bool.false_eq_true,if_false,if_true,Bool.not_false,Bool.not_true,Bool.not_not,rB_,fg_,qr_,List.map,Option.bind,p1_])
local macro_rules | `(tactic|walk_at "s0")=>`(tactic|dsimp only[LJ_,Lq_,Lj_,LC_,Lw_,Ll_,J9_,Jx_,MK_,Mx_,KH_,HU_,MC_,MP_,Kf_,MB_,LW_,tC,tCB,tOp,rI,rI0,La_,MS_,Lg_,MA_,L4_,Kn_,tB,MZ_,tOr,MJ_,KY_,tOrV,KI_,rU,tUn,Mu_,tBM,KM_,Jw_,L2.start,KP_,K0_,Lb_,KX_,K3_,Mb_,rEq,rNe,LY_,KU_,KR_,Li_,MN_,List.map_cons,List.map_nil,List.length_cons,List.length_nil,List.replicate,List.cons_append,List.nil_append,List.set_cons_zero,List.set_cons_succ,List.getElem?_cons_zero,List.getElem?_cons_succ,MX_,KV_,MW_,KO_,MY_,Km_,Js_,pick,J7_,M0_,Me_,Le_,MT_,Ka_,List.map,Lh_,KQ_,tSl,MH_,Lf_,Jb_,Mc_,KW_,MD_,Kg_,KN_,Kd_,JT_,I9_,MV_,IB_,I3_,KZ_,Mv_,MQ_,I1_,Kb_,I6_,KJ_,iDV,iDK,rIn,Kk_,K4_,L0_,LZ_,Ko_,rPop,L2_,p1_,KK_,J2_,iDI,tIsN,L7_,L6_,MF_,MG_,MU_,J4_,MM_,tTry,L1_])
local macro_rules | `(tactic|walk_at "s3")=>`(tactic|(walk_at "s2";try (walk_at "s0";try walk_at "s2")))
local macro_rules | `(tactic|walk_at "s1")=>`(tactic|first|(walk_at "s0";try walk_at "s3")|walk_at "s3")
local macro_rules | `(tactic|walk_at "bx")=>`(tactic|first|(show qK_ ?_;intro _ _)|show r0_ (by assumption) ?_|show Mq_ (by assumption) ?_)
local macro_rules | `(tactic|walk_at "rd")=>`(tactic|((first|walk_at "s1" | (walk_at "bx";try walk_at "s1"));repeat (walk_at "bx";try walk_at "s1")))
local macro_rules | `(tactic|nofun)=>`(tactic|walk_at "rd")
structure Txt(K:PySem.W.Frag)(mg:Str->Option Value):Prop where
 n_abs:mg "abs"=none
 n_max:mg "max"=none
 n_min:mg "min"=none
 n_ValueError:mg "ValueError"=none
 c_LONG_BITS:∃t,mg "LONG_BITS"=some (.int 8000 t)
 n_dict:mg "dict"=none
 n_set:mg "set"=none
 n_len:mg "len"=none
 n_range:mg "range"=none
 n_list:mg "list"=none
 n_isinstance:mg "isinstance"=none
 n_int:mg "int"=none
 n_bool:mg "bool"=none
 n_tuple:mg "tuple"=none
 n_str:mg "str"=none
 n_enumerate:mg "enumerate"=none
 n_sorted:mg "sorted"=none
 n_zip:mg "zip"=none
 n_sum:mg "sum"=none
variable {P:Program}{w:World}{K:PySem.W.Frag}{mg:Str->Option Value}{base:Heap}
theorem jE_{b:Int}(h:b≠0):Builtin.Int.intBits b=b.natAbs.log2+1:=by unfold Builtin.Int.intBits;simp[h]
theorem mF_{g b:Int}(h0:g≠0)(h1:g.natAbs<=b.natAbs)(hb:Builtin.Int.intBits b<=8000):g.natAbs.log2<9000:=by have h:=Az_ (a:=g) (b:=b) (n:=8000) h1 hb;rw[jE_ h0]at h;lia
structure ZL(N P:List Str)(sc:Scope):Prop extends Ft_ N P sc where
 loc:∀x∈N,sc.names.lookup x=some .local
structure ZM(N P:List Str)(sc:Scope):Prop extends Ft_ N P sc where
 loc:∀x∈N,sc.names.lookup x=some .local\/sc.names.lookup x=some .cell
variable{X:Cx}{x:Str}{pos:Pos}{p0:List Str}
theorem zv(i:Nat)(h:ZL X.N p0 X.env.scope)(hN:X.N[i]?=some x:=by rfl)(hd:(x == ("__debug__" : Str))=false:=by decide)(hcd:(x == ("__classdict__" : Str))=false:=by decide):PE X (.Name x pos) (LW_ i):=pD_ hN (.inl (h.loc x (List.mem_of_getElem? hN))) hd hcd
theorem zw(i:Nat)(h:ZM X.N p0 X.env.scope)(hN:X.N[i]?=some x:=by rfl)(hd:(x == ("__debug__" : Str))=false:=by decide)(hcd:(x == ("__classdict__" : Str))=false:=by decide):PE X (.Name x pos) (LW_ i):=pD_ hN ((h.loc x (List.mem_of_getElem? hN)).elim .inl λz=>.inr (.inl z)) hd hcd
theorem zh(i:Nat)(h:ZL X.N p0 X.env.scope)(hi:X.N[i]?=some x:=by rfl):PG X (.Name x pos) (HU_ i):=ah_ h.nd hi (h.loc x (List.mem_of_getElem? hi))
theorem zas{e:Expr}{te:TE}(i:Nat){pos':Pos}(h:ZL X.N p0 X.env.scope)(he:PE X e te)(hi:X.N[i]?=some x:=by rfl)(hs:I7_ e=false:=by rfl):PS X (.Assign [.Name x pos'] e pos) (KH_ te (HU_ i)):=ai_ h.nd hi (h.loc x (List.mem_of_getElem? hi)) he hs
theorem zL{N P:List Str}{sc:Scope}(a:sc.kind=.function:=by rfl)(b:sc.isCoroutine=false:=by rfl)(c:sc.isGenerator=false:=by rfl)(d:N.Nodup:=by rfl')(e:N.take P.length=P:=by rfl)(f:∀x∈P,sc.names.lookup x=some .local\/sc.names.lookup x=some .cell:=by rfl')(g:∀y∈sc.names,y.2≠.free:=by rfl')(l:∀x∈N,sc.names.lookup x=some .local:=by rfl'):ZL N P sc:=⟨⟨a,b,c,d,e,f,g⟩,l⟩
theorem zM{N P:List Str}{sc:Scope}(a:sc.kind=.function:=by rfl)(b:sc.isCoroutine=false:=by rfl)(c:sc.isGenerator=false:=by rfl)(d:N.Nodup:=by rfl')(e:N.take P.length=P:=by rfl)(f:∀x∈P,sc.names.lookup x=some .local\/sc.names.lookup x=some .cell:=by rfl')(g:∀y∈sc.names,y.2≠.free:=by rfl')(l:∀x∈N,sc.names.lookup x=some .local\/sc.names.lookup x=some .cell:=by rfl'):ZM N P sc:=⟨⟨a,b,c,d,e,f,g⟩,l⟩
abbrev LK(s:Stmt)(x:Str)(k:NameKind):Prop:=(Fn_ s).names.lookup x=some k
abbrev stN(i:Nat):Stmt:=PySem.Challenge.pw_rimread_k19_flows_at_posts.main.body.getD i (.Pass ⟨0,0,0,0⟩)
abbrev Gq_:Stmt:=stN 38
theorem lC_:ZL ["_law_script","_law_k"] ["_law_script","_law_k"] (Fn_ Gq_):=zL
theorem h6_:LK Gq_ "len" .globalImplicit:=r_
def Jd_(K:PySem.W.Frag):Sp:=λvs H Q _=>∃(a:Addr)(ns:List Int)(i:Int),vs=[.ref a,.int i]/\SqL K H a (ns.map V.int)/\0<=i/\∀z,Q (.int z) H
theorem lD_(T:Txt K mg)(F:Fn0 K mg "_law_cell_at" Gq_):Cal P w K mg base "_law_cell_at" ["_law_script","_law_k"] 1 (Jd_ K):=by
  show aB_ F lC_.1 λf cdv A outer s H vs Q E hr h=>?_;obtain⟨a,ns,i,rfl,hS,h0,k⟩:=h;refine'⟨_,?D,?R⟩
  case D =>
   refine' ad_ ?a (ag_ (ao_ aa_))
   case' a=>refine' Ga_ (aA_ IJ_ (zv 1 lC_) (am_ et_ h6_ T.n_len aZ_ (pa_c (zv 0 lC_) ac_)) (FB_ _)) (ag_ (ao_ (Fr_ (o2_ (K:=K) rfl) (zv 0 lC_) (zv 1 lC_)))) aP_
  case R =>
   nofun;show⟨_,.inl hS,?_⟩;rw[Ab_];show ite2 (λhl=>?_) (λhl=>?_)
   .show⟨a,_,i,V.int (ns.getD i.toNat 0),rfl,rfl,hS,cq_ h0 ?_,k _⟩;have:i.toNat<ns.length:=o_
    simp[Ad_,this,List.getD]
   .show k 0
abbrev GB_:Stmt:=stN 39
theorem eC_:ZL ["_law_script","_law_at","_law_by","_law_prime","_law_cell","_law_big_here","_law_k","_law_one"] ["_law_script","_law_at"] (Fn_ GB_):=zL
theorem ej_:LK GB_ "_law_cell_at" .globalImplicit:=r_
theorem jF_:LK GB_ "range" .globalImplicit:=r_
def I4_(K:PySem.W.Frag):Sp:=λvs H Q _=>∃(a:Addr)(ns:List Int)(j:Int),vs=[.ref a,.int j]/\0<=j/\SqL K H a (ns.map V.int)/\∀z H',Fo_ H H'->Q (.int z) H'
theorem LD_{a0 a1 a2 a3 a4 a5 a6 a7:Int}(i:Int)(h0:0<=i)(h1:i<8)(P:Int->Prop)(p0:P a0)(p1:P a1)(p2:P a2)(p3:P a3)(p4:P a4)(p5:P a5)(p6:P a6)(p7:P a7):
  ∃v,atI [V.int a0,.int a1,.int a2,.int a3,.int a4,.int a5,.int a6,.int a7] i=some (.int v)/\P v:=by
 have:i=0\/i=1\/i=2\/i=3\/i=4\/i=5\/i=6\/i=7:=o_
 rcases this with rfl|rfl|rfl|rfl|rfl|rfl|rfl|rfl
 .show⟨_,rfl,p0⟩
 .show⟨_,rfl,p1⟩
 .show⟨_,rfl,p2⟩
 .show⟨_,rfl,p3⟩
 .show⟨_,rfl,p4⟩
 .show⟨_,rfl,p5⟩
 .show⟨_,rfl,p6⟩
 .show⟨_,rfl,p7⟩
theorem qZ_(T:Txt K mg)(F:Fn0 K mg "_law_big" GB_) (HH_:Cal P w K mg base "_law_cell_at" ["_law_script","_law_k"] 1 (Jd_ K)):Cal P w K mg base "_law_big" ["_law_script","_law_at"] 2 (I4_ K):=by
  show aB_ F eC_.1 λf cdv A outer s H vs Q E hr h=>?_;obtain⟨a,ns,j,rfl,hj,hS,k⟩:=h;refine'⟨_,?D,?R⟩
  case D =>
   refine' ad_ (zas 2 eC_ (aH_ ?a)) ?b
   case' a=>refine' pa_c aa_ (pa_c aa_ (pa_c aa_ (pa_c aa_ (pa_c aa_ (pa_c aa_ (pa_c aa_ (pa_c aa_ ac_)))))))
   case' b=>refine' ad_ (zas 3 eC_ (aH_ ?c)) (ad_ (zas 4 eC_ (af_ HH_ (hr.mono d_) ej_ (pa_c (zv 0 eC_) (pa_c (zv 1 eC_) ac_)))) ?d)
   case' c=>refine' pa_c aa_ (pa_c aa_ (pa_c aa_ (pa_c aa_ (pa_c aa_ (pa_c aa_ (pa_c aa_ (pa_c aa_ ac_)))))))
   case' d=>refine' ad_ (Ga_ (aA_ Mn_ (zv 4 eC_) (Fp_ l8_ aa_ aa_) (FB_ _)) (ag_ (ao_ (zv 4 eC_))) aP_) ?e
   case' e=>refine' ad_ (zas 5 eC_ aa_) (ad_ (bs_ AG_ rfl (aT_ jF_ T.n_range (pa_c aa_ ac_)) ?f ?g) (ag_ (ao_ (zv 5 eC_))))
   case f=>show zh 6 eC_
   case' g=>refine' ad_ (zas 7 eC_ (Fp_ aQ_ ?h (Fp_ gN_ (zv 6 eC_) (zv 6 eC_)))) (ag_ (zas 5 eC_ (Fp_ aQ_ (Fp_ gN_ (zv 5 eC_) aa_) ?i)))
   case' h=>refine' Fp_ aQ_ (Fp_ aL_ (af_ HH_ (hr.mono d_) ej_ (pa_c (zv 0 eC_) (pa_c (Fp_ aQ_ (zv 1 eC_) (Fp_ aL_ (zv 6 eC_) aa_)) ac_))) (Fp_ l8_ aa_ aa_)) aa_
   case' i=>refine' Fp_ aL_ (Fp_ aL_ (Fp_ gN_ (zv 7 eC_) (Fr_ ak_ (zv 2 eC_) (Fp_ aL_ (zv 6 eC_) aa_))) (Fr_ ak_ (zv 3 eC_) (Fp_ aL_ (zv 6 eC_) aa_))) aa_
  case R =>
   nofun;show⟨d_,λp hp=>⟨d_,λq hq=>?_⟩⟩;generalize e1:upd H p (HO.tup _)=H1 at hq⊢;have s1:Fo_ H H1:=e1▸Fo_.new hp;have p1:H1 p=some (.tup _):=e1▸ab_;generalize e2:upd H1 q (HO.tup _)=H2;have s2:Fo_ H1 H2:=e2▸Fo_.new hq;have q2:H2 q=some (.tup _):=e2▸ab_;have p2:=s2 _ _ p1;have sS:Fo_ H H2:=s1.trans s2;clear e1 e2;show⟨a,ns,j,rfl,sS.seq hS,hj,λz=>?_⟩;nofun;show⟨d_,d_,d_,?_⟩;show ite2 (λ_=>k _ _ sS) (λ_=>⟨d_,d_,?_⟩);show b4_ (λi σ H'=>H'=H2/\∃(b:Int)(v6 v7:Option V),σ=[some (V.ref a),some (V.int j),some (V.ref p),some (V.ref q),some (V.int z),some (V.int b),v6,v7]) ⟨rfl,0,none,none,rfl⟩ ?_ ?_
   .rintro i σ H' hi ⟨rfl,b,v6,v7,rfl⟩;have hi':i<60:=hi;nofun;have m9:=AC_ (0+(i:Int)) (show(9:Int)≠0 by decide);show⟨d_,a,ns,_,rfl,sS.seq hS,o_,λy=>?_⟩;nofun;show⟨d_,d_,d_,d_,.inl ⟨o_,o_⟩,.inr ⟨d_,d_⟩,d_,?_⟩;have m8:=AC_ (0+(i:Int)) (show(8:Int)≠0 by decide);have l8:=Ax_ (0+(i:Int)) (show(0:Int)<8 by decide);obtain⟨v,hv,v0,v1⟩:=LD_ (a0:=48271) (a1:=69621) (a2:=16807) (a3:=39373) (a4:=21401) (a5:=60493) (a6:=87721) (a7:=31337) ((0+(i:Int))%8) m8 l8 (λv=>0<v/\v<100000) d_ d_ d_ d_ d_ d_ d_ d_;obtain⟨u,hu,u0,u1⟩:=LD_ (a0:=99991) (a1:=99989) (a2:=99971) (a3:=99961) (a4:=99929) (a5:=99923) (a6:=99907) (a7:=99901) ((0+(i:Int))%8) m8 l8 (λv=>0<v/\v<100000) d_ d_ d_ d_ d_ d_ d_ d_;simp only[p2,q2,A6_,HO.tup.injEq,Bp_];simp only[hv,hu];nofun;show⟨.inr ⟨o_,o_⟩,d_,u0,d_,_,rfl⟩
   .rintro σ H' ⟨rfl,b,v6,v7,rfl⟩;nofun;show k _ _ sS
def dF(p:Int×Int):Dt:=.tup [.int p.1,.int p.2]
variable{H:Hp}
theorem bB_{p:Int×Int}(h:Rep H v (dF p)):∃q,v=.ref q/\H q=some (.tup [.int p.1,.int p.2]):=by obtain⟨q,xs,e,hq,x,r,e1,hx,y,r',e2,hy,e3⟩:=h;cases hx;cases hy;subst e1 e2 e3;show⟨q,e,hq⟩
abbrev Hj_:Stmt:=stN 40
theorem lE_:ZL ["_law_top","_law_bottom","_law_one","_law_other"] ["_law_top","_law_bottom"] (Fn_ Hj_):=zL
theorem eD_:LK Hj_ "_law_one" .local:=r_
theorem eE_:LK Hj_ "_law_other" .local:=r_
theorem lF_:LK Hj_ "abs" .globalImplicit:=r_
def Hi_:Sp:=λvs H Q _=>∃t b:Int,vs=[.int t,.int b]/\0<b/\Builtin.Int.intBits b<=8000/\∀p H',Fo_ H H'->Rep (G4_ H H') (.ref p) (dF (nf t b))->Q (.ref p) H'
theorem q0_(T:Txt K mg)(F:Fn0 K mg "_law_low" Hj_):Cal P w K mg base "_law_low" ["_law_top","_law_bottom"] 1 Hi_:=by
  show aB_ F lE_.1 λf cdv A outer s H vs Q E hr h=>?_;obtain⟨a,b,rfl,hb,lb,k⟩:=h;refine'⟨_,?D,?R⟩
  case D =>
   refine' ad_ (pK_ (i:=2) (j:=3) rfl lE_.nd rfl rfl d_ eD_ eE_ (pa_c (am_ je_ lF_ T.n_abs nE_ (pa_c (zv 0 lE_) ac_)) (pa_c (zv 1 lE_) ac_)) rfl) ?a
   case' a=>refine' ad_ (fK_ AG_ (aA_ JE_ (zv 3 lE_) aa_ (FB_ _)) (ag_ (pK_ (i:=2) (j:=3) rfl lE_.nd rfl rfl d_ eD_ eE_ (pa_c (zv 3 lE_) (pa_c (Fp_ aL_ (zv 2 lE_) (zv 3 lE_)) ac_)) rfl))) ?b
   case' b=>refine' ag_ (ao_ (aH_ (pa_c (Fp_ av_ (zv 0 lE_) (zv 2 lE_)) (pa_c (Fp_ av_ (zv 1 lE_) (zv 2 lE_)) ac_))))
  case R =>
   nofun
   show hE_ (λσ H1=>∃(x y:Int),σ=[some (.int a),some (.int b),some (.int x),some (.int y)]/\H1=H/\0<=x/\0<=y/\Int.gcd x y=Int.gcd a b)
    (λσ _=>match σ with | [_,_,_,some (.int y)]=>y.toNat|_=>0) ?_ ?_
   .show⟨_,_,rfl,rfl,?_,o_,?_⟩
    .split <;> lia
    .split
     .rw[E2_]
     .rfl
   .rintro σ H1 ⟨x,y,rfl,rfl,hx,hy,e⟩;nofun;show ite2 (λhne=>?_) (λhe=>?_)
    .show⟨_,N_ok,?_⟩;nofun;have h1:=AC_ x (show y≠0 by lia);have h2:=Ax_ x hne;show⟨hne,hy,h1,(mE_ hx hne).trans e,o_⟩
    .have hy0:y=0:=o_
     have hx':x=(Int.gcd a b:Nat):=by rw[<-e,hy0,Int.gcd_zero_right];lia
     have g0:=gpos (t:=a) (b:=b) o_;have hl:=mF_ (g:=(Int.gcd a b:Int)) (b:=b) o_ (EM_ o_ (Dc_.mpr (BX_ ..))) lb;subst hx';show⟨g0,hl,g0,hl,d_,λp hp=>k p _ (Fo_.new hp) ⟨p,_,rfl,?_,_,_,rfl,rfl,_,_,rfl,rfl,rfl⟩⟩;rw[bF_ hp,ab_,mj_ hb]
abbrev F5_:Stmt:=stN 41
theorem bf_:ZL ["_law_big_here","_law_bottom","_law_top"] ["_law_big_here"] (Fn_ F5_):=zL
theorem gr_:LK F5_ "_law_low" .globalImplicit:=r_
def Iy_:Sp:=λvs H Q _=>∃z:Int,vs=[.int z]/\∀(p q:Addr) H' (t b y:Int),Fo_ H H'->H p=none->H q=none->Ws (nf t b)->H' p=some (.tup [.ref q,.int y])->H' q=some (.tup [.int (nf t b).1,.int (nf t b).2])->Q (.ref p) H'
theorem kR_(T:Txt K mg)(F:Fn0 K mg "_law_worth_of" F5_) (Gx_:Cal P w K mg base "_law_low" ["_law_top","_law_bottom"] 1 Hi_):Cal P w K mg base "_law_worth_of" ["_law_big_here"] 2 Iy_:=by
  show aB_ F bf_.1 λf cdv A outer s H vs Q E hr h=>?_;obtain⟨z,rfl,k⟩:=h;refine'⟨_,?D,?R⟩
  case D =>
   refine' ad_ (zas 1 bf_ (Fp_ aQ_ aa_ (Fp_ aL_ (zv 0 bf_) aa_))) ?a
   case' a=>refine' ad_ (gO_ (Ga_ (aA_ GN_ (Fp_ aL_ (Fp_ av_ (zv 0 bf_) aa_) aa_) aa_ (FB_ _)) ?b aP_)) ?c
   case' b=>refine' ag_ (zas 1 bf_ (Fp_ aQ_ aa_ (Fp_ aL_ (Fp_ av_ (zv 0 bf_) aa_) aa_)))
   case' c=>refine' ad_ (gO_ (Ga_ (aA_ GN_ (Fp_ aL_ (Fp_ av_ (zv 0 bf_) aa_) aa_) aa_ (FB_ _)) ?d aP_)) ?e
   case' d=>refine' ag_ (zas 1 bf_ (Fp_ aQ_ aa_ (Fp_ aL_ (Fp_ av_ (zv 0 bf_) aa_) aa_)))
   case' e=>refine' ad_ (zas 0 bf_ (Fp_ av_ (zv 0 bf_) aa_)) (ad_ (zas 2 bf_ (Fp_ aQ_ aa_ (Fp_ aL_ (zv 0 bf_) aa_))) ?f)
   case' f=>refine' ad_ (gO_ (Ga_ (aA_ GN_ (Fp_ aL_ (Fp_ av_ (zv 0 bf_) aa_) aa_) aa_ (FB_ _)) ?g aP_)) ?h
   case' g=>refine' ag_ (zas 2 bf_ (Fp_ aQ_ aa_ (Fp_ aL_ (Fp_ av_ (zv 0 bf_) aa_) aa_)))
   case' h=>refine' ad_ (gO_ (Ga_ (aA_ GN_ (Fp_ aL_ (Fp_ av_ (zv 0 bf_) aa_) aa_) aa_ (FB_ _)) ?i aP_)) (ag_ ?j)
   case' i=>refine' ag_ (zas 2 bf_ (Fp_ aQ_ aa_ (Fp_ aL_ (Fp_ av_ (zv 0 bf_) aa_) aa_)))
   case' j=>refine' ao_ (aH_ (pa_c (af_ Gx_ (hr.mono d_) gr_ (pa_c (zv 2 bf_) (pa_c (zv 1 bf_) ac_))) (pa_c (Fp_ av_ (zv 0 bf_) aa_) ac_)))
  case R =>
   nofun;show⟨d_,λσ H1=>∃b:Int,σ=[some (.int z),some (.int b),none]/\H=H1/\0<b/\b<=1000,?_,?_⟩
   .nofun;show⟨d_,d_,d_,ite2 (λ_=>?_) (λ_=>?_)⟩
    .have:=AC_ (z/12) (show(12:Int)≠0 by decide);have:=Ax_ (z/12) (show(0:Int)<12 by decide);show⟨d_,d_,d_,o_,o_⟩
    .have:=AC_ z (show(3:Int)≠0 by decide);have:=Ax_ z (show(0:Int)<3 by decide);lia
   rintro σ H1 ⟨b,rfl,rfl,b0,b1⟩;nofun;show⟨λσ H1=>∃b:Int,σ=[some (.int z),some (.int b),none]/\H=H1/\0<b/\b<=1000,?_,?_⟩
   .nofun;show⟨d_,d_,d_,ite2 (λ_=>?_) (λ_=>⟨b0,b1⟩)⟩;have:=AC_ (z/48) (show(1000:Int)≠0 by decide);have:=Ax_ (z/48) (show(0:Int)<1000 by decide);show⟨d_,d_,d_,o_,o_⟩
   clear b0 b1 b;rintro σ H1 ⟨b,rfl,rfl,b0,b1⟩;nofun;show⟨d_,d_,d_,?_⟩;generalize z/48000=y;show⟨λσ H1=>∃t:Int,σ=[some (.int y),some (.int b),some (.int t)]/\H=H1/\0<t/\t<=1000,?_,?_⟩
   .nofun;show⟨d_,d_,d_,ite2 (λ_=>?_) (λ_=>?_)⟩
    .have:=AC_ (y/20) (show(12:Int)≠0 by decide);have:=Ax_ (y/20) (show(0:Int)<12 by decide);show⟨d_,d_,d_,o_,o_⟩
    .have:=AC_ y (show(5:Int)≠0 by decide);have:=Ax_ y (show(0:Int)<5 by decide);lia
   rintro σ H1 ⟨t,rfl,rfl,t0,t1⟩;nofun;show⟨λσ H1=>∃t:Int,σ=[some (.int y),some (.int b),some (.int t)]/\H=H1/\0<t/\t<=1000,?_,?_⟩
   .nofun;show⟨d_,d_,d_,ite2 (λ_=>?_) (λ_=>⟨t0,t1⟩)⟩;have:=AC_ (y/80) (show(1000:Int)≠0 by decide);have:=Ax_ (y/80) (show(0:Int)<1000 by decide);show⟨d_,d_,d_,o_,o_⟩
   clear t0 t1 t;rintro σ H1 ⟨t,rfl,rfl,t0,t1⟩;nofun;show⟨t,b,rfl,b0,Az_ (b:=1000) o_ d_,λq H1 s1 r1=>?_⟩;nofun;obtain⟨q',eq,hq⟩:=bB_ r1;cases eq;obtain⟨q0,q1⟩:=aV_ hq;show⟨d_,d_,d_,λp hp=>k p q _ t b (y/80000) (s1.trans (Fo_.new hp)) (s1.free hp) q0 (LF_ t0 t1 b0 b1) ab_ (Fo_.new hp _ _ q1)⟩
abbrev Fz_:Stmt:=stN 10
theorem aI_:ZL ["one","other","pair","rest"] ["one","other"] (Fn_ Fz_):=zL
theorem cm_:LK Fz_ "LONG_BITS" .globalImplicit:=r_
theorem dN_:LK Fz_ "max" .globalImplicit:=r_
theorem dO_:LK Fz_ "min" .globalImplicit:=r_
def I2_:Sp:=λvs H Q _=>∃a b:Int,vs=[.int a,.int b]/\0<=a/\0<=b/\Builtin.Int.intBits a<=8000/\Builtin.Int.intBits b<=8000/\∀H',Fo_ H H'->Q (.int (Int.gcd a b:Nat)) H'
theorem fm_(T:Txt K mg)(F:Fn0 K mg "greatest_divisor" Fz_):Cal P w K mg base "greatest_divisor" ["one","other"] 1 I2_:=by
  show aB_ F aI_.1 λf cdv A outer s H vs Q E hr h=>?_;obtain⟨a,b,rfl,ha,hb,la,lb,k⟩:=h;refine'⟨_,?D,?R⟩
  case D =>
   refine' ad_ (zas 2 aI_ (aH_ ?a)) ?b
   case' a=>refine' pa_c (am_ (nw_ rfl) dN_ T.n_max rC_ (pa_c (zv 0 aI_) (pa_c (zv 1 aI_) ac_))) (pa_c (am_ (nx_ rfl) dO_ T.n_min rD_ (pa_c (zv 0 aI_) (pa_c (zv 1 aI_) ac_))) ac_)
   case' b=>refine' ad_ (fK_ AG_ (aA_ JE_ (rx_ PySem.F.plainAttrs_int PySem.F.slot_int_bit_length PySem.F.type_int_bit_length qp_ (Fr_ ak_ (zv 2 aI_) aa_)) ?c (FB_ _)) ?d) (ad_ (zas 0 aI_ (Fr_ ak_ (zv 2 aI_) aa_)) ?e)
   case c=>show qq_ T.c_LONG_BITS cm_
   case d=>show nn_
   case' e=>refine' ad_ (zas 1 aI_ (Fr_ ak_ (zv 2 aI_) aa_)) (ad_ (fK_ AG_ (aA_ Ky_ (zv 1 aI_) aa_ (FB_ _)) ?f) (ag_ (ao_ (zv 0 aI_))))
   case' f=>refine' ad_ (zas 3 aI_ (Fp_ aL_ (zv 0 aI_) (zv 1 aI_))) (ad_ (zas 0 aI_ (zv 1 aI_)) (ag_ (zas 1 aI_ (zv 3 aI_))))
  case R =>
   nofun;show⟨d_,λp hp=>?_⟩;show hE_ (λσ H1=>σ=[some (.int a),some (.int b),some (.ref p),none]/\H1=upd H p (.tup [V.int (if b > a then b else a),V.int (if b<a then b else a)])) (λ_ _=>0) ⟨rfl,rfl⟩ ?_;rintro σ H1 ⟨rfl,rfl⟩;nofun;have hm:¬ (8000:Int)<(Builtin.Int.intBits (if b<a then b else a):Nat):=by split <;> lia
   rw[if_neg hm]
   show hE_ (λσ H1=>∃(x y:Int)(z:Option V),σ=[some (.int x),some (.int y),some (.ref p),z]/\H1=upd H p (.tup [V.int (if b > a then b else a),V.int (if b<a then b else a)])/\0<=x/\0<=y/\Int.gcd x y=Int.gcd a b)
    (λσ _=>match σ with | [_,some (.int y),_,_]=>y.toNat|_=>0) ?_ ?_
   .show⟨_,_,_,rfl,rfl,?_,?_,?_⟩
    .split <;> lia
    .split <;> lia
    .by_cases h:b<a
     .rw[if_pos h,if_neg o_]
     .rw[if_neg h];by_cases h':b > a
      .rw[if_pos h',Dm_]
      .rw[if_neg h',Dm_];congr 1 <;> lia
   .rintro σ H1 ⟨x,y,z,rfl,rfl,hx,hy,e⟩;nofun;show ite2 (λhne=>?_) (λhe=>?_)
    .show⟨_,N_ok,?_⟩;nofun;have h0:0<y:=o_
     have h1:=AC_ x hne;have h2:=Ax_ x h0;show⟨h0,hy,h1,(mE_ hx h0).trans e,o_⟩
    .have hy0:y=0:=Decidable.not_not.mp he;have:x=(Int.gcd a b:Nat):=by rw[<-e,hy0,Int.gcd_zero_right];lia
     rw[this];show k _ (Fo_.new hp)
theorem q1_(t b:Int):Int.gcd (if t<0 then -t else t) (if b<0 then -b else b)=Int.gcd t b:=by split <;> split <;> simp[Int.gcd_neg,E2_]
theorem mG_{t:Int}(h:Builtin.Int.intBits t<=n):Builtin.Int.intBits (if t<0 then -t else t)<=n :=
 Az_ (b:=t) (by split <;> lia) h
abbrev F7_:Stmt:=stN 11
theorem fn_:ZL ["top","bottom","divisor"] ["top","bottom"] (Fn_ F7_):=zL
theorem eF_:LK F7_ "abs" .globalImplicit:=r_
theorem cw_:LK F7_ "greatest_divisor" .globalImplicit:=r_
def Gu_:Sp:=λvs H Q _=>∃t b:Int,vs=[.int t,.int b]/\b≠0/\Builtin.Int.intBits t<=8000/\Builtin.Int.intBits b<=8000/\∀p H',Fo_ H H'->H p=none->H' p=some (.tup [.int (nf t b).1,.int (nf t b).2])->Q (.ref p) H'
theorem lG_(T:Txt K mg)(F:Fn0 K mg "fraction" F7_) (Gd_:Cal P w K mg base "greatest_divisor" ["one","other"] 1 I2_):Cal P w K mg base "fraction" ["top","bottom"] 2 Gu_:=by
  show aB_ F fn_.1 λf cdv A outer s H vs Q E hr h=>?_;obtain⟨t,b,rfl,hb,lt,lb,k⟩:=h;refine'⟨_,?D,?R⟩
  case D =>
   refine' ad_ (Ga_ (aA_ GN_ (zv 1 fn_) aa_ (FB_ _)) (ag_ ?a) aP_) ?b
   case a=>show l6_
   case' b=>refine' ad_ ?c (ad_ (Ga_ (aA_ IJ_ (zv 1 fn_) aa_ (FB_ _)) (ag_ (zas 2 fn_ (Kt_ ns_ (zv 2 fn_)))) aP_) ?d)
   case' c=>refine' zas 2 fn_ (af_ Gd_ (hr.mono d_) cw_ (pa_c (am_ je_ eF_ T.n_abs nE_ (pa_c (zv 0 fn_) ac_)) (pa_c (am_ je_ eF_ T.n_abs nE_ (pa_c (zv 1 fn_) ac_)) ac_)))
   case' d=>refine' ag_ (ao_ (aH_ (pa_c (Fp_ ji_ (zv 0 fn_) (zv 2 fn_)) (pa_c (Fp_ ji_ (zv 1 fn_) (zv 2 fn_)) ac_))))
  case R =>
   nofun;rw[if_neg hb];show⟨_,_,rfl,?_,?_,mG_ lt,mG_ lb,λH1 s1=>?_⟩
   .split <;> lia
   .split <;> lia
   .rw[q1_];have g:=gpos (t:=t) hb;have d1:=Cz_ (a:=t) (b:=b);have d2:=BX_ (a:=t) (b:=b);have gl:(Int.gcd t b:Int).natAbs<=b.natAbs:=by have:=Dc_.mpr d2;show EM_ o_ this
    have lg:=mF_ (g:=(Int.gcd t b:Int)) o_ gl lb;nofun;show ite2 (λhn=>?_) (λhn=>?_)
    .have e:nf t b=(t.fdiv (-(Int.gcd t b:Int)),b.fdiv (-(Int.gcd t b:Int))):=by unfold nf;rw[if_pos hn,B6_ (Int.neg_dvd.mpr d1),B6_ (Int.neg_dvd.mpr d2)]
     rw[e]at k;have lg':(-(Int.gcd t b:Int)).natAbs.log2<9000:=by rw[Du_];show lg
     show⟨o_,lg',o_,lg',d_,λp hp=>k p _ (s1.trans (Fo_.new hp)) (s1.free hp) ab_⟩
    .have e:nf t b=(t.fdiv (Int.gcd t b:Int),b.fdiv (Int.gcd t b:Int)):=by unfold nf;rw[if_neg hn,B6_ d1,B6_ d2]
     rw[e]at k;show⟨o_,lg,o_,lg,d_,λp hp=>k p _ (s1.trans (Fo_.new hp)) (s1.free hp) ab_⟩
def FQ(K:PySem.W.Frag)(H:Hp)(v:V)(p:Int×Int):Prop:=∃a,v=.ref a/\SqT K H a [.int p.1,.int p.2]
variable{xs:List V}
theorem Fo_.seqT{H':Hp}{a:Addr}(e:Fo_ H H')(h:SqT K H a xs):SqT K H' a xs:=by
 rcases h with(h|⟨o,h⟩)|h
 .show .inl (.inl (e _ _ h))
 .show .inl (.inr ⟨o,e _ _ h⟩)
 .show .inr h
structure Sm(p:Int×Int):Prop where
 low:Low p
 top:Builtin.Int.intBits p.1<=1500
 bot:Builtin.Int.intBits p.2<=1500
theorem dn_{x y:Int}{m:Nat}(hx:Builtin.Int.intBits x<=n)(hy:Builtin.Int.intBits y<=m)(h:n+m<=9000):Builtin.Int.intBits (x*y)<=n+m/\Builtin.Int.intBits x+Builtin.Int.intBits y<=134217728:=⟨Cs_ hx hy,o_⟩
theorem mH_{x y:Int}(hx:Builtin.Int.intBits x<=n)(hy:Builtin.Int.intBits y<=n):Builtin.Int.intBits (x-y)<=n+1:=by have h:Builtin.Int.intBits (-y)<=n:=Az_ (b:=y) o_ hy;have:=Ct_ hx h;rw[CR_];lia
def H0_(K:PySem.W.Frag)(t b:Int×Int->Int×Int->Int):Sp:=λvs H Q _=>∃v u p q,vs=[v,u]/\FQ K H v p/\FQ K H u q/\Sm p/\Sm q/\b p q≠0/\∀z H',Fo_ H H'->H z=none->H' z=some (.tup [.int (nf (t p q) (b p q)).1,.int (nf (t p q) (b p q)).2])->Q (.ref z) H'
abbrev HB_:Stmt:=stN 12
theorem q2_:ZL ["one","other"] ["one","other"] (Fn_ HB_):=zL
theorem g8_:LK HB_ "fraction" .globalImplicit:=r_
theorem q3_(T:Txt K mg)(F:Fn0 K mg "plus" HB_) (Gl_:Cal P w K mg base "fraction" ["top","bottom"] 2 Gu_):Cal P w K mg base "plus" ["one","other"] 3 (H0_ K (λp q=>p.1*q.2+q.1*p.2) (λp q=>p.2*q.2)):=by
  show aB_ F q2_.1 λf cdv A outer s H vs Q E hr h=>?_;obtain⟨v,u,p,q,rfl,⟨x,rfl,hx⟩,⟨y,rfl,hy⟩,sp,sq,nz,k⟩:=h;have p1:=sp.top;have p2:=sp.bot;have q1:=sq.top;have q2:=sq.bot;have a1:=dn_ p1 q2 d_;have a2:=dn_ q1 p2 d_;have a3:=dn_ p2 q2 d_;have a4:=dn_ p1 q1 d_;have a5:=dn_ p2 q1 d_;have b1:=Ct_ a1.1 a2.1;have b2:=mH_ a1.1 a2.1;refine'⟨_,?D,?R⟩
  case D =>
   refine' ag_ (ao_ (af_ Gl_ (hr.mono d_) g8_ (pa_c ?a (pa_c (Fp_ a0_ (Fr_ (a5_ (K:=K) rfl) (zv 0 q2_) aa_) (Fr_ (a5_ (K:=K) rfl) (zv 1 q2_) aa_)) ac_))))
   case' a=>refine' Fp_ aQ_ (Fp_ a0_ (Fr_ (a5_ (K:=K) rfl) (zv 0 q2_) aa_) (Fr_ (a5_ (K:=K) rfl) (zv 1 q2_) aa_)) (Fp_ a0_ (Fr_ (a5_ (K:=K) rfl) (zv 1 q2_) aa_) (Fr_ (a5_ (K:=K) rfl) (zv 0 q2_) aa_))
  case R =>nofun;show⟨_,hx,_,F4_,_,hy,_,Ge_,_,rfl,_,rfl,o_,_,hy,_,F4_,_,hx,_,Ge_,_,rfl,_,rfl,o_,_,hx,_,Ge_,_,hy,_,Ge_,_,rfl,_,rfl,o_,_,_,rfl,nz,o_,o_,λz H' s' n' h'=>k z H' s' n' h'⟩
abbrev Hc_:Stmt:=stN 13
theorem po_:ZL ["one","other"] ["one","other"] (Fn_ Hc_):=zL
theorem gu_:LK Hc_ "fraction" .globalImplicit:=r_
theorem pp_(T:Txt K mg)(F:Fn0 K mg "minus" Hc_) (Gl_:Cal P w K mg base "fraction" ["top","bottom"] 2 Gu_):Cal P w K mg base "minus" ["one","other"] 3 (H0_ K (λp q=>p.1*q.2-q.1*p.2) (λp q=>p.2*q.2)):=by
  show aB_ F po_.1 λf cdv A outer s H vs Q E hr h=>?_;obtain⟨v,u,p,q,rfl,⟨x,rfl,hx⟩,⟨y,rfl,hy⟩,sp,sq,nz,k⟩:=h;have p1:=sp.top;have p2:=sp.bot;have q1:=sq.top;have q2:=sq.bot;have a1:=dn_ p1 q2 d_;have a2:=dn_ q1 p2 d_;have a3:=dn_ p2 q2 d_;have a4:=dn_ p1 q1 d_;have a5:=dn_ p2 q1 d_;have b1:=Ct_ a1.1 a2.1;have b2:=mH_ a1.1 a2.1;refine'⟨_,?D,?R⟩
  case D =>
   refine' ag_ (ao_ (af_ Gl_ (hr.mono d_) gu_ (pa_c ?a (pa_c (Fp_ a0_ (Fr_ (a5_ (K:=K) rfl) (zv 0 po_) aa_) (Fr_ (a5_ (K:=K) rfl) (zv 1 po_) aa_)) ac_))))
   case' a=>refine' Fp_ kc_ (Fp_ a0_ (Fr_ (a5_ (K:=K) rfl) (zv 0 po_) aa_) (Fr_ (a5_ (K:=K) rfl) (zv 1 po_) aa_)) (Fp_ a0_ (Fr_ (a5_ (K:=K) rfl) (zv 1 po_) aa_) (Fr_ (a5_ (K:=K) rfl) (zv 0 po_) aa_))
  case R =>nofun;show⟨_,hx,_,F4_,_,hy,_,Ge_,_,rfl,_,rfl,o_,_,hy,_,F4_,_,hx,_,Ge_,_,rfl,_,rfl,o_,_,hx,_,Ge_,_,hy,_,Ge_,_,rfl,_,rfl,o_,_,_,rfl,nz,o_,o_,λz H' s' n' h'=>k z H' s' n' h'⟩
def GC_(r:List (Int×Int)):Dt:=.lst (r.map dF)
def dG(g:List (List (Int×Int))):Dt:=.lst (g.map GC_)
variable{g:List (List (Int×Int))}{i:Nat}
theorem cx_{x:V}(h:FE_ H xs (g.map GC_))(e:xs[i]?=some x):∃q ys r,g[i]?=some r/\x=.ref q/\H q=some (.lst ys)/\FE_ H ys (r.map dF):=by
 obtain⟨d,hd,hr⟩:=h.of_get e;rw[Ad_]at hd;cases z:g[i]? with
 |none=>rw[z]at hd;cases hd
 |some r =>rw[z]at hd;cases hd;obtain⟨q,ys,e1,e2,e3⟩:=hr;show⟨q,ys,r,rfl,e1,e2,e3⟩
theorem fV_{r:List (Int×Int)}{x:V}(h:FE_ H xs (r.map dF))(e:xs[i]?=some x):∃q p,r[i]?=some p/\x=.ref q/\H q=some (.tup [.int p.1,.int p.2]):=by
 obtain⟨d,hd,hr⟩:=h.of_get e;rw[Ad_]at hd;cases z:r[i]? with
 |none=>rw[z]at hd;cases hd
 |some p =>rw[z]at hd;cases hd;obtain⟨q,e1,e2⟩:=bB_ hr;show⟨q,p,rfl,e1,e2⟩
def VG(K:PySem.W.Frag)(H J:Hp):Prop:=(∀q xs,J q=some (.tup xs)->SqT K H q xs)/\∀q xs,J q=some (.lst xs)->H q=some (.lst xs)
theorem VG.refl:VG K H H:=⟨λ_ _ h=>SqT.of h,λ_ _ h=>h⟩
theorem VG.mono{H' J:Hp}(h:VG K H J)(s:Fo_ H H'):VG K H' J:=⟨λq xs e=>Fo_.seqT s (h.1 q xs e),λq xs e=>s _ _ (h.2 q xs e)⟩
abbrev GI_:Stmt:=stN 55
theorem oo_:ZL ["_law_found"] ["_law_found"] (Fn_ GI_):=zL
theorem iJ_:LK GI_ "bool" .globalImplicit:=r_
theorem jG_:LK GI_ "int" .globalImplicit:=r_
theorem cr_:LK GI_ "isinstance" .globalImplicit:=r_
def Iz_:Sp:=λvs H Q _=>∃x t,vs=[x]/\Hw_ H x=some t/\∀H',Fo_ H H'->Q (.bl (t == "int")) H'
theorem m8_{x:V}{t:String}(h:Hw_ H x=some t):t = "NoneType" \/ t = "bool" \/ t = "int" \/ t = "str" \/ t = "list" \/ t = "tuple" := by
 cases x with
 |non=>show .inl (Ak_ h).symm
 |bl _=>show .inr (.inl (Ak_ h).symm)
 |int _=>show .inr (.inr (.inl (Ak_ h).symm))
 |str _=>show .inr (.inr (.inr (.inl (Ak_ h).symm)))
 |ref p =>
  cases e:H p with
  |none=>simp[Hw_,e]at h
  |some o=>cases o <;> simp[Hw_,e]at h <;> simp[<-h]
 |_=>cases h
theorem op_(T:Txt K mg)(F:Fn0 K mg "_law_whole" GI_):Cal P w K mg base "_law_whole" ["_law_found"] 1 Iz_:=by
  show aB_ F oo_.1 λf cdv A outer s H vs Q E hr h=>?_;obtain⟨x,t,rfl,ht,k⟩:=h;refine'⟨_,?D,?R⟩
  case D =>
   refine' ag_ (ao_ (pH_ (am_ jh_ cr_ T.n_isinstance ct_ (pa_c (zv 0 oo_) (pa_c ?a ac_))) ?b))
   case a=>show mc_ jG_ T.n_int nF_
   case' b=>refine' pG_ (rs_ (am_ jh_ cr_ T.n_isinstance ct_ (pa_c (zv 0 oo_) (pa_c ?c ac_))))
   case c=>show mc_ iJ_ T.n_bool qs_
  case R =>
   nofun;simp only[ht,A6_,Bp_];have k':=k H (Fo_.refl H)
   rcases m8_ ht with rfl|rfl|rfl|rfl|rfl|rfl <;> show k'
abbrev FH_:Stmt:=stN 57
theorem ib_:ZL ["_law_found"] ["_law_found"] (Fn_ FH_):=zL
theorem fb_:LK FH_ "_law_low" .globalImplicit:=r_
theorem bW_:LK FH_ "_law_whole" .globalImplicit:=r_
theorem cU_:LK FH_ "isinstance" .globalImplicit:=r_
theorem fo_:LK FH_ "len" .globalImplicit:=r_
theorem eG_:LK FH_ "tuple" .globalImplicit:=r_
def J8_(K:PySem.W.Frag):Sp:=λvs H Q _=>∃v p,vs=[v]/\FQ K H v p/\Low p/\Builtin.Int.intBits p.2<=8000/\∀H',Fo_ H H'->Q (.bl true) H'
theorem ic_(T:Txt K mg)(F:Fn0 K mg "_law_is_fraction" FH_) (IC_:Cal P w K mg base "_law_whole" ["_law_found"] 1 Iz_) (Gx_:Cal P w K mg base "_law_low" ["_law_top","_law_bottom"] 1 Hi_):Cal P w K mg base "_law_is_fraction" ["_law_found"] 2 (J8_ K):=by
  show aB_ F ib_.1 λf cdv A outer s H vs Q E hr h=>?_;obtain⟨v,p,rfl,⟨q,rfl,hq⟩,lo,bb,k⟩:=h;refine'⟨_,?D,?R⟩
  case D =>
   refine' ad_ (Ga_ ?a (ag_ (ao_ Je_)) aP_) ?b
   case' a=>refine' PW.pt (Ij_ ?c (Ij_ (aA_ Ky_ (am_ et_ fo_ T.n_len aZ_ (pa_c (zv 0 ib_) ac_)) aa_ (FB_ _)) ?d))
   case' c=>refine' ka_ (j9_ (am_ (pi_ rfl) cU_ T.n_isinstance ct_ (pa_c (zv 0 ib_) (pa_c ?e ac_))))
   case e=>show mc_ eG_ T.n_tuple o0_
   case' d=>refine' Ij_ (ka_ (j9_ (af_ IC_ (hr.mono d_) bW_ (pa_c (Fr_ (a5_ (K:=K) rfl) (zv 0 ib_) aa_) ac_)))) ?f
   case' f=>refine' nm_ (ka_ (j9_ (af_ IC_ (hr.mono d_) bW_ (pa_c (Fr_ (a5_ (K:=K) rfl) (zv 0 ib_) aa_) ac_))))
   case' b=>refine' ag_ (ao_ (pH_ (hC_ JE_ (Fr_ (a5_ (K:=K) rfl) (zv 0 ib_) aa_) aa_ (FB_ _)) ?g))
   case' g=>refine' pG_ (hC_ (pQ_ rfl (hr.units)) (zv 0 ib_) (af_ Gx_ (hr.mono d_) fb_ (pa_c (Fr_ (a5_ (K:=K) rfl) (zv 0 ib_) aa_) (pa_c (Fr_ (a5_ (K:=K) rfl) (zv 0 ib_) aa_) ac_))) (FB_ _))
  case R =>
   nofun;show⟨_,hq,?_⟩;show⟨_,.inr hq,?_⟩;rw[if_neg s_];show⟨_,hq,_,F4_,_,"int",rfl,rfl,λH1 s1=>⟨_,rfl,?_⟩⟩;rw[if_neg d_];have hq1:=Fo_.seqT s1 hq;show⟨_,hq1,_,Ge_,_,"int",rfl,rfl,λH2 s2=>⟨_,rfl,?_⟩⟩;rw[if_neg d_];have hq2:=Fo_.seqT s2 hq1;have p0:=lo.pos;show⟨_,hq2,_,Ge_,_,rfl,?_⟩;rw[if_pos p0];show⟨_,hq2,_,F4_,_,hq2,_,Ge_,_,_,rfl,p0,bb,λz H3 s3 rep=>?_⟩;rw[hO_ lo]at rep;obtain⟨_,e,hz⟩:=bB_ rep;cases e;have hz3:=(aV_ hz).2;have hq3:=Fo_.seqT s3 hq2;have eJ:=ab_ (H:=H3) (a:=q) (o:=HO.tup [.int p.1,.int p.2]);show⟨upd H3 q (HO.tup [.int p.1,.int p.2]),⟨λa xs e=>?_,λa xs e=>?_⟩,z,rfl,dF p,⟨q,_,rfl,eJ,_,_,rfl,rfl,_,_,rfl,rfl,rfl⟩,dF p,⟨z,_,rfl,?_,_,_,rfl,rfl,_,_,rfl,rfl,rfl⟩,true,by simp[deq,deqs,dF],by simp[dep,deps,dF],k _ ((s1.trans s2).trans s3)⟩
   .by_cases h:a=q
    .subst h;rw[eJ]at e;cases e;show hq3
    .rw[aj_ h]at e;show SqT.of e
   .by_cases h:a=q
    .subst h;rw[eJ]at e;cases e
    .rw[aj_ h]at e;show .inl (.inl e)
   .by_cases h:z=q
    .rw[h];show eJ
    .rw[aj_ h];show hz3
def Ii_(t:Int×Int->Int×Int->Int):Sp:=λvs H Q _=>∃v u p q,vs=[v,u]/\Rep H v (dF p)/\Rep H u (dF q)/\0<p.2/\0<q.2/\Builtin.Int.intBits p.1<=20000/\Builtin.Int.intBits p.2<=3900/\Builtin.Int.intBits q.1<=20000/\Builtin.Int.intBits q.2<=3900 /\
 ∀z H',Fo_ H H'->Rep (G4_ H H') (.ref z) (dF (nf (t p q) (p.2*q.2)))->Q (.ref z) H'
abbrev HF_:Stmt:=stN 52
theorem q4_:ZL ["_law_one","_law_other"] ["_law_one","_law_other"] (Fn_ HF_):=zL
theorem kS_:LK HF_ "_law_low" .globalImplicit:=r_
theorem q5_(T:Txt K mg)(F:Fn0 K mg "_law_add" HF_) (Gx_:Cal P w K mg base "_law_low" ["_law_top","_law_bottom"] 1 Hi_):Cal P w K mg base "_law_add" ["_law_one","_law_other"] 2 (Ii_ (λp q=>p.1*q.2+q.1*p.2)):=by
  show aB_ F q4_.1 λf cdv A outer s H vs Q E hr h=>?_;obtain⟨v,u,p,q,rfl,hv,hu,p0,q0,p1,p2,q1,q2,k⟩:=h;obtain⟨x,rfl,hx⟩:=bB_ hv;obtain⟨y,rfl,hy⟩:=bB_ hu;have a3:=dn_ p2 q2 d_;refine'⟨_,?D,?R⟩
  case D =>
   refine' ag_ (ao_ (af_ Gx_ (hr.mono d_) kS_ (pa_c ?a (pa_c (Fp_ a0_ (Fr_ ak_ (zv 0 q4_) aa_) (Fr_ ak_ (zv 1 q4_) aa_)) ac_))))
   case' a=>refine' Fp_ aQ_ (Fp_ a0_ (Fr_ ak_ (zv 0 q4_) aa_) (Fr_ ak_ (zv 1 q4_) aa_)) (Fp_ a0_ (Fr_ ak_ (zv 1 q4_) aa_) (Fr_ ak_ (zv 0 q4_) aa_))
  case R =>nofun;simp only[hx,hy,A6_,HO.tup.injEq,Bp_];nofun;show⟨o_,o_,o_,_,_,rfl,Be_ p0 q0,o_,λz H' s' rep=>k z H' s' rep⟩
abbrev HG_:Stmt:=stN 53
theorem q6_:ZL ["_law_one","_law_other"] ["_law_one","_law_other"] (Fn_ HG_):=zL
theorem kV_:LK HG_ "_law_low" .globalImplicit:=r_
theorem q7_(T:Txt K mg)(F:Fn0 K mg "_law_mul" HG_) (Gx_:Cal P w K mg base "_law_low" ["_law_top","_law_bottom"] 1 Hi_):Cal P w K mg base "_law_mul" ["_law_one","_law_other"] 2 (Ii_ (λp q=>p.1*q.1)):=by
  show aB_ F q6_.1 λf cdv A outer s H vs Q E hr h=>?_;obtain⟨v,u,p,q,rfl,hv,hu,p0,q0,p1,p2,q1,q2,k⟩:=h;obtain⟨x,rfl,hx⟩:=bB_ hv;obtain⟨y,rfl,hy⟩:=bB_ hu;have a3:=dn_ p2 q2 d_;refine'⟨_,?D,?R⟩
  case D =>
   refine' ag_ (ao_ (af_ Gx_ (hr.mono d_) kV_ ?a))
   case' a=>refine' pa_c (Fp_ a0_ (Fr_ ak_ (zv 0 q6_) aa_) (Fr_ ak_ (zv 1 q6_) aa_)) (pa_c (Fp_ a0_ (Fr_ ak_ (zv 0 q6_) aa_) (Fr_ ak_ (zv 1 q6_) aa_)) ac_)
  case R =>nofun;simp only[hx,hy,A6_,HO.tup.injEq,Bp_];nofun;show⟨o_,o_,_,_,rfl,Be_ p0 q0,o_,λz H' s' rep=>k z H' s' rep⟩
abbrev Hd_:Stmt:=stN 54
theorem pq_:ZL ["_law_one","_law_other"] ["_law_one","_law_other"] (Fn_ Hd_):=zL
theorem jH_:LK Hd_ "_law_low" .globalImplicit:=r_
theorem pr_(T:Txt K mg)(F:Fn0 K mg "_law_less" Hd_) (Gx_:Cal P w K mg base "_law_low" ["_law_top","_law_bottom"] 1 Hi_):Cal P w K mg base "_law_less" ["_law_one","_law_other"] 2 (Ii_ (λp q=>p.1*q.2-q.1*p.2)):=by
  show aB_ F pq_.1 λf cdv A outer s H vs Q E hr h=>?_;obtain⟨v,u,p,q,rfl,hv,hu,p0,q0,p1,p2,q1,q2,k⟩:=h;obtain⟨x,rfl,hx⟩:=bB_ hv;obtain⟨y,rfl,hy⟩:=bB_ hu;have a3:=dn_ p2 q2 d_;refine'⟨_,?D,?R⟩
  case D =>
   refine' ag_ (ao_ (af_ Gx_ (hr.mono d_) jH_ (pa_c ?a (pa_c (Fp_ a0_ (Fr_ ak_ (zv 0 pq_) aa_) (Fr_ ak_ (zv 1 pq_) aa_)) ac_))))
   case' a=>refine' Fp_ kc_ (Fp_ a0_ (Fr_ ak_ (zv 0 pq_) aa_) (Fr_ ak_ (zv 1 pq_) aa_)) (Fp_ a0_ (Fr_ ak_ (zv 1 pq_) aa_) (Fr_ ak_ (zv 0 pq_) aa_))
  case R =>nofun;simp only[hx,hy,A6_,HO.tup.injEq,Bp_];nofun;show⟨o_,o_,o_,_,_,rfl,Be_ p0 q0,o_,λz H' s' rep=>k z H' s' rep⟩
theorem aD_{x:Int}(h:x.natAbs<=2 ^ n):Builtin.Int.intBits x<=n+1:=by
 by_cases e:x=0
 .subst e;show Am_ r_ (AD_ _)
 .rw[jE_ e];have:=(Dw_ (n:=x.natAbs) (k:=n+1) o_).mpr (by rw[Nat.pow_succ];have:=Nat.pow_pos (n:=n) (show 0<2 by decide);lia);lia
theorem c0_{L B:Int}(h:0<L)(hl:L<=B)(hb:Builtin.Int.intBits B<=n):Builtin.Int.intBits L<=n:=Az_ (b:=B) o_ hb
theorem oq_{r:List (Int×Int)}(h:Rep H v (GC_ r)):∃p xs,v=.ref p/\H p=some (.lst xs)/\FE_ H xs (r.map dF):=h
structure KG_(K:PySem.W.Frag)(F:Hp->Hp):Prop where
 mono:∀A A',Fo_ A A'->Fo_ (F A) (F A')
 vg:∀H,VG K H (F H)
 same:∀A H,NX K H->Fo_ A H->Fo_ A (F A)
abbrev FO_:Stmt:=stN 15
theorem bD_:ZL ["entries","common","entry"] ["entries"] (Fn_ FO_):=zL
theorem bP_:LK FO_ "greatest_divisor" .globalImplicit:=r_
def Ld_(K:PySem.W.Frag):Sp:=λvs H Q _=>∃J v r B t,vs=[v]/\VG K H J/\Rep J v (GC_ r)/\Ov B t r/\0<B/\Builtin.Int.intBits B<=3800/\r.length<=16/\∀H',Fo_ H H'->Q (.int (FX_ r)) H'
theorem g9_(T:Txt K mg)(F:Fn0 K mg "common_bottom" FO_) (Gd_:Cal P w K mg base "greatest_divisor" ["one","other"] 1 I2_):Cal P w K mg base "common_bottom" ["entries"] 2 (Ld_ K):=by
  show aB_ F bD_.1 λf cdv A outer s H vs Q E hr h=>?_;obtain⟨J,v,r,B,t,rfl,vg,hv,hov,B0,Bb,h8,k⟩:=h;obtain⟨p,xs,rfl,hp,hxs⟩:=oq_ hv;have hp:=vg.2 _ _ hp;have hl:xs.length=r.length:=by rw[hxs.length,Ab_]
  refine'⟨_,?D,?R⟩
  case D =>
   refine' ad_ (zas 1 bD_ aa_) (ad_ (bs_ AG_ rfl (ap_ (K:=K) rfl (zv 0 bD_)) ?a (ag_ ?b)) (ag_ (ao_ (zv 1 bD_))))
   case a=>show zh 2 bD_
   case' b=>refine' zas 1 bD_ (Fp_ a0_ (Fp_ av_ (zv 1 bD_) (af_ Gd_ (hr.mono d_) bP_ (pa_c (zv 1 bD_) (pa_c (Fr_ (a5_ (K:=K) rfl) (zv 2 bD_) aa_) ac_)))) (Fr_ (a5_ (K:=K) rfl) (zv 2 bD_) aa_))
  case R =>
   nofun;show⟨⟨xs,.inl (.inl hp)⟩,?_⟩;show gi_ (xs:=xs) (λi σ H'=>∃(c:Int)(e:Option V),σ=[some (.ref p),some (.int c),e]/\Fo_ H H'/\0<c/\c=FX_ (r.take i)/\c ∣ B) ⟨1,none,rfl,Fo_.refl _,d_,rfl,Ek_ _⟩ ?_ ?_ ?_
   .rintro i σ H' hi ⟨c,e,rfl,s1,_⟩;show .inl (.inl (s1 _ _ hp))
   .rintro i x σ H' hx ⟨c,e,rfl,s1,hc,hd,hb⟩;obtain⟨q,z,hz,rfl,hq⟩:=fV_ hxs hx;have hq':=Fo_.seqT s1 (vg.1 _ _ hq);obtain⟨x,ix,_⟩:=hov z (Ai_ hz);have h0:=ix.low.pos;have cb:=c0_ hc (DI_ B0 hb) Bb;have zb:=c0_ h0 (DI_ B0 ix.dvd) Bb;nofun;show⟨_,hq',_,Ge_,c,z.2,rfl,o_,o_,o_,o_,λH2 s2=>?_⟩;have hq2:=Fo_.seqT s2 hq';obtain⟨l1,l2,l3,l4⟩:=mv_ hc h0 hb ix.dvd;have g:=gpos (t:=c) (b:=z.2) o_;have gl:(Int.gcd c z.2:Int).natAbs<=c.natAbs:=EM_ o_ (Dc_.mpr (Cz_ ..));have lg:=mF_ (g:=(Int.gcd c z.2:Int)) (b:=c) o_ gl o_;have bq:Builtin.Int.intBits (c/(Int.gcd c z.2:Int))<=3800:=Az_ (b:=c) (by have:=BI_ c (Int.gcd c z.2:Int);lia) cb;nofun;show⟨g,lg,_,hq2,_,Ge_,_,rfl,o_,s1.trans s2,l1,?_,l4⟩;rw[Bn_,hz];change _=FX_ (r.take i++[z]);unfold FX_;rw[List.foldl_append];change c/(Int.gcd c z.2:Int)*z.2=_;rw[hd];rfl
   .rintro σ H' ⟨c,e,rfl,s1,hc,hd,hb⟩;nofun;rw[AR_ o_]at hd;rw[hd];show k H' s1
abbrev Gt_:Stmt:=stN 17
theorem i1_:ZM ["entries","bottom"] ["entries"] (Fn_ Gt_):=zM
theorem gU_:LK Gt_ "bottom" .cell:=r_
theorem do_:LK Gt_ "common_bottom" .globalImplicit:=r_
def GU_(K:PySem.W.Frag):Sp:=λvs H Q _=>∃J v r B t,vs=[v]/\VG K H J/\Rep J v (GC_ r)/\Ov B t r/\0<B/\Builtin.Int.intBits B<=3800/\t<=4000/\r.length<=16/\∀x H',Fo_ H H'->Rep (G4_ H H') x (.tup [.lst ((tops r (FX_ r)).map Dt.int),.int (FX_ r)])->Q x H'
theorem m9_(T:Txt K mg)(F:Fn0 K mg "cleared" Gt_) (Hq_:Cal P w K mg base "common_bottom" ["entries"] 2 (Ld_ K)):Cal P w K mg base "cleared" ["entries"] 3 (GU_ K):=by
  show aB_ F i1_.1 λf cdv A outer s H vs Q E hr h=>?_;obtain⟨J,v,r,B,t,rfl,vg,hv,hov,B0,Bb,t0,h8,k⟩:=h;obtain⟨p,xs,rfl,hp,hxs⟩:=oq_ hv;have hp:=vg.2 _ _ hp;have hl:xs.length=r.length:=by rw[hxs.length,Ab_]
  refine'⟨_,?D,?R⟩
  case D =>
   refine' ad_ (bp_ (i:=1) i1_.nd rfl gU_ rfl (af_ Hq_ (hr.mono d_) do_ (pa_c (zw 0 i1_) ac_)) rfl) (ag_ (ao_ (aH_ ?a)))
   case' a=>refine' pa_c (aF_ (N':=["entry","bottom"]) (ix:=[none,some 1]) rfl rfl (aM_ ?b) (ap_ (K:=K) rfl (zw 0 i1_)) (λ_ _ _=>?c) (λ_ _ _=>?d) (λ_ _ _=>(Fp_ a0_ (Fr_ (a5_ (K:=K) rfl) (pv1 0 rfl rfl) aa_) (Fp_ av_ (pvc 1 rfl rfl) (Fr_ (a5_ (K:=K) rfl) (pv1 0 rfl rfl) aa_))))) (pa_c (zw 1 i1_) ac_)
   case b=>show(by change GD_ (Fn_ Gt_) ["entries","bottom"] _ _ _=true;decide +kernel)
   case c=>show ah_ (i:=0) (by change List.Nodup (["entry","bottom"]:List Str);decide +kernel) rfl rfl
   case d=>show aO_
  case R =>
   nofun;show⟨J,_,r,B,t,rfl,vg,hv,hov,B0,Bb,h8,λH1 s1=>?_⟩;have bot:=bq_ hov;generalize FX_ r=L at*;have hp1:=s1 _ _ hp;nofun;show⟨⟨xs,.inl (.inl hp1)⟩,?_⟩;have bp:=bot.pos;have bb:=c0_ bp (bot.le B0) Bb;show ay_ (n:=xs.length) (B:=H1) (Pσ:=λσ=>∃e,σ=[e,some (.int L)]) (ds:=(tops r L).map Dt.int) (Fo_.refl _) ⟨_,rfl⟩ (by simp[tops,hl]) o_ (λi H' hi s'=>⟨xs,xs[i],.inl (.inl (s' _ _ hp1)),by simp[hi]⟩) (λH' s'=>⟨xs,.inl (.inl (s' _ _ hp1)),Af_ _⟩) ?_ ?_
   .rintro D i x d σ' H' H'' hD hDo hs' hi hdi ⟨rfl,hy⟩ ⟨e,rfl⟩ R kR;have hx:=hy xs (.inl (.inl (hs' _ _ hp1)));obtain⟨q,z,hz,rfl,hq⟩:=fV_ hxs hx;have hq':=Fo_.seqT (s1.trans hs') (vg.1 _ _ hq);obtain⟨y,iy,ly⟩:=hov z (Ai_ hz);have z0:=iy.low.pos;have zb:=c0_ z0 (DI_ B0 iy.dvd) Bb;have zt:Builtin.Int.intBits z.1<=t+1:=aD_ (Am_ (by rw[iy.to];show(dk_ iy.ne).1) ly);have lz:=mF_ (g:=z.2) (b:=z.2) o_ (Af_ _) o_;have bl:Builtin.Int.intBits (L/z.2)<=3800:=Az_ (b:=L) (by have:=BI_ L z.2;lia) bb;nofun;show⟨_,hq',_,F4_,_,hq',_,Ge_,_,rfl,z0,lz,_,rfl,o_,kR _ _ _ ⟨_,rfl⟩ (Fo_.refl _) ?_⟩;have:d=.int (z.1*(L/z.2)):=by rw[Ad_,tops,Ad_,hz]at hdi;show(Ak_ hdi).symm
    rw[this];rfl
   .intro D H' hD s' rep;show⟨d_,λq hq=>k _ _ ((s1.trans s').trans (Fo_.new hq)) ⟨q,_,rfl,?_,_,_,rfl,Rep.mono ((hL_ s1).trans (hK_ (Fo_.new hq))) _ rep,_,_,rfl,rfl,rfl⟩⟩;rw[bF_ ((s1.trans s').free hq)];show ab_
open RimD
def dI(r:List Int):Dt:=.lst (r.map Dt.int)
def dM(m:List (List Int)):Dt:=.lst (m.map dI)
theorem dp_{H:Hp}:∀{xs:List V}{ns:List Int},FE_ H xs (ns.map Dt.int)->xs=ns.map V.int
 |xs,[],h=>h
 |xs,n::ns,⟨x,r,e,hx,hr⟩=>by
  cases hx;rw[e,dp_ hr];rfl
theorem gV_{H:Hp}:∀(ns:List Int),FE_ H (ns.map V.int) (ns.map Dt.int)
 |[]=>rfl
 |n::ns=>⟨_,_,rfl,rfl,gV_ ns⟩
variable{r:List Int}
theorem ht_(h:Rep H v (dI r)):∃p,v=.ref p/\H p=some (.lst (r.map V.int)):=by obtain⟨p,xs,e,hp,hxs⟩:=h;rw[dp_ hxs]at hp;show⟨p,e,hp⟩
theorem cE_{p:Addr}(h:H p=some (.lst (r.map V.int))):Rep H (.ref p) (dI r):=⟨p,_,rfl,h,gV_ r⟩
theorem fp_{i:Int}(h0:0<=i)(h:i.toNat<r.length):atI (r.map V.int) i=some (.int (gi r i.toNat)):=by show cq_ h0 ?_;unfold gi;simp[Aa_,h]
theorem if_(h:∀x∈r,Builtin.Int.intBits x<=n)(j:Nat):Builtin.Int.intBits (gi r j)<=n:=by
 unfold gi;rw[Aa_];cases e:r[j]? with
 |none=>show Am_ (show Builtin.Int.intBits 0<=0 by rfl') (AD_ _)
 |some x=>show h x (Ai_ e)
abbrev Gh_:Stmt:=stN 19
theorem lH_:ZM ["row","pivot_row","before"] ["row","pivot_row","before"] (Fn_ Gh_):=zM
theorem ig_:LK Gh_ "len" .globalImplicit:=r_
theorem gx_:LK Gh_ "range" .globalImplicit:=r_
def JV_:Sp:=λvs H Q _=>∃(v u:V)(r p:List Int)(b:Int),vs=[v,u,.int b]/\Rep H v (dI r)/\Rep H u (dI p)/\r.length=p.length/\1<=r.length/\r.length<=100/\b≠0/\b.natAbs.log2<9000 /\
 (∀x∈r,Builtin.Int.intBits x<=60000000)/\(∀x∈p,Builtin.Int.intBits x<=60000000)/\∀x H',Fo_ H H'->Rep (G4_ H H') x (dI (FN_ p b r))->Q x H'
theorem lI_(T:Txt K mg)(F:Fn0 K mg "lessened" Gh_):Cal P w K mg base "lessened" ["row","pivot_row","before"] 1 JV_:=by
  show aB_ F lH_.1 λf cdv A outer s H vs Q E hr h=>?_;obtain⟨v,u,r,p,b,rfl,hv,hu,hl,h1,h100,hb,hlog,br,bp,k⟩:=h;obtain⟨x,rfl,hx⟩:=ht_ hv;obtain⟨y,rfl,hy⟩:=ht_ hu;refine'⟨_,?D,?R⟩
  case D =>
   refine' ag_ (ao_ (aF_ (N':=["j","pivot_row","row","before"]) (ix:=[none,some 1,some 0,some 2]) rfl rfl (aM_ ?a) (kb_ gx_ T.n_range (pa_c aa_ (pa_c (am_ au_ ig_ T.n_len aZ_ (pa_c (zw 0 lH_) ac_)) ac_))) (λ_ _ _=>?b) (λ_ _ _=>?c) (λ_ _ _=>?d)))
   case a=>show(by change GD_ (Fn_ Gh_) ["row","pivot_row","before"] _ _ _=true;decide +kernel)
   case b=>show ah_ (i:=0) (by change List.Nodup (["j","pivot_row","row","before"]:List Str);decide +kernel) rfl rfl
   case c=>show aO_
   case' d=>refine' Fp_ ji_ (Fp_ kc_ (Fp_ a0_ (Fr_ al_ (pvc 1 rfl rfl) aa_) (Fr_ al_ (pvc 2 rfl rfl) (pv1 0 rfl rfl))) (Fp_ a0_ (Fr_ al_ (pvc 2 rfl rfl) aa_) (Fr_ al_ (pvc 1 rfl rfl) (pv1 0 rfl rfl)))) (pvc 3 rfl rfl)
  case R =>
   nofun;show⟨_,.inl hx,?_⟩;rw[Ab_];show⟨d_,d_,o_,o_,?_⟩;show ay_ (n:=r.length-1) (B:=H) (Pσ:=λσ=>∃e,σ=[e,some (.ref y),some (.ref x),some (.int b)]) (ds:=(FN_ p b r).map Dt.int) (Fo_.refl _) ⟨_,rfl⟩ (by simp[FN_]) o_ (λi H' hi s'=>by change i<Int.toNat _;lia) (λH' s'=>by change Int.toNat _<=_;lia) ?_ (λD H' hD s' rep=>k _ _ s' rep);rintro D j z d σ' H' H'' hD hDo hs' hj hdj ⟨rfl,rfl⟩ ⟨e,rfl⟩ R kR;have hx':=hs' _ _ hx;have hy':=hs' _ _ hy;nofun;simp only[hx',hy',A6_,HO.lst.injEq,Bp_];have t1:((1:Int)+(j:Nat)).toNat=j+1:=o_
   have g1:=if_ bp 0;have g2:=if_ br (j+1);have g3:=if_ br 0;have g4:=if_ bp (j+1);have a1:=fp_ (r:=r) (i:=(1:Int)+(j:Nat)) o_ o_;have a2:=fp_ (r:=p) (i:=(1:Int)+(j:Nat)) o_ o_;rw[t1]at a1 a2;show⟨_,fp_ d_ (show(0:Int).toNat<p.length by lia),_,a1,_,rfl,_,rfl,by change Builtin.Int.intBits (gi p 0)+_<=_;lia,_,fp_ d_ (show(0:Int).toNat<r.length by lia),_,a2,_,rfl,_,rfl,by change Builtin.Int.intBits (gi r 0)+_<=_;lia,hb,hlog,kR _ _ _ ⟨_,rfl⟩ (Fo_.refl _) ?_⟩;have:d=.int ((gi p 0*gi r (j+1)-gi r 0*gi p (j+1)).fdiv b):=by rw[Ad_,FN_,Ad_,Bq_ hj]at hdj;show(Ak_ hdj).symm
   rw[this];rfl
theorem jJ_{m:List (List Int)}{x:V}(h:FE_ H xs (m.map dI))(e:xs[i]?=some x):∃q r,m[i]?=some r/\x=.ref q/\H q=some (.lst (r.map V.int)):=by
 obtain⟨d,hd,hr⟩:=h.of_get e;rw[Ad_]at hd;cases z:m[i]? with
 |none=>rw[z]at hd;cases hd
 |some r =>rw[z]at hd;cases hd;obtain⟨q,e1,e2⟩:=ht_ hr;show⟨q,r,rfl,e1,e2⟩
theorem ih_{H:Hp}:∀(n:Nat){xs:List V}{ds:List Dt},FE_ H xs ds->FE_ H (xs.drop n) (ds.drop n)
 |0,_,_,h=>h
 |n+1,xs,[],h=>by rw[show xs=[]from h];rfl
 |n+1,xs,d::ds,⟨x,r,e,hx,hr⟩=>by rw[e];show ih_ n hr
theorem kW_{H:Hp}:∀(n:Nat){xs:List V}{ds:List Dt},FE_ H xs ds->FE_ H (xs.take n) (ds.take n)
 |0,_,_,h=>rfl
 |n+1,xs,[],h=>by rw[show xs=[]from h];rfl
 |n+1,xs,d::ds,⟨x,r,e,hx,hr⟩=>by rw[e];show⟨x,_,rfl,hx,kW_ n hr⟩
theorem na_{rows:List (List Int)}(h:i<n):GO_ rows i (n-i)=if gi (rows.getD i []) 0≠0 then some i else GO_ rows (i+1) (n-(i+1)):=by obtain⟨d,hd⟩:∃d,n-i=d+1:=⟨n-i-1,o_⟩;rw[hd,GO_,show n-(i+1)=d by lia]
abbrev FP_:Stmt:=stN 18
theorem dP_:ZL ["rows","free","k","brought"] ["rows","free"] (Fn_ FP_):=zL
theorem eH_:LK FP_ "brought" .local:=r_
theorem fq_:LK FP_ "range" .globalImplicit:=r_
def Ke_:Sp:=λvs H Q _=>∃(v:V)(m:List (List Int))(free:Nat),vs=[v,.int free]/\Rep H v (dM m)/\free<=m.length/\m.length<=20/\(∀r∈m,1<=r.length/\r.length<=100)/\∀x H',Fo_ H H'->Rep H' x (dM (Ho_ m free))->Q x H'
theorem jK_(T:Txt K mg)(F:Fn0 K mg "with_pivot" FP_):Cal P w K mg base "with_pivot" ["rows","free"] 1 Ke_:=by
  show aB_ F dP_.1 λf cdv A outer s H vs Q E hr h=>?_;obtain⟨v,m,free,rfl,hv,hf,h20,hw,k⟩:=h;obtain⟨p,xs,rfl,hp,hxs⟩:=id hv;have hl:xs.length=m.length:=by rw[hxs.length,Ab_]
  refine'⟨_,?D,?R⟩
  case D =>
   refine' ad_ ?a (ag_ (ao_ (by_ ac_)))
   case' a=>refine' bs_ AG_ rfl (aT_ fq_ T.n_range (pa_c (zv 1 dP_) ac_)) ?b (ag_ (Ga_ (aA_ Ky_ (Fr_ al_ (Fr_ al_ (zv 0 dP_) (zv 2 dP_)) aa_) aa_ (FB_ _)) ?c aP_))
   case b=>show zh 2 dP_
   case' c=>refine' ad_ (Ga_ (aA_ GN_ (zv 2 dP_) aa_ (FB_ _)) (ag_ (ao_ (zv 0 dP_))) aP_) ?d
   case' d=>refine' ad_ (gj_ (i:=3) (N':=["entry"]) (ix:=[none]) rfl rfl dP_.nd rfl eH_ rfl (aM_ ?e) (ap_ (K:=K) rfl (Fr_ al_ (zv 0 dP_) (zv 2 dP_))) (λ_ _ _=>?f) (λ_ _ _=>?g) (λ_ _ _=>(Kt_ ns_ (pv1 0 rfl rfl)))) (ag_ (ao_ ?h))
   case e=>show(by change GD_ (Fn_ FP_) ["rows","free","k","brought"] _ _ _=true;decide +kernel)
   case f=>show ah_ (i:=0) (by change List.Nodup (["entry"]:List Str);decide +kernel) rfl rfl
   case g=>show aO_
   case' h=>refine' Fp_ fL_ (Fp_ fL_ ?i (by_ (pa_c (Fr_ al_ (zv 0 dP_) aa_) ac_))) (cs_ dH_ (zv 0 dP_) (c9_ (Fp_ aQ_ (zv 2 dP_) aa_)) ?j)
   case' i=>refine' Fp_ fL_ (by_ (pa_c (zv 3 dP_) ac_)) (cs_ dH_ (zv 0 dP_) (c9_ aa_) (c9_ (zv 2 dP_)))
   case j=>show es_
  case R =>
   nofun;show⟨o_,o_,?_⟩;rw[show Int.toNat (free:Int)=free by lia];show b4_ (λi σ H'=>∃e z:Option V,σ=[some (.ref p),some (.int free),e,z]/\H'=H/\GO_ m 0 free=GO_ m i (free-i)) ⟨_,_,rfl,rfl,rfl⟩ ?_ ?_
   .rintro i σ H' hi ⟨e,z,rfl,rfl,hq⟩;rw[na_ hi]at hq;obtain⟨q,r,hr0,ex,hq0⟩:=jJ_ hxs (i:=i) (x:=xs[i]'o_) (by simp[show i<xs.length by lia]);have hrm:=hw r (Ai_ hr0);have mg:m.getD i []=r:=by rw[Aa_,hr0];rfl
    rw[mg]at hq;nofun;simp only[hp,A6_,HO.lst.injEq,Bp_];have ai:atI xs ((0:Int)+(i:Nat))=some (.ref q):=cq_ o_ (by rw[show((0:Int)+(i:Nat)).toNat=i by lia,<-ex];simp[show i<xs.length by lia]);simp only[ai,A6_,Bp_];nofun;show⟨_,hq0,_,fp_ d_ (show(0:Int).toNat<r.length by lia),rfl,?_⟩;show ite2 (λh0=>?_) (λh0=>?_)
    .have hne:gi r 0≠0:=λz=>h0 (by change V.int (gi r 0)=_;rw[z]);rw[if_pos hne]at hq;show ite2 (λhi0=>?_) (λhi0=>?_)
     .have e0:i=0:=o_
      subst e0;show k _ _ (Fo_.refl _) ?_;unfold Ho_;rw[hq];show hv
     .obtain⟨i,rfl⟩:∃i',i=i'+1:=⟨i-1,o_⟩;show⟨⟨_,.inl (.inl hq0)⟩,?_⟩;show ay_ (n:=r.length) (B:=λ_=>none) (Pσ:=λσ=>∃e,σ=[e]) (ds:=(r.map λx=>-x).map Dt.int) (λb o e=>by cases e) ⟨_,rfl⟩ s_ o_ (λj H2 hj s2=>⟨_,.int (r[j]),.inl (.inl (s2 _ _ hq0)),by simp[hj]⟩) (λH2 s2=>⟨_,.inl (.inl (s2 _ _ hq0)),s_⟩) ?_ ?_
      .rintro D j x d σ' H2 H2' hD hDo hs2 hj hdj ⟨rfl,hy⟩ ⟨e2,rfl⟩ R kR;have hx:=hy _ (.inl (.inl (hs2 _ _ hq0)));rw[Ad_,Ac_ hj]at hx;cases hx;nofun;show kR _ _ _ ⟨_,rfl⟩ (Fo_.refl _) ?_;have:d=.int (-(r[j])):=by rw[Ad_,Ad_,Ac_ hj]at hdj;show(Ak_ hdj).symm
       rw[this];rfl
      .intro D H1 hD s1 rep;have rep1:Rep H1 (.ref D) (dI (r.map λx=>-x)):=Rep.mono aq_ _ rep;show⟨d_,λp1 n1=>⟨xs,(s1.trans (Fo_.new n1)) _ _ hp,λp2 n2=>?_⟩⟩;have c1:HS_ xs (some 1) (some (0+((i+1:Nat):Int)))=(xs.drop 1).take i:=by rw[BK_];show qv_ xs 1 (i+1) o_ o_
       have c2:HS_ xs (some (0+((i+1:Nat):Int)+1)) none=xs.drop (i+2):=by rw[BK_];show hk_ xs (i+2) o_
       rw[c1];have S2:Fo_ H1 (upd (upd H1 p1 (HO.lst [V.ref D])) p2 (HO.lst ((xs.drop 1).take i))):=(Fo_.new n1).trans (Fo_.new n2);have a2:upd (upd H1 p1 (HO.lst [V.ref D])) p2 (HO.lst ((xs.drop 1).take i)) p1=some (.lst [.ref D]):=(Fo_.new n2) _ _ ab_;have b2:upd (upd H1 p1 (HO.lst [V.ref D])) p2 (HO.lst ((xs.drop 1).take i)) p2=some (.lst ((xs.drop 1).take i)):=ab_;generalize upd (upd H1 p1 (HO.lst [V.ref D])) p2 (HO.lst ((xs.drop 1).take i))=H2 at*;show⟨_,a2,(by rw[AZ_];change 1+min i _<=sizeLine;show AN_ (Fq_ o_)),λp3 n3=>?_⟩;have S3:Fo_ H1 (upd H2 p3 (HO.lst ([V.ref D]++(xs.drop 1).take i))):=S2.trans (Fo_.new n3);have a3:=ab_ (H:=H2) (a:=p3) (o:=HO.lst ([V.ref D]++(xs.drop 1).take i));generalize upd H2 p3 (HO.lst ([V.ref D]++(xs.drop 1).take i))=H3 at*;have x0:atI xs 0=some (xs[0]'o_):=cq_ d_ (by change xs[0]?=_;simp[show 0<xs.length by lia]);show⟨xs,(s1.trans S3) _ _ hp,_,x0,d_,λp4 n4=>?_⟩;have S4:Fo_ H1 (upd H3 p4 (HO.lst [xs[0]'o_])):=S3.trans (Fo_.new n4);have a4:=(Fo_.new n4 (o:=HO.lst [xs[0]'o_])) _ _ a3;generalize upd H3 p4 (HO.lst [xs[0]'o_])=H4 at*;have l1:([V.ref D]++(xs.drop 1).take i).length<=30:=by simp;lia
       show⟨_,a4,AN_ (Fq_ o_),λp5 n5=>?_⟩;have S5:Fo_ H1 (upd H4 p5 (HO.lst ([V.ref D]++(xs.drop 1).take i++[xs[0]'o_]))):=S4.trans (Fo_.new n5);have a5:=ab_ (H:=H4) (a:=p5) (o:=HO.lst ([V.ref D]++(xs.drop 1).take i++[xs[0]'o_]));generalize upd H4 p5 (HO.lst ([V.ref D]++(xs.drop 1).take i++[xs[0]'o_]))=H5 at*;show⟨xs,(s1.trans S5) _ _ hp,λp6 n6=>?_⟩;rw[c2];have S6:Fo_ H1 (upd H5 p6 (HO.lst (xs.drop (i+2)))):=S5.trans (Fo_.new n6);have a6:=(Fo_.new n6 (o:=HO.lst (xs.drop (i+2)))) _ _ a5;generalize upd H5 p6 (HO.lst (xs.drop (i+2)))=H6 at*;have l2:([V.ref D]++(xs.drop 1).take i++[xs[0]'o_]).length+(xs.drop (i+2)).length<=100:=by simp;lia
       show⟨_,a6,AN_ (Fq_ o_),λp7 n7=>k _ _ ((s1.trans S6).trans (Fo_.new n7)) ⟨p7,_,rfl,ab_,?_⟩⟩;have S7:=S6.trans (Fo_.new n7 (o:=HO.lst ([V.ref D]++(xs.drop 1).take i++[xs[0]'o_]++xs.drop (i+2))));have T7:=s1.trans S7;unfold Ho_;rw[hq]
       dsimp only
       rw[mg,Au_,Au_,Au_,DJ_,C5_,C5_];show FE_.append (FE_.append (FE_.append ⟨_,_,rfl,Rep.mono S7 _ rep1,rfl⟩ (kW_ _ (ih_ _ (FE_.mono T7 _ hxs)))) ⟨_,_,rfl,?_,rfl⟩) (ih_ _ (FE_.mono T7 _ hxs));obtain⟨q1,r1,hr1,ex1,hq1⟩:=jJ_ hxs (i:=0) (x:=xs[0]'o_) (by simp[show 0<xs.length by lia]);have mg1:m.getD 0 []=r1:=by rw[Aa_,hr1];rfl
       have R0:=Rep.mono T7 _ (cE_ hq1);rw[<-ex1,<-mg1]at R0;show R0
    .have hz:gi r 0=0:=by
      by_cases z:gi r 0=0
      .show z
      .show absurd (λw=>z (by have:=V.int.inj w;show this)) h0
     rw[if_neg (by simp[hz])]at hq;show hq
   .rintro σ H' ⟨e,z,rfl,rfl,hq⟩;nofun;show⟨d_,λq hq'=>k _ _ (Fo_.new hq') ?_⟩;rw[B0_]at hq;unfold Ho_;rw[hq];show⟨q,[],rfl,ab_,rfl⟩
theorem r8_{m ord:List (List Int)}{free:Nat}(h:Ho_ m free=ord)(hf:free<=m.length)(hn:ord≠[]){w:Nat}(hw:Hn_ w m):ord.length=m.length/\Hn_ w ord/\gi (ord.getD 0 []) 0≠0:=by
 unfold Ho_ at h;split at h
 .show absurd h.symm hn
 .rename_i e;subst h;obtain⟨_,_,c⟩:=bu_ e;show⟨rfl,hw,c⟩
 .rename_i k e;obtain⟨_,hk,c⟩:=bu_ e;have hk':k+1<m.length:=o_
  subst h;have at':=kw_ hk';have ln:=nS_ hk';generalize([(m.getD (k+1) []).map λx=>-x]++(m.drop 1).take k++[m.getD 0 []]++m.drop (k+2))=ord at*;show⟨ln,⟨λr hr=>?_⟩,?_⟩
  .obtain⟨i,hi,rfl⟩:=Ay_.mp hr;have e:ord[i]=ord.getD i []:=by rw[Aa_,Ac_ hi];rfl
   rw[e,at'];split
   .rw[Ab_];show hw.at hk'
   .split
    .show hw.at o_
    .show hw.at o_
  .have c':gi (m.getD (k+1) []) 0≠0:=c;rw[at',if_pos rfl,kv_ (by rfl)];lia
theorem or_{x:Int}{B:Nat}(h0:x≠0)(h:x.natAbs<=2 ^ B)(hB:B<8999):x.natAbs.log2<9000:=by have:=aD_ h;rw[jE_ h0]at this;lia
abbrev Gg_:Stmt:=stN 20
theorem c1_:ZM ["rows","before","left","free","ordered","pivot_row"] ["rows"] (Fn_ Gg_):=zM
theorem gy_:LK Gg_ "before" .cell:=r_
theorem e6_:LK Gg_ "left" .local:=r_
theorem i3_:LK Gg_ "free" .local:=r_
theorem e7_:LK Gg_ "ordered" .local:=r_
theorem gz_:LK Gg_ "pivot_row" .cell:=r_
theorem gW_:LK Gg_ "len" .globalImplicit:=r_
theorem iK_:LK Gg_ "range" .globalImplicit:=r_
theorem fr_:LK Gg_ "with_pivot" .globalImplicit:=r_
def Min(C:Nat)(m:List (List Int)):Prop:=∀(t:Nat)(ρ κ:Nat->Nat),t<=m.length+1->(∀i,ρ i<m.length)->(D t λi j=>ma m (ρ i) (κ j)).natAbs<=2 ^ C
theorem qa_{L:List (List Int)}{C:Nat}(hn:L.length=n)(h:∀r j,r<n->(ma L r j).natAbs<=2 ^ C):∀row∈L,∀x∈row,x.natAbs<=2 ^ C:=λrow hr x hx=>by obtain⟨i,hi,rfl⟩:=Ay_.mp hr;obtain⟨j,hj,rfl⟩:=Ay_.mp hx;have:=h i j o_;unfold ma gi at this;rw[Aa_,Aa_,Ac_ hi]at this;simpa[hj]using this
def JZ_:Sp:=λvs H Q _=>∃(v:V)(m:List (List Int))(w C:Nat),vs=[v]/\Rep H v (dM m)/\m.length<=w/\w<=100/\m.length<=16/\Hn_ w m/\Min C m/\C<=8000 /\
 ∀x H' left,Fo_ H H'->H' x=some (.tup [.int (FA_ m.length 1 m).1,left])->Rep H' left (dM (FA_ m.length 1 m).2)->((FA_ m.length 1 m).1≠0->(FA_ m.length 1 m).2.length=m.length/\Hn_ (w-m.length) (FA_ m.length 1 m).2/\∀row∈(FA_ m.length 1 m).2,∀z∈row,z.natAbs<=2 ^ C)->Q (.ref x) H'
theorem ps_(T:Txt K mg)(F:Fn0 K mg "swept" Gg_) (H8_:Cal P w K mg base "with_pivot" ["rows","free"] 1 Ke_) (IL_:Cal P w K mg base "lessened" ["row","pivot_row","before"] 1 JV_):Cal P w K mg base "swept" ["rows"] 2 JZ_:=by
  show aB_ F c1_.1 λf cdv A outer s H vs Q E hr h=>?_;obtain⟨v,m,w,C,rfl,hv,hmw,w100,h5,hw,hC,c8,k⟩:=h;obtain⟨p,xs,rfl,hp,hxs⟩:=id hv;have hl:xs.length=m.length:=by rw[hxs.length,Ab_]
  refine'⟨_,?D,?R⟩
  case D =>
   refine' ad_ (bp_ (i:=1) c1_.nd rfl gy_ rfl aa_ rfl) ?a
   case' a=>refine' ad_ (ai_ (i:=2) c1_.nd rfl e6_ (zw 0 c1_)) (ad_ ?b (ag_ (ao_ (aH_ (pa_c (zw 1 c1_) (pa_c (zw 2 c1_) ac_))))))
   case' b=>refine' bs_ AG_ rfl ?c ?d (ad_ (ai_ (i:=4) c1_.nd rfl e7_ (af_ H8_ (hr.mono d_) fr_ (pa_c (zw 2 c1_) (pa_c (zw 3 c1_) ac_)))) ?e)
   case' c=>refine' nJ_ iK_ T.n_range (pa_c (am_ au_ gW_ T.n_len aZ_ (pa_c (zw 0 c1_) ac_)) (pa_c aa_ (pa_c (Kt_ ns_ aa_) ac_)))
   case d=>show ah_ (i:=3) c1_.nd rfl i3_
   case' e=>refine' ad_ (Ga_ (aA_ GN_ (am_ au_ gW_ T.n_len aZ_ (pa_c (zw 4 c1_) ac_)) aa_ (FB_ _)) ?f aP_) ?g
   case' f=>refine' ag_ (ao_ (aH_ (pa_c aa_ (pa_c (by_ ac_) ac_))))
   case' g=>refine' ad_ (bp_ (i:=5) c1_.nd rfl gz_ rfl (Fr_ al_ (zw 4 c1_) aa_) rfl) (ad_ ?h (ag_ (bp_ (i:=1) c1_.nd rfl gy_ rfl (Fr_ al_ (zw 5 c1_) aa_) rfl)))
   case' h=>refine' ai_ (i:=2) c1_.nd rfl e6_ (Fp_ fL_ ?i (by_ (pa_c (cs_ dH_ (zw 5 c1_) (c9_ aa_) ?j) ac_)))
   case' i=>refine' aF_ (N':=["row","pivot_row","before"]) (ix:=[none,some 5,some 1]) rfl rfl (aM_ ?k) (ap_ (K:=K) rfl (cs_ dH_ (zw 4 c1_) (c9_ aa_) ?l)) (λ_ _ _=>?m) (λ_ _ _=>?n) (λ_ _ _=>(af_ IL_ (hr.mono d_) rfl (pa_c (pv1 0 rfl rfl) (pa_c (pvc 1 rfl rfl) (pa_c (pvc 2 rfl rfl) ac_)))))
   case k=>show(by change GD_ (Fn_ Gg_) ["rows","before","left","free","ordered","pivot_row"] _ _ _=true;decide +kernel)
   case l=>show es_
   case m=>show ah_ (i:=0) (by change List.Nodup (["row","pivot_row","before"]:List Str);decide +kernel) rfl rfl
   case n=>show aO_
   case j=>show es_
  case R =>
   nofun;show⟨_,.inl hp,?_⟩;show⟨d_,o_,o_,?_⟩;rw[show((xs.length:Int)-0).toNat=m.length by lia];have one_le:∀e:Nat,(1:Int).natAbs<=2 ^ e:=λe=>Nat.one_le_two_pow
   show qu_ (λi σ H'=>∃(b:Int)(L:List (List Int))(lv:V)(e3 e4 e5:Option V),σ=[some (.ref p),some (.int b),some lv,e3,e4,e5]/\Fo_ H H'/\Rep H' lv (dM L)/\L.length=m.length/\Hn_ (w-i) L/\b≠0/\b.natAbs<=2 ^ C/\Dv b m.length (ma L)/\Mg b m.length i (ma L) (ma m) m.length/\FA_ (m.length-i) b L=FA_ m.length 1 m)
    ⟨1,m,_,_,_,_,rfl,Fo_.refl _,hv,rfl,hw,d_,one_le _,nO_ _ _,r6_ _ _,rfl⟩ ?_ ?_
   .rintro i σ H' hi ⟨b,L,lv,e3,e4,e5,rfl,s1,repL,hL,rect,b0,bB,hdv,hmg,hsw⟩;obtain⟨fr,hfr⟩:∃fr,m.length-i=fr+1:=⟨m.length-i-1,o_⟩;rw[hfr]at hsw;rw[show(xs.length:Int)-(i:Nat)=((fr+1:Nat):Int) by lia];nofun;show⟨lv,L,fr+1,rfl,repL,o_,o_,λr hr=>by rw[rect.w r hr];lia,λx H1 s2 rep1=>?_⟩;obtain⟨po,ys,rfl,hpo,hys⟩:=id rep1;have hly:ys.length=(Ho_ L (fr+1)).length:=by rw[hys.length,Ab_]
    nofun;show⟨_,.inl hpo,?_⟩;show ite2 (λh0=>?_) (λh0=>?_)
    .have e0:Ho_ L (fr+1)=[]:=Bl_.mp o_;show⟨d_,λl1 n1=>⟨d_,λt1 n2=>?_⟩⟩;rw[FA_,e0]at hsw
     dsimp only at hsw
     show k _ _ (.ref l1) (((s1.trans s2).trans (Fo_.new n1)).trans (Fo_.new n2)) ?_ ?_ λhne=>?_
     .rw[ab_,<-hsw]
     .rw[<-hsw];show⟨l1,[],rfl,(Fo_.new n2) _ _ ab_,rfl⟩
     .rw[<-hsw]at hne;show absurd rfl hne
    .have ne:Ho_ L (fr+1)≠[]:=λz=>h0 (by rw[hly,z];rfl);obtain⟨ol,orect,o0⟩:=r8_ rfl o_ ne rect
     obtain⟨piv,others,eo⟩:∃piv others,Ho_ L (fr+1)=piv::others:=by
      cases z:Ho_ L (fr+1)with
      |nil=>show absurd z ne
      |cons a l=>show⟨a,l,rfl⟩
     rw[<-hL]at hdv hmg;have omg:=p6_ (free:=fr+1) o_ hmg eo s_;have obd:∀row∈piv::others,∀x∈row,x.natAbs<=2 ^ C:=qa_ (n:=L.length) (by rw[eo]at ol;show ol) λr j hr=>Lu_ omg (λt ρ κ ht hρ=>hC t ρ κ o_ λi=>by have:=hρ i;lia) hr;rw[FA_,eo]at hsw;rw[eo]at hys ol orect o0 hly;have pn:gi piv 0≠0:=o0;have ol':others.length+1=L.length:=ol;obtain⟨ndv,nmg⟩:=ly_ (w:=w-i) o_ o_ rect b0 hdv hmg eo pn orect ol';rw[hL]at ndv nmg
     dsimp only at hsw
     obtain⟨y0,ys',rfl,rp0,rps⟩:=id hys;obtain⟨q0,rfl,hq0⟩:=ht_ rp0;have pl:piv.length=w-i:=orect.w _ Ah_;have pbd:∀x∈piv,x.natAbs<=2 ^ C:=obd _ Ah_;have lys:ys'.length=others.length:=by rw[rps.length,Ab_]
     simp only[hpo,A6_,HO.lst.injEq,Bp_];nofun;intro ps nps;have c1:HS_ (V.ref q0::ys') (some 1) none=ys':=hk_ (V.ref q0::ys') 1 s_;rw[c1];have S12:Fo_ H1 (upd H1 ps (HO.lst ys')):=Fo_.new nps;have hps:=ab_ (H:=H1) (a:=ps) (o:=HO.lst ys');generalize upd H1 ps (HO.lst ys')=H2 at*;show⟨⟨_,.inl (.inl hps)⟩,?_⟩;show ay_ (n:=ys'.length) (B:=H2) (Pσ:=λσ=>∃e,σ=[e,some (.ref q0),some (.int b)]) (ds:=(others.map (FN_ piv b)).map dI) (Fo_.refl _) ⟨_,rfl⟩ (by simp[lys]) o_ (λj H' hj s'=>⟨ys',ys'[j],.inl (.inl (s' _ _ hps)),by simp[hj]⟩) (λH' s'=>⟨ys',.inl (.inl (s' _ _ hps)),Af_ _⟩) ?_ ?_
     .rintro D j x d σ' H' H'' hD hDo hs' hj hdj ⟨rfl,hy⟩ ⟨e,rfl⟩ R kR;have hx:=hy ys' (.inl (.inl (hs' _ _ hps)));obtain⟨q,r,hr1,rfl,hq⟩:=jJ_ rps hx;have rm:r∈piv::others:=Ag_ _ (Ai_ hr1);have rl:r.length=w-i:=orect.w r rm;nofun;show⟨_,_,r,piv,b,rfl,cE_ (hs' _ _ (S12 _ _ hq)),cE_ (hs' _ _ (S12 _ _ hq0)),o_,o_,o_,b0,or_ b0 bB o_,λx hx=>?_,λx hx=>?_,λx H3 s3 rep=>kR _ _ _ ⟨_,rfl⟩ s3 ?_⟩
      .have:=aD_ (obd r rm x hx);lia
      .have:=aD_ (pbd x hx);lia
      .have:d=dI (FN_ piv b r):=by rw[Ad_,Ad_,hr1]at hdj;show(Ak_ hdj).symm
       rw[this];show Rep.mono (ew_ hs' hDo) _ rep
     .intro D H3 hD s3 rep;obtain⟨_,zs,e,hz,hzs⟩:=Rep.mono aq_ _ rep;cases e;have hlz:zs.length=others.length:=by rw[hzs.length,Ab_,Ab_]
      have hq3:=s3 _ _ (S12 _ _ hq0);have c2:HS_ (piv.map V.int) (some 1) none=(piv.drop 1).map V.int:=by rw[C5_];show hk_ (piv.map V.int) 1 (by simp;lia)
      show⟨_,hq3,λp4 n4=>⟨d_,λp5 n5=>?_⟩⟩;rw[c2]at n5⊢;have a4:=(Fo_.new n5 (o:=HO.lst [V.ref p4])) _ _ ab_;have S5:Fo_ H3 (upd (upd H3 p4 (HO.lst ((piv.drop 1).map V.int))) p5 (HO.lst [V.ref p4])):=(Fo_.new n4).trans (Fo_.new n5);generalize upd (upd H3 p4 (HO.lst ((piv.drop 1).map V.int))) p5 (HO.lst [V.ref p4])=H5 at*;show⟨D,rfl,zs,S5 _ _ hz,AN_ (Fq_ o_),λp6 n6=>?_⟩;have S6:=S5.trans (Fo_.new n6 (o:=HO.lst (zs++[V.ref p4])));show⟨_,S6 _ _ hq3,_,fp_ d_ (show(0:Int).toNat<piv.length by lia),_,rfl,((s1.trans s2).trans S12).trans (s3.trans S6),others.map (FN_ piv b)++[piv.drop 1],⟨p6,_,rfl,ab_,?_⟩,by simp;lia,⟨λr hr=>?_⟩,pn,?_,ndv,nmg,?_⟩
      .rw[Au_];show FE_.append (FE_.mono S6 _ hzs) ⟨_,_,rfl,cE_ ((Fo_.new n6) _ _ a4),rfl⟩
      .rcases AB_.mp hr with hr|hr
       .obtain⟨r',hr',rfl⟩:=Aj_.mp hr;have:=orect.w r' (Ag_ _ hr');unfold FN_;simp;lia
       .rw[An_.mp hr];simp;lia
      .show JA_ pbd 0
      .rw[show m.length-(i+1)=fr by lia];show hsw
   .rintro σ H' ⟨b,L,lv,e3,e4,e5,rfl,s1,repL,hL,rect,b0,bB,hdv,hmg,hsw⟩;rw[B0_,FA_]at hsw;nofun;show⟨d_,λt nt=>k _ _ lv (s1.trans (Fo_.new nt)) ?_ ?_ λhne=>?_⟩
    .rw[ab_,<-hsw]
    .rw[<-hsw];show Rep.mono (Fo_.new nt) _ repL
    .rw[<-hsw];show⟨hL,rect,qa_ (n:=m.length) hL λr j hr=>Lu_ hmg (λt ρ κ ht hρ=>hC t ρ κ ht hρ) hr⟩
def cols(g:List (List (Int×Int))):List (List (Int×Int)):=match g with
 |[]=>[]
 |r::_=>(List.range r.length).map λj=>g.map λrow=>row.getD j (0,1)
abbrev FU_:Stmt:=stN 16
theorem jL_:ZM ["grid"] ["grid"] (Fn_ FU_):=zM
theorem dq_:LK FU_ "len" .globalImplicit:=r_
theorem fs_:LK FU_ "range" .globalImplicit:=r_
def Ih_(K:PySem.W.Frag):Sp:=λvs H Q _=>∃F v g c,KG_ K F/\vs=[v]/\Rep (F H) v (dG g)/\(∀r∈g,r.length=c)/\c<=16/\g.length<=16/\∀x H',Fo_ H H'->NX K H'->Rep (F H') x (dG (cols g))->Q x H'
theorem jM_(T:Txt K mg)(F:Fn0 K mg "columns_of" FU_):Cal P w K mg base "columns_of" ["grid"] 1 (Ih_ K):=by
  show aB_ F jL_.1 λf cdv A outer s H vs Q E hr h=>?_;obtain⟨Fv,v,g,c,vw,rfl,hv,hc,c8,g8,k⟩:=h;obtain⟨p,xs,rfl,hp0,hxs⟩:=id hv;have hp:=(vw.vg H).2 _ _ hp0;have hl:xs.length=g.length:=by rw[hxs.length,Ab_]
  refine'⟨_,?D,?R⟩
  case D =>
   refine' ad_ ?a ?b
   case' a=>refine' Ga_ (aA_ GN_ (am_ au_ dq_ T.n_len aZ_ (pa_c (zw 0 jL_) ac_)) aa_ (FB_ _)) (ag_ (ao_ (eA_ (K:=K) rfl (by_ ac_)))) aP_
   case' b=>refine' ag_ (ao_ (eA_ (K:=K) rfl (aF_ (N':=["j","grid"]) (ix:=[none,some 0]) rfl rfl (aM_ ?c) ?d (λ_ _ _=>?e) (λ_ _ _=>?f) (λ_ _ _=>(eA_ (K:=K) rfl (aF_ (N':=["row","j"]) (ix:=[none,some 0]) rfl rfl (aM_ ?g) (ap_ (K:=K) rfl (pvc 1 rfl rfl)) (λ_ _ _=>?h) (λ_ _ _=>?i) (λ_ _ _=>(Fr_ al_ (pv1 0 rfl rfl) (pvc 1 rfl rfl)))))))))
   case c=>show(by change GD_ (Fn_ FU_) ["grid"] _ _ _=true;decide +kernel)
   case' d=>refine' aT_ fs_ T.n_range (pa_c (am_ au_ dq_ T.n_len aZ_ (pa_c (Fr_ al_ (zw 0 jL_) aa_) ac_)) ac_)
   case e=>show dG_ (i:=0) (by change List.Nodup (["j","grid"]:List Str);decide +kernel) rfl rfl rfl
   case f=>show aO_
   case g=>show(by change GD_ (K7_ _ (Fn_ FU_)) ["j","grid"] _ _ _=true;decide +kernel)
   case h=>show ah_ (i:=0) (by change List.Nodup (["row","j"]:List Str);decide +kernel) rfl rfl
   case i=>show aO_
  case R =>
   nofun;show⟨xs,.inl hp,?_⟩;show ite2 (λh0=>?_) (λh0=>?_)
   .have:g=[]:=Bl_.mp o_;subst this;show⟨d_,λq hq nx=>k _ _ (Fo_.new hq) nx ⟨q,[],rfl,(vw.same _ _ nx (Fo_.refl _)) _ _ ab_,rfl⟩⟩
   .simp only[hp,A6_,HO.lst.injEq,Bp_];have hpos:0<xs.length:=o_
    obtain⟨q0,ys0,r0,hr0,e0,hq0,hys0⟩:=cx_ hxs (i:=0) (x:=xs[0]) (by simp[hpos]);have hq0:=(vw.vg H).2 _ _ hq0;have hl0:ys0.length=c:=by rw[hys0.length,Ab_];show hc r0 (Ai_ hr0)
    have e1:cols g=(List.range c).map λj=>g.map λrow=>row.getD j (0,1):=by
     cases g with
     |nil=>cases hr0
     |cons r g' =>change(List.range r.length).map _=_;rw[hc r Ah_]
    show⟨_,cq_ d_ (show xs[(0:Int).toNat]?=some xs[0] by simp[hpos]),q0,e0,ys0,.inl hq0,o_,o_,?_⟩;rw[hl0];show eB_ Fv vw.mono (n:=c) (B:=λ_=>none) (Pσ:=λσ=>∃e,σ=[e,some (.ref p)]) (ds:=(cols g).map GC_) (λb o e=>by cases e) ⟨_,rfl⟩ (by simp[e1]) o_ (λi H' hi s'=>by change i<Int.toNat (c:Int);lia) (λH' s'=>by change Int.toNat (c:Int)<=c;lia) ?_ ?_
    .rintro D j x d σ' H' H'' hD ⟨od,hDo⟩ hs' hj hdj ⟨rfl,rfl⟩ ⟨e,rfl⟩ R kR;have hp':=hs' _ _ hp;have hd:d=GC_ (g.map λrow=>row.getD j (0,1)):=by rw[e1,Ad_,Ad_,Bq_ hj]at hdj;show(Ak_ hdj).symm
     nofun;show⟨⟨xs,.inl (.inl hp')⟩,?_⟩;show eB_ Fv vw.mono (n:=xs.length) (B:=IG_ D od) (Pσ:=λσ=>∃e,σ=[e,some (.int (0+j))]) (ds:=(g.map λrow=>row.getD j (0,1)).map dF) (nI_ hDo) ⟨_,rfl⟩ (by simp[hl]) o_ (λi H2 hi s2=>⟨xs,xs[i],.inl (.inl (s2 _ _ hp')),by simp[hi]⟩) (λH2 s2=>⟨xs,.inl (.inl (s2 _ _ hp')),Af_ _⟩) ?_ ?_
     .rintro D2 i x d2 σ2 H2 H2' hD2 hD2o hs2 hi hdi ⟨rfl,hy⟩ ⟨e2,rfl⟩ R2 kR2;have hx:=hy xs (.inl (.inl (hs2 _ _ hp')));obtain⟨q,ys,row,hrow,rfl,hq,hys⟩:=cx_ hxs hx;have hq:=(vw.vg H).2 _ _ hq;have hrl:ys.length=c:=by rw[hys.length,Ab_];show hc row (Ai_ hrow)
      have hjy:j<ys.length:=o_
      obtain⟨q2,z,hz,e3,hq2⟩:=fV_ hys (i:=j) (x:=ys[j]) (by simp[hjy]);have hq':=hs2 _ _ (hs' _ _ hq);nofun;show⟨_,hq',_,cq_ o_ (show ys[((0:Int)+(j:Nat)).toNat]?=some ys[j] by rw[show((0:Int)+(j:Nat)).toNat=j by lia];simp[hjy]),?_⟩;show kR2 _ _ _ ⟨_,rfl⟩ (Fo_.refl _) ?_
      have hd2:d2=dF z:=by
       rw[Ad_,Ad_,hrow]at hdi;have:row.getD j (0,1)=z:=by rw[Aa_,hz];rfl
       rw[<-this];show(Ak_ hdi).symm
      rw[hd2,e3];show Rep.mono (vw.mono _ _ (o5_ (hs'.trans hs2) hD (hs'.free hD2))) _ (show Rep (Fv H) (.ref q2) (dF z)from⟨q2,_,rfl,hq2,_,_,rfl,rfl,_,_,rfl,rfl,rfl⟩)
     .intro D2 H3 ys hD2 s3 hDD2 rep3 nx3;show kR _ _ _ ⟨_,rfl⟩ s3 ?_;rw[hd];have dD:D2≠D:=λc=>by rw[c,hDo]at hD2;cases hD2
      have sA:Fo_ (G2_ (λ_=>none) D H3) (Fv (G2_ (λ_=>none) D H3)):=vw.same _ H3 nx3 eu_;show⟨D2,ys,rfl,sA _ _ (by rw[aR_ dD rfl];show hDD2),FE_.mono (vw.mono _ _ λb o h=>?_) _ rep3⟩;obtain⟨h1,h2,h3⟩:=gk_ h;have bD:b≠D:=λc=>by rw[c]at h2;unfold IG_ at h2;rw[if_pos rfl]at h2;cases h2
      rw[aR_ bD rfl];show h3
    .intro D H2 ys hD s2 hDD rep2 nx2;show k _ _ s2 nx2 ⟨D,ys,rfl,(vw.same _ H2 nx2 (Fo_.refl _)) _ _ hDD,FE_.mono (vw.mono _ _ eu_) _ rep2⟩
def Ju_(c:List (Int×Int)):Dt:=.tup [.lst ((tops c (FX_ c)).map Dt.int),.int (FX_ c)]
theorem ij_{ns:List Int}{L:Int}(h:Rep H v (.tup [.lst (ns.map Dt.int),.int L])):∃p q,v=.ref p/\H p=some (.tup [.ref q,.int L])/\H q=some (.lst (ns.map V.int)):=by obtain⟨p,xs,e,hp,x,r',e1,⟨q,ys,e2,hq,hys⟩,y,r'',e3,hy,e4⟩:=h;cases hy;subst e1 e2 e3 e4;rw[dp_ hys]at hq;show⟨p,q,e,hp,hq⟩
def JS_(g cs:List (List (Int×Int)))(k:Nat):List Int:=tops (g.getD k []) (FX_ (g.getD k []))++cs.map λc=>FX_ (g.getD k [])*gi (tops c (FX_ c)) k
def aug(g cs:List (List (Int×Int))):List (List Int):=(List.range g.length).map (JS_ g cs)
abbrev Fu_:Stmt:=stN 21
theorem bi_:ZM ["grid","columns","rows","k","whole"] ["grid","columns"] (Fn_ Fu_):=zM
theorem bv_:LK Fu_ "rows" .local:=r_
theorem cc_:LK Fu_ "k" .cell:=r_
theorem cd_:LK Fu_ "whole" .cell:=r_
theorem cF_:LK Fu_ "cleared" .globalImplicit:=r_
theorem dQ_:LK Fu_ "len" .globalImplicit:=r_
theorem db_:LK Fu_ "range" .globalImplicit:=r_
def K8_(K:PySem.W.Frag):Sp:=λvs H Q _=>∃(J:Hp)(v u:V)(g cs:List (List (Int×Int)))(B Bo:Int),vs=[v,u]/\VG K H J/\Rep J v (dG g)/\Rep H u (.lst (cs.map Ju_))/\g.length<=15/\cs.length<=6/\(∀r∈g,r.length=g.length/\Ov B 170 r)/\(∀c∈cs,c.length=g.length/\Ov Bo 330 c)/\0<B/\B.natAbs<=2 ^ 160 /\
 ∀x H',Fo_ H H'->Rep H' x (dM (aug g cs))->Q x H'
theorem ft_(T:Txt K mg)(F:Fn0 K mg "cleared_together" Fu_) (GG_:Cal P w K mg base "cleared" ["entries"] 3 (GU_ K)):Cal P w K mg base "cleared_together" ["grid","columns"] 4 (K8_ K):=by
  show aB_ F bi_.1 λf cdv A outer s H vs Q E hr h=>?_;obtain⟨J,v,u,g,cs,B,Bo,rfl,vg,hv,hu,g12,c3,hg,hc,B0,Bb,k⟩:=h;have Bi:=aD_ Bb;obtain⟨p,xs,rfl,hp,hxs⟩:=id hv;have hp:=vg.2 _ _ hp;obtain⟨pc,xc,rfl,hpc,hxc⟩:=id hu;have hl:xs.length=g.length:=by rw[hxs.length,Ab_]
  have hlc:xc.length=cs.length:=by rw[hxc.length,Ab_]
  refine'⟨_,?D,?R⟩
  case D =>
   refine' ad_ (ai_ (i:=2) bi_.nd rfl bv_ (by_ ac_)) ?a
   case' a=>refine' ad_ (bs_ AG_ rfl (aT_ db_ T.n_range (pa_c (am_ au_ dQ_ T.n_len aZ_ (pa_c (zw 0 bi_) ac_)) ac_)) ?b ?c) (ag_ (ao_ (zw 2 bi_)))
   case b=>show dG_ (i:=3) bi_.nd rfl cc_ rfl
   case' c=>refine' ad_ (bp_ (i:=4) bi_.nd rfl cd_ rfl (af_ GG_ (hr.mono d_) cF_ (pa_c (Fr_ al_ (zw 0 bi_) (zw 3 bi_)) ac_)) rfl) ?d
   case' d=>refine' ag_ (bM_ (G5_ AU_ A8_ A9_ bA_ (zw 2 bi_) (pa_c ?e ac_)))
   case' e=>refine' Fp_ fL_ (Fr_ ak_ (zw 4 bi_) aa_) (aF_ (N':=["column","whole","k"]) (ix:=[none,some 4,some 3]) rfl rfl (aM_ ?f) (ap_ (K:=K) rfl (zw 1 bi_)) (λ_ _ _=>?g) (λ_ _ _=>?h) (λ_ _ _=>(Fp_ a0_ (Fr_ ak_ (pvc 1 rfl rfl) aa_) (Fr_ al_ (Fr_ ak_ (pv1 0 rfl rfl) aa_) (pvc 2 rfl rfl)))))
   case f=>show(by change GD_ (Fn_ Fu_) ["grid","columns","rows","k","whole"] _ _ _=true;decide +kernel)
   case g=>show ah_ (i:=0) (by change List.Nodup (["column","whole","k"]:List Str);decide +kernel) rfl rfl
   case h=>show aO_
  case R =>
   nofun;show⟨d_,λl nl=>?_⟩;have hp1:=(Fo_.new nl (o:=HO.lst [])) _ _ hp;show⟨_,.inl hp1,o_,o_,?_⟩;rw[hl,show Int.toNat (g.length:Int)=g.length by lia];show b4_ (λi σ H'=>∃(e3 e4:Option V)(ys:List V),σ=[some (.ref p),some (.ref pc),some (.ref l),e3,e4]/\Fo_ H H'/\H' l=some (.lst ys)/\FE_ (G2_ (λ_=>none) l H') ys (((List.range i).map (JS_ g cs)).map dI)) ⟨none,none,[],rfl,Fo_.new nl,ab_,rfl⟩ ?_ ?_
   .rintro i σ H' hi ⟨e3,e4,ys,rfl,s1,hl1,reps⟩;have ly:ys.length=i:=by rw[reps.length];simp
    obtain⟨q,zs,r,hr0,ex,hq,hzs⟩:=cx_ hxs (i:=i) (x:=xs[i]'o_) (by simp[show i<xs.length by lia]);obtain⟨rl,rs⟩:=hg r (Ai_ hr0);have gd:g.getD i []=r:=by rw[Aa_,hr0];rfl
    have bot:=bq_ rs;have bb:=c0_ bot.pos (bot.le B0) Bi;nofun;show⟨xs,s1 _ _ hp,.ref q,cq_ o_ (show xs[((0:Int)+(i:Nat)).toNat]?=some (.ref q) by rw[show((0:Int)+(i:Nat)).toNat=i by lia,<-ex];simp[show i<xs.length by lia]),?_⟩;show⟨J,_,r,B,170,rfl,vg.mono s1,⟨q,zs,rfl,hq,hzs⟩,rs,B0,o_,o_,o_,λx1 H1 s2 rep1=>?_⟩;obtain⟨t,q1,rfl,ht,hq1⟩:=ij_ rep1;obtain⟨nt,ht1⟩:=aV_ ht;obtain⟨nq,hq2⟩:=aV_ hq1;have hl2:=s2 _ _ hl1;have hpc1:=s2 _ _ (s1 _ _ hpc);have hxc1:=FE_.mono (s1.trans s2) _ hxc;show⟨.inl ⟨_,.inl (.inl hl2)⟩,t,rfl,_,ht1,_,F4_,⟨xc,.inl (.inl hpc1)⟩,?_⟩;show ay_ (n:=xc.length) (B:=H1) (Pσ:=λσ=>∃e,σ=[e,some (.ref t),some (.int (0+i))]) (ds:=(cs.map λc=>FX_ r*gi (tops c (FX_ c)) i).map Dt.int) (Fo_.refl _) ⟨_,rfl⟩ (by simp[hlc]) o_ (λj H' hj s'=>⟨xc,xc[j],.inl (.inl (s' _ _ hpc1)),by simp[hj]⟩) (λH' s'=>⟨xc,.inl (.inl (s' _ _ hpc1)),Af_ _⟩) ?_ ?_
    .rintro D j x d σ' H3 H3' hD hDo s3 hj hdj ⟨rfl,hy⟩ ⟨e,rfl⟩ R kR;have hx:=hy xc (.inl (.inl (s3 _ _ hpc1)));obtain⟨dc,hdc,rdc⟩:=hxc1.of_get hx;rw[Ad_]at hdc;have hcj:cs[j]?=some (cs[j]'o_):=Ac_ _;have hcm:=AO_ (show j<cs.length by lia);generalize cs[j]'o_=c at hcj hcm;rw[hcj]at hdc;cases hdc;obtain⟨cl,csm⟩:=hc c hcm;obtain⟨tc,qc,rfl,htc,hqc⟩:=ij_ (ns:=tops c (FX_ c)) (L:=FX_ c) rdc;have lt:i<(tops c (FX_ c)).length:=by simp[tops];lia
     have gb:=if_ (λx hx=>aD_ (gq_ csm x hx)) i;have hd2:d=.int (FX_ r*gi (tops c (FX_ c)) i):=by rw[Ad_,Ad_,hcj]at hdj;show(Ak_ hdj).symm
     nofun;have a1:=fp_ (r:=tops c (FX_ c)) (i:=(0:Int)+(i:Nat)) o_ o_;rw[show((0:Int)+(i:Nat)).toNat=i by lia]at a1;show⟨_,s3 _ _ ht1,_,Ge_,_,s3 _ _ htc,_,F4_,qc,rfl,_,s3 _ _ hqc,_,a1,_,rfl,_,rfl,o_,kR _ _ _ ⟨_,rfl⟩ (Fo_.refl _) ?_⟩;rw[hd2];rfl
    .intro D H3 hD s3 rep;obtain⟨_,vs,eD,hDD,hvs⟩:=rep;cases eD;have e3:=dp_ hvs;subst e3;obtain⟨nD,hD3⟩:=aV_ hDD;show⟨q1,rfl,D,rfl,_,s3 _ _ hq2,_,hD3,AN_ (Fq_ (by simp[tops];lia)),λp4 n4=>?_⟩;have S4:Fo_ H3 (upd H3 p4 (HO.lst ((tops r (FX_ r)).map V.int++(cs.map λc=>FX_ r*gi (tops c (FX_ c)) i).map V.int))):=Fo_.new n4;have hl3:=s3 _ _ hl2;have p4l:p4≠l:=(ae_ hl3 n4).symm;show⟨ys,S4 _ _ hl3,Fq_ o_,λb o hb=>?_,?_⟩
     .rw[aj_ (ae_ hb nl)];show S4 _ _ (s3 _ _ (s2 _ _ (s1 _ _ hb)))
     .rw[fM_,B9_,Au_,Au_];show(FE_.mono (ev_ ((s2.trans s3).trans S4)) _ reps).append ⟨_,_,rfl,?_,rfl⟩;unfold JS_;rw[gd];show cE_ ?_;rw[aR_ p4l rfl,ab_,Au_]
   .rintro σ H' ⟨e3,e4,ys,rfl,s1,hl1,reps⟩;nofun;show k _ _ s1 ⟨l,ys,rfl,hl1,FE_.mono eu_ _ reps⟩
def nums(g:List (List (Int×Int))):List (List Int):=g.map λr=>tops r (FX_ r)
def Jo_(g o:List (List (Int×Int))):List (List (Int×Int)):=(FA_ g.length 1 (aug g (cols o))).2.map λrow=>List.zipWith (λt c=>nf t ((FA_ g.length 1 (aug g (cols o))).1*FX_ c)) row (cols o)
structure In(g o:List (List (Int×Int)))(n c:Nat)(B Bo:Int):Prop where
 gl:g.length=n
 n12:n<=15
 gr:∀r∈g,r.length=n/\Ov B 170 r
 ol:o.length=n
 c1:1<=c
 c3:c<=6
 orow:∀r∈o,r.length=c/\Ov Bo 330 r
 B0:0<B
 Bb:B.natAbs<=2 ^ 160
 o0:0<Bo
 ob:Bo.natAbs<=2 ^ 300
variable{o:List (List (Int×Int))}{B Bo:Int}
theorem In.co{c:Nat}(h:In g o n c B Bo)(hn:0<n):cols o=(List.range c).map (λj=>o.map λrow=>row.getD j (0,1))/\(cols o).length=c/\∀x∈cols o,x.length=n/\Ov Bo 330 x:=by
 have e:cols o=(List.range c).map (λj=>o.map λrow=>row.getD j (0,1)):=by
  cases ho:o with
  |nil=>have:=h.ol;rw[ho]at this;simp at this;lia
  |cons r o' =>change(List.range r.length).map _=_;rw[(h.orow r (by rw[ho];show Ah_)).1]
 show⟨e,by rw[e];simp,λx hx=>?_⟩;rw[e]at hx;obtain⟨j,hj,rfl⟩:=Aj_.mp hx;show⟨by rw[Ab_,h.ol],λp hp=>?_⟩;obtain⟨row,hr,rfl⟩:=Aj_.mp hp;rw[Aa_];cases q:row[j]? with
 |none=>show⟨0,qM_ (by have:=h.o0;lia),AD_ _⟩
 |some y=>show(h.orow row hr).2 y (Ai_ q)
theorem ik_(g cs:List (List (Int×Int))):(aug g cs).length=g.length:=by simp[aug]
theorem os_(g cs:List (List (Int×Int))){k:Nat}(hk:k<g.length):(aug g cs).getD k []=JS_ g cs k:=by unfold aug;rw[Aa_,Ad_,Bq_ hk];rfl
theorem eK_{k:Nat}(hk:k<g.length):g.getD k []∈g:=by rw[Aa_,Ac_ hk];show AO_ _
theorem lJ_{k:Nat}(hk:k<g.length):(nums g).getD k []=tops (g.getD k []) (FX_ (g.getD k [])):=by unfold nums;rw[Aa_,Ad_,Ac_ hk,Aa_,Ac_ hk];rfl
theorem In.lf{c:Nat}(h:In g o n c B Bo)(hn:0<n):(∀k j,k<n->j<n->ma (aug g (cols o)) k j=ma (nums g) k j)/\(∀k q,k<n->q<c->ma (aug g (cols o)) k (n+q)=FX_ (g.getD k [])*gi (tops ((cols o).getD q []) (FX_ ((cols o).getD q []))) k)/\Hn_ (n+c) (aug g (cols o)):=by
 obtain⟨ec,cl,cr⟩:=h.co hn;have tl:∀k,k<n->(tops (g.getD k []) (FX_ (g.getD k []))).length=n:=λk hk=>by rw[tops,Ab_];show(h.gr _ (eK_ (by rw[h.gl];show hk))).1
 show⟨λk j hk hj=>?_,λk q hk hq=>?_,⟨λr hr=>?_⟩⟩
 .unfold ma;rw[os_ g _ (by rw[h.gl];show hk),lJ_ (by rw[h.gl];show hk),JS_];unfold gi;rw[Aa_,AF_ (by rw[tl k hk];show hj),<-Aa_]
 .unfold ma;rw[os_ g _ (by rw[h.gl];show hk),JS_];have hq':(cols o)[q]?=some ((cols o)[q]'o_):=Ac_ _;have hd:(cols o).getD q []=(cols o)[q]'o_:=by rw[Aa_,hq'];rfl
  rw[hd];change((tops (g.getD k []) (FX_ (g.getD k []))++(cols o).map λc=>FX_ (g.getD k [])*gi (tops c (FX_ c)) k).getD (n+q) 0)=_;rw[Aa_,AJ_ (by rw[tl k hk];lia),tl k hk,show n+q-n=q by lia,Ad_,hq'];rfl
 .obtain⟨k,hk,rfl⟩:=Aj_.mp hr;have:=AP_.mp hk;rw[JS_,At_,Ab_,cl,tl k (by rw[<-h.gl];show this)]
theorem In.mn{c:Nat}(h:In g o n c B Bo)(hn:0<n):Min 7904 (aug g (cols o)):=λt ρ κ ht hρ=>by
 obtain⟨ec,cl,cr⟩:=h.co hn;rw[ik_,h.gl]at ht hρ;have n12:=h.n12;show Am_ (Kx_ (B:=490) (n:=t) o_ λi j _ _=>?_) (Aw_ d_ ?_)
 .have hk:=hρ i;have gm:=h.gr _ (eK_ (k:=ρ i) (by rw[h.gl];show hk));have lb:=bq_ gm.2;have lp:=lb.pos;have ll:=lb.le h.B0;have bb:=h.Bb;change(gi ((aug g (cols o)).getD (ρ i) []) (κ j)).natAbs<=_;rw[os_ g _ (by rw[h.gl];show hk)];show JA_ (λx hx=>?_) _
  rcases AB_.mp hx with hx|hx
  .show Am_ (gq_ gm.2 x hx) (Aw_ d_ d_)
  .obtain⟨cc,hcc,rfl⟩:=Aj_.mp hx;have gb:=JA_ (gq_ (cr cc hcc).2) (ρ i);rw[AT_,show(490:Nat)=160+330 by rfl,A4_];show AX_ (Am_ o_ bb) gb
 .calc (490+4)*t<=494*16:=Nat.mul_le_mul_left _ o_
   _<=7904:=d_
theorem In.dle{c:Nat}(h:In g o n c B Bo):(D n (ma (nums g))).natAbs<=2 ^ 2610:=by have n12:=h.n12;show Am_ (Kx_ (B:=170) (n:=n) o_ λi j hi hj=>?_) (Aw_ d_ o_);change(gi ((nums g).getD i []) j).natAbs<=_;rw[lJ_ (by rw[h.gl];show hi)];have gm:=h.gr _ (eK_ (k:=i) (by rw[h.gl];show hi));show JA_ (gq_ gm.2) j
abbrev FQ_:Stmt:=stN 22
theorem fX_:ZM ["grid","other","columns","outcome","bottoms"] ["grid","other"] (Fn_ FQ_):=zM
theorem dR_:LK FQ_ "columns" .local:=r_
theorem fu_:LK FQ_ "outcome" .cell:=r_
theorem lL_:LK FQ_ "bottoms" .cell:=r_
theorem cV_:LK FQ_ "cleared_together" .globalImplicit:=r_
theorem fc_:LK FQ_ "columns_of" .globalImplicit:=r_
theorem jN_:LK FQ_ "len" .globalImplicit:=r_
theorem im_:LK FQ_ "swept" .globalImplicit:=r_
def I5_(K:PySem.W.Frag):Sp:=λvs H Q _=>∃(Fv:Hp->Hp)(J:Hp)(v u:V)(g o:List (List (Int×Int)))(n c:Nat)(B Bo:Int),KG_ K Fv/\NX K H/\vs=[v,u]/\VG K H J/\Rep J v (dG g)/\Rep H u (dG o)/\In g o n c B Bo/\(0<n->D n (ma (nums g))≠0)/\∀x H',Fo_ H H'->Rep H' x (dG (Jo_ g o))->(0<n->(FA_ n 1 (aug g (cols o))).2.length=n/\Hn_ c (FA_ n 1 (aug g (cols o))).2/\∀row∈(FA_ n 1 (aug g (cols o))).2,∀z∈row,z.natAbs<=2 ^ 7904)->Q x H'
theorem In.dt{c:Nat}(h:In g o n c B Bo)(hn:0<n):(FA_ g.length 1 (aug g (cols o))).1=D n (ma (nums g)):=by obtain⟨l1,l2,l3⟩:=h.lf hn;have:=pa_ l3 (by rw[ik_,h.gl];lia);rw[ik_]at this;rw[this,h.gl];show a4_ λi j hi hj=>l1 i j hi hj
theorem ot_(T:Txt K mg)(F:Fn0 K mg "solved" FQ_) (GR_:Cal P w K mg base "columns_of" ["grid"] 1 (Ih_ K)) (GG_:Cal P w K mg base "cleared" ["entries"] 3 (GU_ K)) (G6_:Cal P w K mg base "cleared_together" ["grid","columns"] 4 (K8_ K)) (Kz_:Cal P w K mg base "swept" ["rows"] 2 JZ_) (Gl_:Cal P w K mg base "fraction" ["top","bottom"] 2 Gu_):Cal P w K mg base "solved" ["grid","other"] 5 (I5_ K):=by
  show aB_ F fX_.1 λf cdv A outer s H vs Q E hr h=>?_;obtain⟨Fv,J,v,u,g,o,n,c,B,Bo,vw,nx,rfl,vg,hv,hu,hin,hdet,k⟩:=h;have n12:=hin.n12;have c1:=hin.c1;have c3:=hin.c3;refine'⟨_,?D,?R⟩
  case D =>
   refine' ad_ ?a (ad_ (Ga_ (aA_ GN_ (am_ au_ jN_ T.n_len aZ_ (pa_c (zw 2 fX_) ac_)) aa_ (FB_ _)) ?b aP_) ?c)
   case' a=>refine' gj_ (i:=2) (N':=["column"]) (ix:=[none]) rfl rfl fX_.nd rfl dR_ rfl (aM_ ?d) (ap_ (K:=K) rfl (af_ GR_ (hr.mono d_) fc_ (pa_c (zw 1 fX_) ac_))) (λ_ _ _=>?e) (λ_ _ _=>?f) (λ_ _ _=>(af_ GG_ (hr.mono d_) rfl (pa_c (pv1 0 rfl rfl) ac_)))
   case d=>show(by change GD_ (Fn_ FQ_) ["grid","other","columns","outcome","bottoms"] _ _ _=true;decide +kernel)
   case e=>show ah_ (i:=0) (by change List.Nodup (["column"]:List Str);decide +kernel) rfl rfl
   case f=>show aO_
   case' b=>refine' ag_ (ao_ (aF_ (N':=["row"]) (ix:=[none]) rfl rfl (aM_ ?g) (ap_ (K:=K) rfl (zw 1 fX_)) (λ_ _ _=>?h) (λ_ _ _=>?i) (λ_ _ _=>(by_ ac_))))
   case g=>show(by change GD_ (Fn_ FQ_) ["grid","other","columns","outcome","bottoms"] _ _ _=true;decide +kernel)
   case h=>show ah_ (i:=0) (by change List.Nodup (["row"]:List Str);decide +kernel) rfl rfl
   case i=>show aO_
   case' c=>refine' ad_ ?j (ad_ (Ga_ (aA_ GN_ (Fr_ ak_ (zw 3 fX_) aa_) aa_ (FB_ _)) (ag_ ?k) aP_) ?l)
   case' j=>refine' bp_ (i:=3) fX_.nd rfl fu_ rfl (af_ Kz_ (hr.mono d_) im_ (pa_c (af_ G6_ (hr.mono d_) cV_ (pa_c (zw 0 fX_) (pa_c (zw 2 fX_) ac_))) ac_)) rfl
   case k=>show l6_
   case' l=>refine' ad_ ?m (ag_ (ao_ (aF_ (N':=["row","bottoms"]) (ix:=[none,some 4]) rfl rfl (aM_ ?n) (ap_ (K:=K) rfl (Fr_ ak_ (zw 3 fX_) aa_)) (λ_ _ _=>?o) (λ_ _ _=>?p) (λ_ _ _=>?q))))
   case' m=>refine' bp_ (i:=4) fX_.nd rfl lL_ rfl (aF_ (N':=["column","outcome"]) (ix:=[none,some 3]) rfl rfl (aM_ ?r) (ap_ (K:=K) rfl (zw 2 fX_)) (λ_ _ _=>?s) (λ_ _ _=>?t) (λ_ _ _=>(Fp_ a0_ (Fr_ ak_ (pvc 1 rfl rfl) aa_) (Fr_ ak_ (pv1 0 rfl rfl) aa_)))) rfl
   case r=>show(by change GD_ (Fn_ FQ_) ["grid","other","columns","outcome","bottoms"] _ _ _=true;decide +kernel)
   case s=>show ah_ (i:=0) (by change List.Nodup (["column","outcome"]:List Str);decide +kernel) rfl rfl
   case t=>show aO_
   case n=>show(by change GD_ (Fn_ FQ_) ["grid","other","columns","outcome","bottoms"] _ _ _=true;decide +kernel)
   case o=>show ah_ (i:=0) (by change List.Nodup (["row","bottoms"]:List Str);decide +kernel) rfl rfl
   case p=>show aO_
   case' q=>refine' aF_ (N':=["top","bottom"]) (ix:=[none,none]) rfl rfl (aM_ ?u) (nH_ (K:=K) rfl rfl T.n_zip (pa_c (pv1 0 rfl rfl) (pa_c (pvc 1 rfl rfl) ac_))) (λ_ _ _=>(bh_ (K:=K) (n:=2) rfl rfl (an_ ?v (an_ ?w bg_)))) (λ_ _ _=>?x) (λ_ _ _=>?y)
   case u=>show(by change GD_ (K7_ _ (Fn_ FQ_)) ["row","bottoms"] _ _ _=true;decide +kernel)
   case v=>show ah_ (i:=0) (by change List.Nodup (["top","bottom"]:List Str);decide +kernel) rfl rfl
   case w=>show ah_ (i:=1) (by change List.Nodup (["top","bottom"]:List Str);decide +kernel) rfl rfl
   case x=>show aO_
   case' y=>refine' af_ Gl_ (hr.mono d_) rfl (pa_c (pv1 0 rfl rfl) (pa_c (pv1 1 rfl rfl) ac_))
  case R =>
   nofun;show⟨Fv,u,o,c,vw,rfl,Rep.mono (vw.same _ _ nx (Fo_.refl _)) _ hu,λr hr=>(hin.orow r hr).1,o_,by rw[hin.ol];lia,λx H1 s1 _ rep1=>?_⟩;obtain⟨pc,xc,rfl,hpc,hxc⟩:=id rep1;have hpc:=(vw.vg H1).2 _ _ hpc;have lxc:xc.length=(cols o).length:=by rw[hxc.length,Ab_]
   have oi:=aD_ hin.ob
   have cco:(cols o).length<=6/\∀x∈cols o,x.length<=16/\Ov Bo 330 x:=by
    by_cases hn:0<n
    .obtain⟨e1,e2,e3⟩:=hin.co hn;show⟨o_,λx hx=>⟨by rw[(e3 x hx).1];lia,(e3 x hx).2⟩⟩
    .have:o=[]:=Bl_.mp (by rw[hin.ol];lia);subst this;show⟨by change 0<=6;lia,λx hx=>by cases hx⟩
   nofun;show⟨⟨xc,.inl (.inl hpc)⟩,?_⟩;show ay_ (n:=xc.length) (B:=H1) (Pσ:=λσ=>∃e,σ=[e]) (ds:=(cols o).map Ju_) (Fo_.refl _) ⟨_,rfl⟩ (by simp[lxc]) o_ (λi H' hi s'=>⟨xc,xc[i],.inl (.inl (s' _ _ hpc)),by simp[hi]⟩) (λH' s'=>⟨xc,.inl (.inl (s' _ _ hpc)),Af_ _⟩) ?_ ?_
   .rintro D i x d σ' H2 H2' hD hDo s2 hi hdi ⟨rfl,hy⟩ ⟨e,rfl⟩ R kR;have hx:=hy xc (.inl (.inl (s2 _ _ hpc)));obtain⟨q,zs,r,hr0,rfl,hq,hzs⟩:=cx_ hxc hx;obtain⟨r16,rsm⟩:=cco.2 r (Ai_ hr0);nofun;show⟨Fv H1,_,r,Bo,330,rfl,(vw.vg H1).mono s2,⟨q,zs,rfl,hq,hzs⟩,rsm,hin.o0,o_,o_,r16,λx3 H3 s3 rep3=>kR _ _ _ ⟨_,rfl⟩ s3 ?_⟩;have:d=Ju_ r:=by rw[Ad_,hr0]at hdi;show(Ak_ hdi).symm
    rw[this];show Rep.mono (ew_ s2 hDo) _ rep3
   .intro Dc H2 hDc s2 repc;obtain⟨_,ys,e,hD2,rys⟩:=Rep.mono aq_ _ repc;cases e;have lys:ys.length=(cols o).length:=by rw[rys.length,Ab_]
    have S2:=s1.trans s2;show⟨Dc,rfl,ys,.inl hD2,?_⟩;by_cases hn:0<n
    .obtain⟨e1,e2,e3⟩:=hin.co hn;obtain⟨l1,l2,l3⟩:=hin.lf hn;have gl:=hin.gl;have al:(aug g (cols o)).length=n:=by rw[ik_,gl]
     rw[if_neg (by rw[lys,e2];lia)];show⟨J,v,.ref Dc,g,cols o,B,Bo,rfl,vg.mono S2,hv,⟨Dc,ys,rfl,hD2,rys⟩,o_,o_,by rw[gl];show hin.gr,by rw[gl];show e3,hin.B0,hin.Bb,λx H3 s3 rep3=>?_⟩;show⟨x,aug g (cols o),n+c,7904,rfl,rep3,o_,o_,o_,l3,hin.mn hn,o_,λy H4 left s4 hy repL fin=>?_⟩;have dd:=hin.dt hn;have d0:=hdet hn;rw[al]at hy repL fin;rw[gl]at dd;show⟨y,rfl,_,hy,_,F4_,rfl,?_⟩;rw[dd];rw[if_neg (λz=>d0 (V.int.inj z))];nofun;have hDc4:=s4 _ _ (s3 _ _ hD2);have rys4:=FE_.mono (s3.trans s4) _ rys;have dbits:=aD_ hin.dle;obtain⟨fl,frect,fle⟩:=fin (by rw[dd];show d0);rw[show n+c-n=c by lia]at frect;have e5:Jo_ g o=(FA_ n 1 (aug g (cols o))).2.map λrow=>List.zipWith (λt c=>nf t (D n (ma (nums g))*FX_ c)) row (cols o):=by unfold Jo_;rw[gl,dd]
     rw[dd]at hy;generalize(FA_ n 1 (aug g (cols o))).2=Lf at*;generalize D n (ma (nums g))=d at*;show⟨⟨ys,.inl (.inl hDc4)⟩,?_⟩;have lcb:∀cc∈cols o,0<FX_ cc/\Builtin.Int.intBits (FX_ cc)<=301:=λcc hcc=>by obtain⟨a1,a2⟩:=cco.2 cc hcc;have:=bq_ a2;show⟨this.pos,c0_ this.pos (this.le hin.o0) oi⟩
     show ay_ (n:=ys.length) (B:=H4) (Pσ:=λσ=>∃e,σ=[e,some (.ref y)]) (ds:=((cols o).map λcc=>d*FX_ cc).map Dt.int) (Fo_.refl _) ⟨_,rfl⟩ (by simp[lys]) o_ (λi H' hi s'=>⟨ys,ys[i],.inl (.inl (s' _ _ hDc4)),by simp[hi]⟩) (λH' s'=>⟨ys,.inl (.inl (s' _ _ hDc4)),Af_ _⟩) ?_ ?_
     .rintro D i x d2 σ' H5 H5' hD hDo s5 hi hdi ⟨rfl,hyy⟩ ⟨e,rfl⟩ R kR;have hx:=hyy ys (.inl (.inl (s5 _ _ hDc4)));obtain⟨dc,hdc,rdc⟩:=rys4.of_get hx;rw[Ad_]at hdc;have hci:(cols o)[i]?=some ((cols o)[i]'o_):=Ac_ _;have hcm:=AO_ (show i<(cols o).length by lia);generalize(cols o)[i]'o_=cc at hci hcm;rw[hci]at hdc;cases hdc;obtain⟨tc,qc,rfl,htc,hqc⟩:=ij_ (ns:=tops cc (FX_ cc)) (L:=FX_ cc) rdc;have lb:=(lcb cc hcm).2;have hd2:d2=.int (d*FX_ cc):=by rw[Ad_,Ad_,hci]at hdi;show(Ak_ hdi).symm
      nofun;show⟨_,s5 _ _ hy,_,F4_,_,s5 _ _ htc,_,Ge_,_,rfl,_,rfl,o_,kR _ _ _ ⟨_,rfl⟩ (Fo_.refl _) ?_⟩;rw[hd2];rfl
     .intro Db H5 hDb s5 repb;obtain⟨_,bs,eD,hDD,hbs⟩:=Rep.mono aq_ _ repb;cases eD;have e3':=dp_ hbs;subst e3';obtain⟨pl,xl,rfl,hpl,hxl⟩:=id repL;have hpl5:=s5 _ _ hpl;have hxl5:=FE_.mono s5 _ hxl;have lxl:xl.length=Lf.length:=by rw[hxl.length,Ab_]
      show⟨_,s5 _ _ hy,_,Ge_,pl,rfl,⟨xl,.inl (.inl hpl5)⟩,?_⟩;show ay_ (n:=xl.length) (B:=H5) (Pσ:=λσ=>∃e,σ=[e,some (.ref Db)]) (ds:=(Jo_ g o).map GC_) (Fo_.refl _) ⟨_,rfl⟩ (by rw[e5];simp[lxl]) o_ (λi H' hi s'=>⟨xl,xl[i],.inl (.inl (s' _ _ hpl5)),by simp[hi]⟩) (λH' s'=>⟨xl,.inl (.inl (s' _ _ hpl5)),Af_ _⟩) ?_ (λD H6 hD s6 rep=>k _ _ (((S2.trans s3).trans s4).trans (s5.trans s6)) (Rep.mono aq_ _ rep) λ_=>⟨fl,frect,fle⟩);rintro D i x dr σ' H6 H6' hD hDo s6 hi hdi ⟨rfl,hyy⟩ ⟨e,rfl⟩ R kR;have hx:=hyy xl (.inl (.inl (s6 _ _ hpl5)));obtain⟨q,row,hr0,rfl,hq⟩:=jJ_ hxl5 hx;have rm:=Ai_ hr0;have rl:row.length=c:=frect.w row rm;have hdr:dr=GC_ (List.zipWith (λt c=>nf t (d*FX_ c)) row (cols o)):=by rw[Ad_,e5,Ad_,hr0]at hdi;show(Ak_ hdi).symm
      have hq6:=s6 _ _ hq;have hb6:=s6 _ _ hDD;nofun;show⟨⟨_,.inl (.inl hq6)⟩,⟨_,.inl (.inl hb6)⟩,?_⟩
      show ay_ (n:=c) (B:=_) (Pσ:=λσ=>∃a b,σ=[a,b]) (ds:=(List.zipWith (λt c=>nf t (d*FX_ c)) row (cols o)).map dF) (Fo_.refl _) ⟨_,_,rfl⟩ (by simp[rl,e2]) o_
       (λj H' hj s'=>⟨_,_,.int (row[j]'o_),.int (d*FX_ ((cols o)[j]'o_)),.inl (.inl (s' _ _ hq6)),.inl (.inl (s' _ _ hb6)),by simp[show j<row.length by lia],by simp[show j<(cols o).length by lia]⟩) (λH' s'=>⟨_,_,.inl (.inl (s' _ _ hq6)),.inl (.inl (s' _ _ hb6)),.inl (by simp[rl])⟩) ?_ ?_
      .rintro D2 j x2 d2 σ2 H7 H7' hD2' hDo2 s7 hj hdj ⟨t,xx,yy,rfl,hT,rfl,hxx,hyy2⟩ ⟨a1,a2,rfl⟩ R2 kR2;have hx':=hxx _ (.inl (.inl (s7 _ _ hq6)));have hy':=hyy2 _ (.inl (.inl (s7 _ _ hb6)));have r1:row[j]?=some (row[j]'o_):=Ac_ _;have r2:(cols o)[j]?=some ((cols o)[j]'o_):=Ac_ _;have m1:=AO_ (show j<row.length by lia);have m2:=AO_ (show j<(cols o).length by lia);have hd2:d2=dF (nf (row[j]'o_) (d*FX_ ((cols o)[j]'o_))):=by rw[Ad_,Dd_,r1,r2]at hdj;show(Ak_ hdj).symm
       rw[Ad_,r1]at hx';rw[Ad_,Ad_,r2]at hy';generalize row[j]'o_=tt at*;generalize(cols o)[j]'o_=cc at*;obtain rfl:V.int tt=xx:=Ak_ hx';obtain rfl:V.int (d*FX_ cc)=yy:=Ak_ hy';obtain⟨lc0,lcb2⟩:=lcb cc m2;have tb:=aD_ (fle row rm tt m1);have db2:=Cs_ dbits lcb2;have S8:Fo_ H7 (upd H7 t (HO.tup [.int tt,.int (d*FX_ cc)])):=Fo_.new hT;nofun;show⟨_,.inl (.inl ab_),rfl,_,_,rfl,_,_,rfl,rfl,?_⟩;show⟨tt,d*FX_ cc,rfl,AW_ d0 o_,o_,o_,λpz Hz sz nz hz=>kR2 _ _ _ ⟨_,_,rfl⟩ (S8.trans sz) ?_⟩;rw[hd2];obtain⟨oD,hoD⟩:=hDo2;have pD:pz≠D2:=(ae_ (S8 _ _ hoD) nz).symm;show⟨pz,_,rfl,by rw[aR_ pD (s7.free (S8.free nz))];show hz,_,_,rfl,rfl,_,_,rfl,rfl,rfl⟩
      .intro D2 H7 hD2' s7 rep7;show kR _ _ _ ⟨_,rfl⟩ s7 ?_;rw[hdr];show Rep.mono (ew_ s6 hDo) _ rep7
    .have e0:o=[]:=Bl_.mp (by rw[hin.ol];lia);have g0:g=[]:=Bl_.mp (by rw[hin.gl];lia);subst e0 g0;rw[if_pos (by rw[lys];rfl)];obtain⟨po,xo,rfl,hpo,hxo⟩:=id hu;cases hxo;have hpo2:=S2 _ _ hpo;show⟨po,rfl,⟨[],.inl (.inl hpo2)⟩,?_⟩;show ay_ (n:=0) (B:=λ_=>none) (Pσ:=λσ=>True) (ds:=[]) (λb o e=>by cases e) trivial rfl o_ (λi H' hi s'=>o_) (λH' s'=>⟨[],.inl (.inl (s' _ _ hpo2)),Af_ _⟩) (λD i x d σ' H' H'' hD hDo s' hi=>o_) ?_;intro D H3 hD s3 rep;show k _ _ (S2.trans s3) rep λh=>absurd h hn
abbrev Fy_:Stmt:=stN 23
theorem cG_:ZL ["row","column","top"] ["row","column"] (Fn_ Fy_):=zL
theorem cy_:LK Fy_ "fraction" .globalImplicit:=r_
theorem dS_:LK Fy_ "sum" .globalImplicit:=r_
theorem dT_:LK Fy_ "zip" .globalImplicit:=r_
def JY_:Sp:=λvs H Q _=>∃(v u:V)(ns ms:List Int)(A B:Int),vs=[v,u]/\Rep H v (.tup [.lst (ns.map Dt.int),.int A])/\Rep H u (.tup [.lst (ms.map Dt.int),.int B])/\(∀x∈ns,x.natAbs<=2 ^ 170)/\(∀x∈ms,x.natAbs<=2 ^ 3000)/\ns.length=ms.length/\ns.length<=16/\0<A/\0<B/\Builtin.Int.intBits A<=600/\Builtin.Int.intBits B<=3800/\∀x H',Fo_ H H'->Rep (G4_ H H') x (dF (nf (dot ns ms) (A*B)))->Q x H'
theorem mI_{n:Nat}:∀(l:List Int),(∀x∈l,Builtin.Int.intBits x<=n)->Builtin.Int.intBits l.sum<=n+l.length
 |[],_=>by simp[Builtin.Int.intBits]
 |x::l,h=>by have ih:=mI_ l λy hy=>h y (Ag_ _ hy);have hx:=h x Ah_;rw[A3_];have:=Ct_ hx ih;simp only[AH_];lia
theorem fv_(T:Txt K mg)(F:Fn0 K mg "row_times_column" Fy_) (Gl_:Cal P w K mg base "fraction" ["top","bottom"] 2 Gu_):Cal P w K mg base "row_times_column" ["row","column"] 3 JY_:=by
  show aB_ F cG_.1 λf cdv A' outer s H vs Q E hr h=>?_;obtain⟨v,u,ns,ms,A,B,rfl,hv,hu,sr,sc,hrc,h8,A0,B0,bbA,bbB,k⟩:=h;obtain⟨p,q,rfl,hp,hq⟩:=ij_ hv;obtain⟨p2,q2,rfl,hp2,hq2⟩:=ij_ hu;refine'⟨_,?D,?R⟩
  case D =>
   refine' ad_ ?a ?b
   case' a=>refine' zas 2 cG_ (am_ (o4_ (K:=K) rfl rfl) dS_ T.n_sum rE_ (pa_c (aF_ (N':=["one","other"]) (ix:=[none,none]) rfl rfl (aM_ ?c) ?d (λ_ _ _=>(bh_ (K:=K) (n:=2) rfl rfl (an_ ?e (an_ ?f bg_)))) (λ_ _ _=>?g) (λ_ _ _=>(Fp_ a0_ (pv1 0 rfl rfl) (pv1 1 rfl rfl)))) ac_))
   case c=>show(by change GD_ (Fn_ Fy_) ["row","column","top"] _ _ _=true;decide +kernel)
   case' d=>refine' nH_ (K:=K) rfl dT_ T.n_zip (pa_c (Fr_ ak_ (zv 0 cG_) aa_) (pa_c (Fr_ ak_ (zv 1 cG_) aa_) ac_))
   case e=>show ah_ (i:=0) (by change List.Nodup (["one","other"]:List Str);decide +kernel) rfl rfl
   case f=>show ah_ (i:=1) (by change List.Nodup (["one","other"]:List Str);decide +kernel) rfl rfl
   case g=>show aO_
   case' b=>refine' ag_ (ao_ (af_ Gl_ (hr.mono d_) cy_ (pa_c (zv 2 cG_) (pa_c (Fp_ a0_ (Fr_ ak_ (zv 0 cG_) aa_) (Fr_ ak_ (zv 1 cG_) aa_)) ac_))))
  case R =>
   nofun;simp only[hp,hp2,A6_,HO.tup.injEq,Bp_];nofun;show⟨⟨_,.inl (.inl hq)⟩,⟨_,.inl (.inl hq2)⟩,?_⟩;have l1:ns.length=ns.length:=rfl;have l2:ms.length=ns.length:=hrc.symm;have t1:∀x∈ns,Builtin.Int.intBits x<=171:=λx hx=>aD_ (sr x hx);have t2:∀x∈ms,Builtin.Int.intBits x<=3001:=λx hx=>aD_ (sc x hx)
   show ay_ (n:=ns.length) (B:=H) (Pσ:=λσ=>∃a b,σ=[a,b]) (ds:=(List.zipWith (· * ·) ns ms).map Dt.int) (Fo_.refl _) ⟨_,_,rfl⟩ (by simp[l1,l2]) o_
    (λi H' hi s'=>⟨_,_,.int (ns[i]),.int (ms[i]),.inl (.inl (s' _ _ hq)),.inl (.inl (s' _ _ hq2)),by simp[hi],by simp[l2,hi]⟩) (λH' s'=>⟨_,_,.inl (.inl (s' _ _ hq)),.inl (.inl (s' _ _ hq2)),.inl s_⟩) ?_ ?_
   .rintro D i x d σ' H' H'' hD hDo hs' hi hdi ⟨t,x,y,rfl,hT,rfl,hx,hy⟩ ⟨e1,e2,rfl⟩ R kR;have hx':=hx _ (.inl (.inl (hs' _ _ hq)));have hy':=hy _ (.inl (.inl (hs' _ _ hq2)));have h1:i<ns.length:=o_
    have h2:i<ms.length:=o_
    have ex:x=.int ns[i]:=by rw[Ad_,Ac_ h1]at hx';show(Ak_ hx').symm
    have ey:y=.int ms[i]:=by rw[Ad_,Ac_ h2]at hy';show(Ak_ hy').symm
    subst ex ey;nofun;show⟨_,.inl (.inl ab_),rfl,_,_,rfl,_,_,rfl,rfl,?_⟩;nofun;have b1:=t1 _ (AO_ h1);have b2:=t2 _ (AO_ h2);show⟨o_,kR _ _ _ ⟨_,_,rfl⟩ (Fo_.new hT) ?_⟩;have:d=.int (ns[i]*ms[i]):=by rw[Ad_,Dd_,Ac_ h1,Ac_ h2]at hdi;show(Ak_ hdi).symm
    rw[this];rfl
   .intro D H' hD s' rep;obtain⟨_,ys,e,hDD,hys⟩:=rep;cases e;have e3:=dp_ hys;subst e3;have hD':=(aV_ hDD).2;nofun;show⟨_,.inl (.inl hD'),?_⟩;have hp':=s' _ _ hp;have hp2':=s' _ _ hp2;simp only[hp',hp2',A6_,HO.tup.injEq,Bp_];nofun;show⟨o_,_,_,rfl,Int.ne_of_gt (Be_ A0 B0),?_,?_,λx H2 s2 hx0 hx=>?_⟩
    .have:=mI_ (n:=3172) (List.zipWith (· * ·) ns ms) (λz hz=>by obtain⟨i,hi,e⟩:=List.getElem_of_mem hz;rw[Dq_]at e;rw[<-e];simp only[CI_]at hi;show Cs_ (t1 _ (AO_ o_)) (t2 _ (AO_ o_)));simp only[CI_]at this;lia
    .have:=Cs_ bbA bbB;lia
    .show k _ _ (s'.trans s2) ?_;show⟨x,_,rfl,?_,_,_,rfl,rfl,_,_,rfl,rfl,rfl⟩;rw[bF_ (s'.free hx0)];show hx
abbrev FF_:Stmt:=stN 24
theorem dU_:ZM ["grid","other","columns","rows"] ["grid","other"] (Fn_ FF_):=zM
theorem ip_:LK FF_ "columns" .cell:=r_
theorem eL_:LK FF_ "rows" .local:=r_
theorem dr_:LK FF_ "columns_of" .globalImplicit:=r_
def IW_(K:PySem.W.Frag):Sp:=λvs H Q _=>∃(Fv:Hp->Hp)(J:Hp)(v u:V)(g o:List (List (Int×Int)))(n:Nat)(B Bs:Int),KG_ K Fv/\vs=[v,u]/\VG K H J/\Rep J v (dG g)/\Rep (Fv H) u (dG o)/\(∀r∈g,r.length=o.length)/\(∀r∈o,r.length=n)/\n<=6/\g.length<=15/\o.length<=16/\(∀r∈g,Ov B 170 r)/\(∀c∈cols o,c.length=o.length/\Ov Bs 3000 c)/\0<B/\0<Bs/\Builtin.Int.intBits B<=300/\Builtin.Int.intBits Bs<=3800 /\
 ∀x H',Fo_ H H'->Rep (G4_ H H') x (dG (g.map λr=>(cols o).map λc=>Ig_ r c))->Q x H'
theorem jO_(T:Txt K mg)(F:Fn0 K mg "multiplied" FF_) (GR_:Cal P w K mg base "columns_of" ["grid"] 1 (Ih_ K)) (GG_:Cal P w K mg base "cleared" ["entries"] 3 (GU_ K)) (G7_:Cal P w K mg base "row_times_column" ["row","column"] 3 JY_):Cal P w K mg base "multiplied" ["grid","other"] 4 (IW_ K):=by
  show aB_ F dU_.1 λf cdv A outer s H vs Q E hr h=>?_;obtain⟨Fv,J,v,u,g,o,n,B,Bs,vw,rfl,vg,hv,hu,hgo,hon,n8,g8,o8,sg,csm,B0,S0,Bb,Sb,k⟩:=h;obtain⟨p,xs,rfl,hp,hxs⟩:=id hv;have hp:=vg.2 _ _ hp;have hl:xs.length=g.length:=by rw[hxs.length,Ab_]
  refine'⟨_,?D,?R⟩
  case D =>
   refine' ad_ ?a (ad_ (gj_ (i:=3) (N':=["row"]) (ix:=[none]) rfl rfl dU_.nd rfl eL_ rfl (aM_ ?b) (ap_ (K:=K) rfl (zw 0 dU_)) (λ_ _ _=>?c) (λ_ _ _=>?d) (λ_ _ _=>(af_ GG_ (hr.mono d_) rfl (pa_c (pv1 0 rfl rfl) ac_)))) (ag_ ?e))
   case' a=>refine' bp_ (i:=2) dU_.nd rfl ip_ rfl (aF_ (N':=["column"]) (ix:=[none]) rfl rfl (aM_ ?f) (ap_ (K:=K) rfl (af_ GR_ (hr.mono d_) dr_ (pa_c (zw 1 dU_) ac_))) (λ_ _ _=>?g) (λ_ _ _=>?h) (λ_ _ _=>(af_ GG_ (hr.mono d_) rfl (pa_c (pv1 0 rfl rfl) ac_)))) rfl
   case f=>show(by change GD_ (Fn_ FF_) ["grid","other","columns","rows"] _ _ _=true;decide +kernel)
   case g=>show ah_ (i:=0) (by change List.Nodup (["column"]:List Str);decide +kernel) rfl rfl
   case h=>show aO_
   case b=>show(by change GD_ (Fn_ FF_) ["grid","other","columns","rows"] _ _ _=true;decide +kernel)
   case c=>show ah_ (i:=0) (by change List.Nodup (["row"]:List Str);decide +kernel) rfl rfl
   case d=>show aO_
   case' e=>refine' ao_ (aF_ (N':=["row","columns"]) (ix:=[none,some 2]) rfl rfl (aM_ ?i) (ap_ (K:=K) rfl (zw 3 dU_)) (λ_ _ _=>?j) (λ_ _ _=>?k) (λ_ _ _=>(aF_ (N':=["column","row"]) (ix:=[none,some 0]) rfl rfl (aM_ ?l) (ap_ (K:=K) rfl (pvc 1 rfl rfl)) (λ_ _ _=>?m) (λ_ _ _=>?n) (λ_ _ _=>(af_ G7_ (hr.mono d_) rfl (pa_c (pvc 1 rfl rfl) (pa_c (pv1 0 rfl rfl) ac_)))))))
   case i=>show(by change GD_ (Fn_ FF_) ["grid","other","columns","rows"] _ _ _=true;decide +kernel)
   case j=>show dG_ (i:=0) (by change List.Nodup (["row","columns"]:List Str);decide +kernel) rfl rfl rfl
   case k=>show aO_
   case l=>show(by change GD_ (K7_ _ (Fn_ FF_)) ["row","columns"] _ _ _=true;decide +kernel)
   case m=>show ah_ (i:=0) (by change List.Nodup (["column","row"]:List Str);decide +kernel) rfl rfl
   case n=>show aO_
  case R =>
   nofun;show⟨Fv,_,o,n,vw,rfl,hu,hon,o_,o_,λx H1 s1 _ hx=>?_⟩;obtain⟨p1,zs,rfl,hp1,hzs⟩:=hx;have hp1:=(vw.vg H1).2 _ _ hp1;have hlz:zs.length=(cols o).length:=by rw[hzs.length,Ab_]
   have c8:(cols o).length<=6:=by
    cases o with
    |nil=>show AD_ _
    |cons r o'=>change((List.range r.length).map _).length<=6;rw[Ab_,Bc_,hon r Ah_];show n8
   nofun;show⟨⟨zs,.inl (.inl hp1)⟩,?_⟩;show ay_ (n:=zs.length) (B:=H1) (Pσ:=λσ=>∃e,σ=[e]) (ds:=(cols o).map λc=>Ju_ c) (Fo_.refl _) ⟨_,rfl⟩ (by simp[hlz]) o_ (λi H' hi s'=>⟨zs,zs[i],.inl (.inl (s' _ _ hp1)),by simp[hi]⟩) (λH' s'=>⟨zs,.inl (.inl (s' _ _ hp1)),Af_ _⟩) ?_ ?_
   .rintro D i x d σ' H' H'' hD hDo hs' hi hdi ⟨rfl,hy⟩ ⟨e,rfl⟩ R kR;have hx:=hy zs (.inl (.inl (hs' _ _ hp1)));obtain⟨q,ys,c,hc,rfl,hq,hys⟩:=cx_ hzs hx;have cm:=csm c (Ai_ hc);nofun;show⟨Fv H1,_,c,Bs,3000,rfl,(vw.vg H1).mono hs',⟨q,ys,rfl,hq,hys⟩,cm.2,S0,o_,o_,o_,λx H3 s3 rep=>kR _ _ _ ⟨_,rfl⟩ s3 ?_⟩;have:d=Ju_ c:=by rw[Ad_,hc]at hdi;show(Ak_ hdi).symm
    rw[this];show Rep.mono (ew_ hs' hDo) _ rep
   .intro D1 H2 hD1 s2 rep1;have s02:=s1.trans s2;have hp2:=s02 _ _ hp;obtain⟨_,cs,e,hcs,hrc⟩:=Rep.mono aq_ _ rep1;cases e;have hlc:cs.length=(cols o).length:=by rw[hrc.length,Ab_]
    show⟨⟨xs,.inl (.inl hp2)⟩,?_⟩;show ay_ (n:=xs.length) (B:=H2) (Pσ:=λσ=>∃e,σ=[e]) (ds:=g.map λr=>Ju_ r) (Fo_.refl _) ⟨_,rfl⟩ (by simp[hl]) o_ (λi H' hi s'=>⟨xs,xs[i],.inl (.inl (s' _ _ hp2)),by simp[hi]⟩) (λH' s'=>⟨xs,.inl (.inl (s' _ _ hp2)),Af_ _⟩) ?_ ?_
    .rintro D i x d σ' H' H'' hD hDo hs' hi hdi ⟨rfl,hy⟩ ⟨e,rfl⟩ R kR;have hx:=hy xs (.inl (.inl (hs' _ _ hp2)));obtain⟨q,ys,c,hc,rfl,hq,hys⟩:=cx_ hxs hx;have hcm:=Ai_ hc;have hcl:=hgo c hcm;nofun;show⟨J,_,c,B,170,rfl,vg.mono (s02.trans hs'),⟨q,ys,rfl,hq,hys⟩,sg c hcm,B0,o_,o_,o_,λx H3 s3 rep=>kR _ _ _ ⟨_,rfl⟩ s3 ?_⟩;have:d=Ju_ c:=by rw[Ad_,hc]at hdi;show(Ak_ hdi).symm
     rw[this];show Rep.mono (ew_ hs' hDo) _ rep
    .intro D2 H3 hD2 s3 rep2;obtain⟨_,rs,e,hrs,hrr⟩:=Rep.mono aq_ _ rep2;cases e;have hlr:rs.length=g.length:=by rw[hrr.length,Ab_]
     nofun;show⟨⟨rs,.inl (.inl hrs)⟩,?_⟩;show ay_ (n:=rs.length) (B:=H3) (Pσ:=λσ=>∃e,σ=[e,some (.ref D1)]) (ds:=(g.map λr=>(cols o).map λc=>Ig_ r c).map GC_) (Fo_.refl _) ⟨_,rfl⟩ (by simp[hlr]) o_ (λi H' hi s'=>⟨rs,rs[i],.inl (.inl (s' _ _ hrs)),by simp[hi]⟩) (λH' s'=>⟨rs,.inl (.inl (s' _ _ hrs)),Af_ _⟩) ?_ ?_
     .rintro D i x d σ' H' H'' hD hDo hs' hi hdi ⟨rfl,hy⟩ ⟨e,rfl⟩ R kR;have hx:=hy rs (.inl (.inl (hs' _ _ hrs)));obtain⟨d1,hd1,hr1⟩:=hrr.of_get hx;obtain⟨r,hr0⟩:∃r,g[i]?=some r:=⟨g[i]'o_,by simp[show i<g.length by lia]⟩;have ed1:d1=Ju_ r:=by rw[Ad_,hr0]at hd1;show(Ak_ hd1).symm
      have ed:d=GC_ ((cols o).map λc=>Ig_ r c):=by rw[Ad_,Ad_,hr0]at hdi;show(Ak_ hdi).symm
      subst ed1 ed;have hrm:=Ai_ hr0;have hcs':=hs' _ _ (s3 _ _ hcs);nofun;show⟨⟨cs,.inl (.inl hcs')⟩,?_⟩;show ay_ (n:=cs.length) (B:=H'') (Pσ:=λσ=>∃e,σ=[e,some x]) (ds:=((cols o).map λc=>Ig_ r c).map dF) (Fo_.refl _) ⟨_,rfl⟩ (by simp[hlc]) o_ (λi H2 hi s2=>⟨cs,cs[i],.inl (.inl (s2 _ _ hcs')),by simp[hi]⟩) (λH2 s2=>⟨cs,.inl (.inl (s2 _ _ hcs')),Af_ _⟩) ?_ ?_
      .rintro D2 j y d2 σ2 H4 H4' hD2 hD2o hs4 hj hdj ⟨rfl,hy2⟩ ⟨e2,rfl⟩ R2 kR2;have hy3:=hy2 cs (.inl (.inl (hs4 _ _ hcs')));obtain⟨d3,hd3,hr3⟩:=hrc.of_get hy3;obtain⟨c,hc0⟩:∃c,(cols o)[j]?=some c:=⟨(cols o)[j]'o_,by simp[show j<(cols o).length by lia]⟩;have ed3:d3=Ju_ c:=by rw[Ad_,hc0]at hd3;show(Ak_ hd3).symm
       have ed2:d2=dF (Ig_ r c):=by rw[Ad_,Ad_,hc0]at hdj;show(Ak_ hdj).symm
       subst ed3 ed2;have cm:=csm c (Ai_ hc0);have rl:=hgo r hrm;nofun;show⟨x,y,tops r (FX_ r),tops c (FX_ c),_,_,rfl,Rep.mono (hs'.trans hs4) _ hr1,Rep.mono ((s3.trans hs').trans hs4) _ hr3,gq_ (sg r hrm),gq_ cm.2,by simp[tops];lia,by simp[tops];lia,(bq_ (sg r hrm)).pos,(bq_ cm.2).pos,Am_ (c0_ (bq_ (sg r hrm)).pos ((bq_ (sg r hrm)).le B0) Bb) d_,Am_ (c0_ (bq_ cm.2).pos ((bq_ cm.2).le S0) Sb) d_,λz H5 s5 rep=>kR2 _ _ _ ⟨_,rfl⟩ s5 ?_⟩;show Rep.mono (ew_ hs4 hD2o) _ rep
      .intro D2 H4 hD2 s4 rep;show kR _ _ _ ⟨_,rfl⟩ s4 (Rep.mono (ew_ hs' hDo) _ rep)
     .intro D3 H4 hD3 s4 rep;show k _ _ ((s02.trans s3).trans s4) (Rep.mono (hL_ (s02.trans s3)) _ rep)
open RimT
theorem un1{c:Nat}(h:n+64<c):n+1<c:=o_
structure Tg{α:Type}(lab:α->V)(H:Hp)(l:Addr)(as_:List Addr)(T:List (List α)):Prop where
 top:H l=some (.lst (as_.map V.ref))
 len:as_.length=T.length
 row:∀p a,as_[p]?=some a->H a=some (.lst ((T.getD p []).map lab))
variable{l:Addr}{as_:List Addr}
theorem Tg.mono{α:Type}{lab:α->V}{H':Hp}{T:List (List α)}(h:Tg lab H l as_ T)(s:Fo_ H H'):Tg lab H' l as_ T:=⟨s _ _ h.top,h.len,λp a e=>s _ _ (h.row p a e)⟩
theorem Tg.at_{α:Type}{lab:α->V}{T:List (List α)}(h:Tg lab H l as_ T){p:Nat}(hp:p<T.length):∃a,as_[p]?=some a/\atI (as_.map V.ref) (p:Int)=some (.ref a)/\H a=some (.lst ((T.getD p []).map lab)):=by have e:as_[p]?=some (as_[p]'(by rw[h.len];show hp)):=Ac_ _;show⟨_,e,?_,h.row p _ e⟩;rw[cq_ o_ (by rw[AM_,Ad_,e];rfl)]
abbrev Tn:=Tg (λn:Nat=>V.int n)
def cV(c:Nat×Nat):HO:=.tup [.int c.1,.int c.2]
def cK(c:Nat×Nat):List Key:=[.inl c.1,.inl c.2]
def Hb_{α:Type}(H:Hp)(m:Addr)(T:List (List α)):Prop:=∃kvs,H m=some (.dT kvs)/\∀a b,Jq_ T a b->∃q,Gf_ kvs (cK a)=some (.ref q)/\H q=some (cV b)
theorem Hb_.mono{α:Type}{H':Hp}{m:Addr}{T:List (List α)}(h:Hb_ H m T)(s:Fo_ H H'):Hb_ H' m T:=by obtain⟨kvs,e,k⟩:=h;show⟨kvs,s _ _ e,λa b hab=>(k a b hab).elim λq hq=>⟨q,hq.1,s _ _ hq.2⟩⟩
abbrev Fx_:Stmt:=stN 44
theorem ba_:ZL ["_law_turns","_law_posts","_law_mates_here","_law_corner","_law_p","_law_k","_law_q","_law_j"] ["_law_turns","_law_posts","_law_mates_here","_law_corner"] (Fn_ Fx_):=zL
theorem ch_:LK Fx_ "len" .globalImplicit:=r_
def HZ_:Sp:=λvs H Q _=>∃(α:Type)(_:DecidableEq α)(lab:α->V)(l m c:Addr)(as_:List Addr)(T:List (List α))(P:Nat)(e:Nat×Nat),vs=[.ref l,.int P,.ref m,.ref c]/\Tg lab H l as_ T/\Hb_ H m T/\Tw T/\0<P/\H c=some (cV e)/\IsC T P e /\
 ∀q H' d,Fo_ H H'->H q=none->H' q=some (cV d)->Nx T P e d->Q (.ref q) H'
theorem gA_(T:Txt K mg)(F:Fn0 K mg "_law_corner_behind" Fx_):Cal P w K mg base "_law_corner_behind" ["_law_turns","_law_posts","_law_mates_here","_law_corner"] 1 HZ_:=by
  show aB_ F ba_.1 λf cdv A outer s H vs Q E hr h=>?_;obtain⟨α,dec,lab,l,m,c,as_,Tt,Pp,e,rfl,hT,hm,tw,P0,hc,ic,k⟩:=h;refine'⟨_,?D,?R⟩
  case D =>
   refine' ad_ (hB_ (zv 3 ba_) (bh_ (K:=K) (n:=2) rfl rfl (an_ ?a (an_ ?b bg_)))) ?c
   case a=>show zh 4 ba_
   case b=>show zh 5 ba_
   case' c=>refine' ad_ ?d (ad_ ?e (ad_ ?f (ag_ (ao_ ?g))))
   case' d=>refine' Ga_ (aA_ GN_ (zv 5 ba_) (am_ au_ ch_ T.n_len aZ_ (pa_c (Fr_ al_ (zv 0 ba_) (zv 4 ba_)) ac_)) (FB_ _)) ?h aP_
   case' h=>refine' ag_ (ao_ (aH_ (pa_c (Fp_ aL_ (Fp_ kc_ (zv 4 ba_) aa_) (zv 1 ba_)) (pa_c aa_ ac_))))
   case' e=>refine' hB_ (bY_ (un1 hr.units) (zv 2 ba_) (aH_ (pa_c (zv 4 ba_) (pa_c (zv 5 ba_) ac_)))) (bh_ (K:=K) (n:=2) rfl rfl (an_ ?i (an_ ?j bg_)))
   case i=>show zh 6 ba_
   case j=>show zh 7 ba_
   case' f=>refine' Ga_ (aA_ IJ_ (zv 6 ba_) (zv 1 ba_) (FB_ _)) (ag_ (ao_ (aH_ (pa_c (zv 6 ba_) (pa_c (Fp_ aQ_ (zv 7 ba_) aa_) ac_))))) aP_
   case' g=>refine' aH_ (pa_c (zv 6 ba_) (pa_c (Fp_ aL_ (Fp_ aQ_ (zv 7 ba_) aa_) (am_ au_ ch_ T.n_len aZ_ (pa_c (Fr_ al_ (zv 0 ba_) (zv 6 ba_)) ac_))) ac_))
  case R =>
   nofun;obtain⟨a,ea,at0,ra⟩:=hT.at_ ic.1;show⟨_,SqT.of hc,rfl,_,_,rfl,_,_,rfl,rfl,_,_,rfl,hT.top,_,at0,_,rfl,_,.inl ra,?_⟩;nofun;rw[Ab_];show ite2 (λhe=>?_) (λhe=>?_)
   .have hz:((e.1:Int)-1)%(Pp:Int)=(((e.1+Pp-1)%Pp:Nat):Int):=by rw[DZ_,show((e.1+Pp-1:Nat):Int)=(e.1:Int)-1+Pp by lia];simp
    have he':e.2=rl Tt e.1:=by unfold rl;lia
    show⟨o_,d_,λp hp=>k p _ ((e.1+Pp-1)%Pp,0) (Fo_.new hp) hp ?_ (.inl ⟨he',rfl⟩)⟩;rw[ab_,hz];rfl
   .have hlt:e.2<rl Tt e.1:=by have:=ic.2;unfold rl at this⊢;split at this <;> lia
    obtain⟨ww,hw⟩:=qB_ hlt;obtain⟨b,hb⟩:=qA_ tw hw;obtain⟨kvs,hkv,hall⟩:=hm;obtain⟨q,vq,hq⟩:=hall e b hb;show⟨d_,λp hp=>?_⟩;have s1:Fo_ H (upd H p (.tup [.int e.1,.int e.2])):=Fo_.new hp;generalize e1:upd H p (.tup [.int e.1,.int e.2])=H1 at s1⊢;have hp1:H1 p=some (cV e):=e1▸ab_;have g:GY_ H1 m (.ref p) (some (.ref q)):=vq▸GY_.t (k:=cK e) (s1 _ _ hkv) hp1;have hT1:=hT.mono s1;have hbl:=Ik_ hb.2.choose_spec.2;show⟨_,g,_,rfl,_,SqT.of (s1 _ _ hq),rfl,_,_,rfl,_,_,rfl,rfl,_,rfl,?_⟩;show ite2 (λhlp=>?_) (λhlp=>?_)
    .show⟨_,rfl,d_,λr hr=>k r _ (b.1,b.2+1) (s1.trans (Fo_.new hr)) (s1.free hr) ?_ (.inr ⟨hlt,b,hb,?_⟩)⟩
     .rw[ab_];rfl
     .rw[if_pos o_]
    .obtain⟨a2,ea2,at2,ra2⟩:=hT1.at_ hbl.2;have hl2:(0:Int)<(rl Tt b.1:Nat):=o_
     show⟨_,rfl,_,_,rfl,hT1.top,_,at2,_,rfl,_,.inl ra2,?_⟩;rw[Ab_];show⟨hl2,d_,λr hr=>k r _ (b.1,(b.2+1)%rl Tt b.1) (s1.trans (Fo_.new hr)) (s1.free hr) ?_ (.inr ⟨hlt,b,hb,?_⟩)⟩
     .rw[ab_];change some (HO.tup [V.int b.1,V.int (((b.2:Int)+1)%(rl Tt b.1:Nat))])=some (HO.tup [V.int b.1,V.int (((b.2+1)%rl Tt b.1:Nat):Int)]);rw[DZ_,Int.natCast_add];rfl
     .rw[if_neg o_]
def Cs(H:Hp):List Addr->List (Nat×Nat)->Prop
 |[],[]=>True
 |x::xs,c::cs=>H x=some (cV c)/\Cs H xs cs
 |_,_=>False
theorem Cs.mono{H H':Hp}(s:Fo_ H H'):∀{xs:List Addr}{cs:List (Nat×Nat)},Cs H xs cs->Cs H' xs cs
 |[],[],_=>trivial
 |x::xs,c::cs,h=>⟨s _ _ h.1,Cs.mono s h.2⟩
theorem Cs.len{H:Hp}:∀{xs:List Addr}{cs:List (Nat×Nat)},Cs H xs cs->xs.length=cs.length
 |[],[],_=>rfl
 |x::xs,c::cs,h=>by rw[AH_,AH_,Cs.len h.2]
theorem Cs.snoc{H:Hp}{y:Addr}{d:Nat×Nat}(hy:H y=some (cV d)):∀{xs:List Addr}{cs:List (Nat×Nat)},Cs H xs cs->Cs H (xs++[y]) (cs++[d])
 |[],[],_=>⟨hy,trivial⟩
 |x::xs,c::cs,h=>⟨h.1,Cs.snoc hy h.2⟩
theorem Cs.get{H:Hp}:∀{xs:List Addr}{cs:List (Nat×Nat)}{i:Nat}{d:Nat×Nat},Cs H xs cs->cs[i]?=some d->∃x,xs[i]?=some x/\H x=some (cV d)
 |[],[],i,d,h,e=>by cases e
 |[],_::_,_,_,h,_=>h.elim
 |_::_,[],_,_,h,_=>h.elim
 |x::xs,c::cs,0,d,h,e=>by cases e;show⟨x,rfl,h.1⟩
 |x::xs,c::cs,i+1,d,h,e=>Cs.get (i:=i) h.2 e
def dC(c:Nat×Nat):Dt:=.tup [.int c.1,.int c.2]
theorem ou_{x:Addr}{c:Nat×Nat}(h:H x=some (cV c)):Rep H (.ref x) (dC c):=⟨x,_,rfl,h,_,_,rfl,rfl,_,_,rfl,rfl,rfl⟩
theorem r9_(a b:Nat×Nat):deq (dC a) (dC b)=some (decide (a=b)):=by
 by_cases h1:(a.1:Int)=b.1 <;> by_cases h2:(a.2:Int)=b.2
 .have e:a=b:=BC_ o_ o_;subst e;simp[dC,deq,deqs]
 .have e:a≠b:=λz=>h2 (by rw[z]);simp[dC,deq,deqs,h1,h2,e]
 .have e:a≠b:=λz=>h1 (by rw[z]);simp[dC,deq,deqs,h1,h2,e]
 .have e:a≠b:=λz=>h1 (by rw[z]);simp[dC,deq,deqs,h1,h2,e]
abbrev F3_:Stmt:=stN 45
theorem e8_:ZL ["_law_turns","_law_posts","_law_mates_here","_law_corner","_law_found","_law_here"] ["_law_turns","_law_posts","_law_mates_here","_law_corner"] (Fn_ F3_):=zL
theorem bC_:LK F3_ "_law_corner_behind" .globalImplicit:=r_
def HV_:Sp:=λvs H Q _=>∃(α:Type)(_:DecidableEq α)(lab:α->V)(l m c:Addr)(as_:List Addr)(T:List (List α))(P:Nat)(e:Nat×Nat),vs=[.ref l,.int P,.ref m,.ref c]/\Tg lab H l as_ T/\Hb_ H m T/\Tw T/\0<P/\P<=T.length/\H c=some (cV e)/\IsC T P e/\(corners T P).length<=900 /\
 ∀R H' xs cs,Fo_ H H'->H R=none->H' R=some (.lst (xs.map V.ref))->Cs H' xs cs->cs≠[]->cs.length<=(corners T P).length->(∀d∈cs,IsC T P d)->Way T P cs e->cs.head?=some e->cs.Nodup->Q (.ref R) H'
theorem nb_(T:Txt K mg)(F:Fn0 K mg "_law_region" F3_) (GM_:Cal P w K mg base "_law_corner_behind" ["_law_turns","_law_posts","_law_mates_here","_law_corner"] 1 HZ_):Cal P w K mg base "_law_region" ["_law_turns","_law_posts","_law_mates_here","_law_corner"] 2 HV_:=by
  show aB_ F e8_.1 λf cdv A outer s H vs Q E hr h=>?_;obtain⟨α,dec,lab,l,m,c,as_,Tt,Pp,e,rfl,hT,hm,tw,P0,PT,hc,ic,c9,k⟩:=h;refine'⟨_,?D,?R⟩
  case D =>
   refine' ad_ (zas 4 e8_ (by_ (pa_c (zv 3 e8_) ac_))) (ad_ ?a (ad_ ?b (ag_ (ao_ (zv 4 e8_)))))
   case' a=>refine' zas 5 e8_ (af_ GM_ (hr.mono d_) bC_ (pa_c (zv 0 e8_) (pa_c (zv 1 e8_) (pa_c (zv 2 e8_) (pa_c (zv 3 e8_) ac_)))))
   case' b=>refine' fK_ AG_ (aA_ (hJ_ (hr.units)) (zv 5 e8_) (zv 3 e8_) (FB_ _)) (ad_ (bM_ (G5_ AU_ A8_ A9_ bA_ (zv 4 e8_) (pa_c (zv 5 e8_) ac_))) ?c)
   case' c=>refine' ag_ (zas 5 e8_ (af_ GM_ (hr.mono d_) bC_ (pa_c (zv 0 e8_) (pa_c (zv 1 e8_) (pa_c (zv 2 e8_) (pa_c (zv 5 e8_) ac_))))))
  case R =>
   nofun;show⟨d_,λR hR=>?_⟩;have s0:Fo_ H (upd H R (.lst [.ref c])):=Fo_.new hR;show⟨_,_,_,l,m,c,as_,Tt,Pp,e,rfl,hT.mono s0,hm.mono s0,tw,P0,s0 _ _ hc,ic,λq H1 d s1 hq hd nx=>?_⟩;nofun
   show hE_ (λσ H'=>∃(S:Hp)(xs:List Addr)(cs:List (Nat×Nat))(h:Addr)(d:Nat×Nat),σ=[some (.ref l),some (.int Pp),some (.ref m),some (.ref c),some (.ref R),some (.ref h)]/\Fo_ H S/\S R=none/\Fo_ S H'/\H' R=some (.lst (xs.map V.ref))/\Cs S xs cs/\S h=some (cV d)/\Way Tt Pp cs d/\cs.head?=some e/\cs.Nodup)
    (λσ H'=>match H' R with|some (.lst xs)=>(corners Tt Pp).length+1-xs.length|_=>0) ?_ ?_
   .have h0R:upd H R (.lst [.ref c]) R=some (.lst [.ref c]):=ab_;show⟨grow H (upd H R (.lst [.ref c])) H1,[c],[e],q,d,rfl,cC_ s0,by rw[e3_ h0R];show hR,jn_ s0 s1,s1 _ _ h0R,⟨cC_ s0 _ _ hc,trivial⟩,by rw[jm_ hq];show hd,.one nx,rfl,s_⟩
   .rintro σ H' ⟨S,xs,cs,h,d,rfl,hS,SR,SH,hxs,hcs,hh,wy,hd0,nd⟩;nofun;have wl:=qE_ tw P0 PT wy hd0 ic nd;have wa:=js_ tw P0 PT wy hd0 ic;have xl:=hcs.len;show⟨_,ou_ (SH _ _ hh),_,ou_ (SH _ _ (hS _ _ hc)),_,r9_ d e,by simp[dC,dep,deps],?_⟩;by_cases hde:d=e
    .rw[if_neg (by simp[hde])];show k R H' xs cs (hS.trans SH) hR hxs (hcs.mono SH) (mn_ wy) wl wa.2.1 (hde▸wy) hd0 nd
    .rw[if_pos (by simp[hde])];show⟨_,N_ok,?_⟩;nofun;have sz:(xs.map V.ref).length<sizeLine:=by have:=Fq_ (show xs.length+1<=1000 by lia);rw[Ab_];lia
     have dn:=qD_ tw P0 PT wy hd0 ic nd hde;show⟨.inl ⟨_,SqL.of hxs⟩,_,hxs,sz,?_⟩;have SH2:Fo_ S (upd H' R (.lst (xs.map V.ref++[.ref h]))):=cu_ SH SR;have e2:upd H' R (.lst (xs.map V.ref++[.ref h])) R=some (.lst (xs.map V.ref++[.ref h])):=ab_;generalize upd H' R (.lst (xs.map V.ref++[.ref h]))=H2 at SH2 e2⊢;show⟨_,_,_,l,m,h,as_,Tt,Pp,d,rfl,(hT.mono hS).mono SH2,(hm.mono hS).mono SH2,tw,P0,SH2 _ _ hh,wa.1,λq2 H3 d2 s3 hq2 hd2 nx2=>⟨⟨grow S H2 H3,xs++[h],cs++[d],q2,rfl,hS.trans (cC_ SH2),?_,jn_ SH2 s3,?_,?_,d2,?_,.more wy nx2,?_,?_⟩,?_⟩⟩
     .rw[e3_ e2];show SR
     .rw[Au_];show s3 _ _ e2
     .show Cs.snoc (cC_ SH2 _ _ hh) (hcs.mono (cC_ SH2))
     .rw[jm_ hq2];show hd2
     .cases cs with
      |nil=>show absurd rfl (mn_ wy)
      |cons a b=>show hd0
     .rw[Br_];show⟨nd,s_,λa ha b hb ab=>?_⟩;rw[An_.mp hb]at ab;show dn (ab▸ha)
     .rw[s3 _ _ e2,hxs];simp only[At_,Ab_,Cn_];lia
def Gs_(T:List (List Nat))(P n:Nat):List (Nat×Nat):=(List.range n).flatMap λp=>(List.range (rl T p+(if p<P then 1 else 0))).map λk=>(p,k)
theorem dc_(T:List (List Nat))(P n:Nat):Gs_ T P (n+1)=Gs_ T P n++(List.range (rl T n+(if n<P then 1 else 0))).map λk=>(n,k):=by unfold Gs_;rw[B9_,ET_];simp
theorem g0_(T:List (List Nat))(P:Nat){n:Nat}:∀{m:Nat},n<=m->(Gs_ T P n).length<=(Gs_ T P m).length
 |0,h=>by rw[Nat.le_zero.mp h];show Af_ _
 |m+1,h=>by
  by_cases e:n=m+1
  .rw[e];show Af_ _
  .have:=g0_ T P (n:=n) (m:=m) o_;rw[dc_,At_];lia
theorem qb_{H:Hp}:∀{vs:List V}{cs:List (Nat×Nat)},FE_ H vs (cs.map dC)->∃xs:List Addr,vs=xs.map V.ref/\Cs H xs cs
 |[],[],_=>⟨[],rfl,trivial⟩
 |v::vs,c::cs,h=>by
  obtain⟨x,r,e,hx,hr⟩:=h;cases e;obtain⟨q,ys,e1,hq,a,b,e2,ha,a2,b2,e3,ha2,e4⟩:=hx;cases ha;cases ha2;subst e1 e2 e3 e4;obtain⟨xs,e5,hc⟩:=qb_ hr;show⟨q::xs,by rw[e5];rfl,hq,hc⟩
 |[],_::_,h=>by obtain⟨x,r,e,_⟩:=h;cases e
 |_::_,[],h=>by cases h
abbrev FS_:Stmt:=stN 43
theorem dV_:ZM ["_law_turns","_law_posts","_law_found","_law_p"] ["_law_turns","_law_posts"] (Fn_ FS_):=zM
theorem cz_:LK FS_ "_law_found" .local:=r_
theorem dW_:LK FS_ "_law_p" .cell:=r_
theorem iq_:LK FS_ "int" .globalImplicit:=r_
theorem eO_:LK FS_ "len" .globalImplicit:=r_
theorem ds_:LK FS_ "range" .globalImplicit:=r_
def HE_:Sp:=λvs H Q _=>∃(l:Addr)(as_:List Addr)(T:List (List Nat))(P:Nat),vs=[.ref l,.int P]/\Tn H l as_ T/\T.length<=16/\(corners T P).length<=900 /\
 ∀R H',Fo_ H H'->Rep (G4_ H H') (.ref R) (.lst ((corners T P).map dC))->Q (.ref R) H'
theorem lM_(T:Txt K mg)(F:Fn0 K mg "_law_corners" FS_):Cal P w K mg base "_law_corners" ["_law_turns","_law_posts"] 1 HE_:=by
  show aB_ F dV_.1 λf cdv A outer s H vs Q E hr h=>?_;obtain⟨l,as_,Tt,Pp,rfl,hT,t16,c9,k⟩:=h;refine'⟨_,?D,?R⟩
  case D =>
   refine' ad_ (ai_ (i:=2) dV_.nd rfl cz_ (by_ ac_)) ?a
   case' a=>refine' ad_ (bs_ AG_ rfl (aT_ ds_ T.n_range (pa_c (am_ au_ eO_ T.n_len aZ_ (pa_c (zw 0 dV_) ac_)) ac_)) ?b ?c) (ag_ (ao_ (zw 2 dV_)))
   case b=>show dG_ (i:=3) dV_.nd rfl dW_ rfl
   case' c=>refine' ag_ (ai_ (i:=2) dV_.nd rfl cz_ (Fp_ fL_ (zw 2 dV_) (aF_ (N':=["_law_k","_law_p"]) (ix:=[none,some 3]) rfl rfl (aM_ ?d) (aT_ ds_ T.n_range ?e) (λ_ _ _=>?f) (λ_ _ _=>?g) (λ_ _ _=>(aH_ (pa_c (pvc 1 rfl rfl) (pa_c (pv1 0 rfl rfl) ac_)))))))
   case d=>show(by change GD_ (Fn_ FS_) ["_law_turns","_law_posts","_law_found","_law_p"] _ _ _=true;decide +kernel)
   case' e=>refine' pa_c (Fp_ aQ_ (am_ au_ eO_ T.n_len aZ_ (pa_c (Fr_ al_ (zw 0 dV_) (zw 3 dV_)) ac_)) (b5_ kd_ iq_ T.n_int nF_ (pa_c (hC_ IJ_ (zw 3 dV_) (zw 1 dV_) (FB_ _)) ac_))) ac_
   case f=>show ah_ (i:=0) (by change List.Nodup (["_law_k","_law_p"]:List Str);decide +kernel) rfl rfl
   case g=>show aO_
  case R =>
   nofun;show⟨d_,λR hR=>?_⟩;have s0:Fo_ H (upd H R (.lst [])):=Fo_.new hR;show⟨_,.inl (s0 _ _ hT.top),?_⟩;rw[Ab_,hT.len];show⟨o_,o_,?_⟩;rw[AM_];show b4_ (λi σ H'=>∃(R:Addr)(e:Option V),σ=[some (.ref l),some (.int Pp),some (.ref R),e]/\Fo_ H H'/\Rep (G4_ H H') (.ref R) (.lst ((Gs_ Tt Pp i).map dC))) ?_ ?_ ?_
   .show⟨R,none,rfl,s0,R,[],rfl,?_,rfl⟩;rw[bF_ hR,ab_]
   .rintro i σ H' hi ⟨R,e,rfl,sH,rep⟩;nofun;have hT':=hT.mono sH;obtain⟨a,ea,at0,ra⟩:=hT'.at_ hi;rw[BK_];show⟨_,hT'.top,_,at0,_,rfl,_,.inl ra,?_⟩;right
    have eN:(((Tt.getD i []).map λn:Nat=>V.int n).length:Int)+(if(i:Int)<(Pp:Int)then 1 else 0)=((rl Tt i+(if i<Pp then 1 else 0):Nat):Int):=by
     rw[Ab_];unfold rl;by_cases z:i<Pp
     .rw[if_pos o_,if_pos z];lia
     .rw[if_neg o_,if_neg z];lia
    rw[eN];have c1:=g0_ Tt Pp (n:=i+1) (m:=Tt.length) hi;have c2:(Gs_ Tt Pp Tt.length).length<=900:=c9;rw[dc_,At_,Ab_,Bc_]at c1;clear eN;generalize hN:rl Tt i+(if i<Pp then 1 else 0)=N at c1⊢;show⟨o_,o_,?_⟩;obtain⟨R',vs,eR,hR',reps⟩:=rep;cases eR;obtain⟨nR,hR1⟩:=aV_ hR';have lv:=reps.length;rw[Ab_]at lv;show ay_ (n:=N) (B:=H) (Pσ:=λσ=>∃e,σ=[e,some (.int i)]) (ds:=((List.range N).map λk=>(i,k)).map dC) sH ⟨none,rfl⟩ s_ o_ (λj H2 hj s2=>by change j<Int.toNat _;lia) (λH2 s2=>by change Int.toNat _<=_;lia) ?_ ?_
    .rintro D j z d σ' H2 H2' hD hDo hs2 hj hdj ⟨rfl,rfl⟩ ⟨e2,rfl⟩ R2 kR;nofun;show⟨d_,λp hp=>kR _ _ _ ⟨_,rfl⟩ (Fo_.new hp) ?_⟩;have:d=dC (i,j):=by rw[Bo_,Ad_,Bq_ hj]at hdj;show(Ak_ hdj).symm
     rw[this];show ou_ ?_;obtain⟨oD,hoD⟩:=hDo;rw[aR_ (λz=>by rw[z,hoD]at hp;cases hp) ((sH.trans hs2).free hp),ab_];change some (HO.tup [V.int i,V.int (0+(j:Int))])=some (HO.tup [V.int i,V.int j]);rw[BK_]
    .intro D H2 hD s2 rep2;obtain⟨D',ws,eD,hD',reps2⟩:=rep2;cases eD;obtain⟨nD,hD1⟩:=aV_ hD';have lw:=reps2.length;rw[Ab_,Ab_,Bc_]at lw;show⟨_,rfl,_,s2 _ _ hR1,_,hD1,AN_ (Fq_ (show vs.length+ws.length<=1000 by rw[lv,lw];lia)),λp hp=>⟨(sH.trans s2).trans (Fo_.new hp),p,vs++ws,rfl,?_,?_⟩⟩
     .rw[bF_ ((sH.trans s2).free hp),ab_]
     .rw[dc_,hN,Au_];show(FE_.mono (hK_ (s2.trans (Fo_.new hp))) _ reps).append (FE_.mono (hK_ (Fo_.new hp)) _ reps2)
   .rintro σ H' ⟨R,e,rfl,sH,rep⟩;nofun;show k R H' sH rep
def Dn(p k:Nat)(e:Nat×Nat):Prop:=e.1<p\/(e.1=p/\e.2<k)
theorem qc_{a b:Nat×Nat}(h:cK a=cK b):a=b:=by
 unfold cK at h;injection h with h1 h2
 injection h2 with h2 _
 injection h1 with h1
 injection h2 with h2
 show BC_ o_ o_
structure Mi{α:Type}(ky:α->Key)(T:List (List α))(S:Hp)(D:Nat×Nat->Prop)(k1:List (Key×V))(k2:List (List Key×V)):Prop where
 fi:∀w:α,(∃c q,D c/\wi T c=some w/\Gf_ k1 (ky w)=some (.ref q)/\S q=some (cV c))\/((∀c,D c->wi T c≠some w)/\Gf_ k1 (ky w)=none)
 ma:∀a b,Jq_ T a b->D a->D b->∃q,Gf_ k2 (cK a)=some (.ref q)/\S q=some (cV b)
variable{S:Hp}{k1:List (Key×V)}{k2:List (List Key×V)}
theorem Mi.mono{α:Type}{ky:α->Key}{T:List (List α)}{S':Hp}{D:Nat×Nat->Prop}(h:Mi ky T S D k1 k2)(s:Fo_ S S'):Mi ky T S' D k1 k2 :=
 ⟨λw=>(h.fi w).imp (λ⟨c,q,a,b,d,e⟩=>⟨c,q,a,b,d,s _ _ e⟩) id,λa b m x y=>(h.ma a b m x y).elim λq z=>⟨q,z.1,s _ _ z.2⟩⟩
theorem Mi.imp{α:Type}{ky:α->Key}{T:List (List α)}{D D':Nat×Nat->Prop}(h:Mi ky T S D k1 k2)(i:∀c w,wi T c=some w->(D c↔D' c)):Mi ky T S D' k1 k2 :=
 ⟨λw=>(h.fi w).imp (λ⟨c,q,a,b,d,e⟩=>⟨c,q,(i c _ b).mp a,b,d,e⟩) (λ⟨a,b⟩=>⟨λc x y=>a c ((i c _ y).mpr x) y,b⟩),λa b m x y=>by obtain⟨_,w,wa,wb⟩:=id m;show h.ma a b m ((i a _ wa).mpr x) ((i b _ wb).mpr y)⟩
theorem Mi.new{α:Type}[DecidableEq α]{ky:α->Key}{T:List (List α)}{D:Nat×Nat->Prop}(h:Mi ky T S D k1 k2){c0:Nat×Nat}{w:α}{q0:Addr}(inj:∀a b,ky a=ky b->a=b)(hw:wi T c0=some w)(hn:Gf_ k1 (ky w)=none)(h0:S q0=some (cV c0)):
  Mi ky T S (λc=>D c\/c=c0) (GH_ k1 (ky w) (.ref q0)) k2:=by
 have no:∀c,D c->wi T c≠some w:=by
  rcases h.fi w with⟨c,q,_,_,e,_⟩|⟨a,_⟩
  .rw[hn]at e;cases e
  .show a
 show⟨λw'=>?_,λa b m x y=>?_⟩
 .rw[dJ_];by_cases e:w'=w
  .subst e;show .inl ⟨c0,q0,.inr rfl,hw,by rw[if_pos rfl],h0⟩
  .rw[if_neg (λz=>e (inj _ _ z))]
   rcases h.fi w' with⟨c,q,a,b,d,f⟩|⟨a,b⟩
   .show .inl ⟨c,q,.inl a,b,d,f⟩
   .show .inr ⟨λc hc hcw=>?_,b⟩
    rcases hc with hc|hc
    .show a c hc hcw
    .rw[hc,hw]at hcw;cases hcw;show e rfl
 .obtain⟨ne,w',wa,wb⟩:=id m
  rcases x with x|x <;> rcases y with y|y
  .show h.ma a b m x y
  .rw[y,hw]at wb;cases wb;show absurd wa (no a x)
  .rw[x,hw]at wa;cases wa;show absurd wb (no b y)
  .show absurd (x.trans y.symm) ne
theorem Mi.old{α:Type}[DecidableEq α]{ky:α->Key}{T:List (List α)}{D:Nat×Nat->Prop}(tw:Tw T)(h:Mi ky T S D k1 k2){c0 c:Nat×Nat}{w:α}{q q0:Addr}(hw:wi T c0=some w)(hD:¬ D c0)(hc:D c)(hcw:wi T c=some w)(hq:S q=some (cV c))(h0:S q0=some (cV c0)):
  Mi ky T S (λc=>D c\/c=c0) k1 (GH_ (GH_ k2 (cK c0) (.ref q)) (cK c) (.ref q0)):=by
 have ne:c≠c0:=λz=>hD (z▸hc);have m0:Jq_ T c c0:=⟨ne,w,hcw,hw⟩;show⟨λw'=>?_,λa b m x y=>?_⟩
 .rcases h.fi w' with⟨c,q,a,b,d,f⟩|⟨a,b⟩
  .show .inl ⟨c,q,.inl a,b,d,f⟩
  .show .inr ⟨λc' hc' hcw'=>?_,b⟩
   rcases hc' with hc'|hc'
   .show a c' hc' hcw'
   .rw[hc',hw]at hcw';cases hcw';show a c hc hcw
 .rw[dJ_,dJ_];by_cases e1:a=c
  .subst e1;rw[if_pos rfl,ho_ tw m m0];show⟨q0,rfl,h0⟩
  .rw[if_neg (λz=>e1 (qc_ z))];by_cases e2:a=c0
   .subst e2;rw[if_pos rfl,ho_ tw m m0.symm];show⟨q,rfl,hq⟩
   .rw[if_neg (λz=>e2 (qc_ z))];have da:=x.resolve_right e2
    rcases y with y|y
    .show h.ma a b m da y
    .rw[y]at m;show absurd (ho_ tw m.symm m0.symm) e1
structure MS(H S H':Hp)(F M:Addr)(k1:List (Key×V))(k2:List (List Key×V)):Prop where
 hS:Fo_ H S
 sF:S F=none
 sM:S M=none
 sH:Fo_ S H'
 f:H' F=some (.dK k1)
 m:H' M=some (.dT k2)
variable{H':Hp}{F M:Addr}
theorem MS.new{p:Addr}{o:HO}(h:MS H S H' F M k1 k2)(hp:H' p=none):MS H (upd S p o) (upd H' p o) F M k1 k2:=by
 have nF:F≠p:=λz=>by rw[<-z,h.f]at hp;cases hp
 have nM:M≠p:=λz=>by rw[<-z,h.m]at hp;cases hp
 show⟨h.hS.trans (bn_ h.sH hp),by rw[aj_ nF];show h.sF,by rw[aj_ nM];show h.sM,hl_ h.sH hp,by rw[aj_ nF];show h.f,by rw[aj_ nM];show h.m⟩
theorem MS.ne(h:MS H S H' F M k1 k2):F≠M:=λz=>by have:=h.f;rw[z,h.m]at this;cases this
theorem MS.putF(h:MS H S H' F M k1 k2)(k1':List (Key×V)):MS H S (upd H' F (.dK k1')) F M k1' k2 :=
 ⟨h.hS,h.sF,h.sM,cu_ h.sH h.sF,ab_,by rw[aj_ h.ne.symm];show h.m⟩
theorem MS.putM(h:MS H S H' F M k1 k2)(k2':List (List Key×V)):MS H S (upd H' M (.dT k2')) F M k1 k2' :=
 ⟨h.hS,h.sF,h.sM,cu_ h.sH h.sM,by rw[aj_ h.ne];show h.f,ab_⟩
abbrev Gb_:Stmt:=stN 42
theorem dt_:ZL ["_law_turns","_law_first","_law_mates_here","_law_p","_law_k","_law_wire"] ["_law_turns"] (Fn_ Gb_):=zL
theorem fZ_:LK Gb_ "len" .globalImplicit:=r_
theorem eP_:LK Gb_ "range" .globalImplicit:=r_
def Iv_:Sp:=λvs H Q _=>∃(α:Type)(_:DecidableEq α)(lab:α->V)(ky:α->Key)(l:Addr)(as_:List Addr)(T:List (List α)),vs=[.ref l]/\(∀w,lab w=kV (ky w))/\(∀a b,ky a=ky b->a=b)/\Tg lab H l as_ T/\Tw T/\T.length<=16/\(∀p,rl T p<=30)/\∀m H',Fo_ H H'->H m=none->Hb_ H' m T->Q (.ref m) H'
theorem ov_(T:Txt K mg)(F:Fn0 K mg "_law_mates" Gb_):Cal P w K mg base "_law_mates" ["_law_turns"] 1 Iv_:=by
  show aB_ F dt_.1 λf cdv A outer s H vs Q E hr h=>?_;obtain⟨α,dec,lab,ky,l,as_,Tt,rfl,hlab,inj,hT,tw,t16,r30,k⟩:=h;refine'⟨_,?D,?R⟩
  case D =>
   refine' ad_ ?a (ad_ ?b ?c)
   case a=>show zas 1 dt_ hm_
   case b=>show zas 2 dt_ mf_
   case' c=>refine' ad_ (bs_ AG_ rfl (aT_ eP_ T.n_range (pa_c (am_ au_ fZ_ T.n_len aZ_ (pa_c (zv 0 dt_) ac_)) ac_)) ?d ?e) (ag_ (ao_ (zv 2 dt_)))
   case d=>show zh 3 dt_
   case' e=>refine' ag_ (bs_ AG_ rfl ?f ?g (ad_ (zas 5 dt_ (Fr_ al_ (Fr_ al_ (zv 0 dt_) (zv 3 dt_)) (zv 4 dt_))) ?h))
   case' f=>refine' aT_ eP_ T.n_range (pa_c (am_ au_ fZ_ T.n_len aZ_ (pa_c (Fr_ al_ (zv 0 dt_) (zv 3 dt_)) ac_)) ac_)
   case g=>show zh 4 dt_
   case' h=>refine' ag_ (Ga_ (nk_ (nN_ (un1 hr.units) (zv 5 dt_) (zv 1 dt_))) ?i (ag_ (ex_ (un1 hr.units) (zv 1 dt_) (zv 5 dt_) (aH_ (pa_c (zv 3 dt_) (pa_c (zv 4 dt_) ac_))) rfl)))
   case' i=>refine' ad_ (ex_ (un1 hr.units) (zv 2 dt_) (aH_ (pa_c (zv 3 dt_) (pa_c (zv 4 dt_) ac_))) (bY_ (un1 hr.units) (zv 1 dt_) (zv 5 dt_)) rfl) ?j
   case' j=>refine' ag_ (ex_ (un1 hr.units) (zv 2 dt_) (bY_ (un1 hr.units) (zv 1 dt_) (zv 5 dt_)) (aH_ (pa_c (zv 3 dt_) (pa_c (zv 4 dt_) ac_))) rfl)
  case R =>
   nofun;intro Fd hFd Md hMd;have s0:Fo_ H (upd (upd H Fd (HO.dK [])) Md (HO.dT [])):=(Fo_.new hFd).trans (Fo_.new hMd);have nF:Fd≠Md:=λz=>by rw[<-z,ab_]at hMd;cases hMd
   have hM0:H Md=none:=(Fo_.new hFd).free hMd;have ms0:MS H H (upd (upd H Fd (HO.dK [])) Md (HO.dT [])) Fd Md [] []:=⟨Fo_.refl _,hFd,hM0,s0,by rw[aj_ nF];show ab_,ab_⟩;generalize upd (upd H Fd (HO.dK [])) Md (HO.dT [])=H0 at s0 ms0⊢;show⟨_,.inl (s0 _ _ hT.top),?_⟩;rw[Ab_,hT.len];show⟨o_,o_,?_⟩;rw[AM_];show b4_ (λi σ H'=>∃(S:Hp)(k1:List (Key×V))(k2:List (List Key×V))(e3 e4 e5:Option V),σ=[some (.ref l),some (.ref Fd),some (.ref Md),e3,e4,e5]/\MS H S H' Fd Md k1 k2/\Mi ky Tt S (Dn i 0) k1 k2/\k1.length<=30*i/\k2.length<=60*i) ?_ ?_ ?_
   .show⟨H,[],[],_,_,_,rfl,ms0,⟨λw=>.inr ⟨λc hc=>?_,rfl⟩,λa b m x y=>?_⟩,Af_ _,Af_ _⟩
    .rcases hc with z|z <;> lia
    .rcases x with z|z <;> lia
   .rintro i σ H' hi ⟨S,k1,k2,e3,e4,e5,rfl,ms,mi,l1,l2⟩;have hT1:=(hT.mono ms.hS).mono ms.sH;obtain⟨a,ea,at0,ra⟩:=hT1.at_ hi;nofun;rw[BK_];show⟨_,hT1.top,_,at0,_,rfl,_,.inl ra,?_⟩;rw[Ab_];have r3:=r30 i;unfold rl at r3;show⟨o_,o_,?_⟩;rw[AM_];show b4_ (λj σ H'=>∃(S:Hp)(k1:List (Key×V))(k2:List (List Key×V))(e4 e5:Option V),σ=[some (.ref l),some (.ref Fd),some (.ref Md),some (.int i),e4,e5]/\MS H S H' Fd Md k1 k2/\Mi ky Tt S (Dn i j) k1 k2/\k1.length<=30*i+j/\k2.length<=60*i+2*j) ?_ ?_ ?_
    .show⟨S,k1,k2,_,_,rfl,ms,mi,o_,o_⟩
    .clear ms mi l1 l2 hT1 ra ea at0 a k1 k2 S;rintro j σ H' hj ⟨S,k1,k2,e4,e5,rfl,ms,mi,l1,l2⟩;have hT1:=(hT.mono ms.hS).mono ms.sH;obtain⟨a,ea,at0,ra⟩:=hT1.at_ hi;nofun;simp only[BK_];obtain⟨w,hw⟩:∃w,(Tt.getD i [])[j]?=some w:=⟨_,Ac_ hj⟩;have hwi:wi Tt (i,j)=some w:=hw;have i16:i<16:=o_
     have nD:¬ Dn i j (i,j):=by unfold Dn;lia
     have eD:∀c w',wi Tt c=some w'->((Dn i j c\/c=(i,j))↔Dn i (j+1) c):=λc w' _=>by
      unfold Dn;constructor
      .rintro((z|⟨z,z2⟩)|z)
       .show .inl z
       .show .inr ⟨z,o_⟩
       .rw[z];show .inr ⟨rfl,Nat.lt_succ_self _⟩
      .rintro(z|⟨z,z2⟩)
       .show .inl (.inl z)
       .by_cases y:c.2=j
        .show .inr (BC_ z y)
        .show .inl (.inr ⟨z,o_⟩)
     show⟨_,hT1.top,_,at0,_,rfl,_,ra,kV (ky w),?_,_,GY_.k (k:=ky w) ms.f,?_⟩
     .show cq_ o_ (by rw[AM_,Ad_,hw,B7_,hlab])
     rcases mi.fi w with⟨c,q,dc,wc,hv,hq⟩|⟨no,hv⟩
     .rw[if_pos (by rw[hv];rfl)];show⟨.ref q,hv▸GY_.k (k:=ky w) ms.f,d_,λp hp=>?_⟩;have ms1:=ms.new (o:=cV (i,j)) hp;have ms2:=ms1.putM (GH_ k2 (cK (i,j)) (.ref q));have z1:=bt_ k2 (cK (i,j)) (.ref q);show⟨_,Ix_.t (k:=cK (i,j)) ms1.m ab_ (Fq_ o_),d_,λq0 hq0=>?_⟩;have ms3:=ms2.new (o:=cV (i,j)) hq0;have mi3:=(mi.mono (bn_ (o:=cV (i,j)) ms.sH hp)).mono (bn_ (o:=cV (i,j)) ms2.sH hq0);have hqS:=bn_ (o:=cV (i,j)) ms2.sH hq0 _ _ (bn_ (o:=cV (i,j)) ms.sH hp _ _ hq);have z2:=bt_ (GH_ k2 (cK (i,j)) (.ref q)) (cK c) (.ref q0);show⟨.ref q,hv▸GY_.k (k:=ky w) ms3.f,_,Ix_.t (k:=cK c) ms3.m (ms3.sH _ _ hqS) (Fq_ o_),?_⟩;show⟨_,_,_,ms3.putM _,(Mi.old tw mi3 hwi nD dc wc hqS ab_).imp eD,o_,o_⟩
     .rw[if_neg (by rw[hv];decide)];show⟨d_,λq0 hq0=>?_⟩;have ms1:=ms.new (o:=cV (i,j)) hq0;have z1:=bt_ k1 (ky w) (.ref q0);show⟨_,Ix_.k (k:=ky w) ms1.f (Fq_ o_),?_⟩;show⟨_,_,_,ms1.putF _,((mi.mono (bn_ ms.sH hq0)).new inj hwi hv ab_).imp eD,o_,o_⟩
    .rintro σ H' ⟨S,k1,k2,e4,e5,rfl,ms,mi,l1,l2⟩;show⟨S,k1,k2,_,_,_,rfl,ms,mi.imp λc w hw=>?_,o_,o_⟩;have:=(Ik_ hw).1;unfold rl at this;unfold Dn;constructor
     .rintro(z|⟨z,z2⟩)
      .show .inl o_
      .show .inl o_
     .rintro(z|⟨z,z2⟩)
      .by_cases y:c.1=i
       .rw[y]at this;show .inr ⟨y,this⟩
       .show .inl o_
      .lia
   .rintro σ H' ⟨S,k1,k2,e3,e4,e5,rfl,ms,mi,l1,l2⟩;nofun;show k Md H' (ms.hS.trans ms.sH) hM0 ⟨k2,ms.m,λa b m=>?_⟩;obtain⟨ne,w,wa,wb⟩:=id m;obtain⟨q,h1,h2⟩:=mi.ma a b m (.inl (Ik_ wa).2) (.inl (Ik_ wb).2);show⟨q,h1,ms.sH _ _ h2⟩
structure To(B H:Hp)(l:Addr)(as_:List Addr)(T:List (List Nat)):Prop where
 tn:Tn H l as_ T
 nd:as_.Nodup
 nl:l∉as_
 fl:B l=none
 fa:∀a∈as_,B a=none
variable{T:List (List Nat)}
theorem To.mono{B:Hp}(h:To B H l as_ T)(s:Fo_ H H'):To B H' l as_ T:=⟨h.tn.mono s,h.nd,h.nl,h.fl,h.fa⟩
theorem lN_(n p:Nat):(List.replicate n ([]:List Nat)).getD p []=[]:=by rw[Aa_,CX_];split <;> rfl
theorem JC_(T:List (List Nat))(p:Nat):rl T p<=T.flatten.length:=by
 unfold rl;rw[Aa_];cases e:T[p]? with
 |none=>show AD_ _
 |some l =>
  obtain⟨hp,e1⟩:=Ar_.mp e;have h2:T.flatten.length=(T.take p).flatten.length+(T.drop p).flatten.length:=by rw[<-At_,<-BP_,Bt_]
  rw[List.drop_eq_getElem_cons hp,e1,A1_,At_]at h2;change l.length<=_;lia
theorem both{c1:Prop}[Decidable c1]{α:Type}{C:α->Prop}{c2:α->Prop}[∀x,Decidable (c2 x)]{X:α->Prop}{Y:Prop}(a:α)(ha:C a)(hX:c1->c2 a->X a)(hY:Y):if c1 then ∃x,C x/\(if c2 x then X x else Y)else Y:=by
 by_cases h1:c1
 .rw[if_pos h1];show⟨a,ha,?_⟩;by_cases h2:c2 a
  .rw[if_pos h2];show hX h1 h2
  .rw[if_neg h2];show hY
 .rw[if_neg h1];show hY
theorem lO_(l:List Nat)(k wire:Nat):(l.map λn:Nat=>V.int n).take k++V.int (0+(wire:Nat))::(l.map λn:Nat=>V.int n).drop k=(RimT.ins l k wire).map λn:Nat=>V.int n:=by unfold RimT.ins;rw[Au_,Av_,DJ_,C5_,BK_]
theorem To.ins{B:Hp}(h:To B H l as_ T){c:Nat×Nat}{a:Addr}(ha:as_[c.1]?=some a)(wire:Nat):To B (upd H a (.lst ((RimT.ins (T.getD c.1 []) c.2 wire).map λn:Nat=>V.int n))) l as_ (F0_ T c wire):=by
 have la:l≠a:=λe=>h.nl (by rw[e];show Ai_ ha);have cl:c.1<as_.length:=(Ar_.mp ha).1;show⟨⟨by rw[aj_ la];show h.tn.top,by rw[ax_];show h.tn.len,λp b hb=>?_⟩,h.nd,h.nl,h.fl,h.fa⟩;by_cases e:c.1=p
 .subst e;rw[ha]at hb;cases hb;rw[ab_];unfold F0_;rw[Aa_ (l:=T.set _ _),Bk_,if_pos rfl,if_pos (by rw[<-h.tn.len];show cl)];rfl
 .have ba:b≠a:=λz=>by rw[z]at hb;show e ((BO_ cl h.nd).mp (ha.trans hb.symm))
  rw[aj_ ba,h.tn.row p b hb];unfold F0_;rw[Aa_ (l:=T.set _ _),Bk_,if_neg e,<-Aa_]
theorem To.more{B:Hp}(h:To B H l as_ T)(sB:Fo_ B H){a:Addr}(na:H a=none)(r:List Nat):To B (upd (upd H a (.lst (r.map λn:Nat=>V.int n))) l (.lst ((as_++[a]).map V.ref))) l (as_++[a]) (T++[r]):=by
 have la:l≠a:=ae_ h.tn.top na;have an:a∉as_:=λz=>by obtain⟨p,hp,e⟩:=Ay_.mp z;have:=h.tn.row p a (by rw[Ac_ hp,e]);rw[na]at this;cases this
 show⟨⟨ab_,by simp[h.tn.len],λp b hb=>?_⟩,Br_.mpr ⟨h.nd,s_,λx hx y hy e=>an (by rw[<-An_.mp hy,<-e];show hx)⟩,λz=>?_,h.fl,λb hb=>?_⟩
 .have bl:b≠l:=λe=>by
   rw[e]at hb
   rcases AB_.mp (Ai_ hb)with z|z
   .show h.nl z
   .show la (An_.mp z)
  rw[aj_ bl];by_cases hp:p<as_.length
  .rw[AF_ hp]at hb;have e:=h.tn.row p b hb;rw[aj_ (λz=>by rw[z,na]at e;cases e),e,Aa_,Aa_,AF_ (by rw[<-h.tn.len];show hp)]
  .rw[AJ_ o_]at hb;have e:=An_.mp (Ai_ hb);have hz:p=as_.length:=by have:=(Ar_.mp hb).1;simp at this;lia
   rw[e,ab_,hz,h.tn.len,Aa_,AJ_ (Af_ _)];simp
 .rcases AB_.mp z with z|z
  .show h.nl z
  .show la (An_.mp z)
 .rcases AB_.mp hb with z|z
  .show h.fa b z
  .rw[An_.mp z];show sB.free na
abbrev FD_:Stmt:=stN 46
theorem bb_:ZL ["_law_big_here","_law_posts","_law_many","_law_within","_law_turns","_law_wire","_law_corners_here","_law_one","_law_way","_law_region_here","_law_other","_law_p","_law_k"] ["_law_big_here","_law_posts","_law_many","_law_within"] (Fn_ FD_):=zL
theorem bk_:LK FD_ "_law_turns" .local:=r_
theorem f0_:LK FD_ "_law_corners" .globalImplicit:=r_
theorem ha_:LK FD_ "_law_mates" .globalImplicit:=r_
theorem gB_:LK FD_ "_law_region" .globalImplicit:=r_
theorem bQ_:LK FD_ "len" .globalImplicit:=r_
theorem eQ_:LK FD_ "range" .globalImplicit:=r_
theorem hb_:LK FD_ "sorted" .globalImplicit:=r_
def It_:Sp:=λvs H Q _=>∃(z:Int)(P W:Nat),vs=[.int z,.int P,.int W,.int 10]/\1<=P/\P<=6/\W<=15 /\
 ∀(p l:Addr)(as_:List Addr)(T:List (List Nat))(y:Int) H',Fo_ H H'->H' p=some (.tup [.ref l,.int y])->To H H' l as_ T->GrH P W T->Q (.ref p) H'
theorem ow_(T:Txt K mg)(F:Fn0 K mg "_law_grown" FD_) (IM_:Cal P w K mg base "_law_corners" ["_law_turns","_law_posts"] 1 HE_) (JF_:Cal P w K mg base "_law_mates" ["_law_turns"] 1 Iv_) (Jg_:Cal P w K mg base "_law_region" ["_law_turns","_law_posts","_law_mates_here","_law_corner"] 2 HV_):Cal P w K mg base "_law_grown" ["_law_big_here","_law_posts","_law_many","_law_within"] 3 It_:=by
  show aB_ F bb_.1 λf cdv A outer s H vs Q E hr h=>?_;obtain⟨z,Pp,W,rfl,P1,P6,W15,k⟩:=h;refine'⟨_,?D,?R⟩
  case D =>
   refine' ar_ (gj_ (i:=4) (N':=["_law_p"]) (ix:=[none]) rfl rfl bb_.nd rfl bk_ rfl (aM_ ?a) (aT_ eQ_ T.n_range (pa_c (zv 1 bb_) ac_)) (λ_ _ _=>?b) (λ_ _ _=>?c) (λ_ _ _=>(by_ ac_))) ?d
   case a=>show(by change GD_ (Fn_ FD_) ["_law_big_here","_law_posts","_law_many","_law_within","_law_turns","_law_wire","_law_corners_here","_law_one","_law_way","_law_region_here","_law_other","_law_p","_law_k"] _ _ _=true;decide +kernel)
   case b=>show ah_ (i:=0) (by change List.Nodup (["_law_p"]:List Str);decide +kernel) rfl rfl
   case c=>show aO_
   case' d=>refine' ad_ ?e (ag_ (ao_ (aH_ (pa_c (zv 4 bb_) (pa_c (zv 0 bb_) ac_)))))
   case' e=>refine' bs_ AG_ rfl (aT_ eQ_ T.n_range (pa_c (zv 2 bb_) ac_)) ?f (ar_ (zas 6 bb_ (af_ IM_ (hr.mono d_) f0_ (pa_c (zv 4 bb_) (pa_c (zv 1 bb_) ac_)))) ?g)
   case f=>show zh 5 bb_
   case' g=>refine' ar_ (zas 7 bb_ (Fr_ al_ (zv 6 bb_) (Fp_ aL_ (zv 0 bb_) (am_ au_ bQ_ T.n_len aZ_ (pa_c (zv 6 bb_) ac_))))) ?h
   case' h=>refine' ar_ (zas 0 bb_ (Fp_ av_ (zv 0 bb_) (am_ au_ bQ_ T.n_len aZ_ (pa_c (zv 6 bb_) ac_)))) ?i
   case' i=>refine' ar_ (zas 8 bb_ (Fp_ aL_ (zv 0 bb_) aa_)) (ar_ (zas 0 bb_ (Fp_ av_ (zv 0 bb_) aa_)) (ag_ ?j))
   case' j=>refine' Ga_ ?k (ar_ ?l (ag_ (bM_ (G5_ AU_ A8_ A9_ bA_ (zv 4 bb_) (pa_c (by_ (pa_c (zv 5 bb_) ac_)) ac_))))) ?m
   case' k=>refine' PW.pt (pF_ (aA_ GN_ (zv 8 bb_) aa_ (FB_ _)) (nl_ (aA_ IJ_ (am_ au_ bQ_ T.n_len aZ_ (pa_c (zv 4 bb_) ac_)) (Fp_ aQ_ (zv 1 bb_) (zv 3 bb_)) (FB_ _))))
   case' l=>refine' bM_ (G5_ AU_ D0_ D1_ ks_ (Fr_ al_ (zv 4 bb_) (Fr_ ak_ (zv 7 bb_) aa_)) (pa_c (Fr_ ak_ (zv 7 bb_) aa_) (pa_c (zv 5 bb_) ac_)))
   case' m=>refine' ar_ ?n (ar_ (zas 10 bb_ (Fr_ al_ (zv 9 bb_) (Fp_ aL_ (zv 0 bb_) (am_ au_ bQ_ T.n_len aZ_ (pa_c (zv 9 bb_) ac_))))) ?o)
   case' n=>refine' zas 9 bb_ (af_ Jg_ (hr.mono d_) gB_ (pa_c (zv 4 bb_) (pa_c (zv 1 bb_) (pa_c (af_ JF_ (hr.mono d_) ha_ (pa_c (zv 4 bb_) ac_)) (pa_c (zv 7 bb_) ac_)))))
   case' o=>refine' ar_ (zas 0 bb_ (Fp_ av_ (zv 0 bb_) (am_ au_ bQ_ T.n_len aZ_ (pa_c (zv 9 bb_) ac_)))) ?p
   case' p=>refine' ag_ (bs_ AG_ rfl ?q (bh_ (K:=K) (n:=2) rfl rfl (an_ ?r (an_ ?s bg_))) ?t)
   case' q=>refine' ap_ (K:=K) rfl (m3_ hr.units hb_ T.n_sorted (pa_c (by_ (pa_c (zv 7 bb_) (pa_c (zv 10 bb_) ac_))) ac_))
   case r=>show zh 11 bb_
   case s=>show zh 12 bb_
   case' t=>refine' ag_ (bM_ (G5_ AU_ D0_ D1_ ks_ (Fr_ al_ (zv 4 bb_) (zv 11 bb_)) (pa_c (zv 12 bb_) (pa_c (zv 5 bb_) ac_))))
  case R =>
   nofun;show⟨o_,o_,?_⟩;rw[show Int.toNat (Pp:Int)=Pp by lia];intro D hD;show⟨λi m σ H'=>m=Pp-i/\i<=Pp/\(∃e,σ=[e])/\Fo_ H H'/\∃as_:List Addr,as_.length=i/\To H H' D as_ (List.replicate i []),⟨Pp,s_,AD_ _,⟨_,rfl⟩,Fo_.new hD,[],rfl,⟨⟨ab_,rfl,λp a h=>(by cases h)⟩,BS_,λh=>(by cases h),hD,λa h=>(by cases h)⟩⟩,?_⟩;rintro i m σ H' ⟨rfl,hi,⟨e,rfl⟩,s1,as_,al,hT⟩;by_cases hlt:i<Pp
   .show .inr ⟨hlt,λσ2 H2=>(∃e,σ2=[e])/\Fo_ H H2/\∃as_:List Addr,as_.length=i+1/\To H H2 D as_ (List.replicate (i+1) []),λσ2 H2 ⟨a,b,c⟩=>⟨Pp-(i+1),o_,rfl,hlt,a,b,c⟩,?_⟩;rintro x H'' ⟨rfl,rfl⟩;nofun;show⟨AD_ _,λa na=>?_⟩;have fa:H a=none:=s1.free na;have Da:D≠a:=ae_ hT.tn.top na;show⟨as_.map V.ref,by rw[aj_ Da];show hT.tn.top,Fq_ (by rw[Ab_];lia),⟨_,rfl⟩,λb o hb=>?_,as_++[a],by simp[al],?_⟩
    .rw[aj_ (ae_ hb hD),aj_ (ae_ hb fa)];show s1 _ _ hb
    .have an:a∉as_:=λh=>by obtain⟨p,hp,e⟩:=Ay_.mp h;have:=hT.tn.row p a (by rw[Ac_ hp,e]);rw[na]at this;cases this
     show⟨⟨by rw[ab_,Au_];rfl,by simp[al],λp b hb=>?_⟩,?_,?_,hD,λb hb=>?_⟩
     .have hbD:b≠D:=λe=>by
       rw[e]at hb
       rcases AB_.mp (Ai_ hb)with h|h
       .show hT.nl h
       .show Da (An_.mp h)
      rw[aj_ hbD];by_cases hp:p<as_.length
      .rw[AF_ hp]at hb;have e:=hT.tn.row p b hb;rw[aj_ (λz=>by rw[z,na]at e;cases e),e,lN_,show([]:List Nat)::List.replicate i []=List.replicate (i+1) []from rfl,lN_]
      .have e:b=a:=by rw[AJ_ o_]at hb;have:=Ai_ hb;show An_.mp this
       rw[e,ab_,show([]:List Nat)::List.replicate i []=List.replicate (i+1) []from rfl,lN_];rfl
     .show Br_.mpr ⟨hT.nd,s_,λx hx y hy e=>an (by rw[<-An_.mp hy,<-e];show hx)⟩
     .intro h
      rcases AB_.mp h with h|h
      .show hT.nl h
      .show Da (An_.mp h)
     .rcases AB_.mp hb with h|h
      .show hT.fa b h
      .rw[An_.mp h];show fa
   .have e:i=Pp:=o_
    subst e;show .inl ⟨Af_ _,?_⟩;nofun;show⟨o_,o_,?_⟩;rw[show Int.toNat (W:Int)=W by lia];show kF_ (λv σ H2=>∃(z:Int)(e5 e6 e7 e8 e9 e10 e11 e12:Option V)(as_:List Addr)(T:List (List Nat)),σ=[some (.int z),some (.int i),some (.int W),some (.int 10),some (.ref D),e5,e6,e7,e8,e9,e10,e11,e12]/\Fo_ H H2/\To H H2 D as_ T/\GrH i v T) ⟨z,none,none,none,none,none,none,none,none,as_,_,rfl,s1,hT,om_ i⟩ ?_ ?_
    .rintro v σ H2 hv kc kb hkc hkb G hG ⟨z,e5,e6,e7,e8,e9,e10,e11,e12,as_,T,rfl,s2,hT,gr⟩;show hG ?_;have hv':v<W:=hv;have gc:=gr.corners;have gl:=gr.len;have gm:=gr.most;nofun;show⟨D,as_,T,i,rfl,hT.tn,o_,o_,λR H3 s3 repR=>?_⟩;obtain⟨_,vs,e0,hR',hvs⟩:=id repR;cases e0;obtain⟨nR,hR⟩:=aV_ hR';have hvl:vs.length=(corners T i).length:=by rw[hvs.length,Ab_]
     have c0:0<(corners T i).length:=by have:(0,0)∈corners T i:=fk_.mpr ⟨by change 0<T.length;lia,by change 0<_+(if 0<i then 1 else 0);rw[if_pos o_];lia⟩;show El_ this
     obtain⟨j,hj,jl⟩:∃j:Nat,z%(vs.length:Int)=j/\j<vs.length:=⟨(z%(vs.length:Int)).toNat,by have:=AC_ z (show(vs.length:Int)≠0 by lia);lia,by have:=AC_ z (show(vs.length:Int)≠0 by lia);have:=Ax_ z (show(0:Int)<(vs.length:Int) by lia);lia⟩;obtain⟨xs,ex,hcs⟩:=qb_ (FE_.mono aq_ _ hvs);have ec:(corners T i)[j]?=some ((corners T i)[j]'o_):=Ac_ _;obtain⟨q,hxq,hq⟩:=hcs.get ec;have ic:IsC T i ((corners T i)[j]'o_):=fk_.mp (AO_ _);generalize(corners T i)[j]'o_=c at*
     have lg:((vs.length:Int)).natAbs.log2<9000:=by
      have:((vs.length:Int)).natAbs<=1000:=o_
      by_cases h0:((vs.length:Int)).natAbs=0
      .rw[h0];decide
      .rw[Dw_ h0];show BF_ this r_
     nofun;show⟨vs,.inl hR,o_,vs,hR,.ref q,?_,?_⟩
     .rw[hj];show cq_ o_ ?_;rw[AM_,ex,Ad_,hxq];rfl
     nofun;show⟨vs,.inl hR,o_,lg,?_⟩;nofun;show⟨d_,?_⟩;nofun;show⟨d_,r_,?_⟩;nofun;have hT3:=hT.mono s3;have s23:=s2.trans s3;have cb:c.2<=rl T c.1:=by have:=ic.2;split at this <;> lia
     show both (as_.map V.ref) (.inl hT3.tn.top) (λh1 h2=>?_) ?_
     .obtain⟨a,ea,at0,ra⟩:=hT3.tn.at_ ic.1;have rw30:rl T c.1<=30:=by have:=JC_ T c.1;rw[gr.tot]at this;lia
      have rln:(T.getD c.1 []).length=rl T c.1:=rfl;have Da:D≠a:=λe=>hT3.nl (by rw[e];show Ai_ ea);have fa:=hT3.fa a (Ai_ ea);nofun;show⟨_,hq,_,F4_,_,_,rfl,hT3.tn.top,.ref a,at0,.inl ⟨_,.inl (.inl ra)⟩,_,hq,_,Ge_,a,rfl,_,_,rfl,ra,o_,by rw[Ab_,rln];lia,by rw[Ab_,rln];lia,?_⟩;rw[AM_,lO_];have hT4:=hT3.ins ea v;have s4:Fo_ H (upd H3 a (.lst ((RimT.ins (T.getD c.1 []) c.2 v).map λn:Nat=>V.int n))):=λb o hb=>by rw[aj_ (ae_ hb fa)];show s23 _ _ hb
      generalize upd H3 a (.lst ((RimT.ins (T.getD c.1 []) c.2 v).map λn:Nat=>V.int n))=H4 at*;nofun;show⟨.inl ⟨_,.inl (.inl hT4.tn.top)⟩,d_,λp np=>?_⟩;have Dp:D≠p:=ae_ hT4.tn.top np;have hT5:=hT4.more s4 np [v];show⟨as_.map V.ref,by rw[aj_ Dp];show hT4.tn.top,Fq_ (by rw[Ab_];have:=hT4.tn.len;rw[ax_]at this;lia),?_⟩;have e1:as_.map V.ref++[V.ref p]=(as_++[p]).map V.ref:=s_
      have e2:[V.int (0+(v:Nat))]=[v].map λn:Nat=>V.int n:=s_
      rw[e1,e2];show hkc _ _ ⟨_,_,_,_,_,_,_,_,_,_,_,rfl,λb o hb=>?_,hT5,pm_ gr ic.1 (by rw[Ab_]at h2;have:=hT3.tn.len;lia)⟩;rw[aj_ (ae_ hb hT.fl),aj_ (ae_ hb (s4.free np))];show s4 _ _ hb
     .have rl30:∀p,rl T p<=30:=λp=>by have:=JC_ T p;rw[gr.tot]at this;lia
      nofun;show⟨Nat,_,_,λn:Nat=>.inl (n:Int),D,as_,T,rfl,λ_=>rfl,λa b h=>Int.ofNat.inj (Sum.inl.inj h),hT3.tn,gr.tw,o_,rl30,λM H4 s4 nM hM=>?_⟩;show⟨_,_,_,D,M,q,as_,T,i,c,rfl,hT3.tn.mono s4,hM,gr.tw,o_,gl,s4 _ _ hq,ic,o_,λR2 H5 xs2 cs2 s5 nR2 hR2 hcs2 ne2 len2 all2 _ _ _=>?_⟩;have x2l:xs2.length=cs2.length:=hcs2.len;have l2:0<cs2.length:=EW_.mpr ne2
      have lg2:(((xs2.map V.ref).length:Int)).natAbs.log2<9000:=by
       rw[Ab_];by_cases h0:((xs2.length:Int)).natAbs=0
       .rw[h0];decide
       .rw[Dw_ h0];show BF_ (show((xs2.length:Int)).natAbs<=1000 by lia) r_
      generalize hy:z/(vs.length:Int)/3=y;obtain⟨j2,hj2,jl2⟩:∃j:Nat,y%((xs2.map V.ref).length:Int)=j/\j<xs2.length:=by rw[Ab_];have a1:=AC_ y (show(xs2.length:Int)≠0 by lia);have a2:=Ax_ y (show(0:Int)<(xs2.length:Int) by lia);show⟨(y%(xs2.length:Int)).toNat,o_,o_⟩
      have ec2:cs2[j2]?=some (cs2[j2]'o_):=Ac_ _;obtain⟨q2,hxq2,hq2⟩:=hcs2.get ec2;have ic2:IsC T i (cs2[j2]'o_):=all2 _ (AO_ _);generalize cs2[j2]'o_=d at*;have hq5:=s5 _ _ (s4 _ _ hq);nofun;show⟨_,.inl hR2,by rw[Ab_];lia,_,hR2,.ref q2,?_,?_⟩
      .rw[hj2];show cq_ o_ ?_;rw[AM_,Ad_,hxq2];rfl
      nofun;show⟨_,.inl hR2,by rw[Ab_];lia,lg2,?_⟩;nofun;show⟨d_,λp np=>⟨(c.1,c.2),(Fo_.new np) _ _ hq5,(d.1,d.2),(Fo_.new np) _ _ hq2,λl zs nl hzs=>⟨⟨_,.inl (.inl ab_)⟩,?_⟩⟩⟩
      obtain⟨r1,r2,a1,a2,ez,g1,g2,i1,i2⟩:∃(r1 r2:Addr)(a1 a2:Nat×Nat),zs=[V.ref r1,V.ref r2]/\H5 r1=some (cV a1)/\H5 r2=some (cV a2)/\IsC T i a1/\IsC T i a2:=by
       rcases hzs with e|e
       .show⟨q,q2,c,d,e,hq5,hq2,ic,ic2⟩
       .show⟨q2,q,d,c,e,hq2,hq5,ic2,ic⟩
      have S6:Fo_ H5 (upd (upd H5 p (HO.lst [V.ref q,V.ref q2])) l (HO.lst zs)):=(Fo_.new np).trans (Fo_.new nl);have hT6:=((hT3.mono s4).mono s5).mono S6;have s6:Fo_ H (upd (upd H5 p (HO.lst [V.ref q,V.ref q2])) l (HO.lst zs)):=s23.trans (s4.trans (s5.trans S6));have hl6:=ab_ (H:=upd H5 p (HO.lst [V.ref q,V.ref q2])) (a:=l) (o:=HO.lst zs);have h61:=S6 _ _ g1;have h62:=S6 _ _ g2;have lT:l∉as_:=λz=>by obtain⟨p',hp',e⟩:=Ay_.mp z;have e2:=((hT3.mono s4).mono s5).tn.row p' l (by rw[Ac_ hp',e]);have e3:=(Fo_.new np (o:=HO.lst [V.ref q,V.ref q2])) _ _ e2;rw[nl]at e3;cases e3
      generalize upd (upd H5 p (HO.lst [V.ref q,V.ref q2])) l (HO.lst zs)=H6 at*;have notT:∀r a,H6 r=some (cV a)->r∉as_:=λr a hr z=>by obtain⟨p',hp',e⟩:=Ay_.mp z;have e2:=hT6.tn.row p' r (by rw[Ac_ hp',e]);rw[hr]at e2;cases e2
      subst ez
      have step:∀(T':List (List Nat))(a:Nat×Nat)(H7:Hp),T'.length=T.length->(∀p,rl T p<=rl T' p)->(∀p,rl T' p<=40)->IsC T i a->To H H7 D as_ T'->Fo_ H H7->∃ad,atI (as_.map V.ref) (a.1:Int)=some (.ref ad)/\H7 ad=some (.lst ((T'.getD a.1 []).map λn:Nat=>V.int n))/\(a.2:Nat)<=(T'.getD a.1 []).length/\(T'.getD a.1 []).length<1000/\ad∈as_/\To H (upd H7 ad (.lst ((RimT.ins (T'.getD a.1 []) a.2 v).map λn:Nat=>V.int n))) D as_ (F0_ T' a v)/\Fo_ H (upd H7 ad (.lst ((RimT.ins (T'.getD a.1 []) a.2 v).map λn:Nat=>V.int n))):=λT' a H7 hl hm h40 ia hT7 s7=>by
       obtain⟨ad,ea,at0,ra⟩:=hT7.tn.at_ (p:=a.1) (by rw[hl];show ia.1);have:=ia.2;have m1:=hm a.1;have m2:=h40 a.1;have ab:a.2<=rl T a.1:=by split at this <;> lia
       show⟨ad,at0,ra,by unfold rl at*;lia,by unfold rl at*;lia,Ai_ ea,hT7.ins ea v,λb o hb=>?_⟩;rw[aj_ (ae_ hb (hT7.fa ad (Ai_ ea)))];show s7 _ _ hb
      have lenS:∀(T':List (List Nat))(a:Nat×Nat)(p:Nat),rl (F0_ T' a v) p<=rl T' p+1:=λT' a p=>by
       unfold F0_ rl;rw[Aa_,Aa_,Bk_];by_cases h:a.1=p
       .subst h;by_cases h2:a.1<T'.length
        .simp only[if_true,h2,Option.getD_some,gn_];rw[Aa_];show Af_ _
        .simp[h2,Bs_ (Cx_.mp h2)]
       .simp[h]
      show jy_ (xs:=[V.ref r1,V.ref r2]) (λt σ H7=>∃(e11 e12:Option V),σ=[some (.int (y/((xs2.map V.ref).length:Int))),some (.int i),some (.int W),some (.int 10),some (.ref D),some (.int (0+(v:Nat))),some (.ref R),some (.ref q),some (.int (z/(vs.length:Int)%3)),some (.ref R2),some (.ref q2),e11,e12]/\Fo_ H H7/\(∀b o,b∉as_->H6 b=some o->H7 b=some o)/\To H H7 D as_ (if t=0 then T else if t=1 then F0_ T a1 v else F0_ (F0_ T a1 v) a2 v)) ⟨e11,e12,rfl,s6,λb o _ h=>h,hT6⟩ ?_ ?_ ?_
      .rintro t σ H7 ht ⟨e11,e12,rfl,s7,k7,hT7⟩;show .inl (.inl (k7 _ _ lT hl6))
      .rintro t x σ H7 hx kc2 kb2 hkc2 hkb2 G2 hG2 ⟨e11,e12,rfl,s7,k7,hT7⟩;show hG2 ?_
       match t,hx with
       |0,hx =>
        cases hx;have hr1:=k7 _ _ (notT _ _ h61) h61;obtain⟨ad,at0,ra,ab,a1000,ain,hT8,s8⟩:=step T a1 H7 rfl (λ_=>Af_ _) (λp=>by have:=rl30 p;lia) i1 hT7 s7;nofun;show⟨_,SqT.of hr1,rfl,_,_,rfl,_,_,rfl,rfl,_,_,rfl,hT7.tn.top,.ref ad,at0,.inl ⟨_,.inl (.inl ra)⟩,ad,rfl,_,_,rfl,ra,o_,by rw[Ab_,AM_];show ab,by rw[Ab_];show a1000,?_⟩;rw[AM_,lO_];show hkc2 _ _ ⟨_,_,rfl,s8,λb o hb h=>by rw[aj_ (λe=>hb (by rw[e];show ain))];show k7 b o hb h,hT8⟩
       |1,hx =>
        cases hx;have hr2:=k7 _ _ (notT _ _ h62) h62;obtain⟨ad,at0,ra,ab,a1000,ain,hT8,s8⟩:=step (F0_ T a1 v) a2 H7 (ax_ ..) (λp=>hp_ v p) (λp=>by have:=rl30 p;have:=lenS T a1 p;lia) i2 hT7 s7;nofun;show⟨_,SqT.of hr2,rfl,_,_,rfl,_,_,rfl,rfl,_,_,rfl,hT7.tn.top,.ref ad,at0,.inl ⟨_,.inl (.inl ra)⟩,ad,rfl,_,_,rfl,ra,o_,by rw[Ab_,AM_];show ab,by rw[Ab_];show a1000,?_⟩;rw[AM_,lO_];show hkc2 _ _ ⟨_,_,rfl,s8,λb o hb h=>by rw[aj_ (λe=>hb (by rw[e];show ain))];show k7 b o hb h,hT8⟩
      .rintro σ H7 ⟨e11,e12,rfl,s7,k7,hT7⟩;show hkc _ _ ⟨_,_,_,_,_,_,_,_,_,as_,_,rfl,s7,hT7,qX_ gr i1.1 i2.1⟩
    .rintro σ H2 ⟨z,e5,e6,e7,e8,e9,e10,e11,e12,as_,T,rfl,s2,hT,gr⟩;nofun;show⟨d_,λp np=>k p D as_ T z _ (s2.trans (Fo_.new np)) ab_ (hT.mono (Fo_.new np)) gr⟩
def sgs:List Nat:=(Str.ofString "abcdefghijklmnopqrstuvwxyz0123456789").cps.toList
theorem ox_:sgs.length=36:=r_
theorem sa_:sgs.Nodup:=r_
def sg(i:Nat):Nat:=sgs.getD i 0
theorem Kp_(h:i<36):sgs[i]?=some (sg i):=by unfold sg;rw[Aa_,Ac_ (by rw[ox_];show h)];rfl
theorem oy_{j:Nat}(hi:i<36)(hj:j<36)(h:sg i=sg j):i=j:=(BO_ (by rw[ox_];show hi) sa_).mp (by rw[Kp_ hi,Kp_ hj,h])
theorem mJ_{z:Int}(h0:0<=z)(h1:z<36):atI sgs z=some (sg z.toNat):=cq_ h0 (Kp_ o_)
def one(c:Nat):Str:=⟨#[c]⟩
def nmA(hd tl:Str)(fi k:Nat):Str:=hd++one (sg ((fi+7*k)%36))++tl
theorem pt_(a b:Str):(a++b).cps.toList=a.cps.toList++b.cps.toList:=by change(a.cps++b.cps).toList=_;simp
theorem q8_{hd tl:Str}{fi a b:Nat}(ha:a<16)(hb:b<16)(h:nmA hd tl fi a=nmA hd tl fi b):a=b:=by have e:=congrArg (λs:Str=>s.cps.toList) h;simp only[nmA,pt_]at e;have e2:=List.append_cancel_right e;have e3:=List.append_cancel_left e2;have e4:sg ((fi+7*a)%36)=sg ((fi+7*b)%36):=(EL_ e3).1;have:=oy_ (Bw_ _ d_) (Bw_ _ d_) e4;lia
def nmB(fi k:Nat):Str:=⟨(List.replicate (1+k%7) (sg fi)++if 6<k then[sg ((fi+1+k/7)%36)]else[]).toArray⟩
theorem q9_{fi a b:Nat}(hf:fi<36)(ha:a<16)(hb:b<16)(h:nmB fi a=nmB fi b):a=b:=by
 have e0:=congrArg (λs:Str=>s.cps.toList) h;have e:List.replicate (1+a%7) (sg fi)++(if 6<a then[sg ((fi+1+a/7)%36)]else[])=List.replicate (1+b%7) (sg fi)++(if 6<b then[sg ((fi+1+b/7)%36)]else[]):=by simpa[nmB]using e0
 have ne:∀c,6<c->c<16->sg ((fi+1+c/7)%36)≠sg fi:=λc h1 h2 z=>by have:=oy_ (Bw_ _ d_) hf z;lia
 have len:=congrArg List.length e;simp only[At_,C9_]at len;have last:=congrArg List.getLast? e;by_cases h1:6<a <;> by_cases h2:6<b
 .rw[if_pos h1,if_pos h2]at last len;rw[BM_,BM_]at last;have e4:sg ((fi+1+a/7)%36)=sg ((fi+1+b/7)%36):=by simpa using last
  have:=oy_ (Bw_ _ d_) (Bw_ _ d_) e4;simp at len;lia
 .rw[if_pos h1,if_neg h2]at last;rw[BM_,By_,Dk_ 1 (b%7),EH_,BM_]at last;show absurd (by simpa using last) (ne a h1 ha)
 .rw[if_neg h1,if_pos h2]at last;rw[By_,Dk_ 1 (a%7),EH_,BM_,BM_]at last;show absurd (by simpa using last.symm) (ne b h2 hb)
 .rw[if_neg h1,if_neg h2]at len;simp at len;lia
theorem mK_{f:Nat->Str}(h:∀a b,a<n->b<n->f a=f b->a=b):((List.range n).map f).Nodup:=by unfold List.Nodup;rw[Cm_];show DW_ (λ{a b} ha hb ne e=>ne (h a b (AP_.mp ha) (AP_.mp hb) e)) List.nodup_range
theorem mul_one{c:Nat}:∀m:Nat,1<=m->m<=7->MulOk (one c) (m:Int)/\Txt.mul (one c) (m:Int)=⟨(List.replicate m c).toArray⟩
 |0,h,_=>absurd h d_
 |1,_,_=>⟨⟨d_,λ_ h=>absurd h s_,λ_ h=>absurd h s_⟩,rfl⟩
 |2,_,_=>⟨⟨d_,λ_ _=>(by change ¬ ((1:Int) > _);decide),λ_ _=>(by change Builtin.Str.tooLong 2=false;decide +kernel)⟩,rfl⟩
 |3,_,_=>⟨⟨d_,λ_ _=>(by change ¬ ((1:Int) > _);decide),λ_ _=>(by change Builtin.Str.tooLong 3=false;decide +kernel)⟩,rfl⟩
 |4,_,_=>⟨⟨d_,λ_ _=>(by change ¬ ((1:Int) > _);decide),λ_ _=>(by change Builtin.Str.tooLong 4=false;decide +kernel)⟩,rfl⟩
 |5,_,_=>⟨⟨d_,λ_ _=>(by change ¬ ((1:Int) > _);decide),λ_ _=>(by change Builtin.Str.tooLong 5=false;decide +kernel)⟩,rfl⟩
 |6,_,_=>⟨⟨d_,λ_ _=>(by change ¬ ((1:Int) > _);decide),λ_ _=>(by change Builtin.Str.tooLong 6=false;decide +kernel)⟩,rfl⟩
 |7,_,_=>⟨⟨d_,λ_ _=>(by change ¬ ((1:Int) > _);decide),λ_ _=>(by change Builtin.Str.tooLong 7=false;decide +kernel)⟩,rfl⟩
 |m+8,_,h=>absurd h o_
def opt(x:Str)(b:Bool):Str:=if b then x else Str.empty
theorem ra_(x:Str)(p:Prop)[Decidable p]:MulOk x (if p then 1 else 0)/\Txt.mul x (if p then 1 else 0)=opt x (decide p):=by
 by_cases h:p
 .rw[if_pos h,show decide p=true from BQ_ h];show⟨⟨d_,λ_ h=>absurd h s_,λ_ h=>absurd h s_⟩,rfl⟩
 .rw[if_neg h,show decide p=false from Bf_ h];show⟨⟨d_,λh=>absurd d_ h,λh=>absurd d_ h⟩,rfl⟩
theorem sb_(fi k:Nat):(⟨(List.replicate (1+k%7) (sg fi)).toArray⟩:Str)++opt (one (sg ((fi+1+k/7)%36))) (decide (6<k))=nmB fi k:=by
 unfold nmB opt;by_cases h:6<k
 .rw[if_pos (BQ_ h),if_pos h];change(⟨(List.replicate (1+k%7) (sg fi)).toArray++[sg ((fi+1+k/7)%36)].toArray⟩:Str)=_;rw[List.append_toArray]
 .rw[if_neg (by simp[h]),if_neg h];change(⟨_ ++ #[]⟩:Str)=_;simp
theorem cN_{H:Hp}:∀(ts:List Str),FE_ H (ts.map V.str) (ts.map Dt.str)
 |[]=>rfl
 |t::ts=>⟨_,_,rfl,rfl,cN_ ts⟩
theorem f1_{H:Hp}:∀{us:List V}{ts:List Str},FE_ H us (ts.map Dt.str)->us=ts.map V.str
 |us,[],h=>h
 |us,n::ns,⟨x,r,e,hx,hr⟩=>by
  cases hx;rw[e,f1_ hr];rfl
theorem mL_{B:Hp}{D:Addr}{ts:List Str}(hB:B D=none)(h:H D=some (.lst (ts.map V.str))):Rep (G4_ B H) (.ref D) (.lst (ts.map Dt.str)):=⟨D,_,rfl,by rw[bF_ hB];show h,cN_ ts⟩
abbrev FL_:Stmt:=stN 47
theorem aU_:ZM ["_law_big_here","_law_many","_law_signs","_law_size","_law_spot","_law_word","_law_rest","_law_k","_law_first","_law_head","_law_tail","_law_names_here","_law_more"] ["_law_big_here","_law_many"] (Fn_ FL_):=zM
theorem d2_:LK FL_ "_law_signs" .cell:=r_
theorem fA_:LK FL_ "_law_size" .local:=r_
theorem fB_:LK FL_ "_law_spot" .local:=r_
theorem cO_:LK FL_ "_law_word" .local:=r_
theorem b1_:LK FL_ "_law_rest" .local:=r_
theorem cP_:LK FL_ "_law_k" .local:=r_
theorem fC_:LK FL_ "_law_first" .cell:=r_
theorem lR_:LK FL_ "_law_head" .cell:=r_
theorem kX_:LK FL_ "_law_tail" .cell:=r_
theorem c2_:LK FL_ "_law_names_here" .local:=r_
theorem g4_:LK FL_ "_law_more" .local:=r_
theorem jQ_:LK FL_ "int" .globalImplicit:=r_
theorem cQ_:LK FL_ "range" .globalImplicit:=r_
def Iu_:Sp:=λvs H Q _=>∃(z:Int)(n:Nat),vs=[.int z,.int n]/\n<=16/\∀D (nms:List Str) H',Fo_ H H'->Rep (G4_ H H') (.ref D) (.lst (nms.map Dt.str))->nms.length=n->nms.Nodup->Q (.ref D) H'
theorem oz_(T:Txt K mg)(F:Fn0 K mg "_law_names" FL_):Cal P w K mg base "_law_names" ["_law_big_here","_law_many"] 1 Iu_:=by
  show aB_ F aU_.1 λf cdv A outer s H vs Q E hr h=>?_;obtain⟨z,n,rfl,n16,k⟩:=h;refine'⟨_,?D,?R⟩
  case D =>
   refine' ad_ (bp_ (i:=2) aU_.nd rfl d2_ rfl pE_ rfl) (ad_ (ai_ (i:=3) aU_.nd rfl fA_ (Fp_ aQ_ aa_ (Fp_ aL_ (zw 0 aU_) aa_))) ?a)
   case' a=>refine' ad_ (ai_ (i:=4) aU_.nd rfl fB_ (Fp_ aL_ (Fp_ av_ (zw 0 aU_) aa_) (zw 3 aU_))) (ad_ (ai_ (i:=5) aU_.nd rfl cO_ pE_) ?b)
   case' b=>refine' ad_ (ai_ (i:=6) aU_.nd rfl b1_ (Fp_ av_ (zw 0 aU_) aa_)) (ad_ (bs_ AG_ rfl (aT_ cQ_ T.n_range (pa_c (zw 3 aU_) ac_)) ?c ?d) ?e)
   case c=>show ah_ (i:=7) aU_.nd rfl cP_
   case' d=>refine' ad_ (ai_ (i:=5) aU_.nd rfl cO_ (Fp_ e2_ (zw 5 aU_) (Fr_ ma_ (zw 2 aU_) (Fp_ aL_ (zw 6 aU_) aa_)))) (ag_ (ai_ (i:=6) aU_.nd rfl b1_ (Fp_ av_ (zw 6 aU_) aa_)))
   case' e=>refine' ad_ (bp_ (i:=8) aU_.nd rfl fC_ rfl (Fp_ aL_ (zw 6 aU_) aa_) rfl) (ad_ (hB_ ?f (bh_ (K:=K) (n:=2) rfl rfl (an_ ?g (an_ ?h bg_)))) ?i)
   case' f=>refine' aH_ (pa_c (cs_ pX_ (zw 5 aU_) ?j (c9_ (zw 4 aU_))) (pa_c (cs_ pX_ (zw 5 aU_) (c9_ (Fp_ aQ_ (zw 4 aU_) aa_)) ?k) ac_))
   case j=>show es_
   case k=>show es_
   case g=>show dG_ (i:=9) aU_.nd rfl lR_ rfl
   case h=>show dG_ (i:=10) aU_.nd rfl kX_ rfl
   case' i=>refine' ad_ (gj_ (i:=11) (N':=["_law_k","_law_head","_law_signs","_law_first","_law_tail"]) (ix:=[none,some 9,some 2,some 8,some 10]) rfl rfl aU_.nd rfl c2_ rfl (aM_ ?l) (aT_ cQ_ T.n_range (pa_c (zw 1 aU_) ac_)) (λ_ _ _=>?m) (λ_ _ _=>?n) (λ_ _ _=>?o)) ?p
   case l=>show(by change GD_ (Fn_ FL_) ["_law_big_here","_law_many","_law_signs","_law_size","_law_spot","_law_word","_law_rest","_law_k","_law_first","_law_head","_law_tail","_law_names_here","_law_more"] _ _ _=true;decide +kernel)
   case m=>show ah_ (i:=0) (by change List.Nodup (["_law_k","_law_head","_law_signs","_law_first","_law_tail"]:List Str);decide +kernel) rfl rfl
   case n=>show aO_
   case' o=>refine' Fp_ e2_ (Fp_ e2_ (pvc 1 rfl rfl) (Fr_ ma_ (pvc 2 rfl rfl) (Fp_ aL_ (Fp_ aQ_ (pvc 3 rfl rfl) (Fp_ gN_ aa_ (pv1 0 rfl rfl))) aa_))) (pvc 4 rfl rfl)
   case' p=>refine' ad_ (Ga_ (aA_ GN_ (Fp_ aL_ (Fp_ av_ (zw 6 aU_) aa_) aa_) aa_ (FB_ _)) ?q aP_) (ag_ (ao_ (zw 11 aU_)))
   case' q=>refine' ad_ (ai_ (i:=11) aU_.nd rfl c2_ (by_ ac_)) (ag_ (bs_ AG_ rfl (aT_ cQ_ T.n_range (pa_c (zw 1 aU_) ac_)) ?r ?s))
   case r=>show ah_ (i:=7) aU_.nd rfl cP_
   case' s=>refine' ad_ (ai_ (i:=12) aU_.nd rfl g4_ (Fr_ ma_ (zw 2 aU_) (Fp_ aL_ (Fp_ aQ_ (Fp_ aQ_ (zw 8 aU_) aa_) (Fp_ av_ (zw 7 aU_) aa_)) aa_))) (ag_ ?t)
   case' t=>refine' bM_ (G5_ AU_ A8_ A9_ bA_ (zw 11 aU_) (pa_c (Fp_ e2_ (Fp_ iV_ (Fr_ ma_ (zw 2 aU_) (zw 8 aU_)) (Fp_ aQ_ aa_ (Fp_ aL_ (zw 7 aU_) aa_))) ?u) ac_))
   case' u=>refine' Fp_ iV_ (zw 12 aU_) (b5_ kd_ jQ_ T.n_int nF_ (pa_c (hC_ JE_ (zw 7 aU_) aa_ (FB_ _)) ac_))
  case R =>
   nofun;have m8:=AC_ z (show(8:Int)≠0 by decide);have l8:=Ax_ z (show(0:Int)<8 by decide);show⟨d_,d_,r_,o_,d_,r_,o_,o_,?_⟩;have sz:100000<=sizeLine:=by rw[BT_];decide
   have sl:(Str.ofString "abcdefghijklmnopqrstuvwxyz0123456789").length<=sizeLine:=Am_ r_ sz;have e1:∀c,(one c).length=1:=λ_=>rfl;generalize z/8%(1+z%8)=spot;obtain⟨size,hsize,s8⟩:∃m:Nat,(1+z%8).toNat=m/\m<=8:=⟨_,rfl,o_⟩;rw[hsize];generalize hz8:1+z%8=z8;generalize z/64=r0;show b4_ (λi σ H'=>∃(word:Str)(rest:Int)(e7:Option V),σ=[some (.int z),some (.int n),some (.str (Str.ofString "abcdefghijklmnopqrstuvwxyz0123456789")),some (.int z8),some (.int spot),some (.str word),some (.int rest),e7,none,none,none,none,none]/\H'=H/\word.length<=i) ⟨_,r0,none,rfl,rfl,r_⟩ ?_ ?_
   .rintro i σ H' hi ⟨word,rest,e7,rfl,rfl,wl⟩;have hi':i<size:=hi;nofun;have m36:=AC_ rest (show(36:Int)≠0 by decide);have l36:=Ax_ rest (show(0:Int)<36 by decide);show⟨d_,sl,_,mJ_ m36 l36,?_⟩;have e2:(⟨#[sg (rest%36).toNat]⟩:Str).length=1:=rfl;show⟨o_,d_,r_,by rw[n0_];lia⟩
   .rintro σ H' ⟨word,rest,e7,rfl,rfl,wl⟩;nofun;show⟨d_,o_,λhd hl _=>⟨o_,λtl tl' _=>⟨d_,λp np=>⟨_,SqT.of ab_,rfl,_,_,rfl,_,_,rfl,rfl,o_,o_,?_⟩⟩⟩⟩;have S1:Fo_ H' (upd H' p (HO.tup [V.str hd,V.str tl])):=Fo_.new np;generalize upd H' p (HO.tup [V.str hd,V.str tl])=H1 at*;obtain⟨fi,hfi,fi36⟩:∃fi:Nat,rest%36=fi/\fi<36:=by have a1:=AC_ rest (show(36:Int)≠0 by decide);have a2:=Ax_ rest (show(0:Int)<36 by decide);show⟨(rest%36).toNat,o_,o_⟩
    rw[hfi,show Int.toNat (n:Int)=n by lia];show ay_ (n:=n) (B:=λ_=>none) (Pσ:=λσ=>∃e,σ=[e,some (.str hd),some (.str (Str.ofString "abcdefghijklmnopqrstuvwxyz0123456789")),some (.int fi),some (.str tl)]) (ds:=((List.range n).map (nmA hd tl fi)).map Dt.str) (λb o e=>by cases e) ⟨_,rfl⟩ s_ o_ (λj H2 hj s2=>hj) (λH2 s2=>Af_ _) ?_ ?_
    .rintro D i x d σ' H2 H2' hD hDo hs2 hi hdi ⟨rfl,rfl⟩ ⟨e,rfl⟩ R kR;nofun;have hi':i<n:=hi;have hd2:d=Dt.str (nmA hd tl fi i):=by rw[Ad_,Ad_,Bq_ hi']at hdi;show(Ak_ hdi).symm
     have eI:((fi:Int)+7*(0+(i:Nat)))%36=(((fi+7*i)%36:Nat):Int):=o_
     have lt36:(fi+7*i)%36<36:=Bw_ _ d_;rw[eI];show⟨.inl ⟨d_,d_⟩,d_,sl,_,mJ_ o_ o_,?_⟩;rw[AM_];have e2:(⟨#[sg ((fi+7*i)%36)]⟩:Str).length=1:=rfl;show⟨o_,by rw[n0_];lia,?_⟩;show kR _ _ _ ⟨_,rfl⟩ (Fo_.refl _) ?_;rw[hd2];show rfl
    .intro D H2 hD s2 rep2;show⟨d_,r_,d_,ite2 (λ_=>?_) (λ_=>?_)⟩
     .show⟨AD_ _,λl nl=>⟨o_,o_,?_⟩⟩;have nl':H' l=none:=(S1.trans s2).free nl;show b4_ (λi σ H3=>∃(e7 e12:Option V),σ=[some (.int z),some (.int n),some (.str (Str.ofString "abcdefghijklmnopqrstuvwxyz0123456789")),some (.int z8),some (.int spot),some (.str word),some (.int rest),e7,some (.int fi),some (.str hd),some (.str tl),some (.ref l),e12]/\Fo_ H' H3/\H3 l=some (.lst (((List.range i).map (nmB fi)).map V.str))) ⟨_,_,rfl,(S1.trans s2).upd nl',ab_⟩ ?_ ?_
      .rintro i σ H3 hi ⟨e7,e12,rfl,s3,hl3⟩;have hi':i<n:=hi;nofun;have eI:((fi:Int)+1+(0+(i:Nat))/7)%36=(((fi+1+i/7)%36:Nat):Int):=o_
       have lt36:(fi+1+i/7)%36<36:=Bw_ _ d_;have eM:(1:Int)+(0+(i:Nat))%7=((1+i%7:Nat):Int):=o_
       rw[eI,eM];obtain⟨mo,me⟩:=mul_one (c:=sg fi) (1+i%7) o_ o_;show⟨d_,r_,d_,sl,_,mJ_ o_ o_,?_⟩;show⟨.inl ⟨_,.inl (.inl hl3)⟩,sl,_,mJ_ o_ o_,d_,?_⟩;rw[AM_,AM_];change MulOk (one (sg fi)) _/\_;show⟨mo,.inr ?_⟩;change MulOk (one (sg ((fi+1+i/7)%36))) _/\((Txt.mul (one (sg fi)) _).length+(Txt.mul (one (sg ((fi+1+i/7)%36))) _).length<=sizeLine)/\∃x,_/\_/\Fo_ H' (upd H3 l (HO.lst (x++[V.str (Txt.mul (one (sg fi)) _++Txt.mul (one (sg ((fi+1+i/7)%36))) _)])))/\x++[V.str (Txt.mul (one (sg fi)) _++Txt.mul (one (sg ((fi+1+i/7)%36))) _)]=_;obtain⟨p1,p2⟩:=ra_ (one (sg ((fi+1+i/7)%36))) (6<0+(i:Int));have ln:(⟨(List.replicate (1+i%7) (sg fi)).toArray⟩:Str).length<=7:=by change((List.replicate (1+i%7) (sg fi)).toArray).size<=7;simp;lia
       have lo:(opt (one (sg ((fi+1+i/7)%36))) (decide (6<0+(i:Int)))).length<=1:=by
        unfold opt;split
        .show Af_ _
        .show AD_ _
       rw[me,p2];have eD:decide (6<0+(i:Int))=decide (6<i):=by apply Ff_.mpr;lia
       show⟨p1,o_,_,hl3,Fq_ (by simp;lia),λb o hb=>?_,?_⟩
       .rw[aj_ (ae_ hb nl')];show s3 _ _ hb
       .rw[eD,sb_,B9_,Au_,Au_];rfl
      .rintro σ H3 ⟨e7,e12,rfl,s3,hl3⟩;nofun;show k l _ H3 s3 (mL_ nl' hl3) s_ (mK_ λa b ha hb e=>q9_ fi36 o_ o_ e)
     .obtain⟨_,us,e0,hD2,hus⟩:=id rep2;cases e0;rw[f1_ hus]at hD2;show k D _ H2 (S1.trans s2) (mL_ (S1.free hD) (aV_ hD2).2) s_ (mK_ λa b ha hb e=>q8_ o_ o_ e)
def rot(l:List Nat)(t:Nat):List Nat:=l.drop t++l.take t
theorem oA_(l:List Nat)(t:Nat):(rot l t).length=l.length:=by unfold rot;rw[At_,BB_,AZ_];lia
theorem kY_(l:List Nat)(t x:Nat):(rot l t).count x=l.count x:=by unfold rot;rw[BN_,Dk_,<-BN_,Bt_]
theorem sc_{P W p t:Nat}(g:Gr P W T)(hp:p<T.length):Gr P W (T.set p (rot (T.getD p []) t)):=by
 have fc:∀x,(T.set p (rot (T.getD p []) t)).flatten.count x=T.flatten.count x:=λx=>by have:=hS_ x (rot (T.getD p []) t) T p hp;rw[kY_]at this;lia
 show⟨by rw[Bz_];show g.len,by rw[Bz_];show g.most,λw hw=>by rw[fc];show g.two w hw,λw hw=>?_,λq h1 h2=>?_,?_⟩
 .have:=BG_.mpr hw;rw[fc]at this;show g.lt w (BG_.mp this)
 .rw[Bz_]at h2;have:=g.ne q h1 h2;unfold rl at this⊢;rw[Aa_,Bk_];by_cases e:p=q
  .subst e;rw[if_pos rfl,if_pos hp];change 0<(rot (T.getD p []) t).length;rw[oA_];show this
  .rw[if_neg e,<-Aa_];show this
 .have:=lq_ (rot (T.getD p []) t) T p hp;rw[oA_,g.tot]at this;lia
theorem kZ_{a:Addr}:∀{l:List Addr}{p:Nat},a∉l->l.Nodup->(l.set p a).Nodup
 |[],_,_,_=>BS_
 |x::l,0,ha,h=>by
  rw[DB_];show A5_.mpr ⟨λz=>ha (Ag_ _ z),(A5_.mp h).2⟩
 |x::l,p+1,ha,h=>by
  rw[CT_];show A5_.mpr ⟨λz=>?_,kZ_ (λz=>ha (Ag_ _ z)) (A5_.mp h).2⟩
  rcases CN_ z with z|z
  .show(A5_.mp h).1 z
  .show ha (by rw[z];show Ah_)
theorem To.put{B:Hp}(h:To B H l as_ T)(sB:Fo_ B H){a:Addr}{p:Nat}(hp:p<T.length)(na:H a=none)(r:List Nat):To B (upd (upd H a (.lst (r.map λn:Nat=>V.int n))) l (.lst ((as_.set p a).map V.ref))) l (as_.set p a) (T.set p r):=by
 have la:l≠a:=ae_ h.tn.top na;have an:a∉as_:=λz=>by obtain⟨p,hp,e⟩:=Ay_.mp z;have:=h.tn.row p a (by rw[Ac_ hp,e]);rw[na]at this;cases this
 have mem:∀b,b∈as_.set p a->b=a\/b∈as_:=λb hb=>CN_ hb |>.symm;have pl:p<as_.length:=by rw[h.tn.len];show hp
 show⟨⟨ab_,by rw[Bz_,Bz_];show h.tn.len,λq b hb=>?_⟩,?_,λz=>?_,h.fl,λb hb=>?_⟩
 .have bl:b≠l:=λe=>by
   rcases mem b (Ai_ hb)with z|z
   .show la (e.symm.trans z)
   .show h.nl (by rw[<-e];show z)
  rw[aj_ bl,Aa_,Bk_];rw[Bk_]at hb;by_cases e:p=q
  .rw[if_pos e,if_pos hp];rw[if_pos e,if_pos pl]at hb;cases hb;rw[ab_];rfl
  .rw[if_neg e]at hb⊢;have e2:=h.tn.row q b hb;rw[aj_ (λz=>by rw[z,na]at e2;cases e2),e2,Aa_]
 .show kZ_ an h.nd
 .rcases mem l z with z|z
  .show la z
  .show h.nl z
 .rcases mem b hb with z|z
  .rw[z];show sB.free na
  .show h.fa b z
theorem rb_{P W p t:Nat}(g:GrH P W T)(hp:p<T.length):GrH P W (T.set p (rot (T.getD p []) t)):=by
 show⟨sc_ g.toGr hp,?_⟩
 have key:∀q w,w∈(T.set p (rot (T.getD p []) t)).getD q []↔w∈T.getD q []:=λq w=>by
  rw[Aa_,Bk_];by_cases e:p=q
  .subst e;rw[if_pos rfl,if_pos hp];change w∈rot (T.getD p []) t↔_;rw[<-BG_,kY_,BG_]
  .rw[if_neg e,<-Aa_]
 show λU h0 cl q hq=>g.hang U h0 (λa b w ha hb ua=>cl a b w ((key a w).mpr ha) ((key b w).mpr hb) ua) q (by simpa using hq)
abbrev Gm_:Stmt:=stN 48
theorem f2_:ZL ["_law_turns","_law_posts","_law_big_here","_law_p","_law_turn"] ["_law_turns","_law_posts","_law_big_here"] (Fn_ Gm_):=zL
theorem d3_:LK Gm_ "len" .globalImplicit:=r_
theorem it_:LK Gm_ "range" .globalImplicit:=r_
def Is_:Sp:=λvs H Q _=>∃(B:Hp)(l:Addr)(as_:List Addr)(T:List (List Nat))(P W:Nat)(z:Int),vs=[.ref l,.int P,.int z]/\Fo_ B H/\To B H l as_ T/\GrH P W T/\P<=6/\W<=15 /\
 ∀bs T' H',Fo_ B H'->(∀b o,b≠l->H b=some o->H' b=some o)->To B H' l bs T'->GrH P W T'->T'.length=T.length->Q (.ref l) H'
theorem oB_(T:Txt K mg)(F:Fn0 K mg "_law_begun" Gm_):Cal P w K mg base "_law_begun" ["_law_turns","_law_posts","_law_big_here"] 1 Is_:=by
  show aB_ F f2_.1 λf cdv A outer s H vs Q E hr h=>?_;obtain⟨B,l,as_,Tt,Pp,W,z,rfl,sB,hT,gr,P6,W15,k⟩:=h;have gl:=gr.len;have gm:=gr.most;refine'⟨_,?D,?R⟩
  case D =>
   refine' ad_ ?a (ag_ (ao_ (zv 0 f2_)))
   case' a=>refine' bs_ AG_ rfl (kb_ it_ T.n_range (pa_c (zv 1 f2_) (pa_c (am_ au_ d3_ T.n_len aZ_ (pa_c (zv 0 f2_) ac_)) ac_))) ?b ?c
   case b=>show zh 3 f2_
   case' c=>refine' ad_ (zas 4 f2_ (Fp_ aL_ (zv 2 f2_) (am_ au_ d3_ T.n_len aZ_ (pa_c (Fr_ al_ (zv 0 f2_) (zv 3 f2_)) ac_)))) ?d
   case' d=>refine' ad_ (zas 2 f2_ (Fp_ av_ (zv 2 f2_) (am_ au_ d3_ T.n_len aZ_ (pa_c (Fr_ al_ (zv 0 f2_) (zv 3 f2_)) ac_)))) (ag_ ?e)
   case' e=>refine' hB_ (Fp_ fL_ (cs_ dH_ (Fr_ al_ (zv 0 f2_) (zv 3 f2_)) (c9_ (zv 4 f2_)) ?f) (cs_ dH_ (Fr_ al_ (zv 0 f2_) (zv 3 f2_)) ?g (c9_ (zv 4 f2_)))) (pI_ (zv 0 f2_) (zv 3 f2_) mb_)
   case f=>show es_
   case g=>show es_
  case R =>
   nofun;have al:=hT.tn.len;show⟨_,.inl hT.tn.top,o_,o_,by rw[Ab_];lia,by rw[Ab_];lia,?_⟩;rw[Ab_,show Int.toNat ((as_.length:Nat)-(Pp:Nat):Int)=Tt.length-Pp by lia];show b4_ (λi σ H'=>∃(z:Int)(e3 e4:Option V)(bs:List Addr)(T':List (List Nat)),σ=[some (.ref l),some (.int Pp),some (.int z),e3,e4]/\Fo_ B H'/\(∀b o,b≠l->H b=some o->H' b=some o)/\To B H' l bs T'/\GrH Pp W T'/\T'.length=Tt.length) ⟨z,none,none,as_,Tt,rfl,sB,λb o _ h=>h,hT,gr,rfl⟩ ?_ ?_
   .rintro i σ H' hi ⟨z,e3,e4,bs,T',rfl,sB',kp,hT',gr',hl⟩;have hi':i<Tt.length-Pp:=hi;obtain⟨a,ea,at0,ra⟩:=hT'.tn.at_ (p:=Pp+i) o_;have r0:=gr'.ne (Pp+i) o_ o_;have rt:rl T' (Pp+i)<=30:=by have:=JC_ T' (Pp+i);rw[gr'.tot]at this;lia
    have rle:(T'.getD (Pp+i) []).length=rl T' (Pp+i):=rfl;have eP:(Pp:Int)+(i:Nat)=((Pp+i:Nat):Int):=o_
    nofun;rw[eP];have rdef:T'.getD (Pp+i) []=T'.getD (Pp+i) []:=rfl;generalize hr0:T'.getD (Pp+i) []=r at*;obtain⟨t,ht,tl⟩:∃t:Nat,z%(((r.map λn:Nat=>V.int n).length:Nat):Int)=t/\t<r.length:=by rw[Ab_];have a1:=AC_ z (show(r.length:Int)≠0 by lia);have a2:=Ax_ z (show(0:Int)<(r.length:Int) by lia);show⟨(z%(r.length:Int)).toNat,o_,o_⟩
    have lg:(((r.map λn:Nat=>V.int n).length:Int)).natAbs.log2<9000:=by
     rw[Ab_];by_cases h0:((r.length:Int)).natAbs=0
     .rw[h0];decide
     .rw[Dw_ h0];show BF_ (show((r.length:Int)).natAbs<=1000 by lia) r_
    have c1:HS_ (r.map λn:Nat=>V.int n) (some (t:Int)) none=(r.drop t).map λn:Nat=>V.int n:=by rw[hk_ _ _ (by simp;lia),C5_]
    have c2:HS_ (r.map λn:Nat=>V.int n) none (some (t:Int))=(r.take t).map λn:Nat=>V.int n:=by rw[pR_ _ _ (by simp;lia),DJ_]
    have top:=hT'.tn.top;show⟨_,top,_,at0,a,rfl,_,.inl ra,by rw[Ab_];lia,_,top,_,at0,a,rfl,_,.inl ra,by rw[Ab_];lia,lg,_,top,_,at0,a,rfl,_,ra,λp1 n1=>⟨_,(Fo_.new n1) _ _ top,_,at0,a,rfl,_,(Fo_.new n1) _ _ ra,λp2 n2=>?_⟩⟩;rw[ht,c1]at n2⊢;rw[c2];have S2:Fo_ H' (upd (upd H' p1 (HO.lst ((r.drop t).map λn:Nat=>V.int n))) p2 (HO.lst ((r.take t).map λn:Nat=>V.int n))):=(Fo_.new n1).trans (Fo_.new n2);have h1:=(Fo_.new n2 (o:=HO.lst ((r.take t).map λn:Nat=>V.int n))) _ _ (ab_ (H:=H') (a:=p1) (o:=HO.lst ((r.drop t).map λn:Nat=>V.int n)));generalize upd (upd H' p1 (HO.lst ((r.drop t).map λn:Nat=>V.int n))) p2 (HO.lst ((r.take t).map λn:Nat=>V.int n))=H2 at*;show⟨_,h1,by rw[Ab_,Ab_];show Am_ (show _<=1000 by rw[BB_,AZ_];lia) (by rw[BT_];decide),λp3 n3=>?_⟩;have e3:((r.drop t).map λn:Nat=>V.int n)++((r.take t).map λn:Nat=>V.int n)=(rot r t).map λn:Nat=>V.int n:=by rw[<-Au_];rfl
    rw[e3];have hT2:=(hT'.mono S2).put (sB'.trans S2) (p:=Pp+i) o_ n3 (rot r t);rw[List.map_set]at hT2;have lp:l≠p3:=ae_ (S2 _ _ top) n3;show⟨_,by rw[aj_ lp];show S2 _ _ top,Pp+i,?_,λb o hb=>?_,λb o hb h=>?_,bs.set (Pp+i) p3,T'.set (Pp+i) (rot r t),hT2,?_,by rw[Bz_];show hl⟩
    .have bl:=hT'.tn.len;unfold ixN;rw[Ab_];rw[if_pos o_,if_pos o_,AM_]
    .rw[aj_ (ae_ hb hT.fl),aj_ (ae_ hb ((sB'.trans S2).free n3))];show S2 _ _ (sB' _ _ hb)
    .have e4:=kp b o hb h;rw[aj_ hb,aj_ (ae_ (S2 _ _ e4) n3)];show S2 _ _ e4
    .have g2:=rb_ (t:=t) gr' (p:=Pp+i) o_;rw[hr0]at g2;show g2
   .rintro σ H' ⟨z,e3,e4,bs,T',rfl,sB',kp,hT',gr',hl⟩;nofun;show k bs T' H' sB' kp hT' gr' hl
def dS(x:Str):Dt:=.str x
def dRw(r:Str×List Str):Dt:=.tup [.str r.1,.lst (r.2.map dS)]
def dWo(r:Str×(Int×Int)):Dt:=.tup [.str r.1,.tup [.int r.2.1,.int r.2.2]]
def HM_(N:Net Str):Dt:=.tup [.lst (N.posts.map dS),.lst (N.rows.map dRw),.lst (N.worths.map dWo)]
theorem aS_{xs:List Str}(h:i<xs.length):(xs.map V.str)[i]?=some (.str (xs.getD i Str.empty)):=by rw[Ad_,Ac_ h,Aa_,Ac_ h];rfl
theorem jR_{xs:List Str}(h:xs.Nodup){a b:Nat}(ha:a<xs.length)(hb:b<xs.length)(e:xs.getD a Str.empty=xs.getD b Str.empty):a=b:=by show(BO_ ha h).mp ?_;rw[Aa_,Aa_,Ac_ ha,Ac_ hb]at e;rw[Ac_ ha,Ac_ hb];show congrArg some e
theorem k0_{α β:Type}(f:α->β):∀(l:List α)(t:Nat),(l.map f).eraseIdx t=(l.eraseIdx t).map f
 |[],_=>rfl
 |_::_,0=>rfl
 |x::l,t+1=>by change f x::(l.map f).eraseIdx t=f x::(l.eraseIdx t).map f;rw[k0_ f l t]
theorem i4_:∀{l:List Nat}{t:Nat}(h:t<l.length),(l[t]::l.eraseIdx t).Perm l
 |x::l,0,_=>.refl _
 |x::l,t+1,h=>by have ih:=i4_ (l:=l) (t:=t) (by simpa using h);change(l[t]'(by simpa using h)::x::l.eraseIdx t).Perm (x::l);show(List.Perm.swap _ _ _).trans (ih.cons x)
theorem iu_:∀{us:List V}{ts:List Str},FE_ H us (ts.map dS)->us=ts.map V.str:=λh=>f1_ h
theorem oC_{α:Type}(f:α->Dt){zs ws:List V}(h:zs.Perm ws):∀{wl:List α},FE_ H ws (wl.map f)->∃wl':List α,wl'.Perm wl/\FE_ H zs (wl'.map f):=by
 induction h with
 |nil=>show λ{wl} r=>⟨wl,.refl _,r⟩
 |cons x _ ih =>
  intro wl r;cases wl with
  |nil=>cases r
  |cons d wl =>
   obtain⟨_,_,e,hx,hr⟩:=r;cases e;obtain⟨wl',p,r'⟩:=ih hr;show⟨d::wl',p.cons d,_,_,rfl,hx,r'⟩
 |swap x y l =>
  intro wl r;cases wl with
  |nil=>cases r
  |cons d wl =>
   obtain⟨_,_,e,hx,hr⟩:=r;cases e;cases wl with
   |nil=>cases hr
   |cons d2 wl =>
    obtain⟨_,_,e,hy,hr⟩:=hr;cases e;show⟨d2::d::wl,.swap _ _ _,_,_,rfl,hy,_,_,rfl,hx,hr⟩
 |trans _ _ h1 h2 =>intro wl r;obtain⟨w1,p1,r1⟩:=h2 r;obtain⟨w2,p2,r2⟩:=h1 r1;show⟨w2,p2.trans p1,r2⟩
def L5_(H6:Hp)(a l D1 D2 O R:Addr)(Pp W n:Nat)(nms wns:List Str)(T':List (List Nat))(σ:L2.St)(H':Hp):Prop :=
 ∃(z:Int)(e11:Option V)(S:Hp)(rem dn:List Nat)(ys:List V),σ=[some (.ref a),some (.int 0),some (.int 9),some (.int z),some (.int Pp),some (.int W),some (.ref l),some (.ref D1),some (.ref D2),some (.ref O),some (.ref R),e11,none,none,none]/\Fo_ H6 S/\Fo_ S H'/\S O=none/\S R=none/\H' O=some (.lst (rem.map λn:Nat=>V.int n))/\H' R=some (.lst ys)/\FE_ S ys ((F8_ (λp=>nms.getD p Str.empty) (λv=>wns.getD v Str.empty) T' dn).map dRw)/\(dn++rem).Perm (List.range n)
def MO_(O:Addr)(H:Hp):Nat:=match H O with|some (.lst xs)=>xs.length|_=>0
abbrev Fw_:Stmt:=stN 49
theorem aE_:ZM ["_law_script","_law_at","_law_most","_law_big_here","_law_posts","_law_many","_law_turns","_law_names_here","_law_wires","_law_order","_law_rows","_law_p","_law_worths","_law_wire","_law_worth"] ["_law_script","_law_at","_law_most"] (Fn_ Fw_):=zM
theorem aG_:LK Fw_ "_law_big_here" .local:=r_
theorem c6_:LK Fw_ "_law_posts" .local:=r_
theorem cj_:LK Fw_ "_law_many" .local:=r_
theorem bK_:LK Fw_ "_law_turns" .local:=r_
theorem eR_:LK Fw_ "_law_names_here" .local:=r_
theorem g5_:LK Fw_ "_law_wires" .cell:=r_
theorem ck_:LK Fw_ "_law_order" .local:=r_
theorem d4_:LK Fw_ "_law_rows" .local:=r_
theorem d5_:LK Fw_ "_law_p" .local:=r_
theorem d6_:LK Fw_ "_law_worths" .local:=r_
theorem f3_:LK Fw_ "_law_wire" .local:=r_
theorem f4_:LK Fw_ "_law_worth" .local:=r_
theorem gC_:LK Fw_ "_law_begun" .globalImplicit:=r_
theorem bR_:LK Fw_ "_law_big" .globalImplicit:=r_
theorem gD_:LK Fw_ "_law_grown" .globalImplicit:=r_
theorem du_:LK Fw_ "_law_names" .globalImplicit:=r_
theorem fd_:LK Fw_ "_law_worth_of" .globalImplicit:=r_
theorem b8_:LK Fw_ "len" .globalImplicit:=r_
theorem iv_:LK Fw_ "list" .globalImplicit:=r_
theorem ek_:LK Fw_ "range" .globalImplicit:=r_
theorem gE_:LK Fw_ "sorted" .globalImplicit:=r_
structure WOk(N:Net Str):Prop where
 nd:(N.worths.map (·.1)).Nodup
 mem:∀x,x∈N.worths.map (·.1)↔x∈N.all
 ws:∀x∈N.worths,Ws x.2
def JU_(K:PySem.W.Frag):Sp:=λvs H Q _=>∃(a:Addr)(ns:List Int),vs=[.ref a,.int 0,.int 9]/\SqL K H a (ns.map V.int)/\∀v (N:Net Str) H',Fo_ H H'->Rep H' v (HM_ N)->FZ_ N->F1_ N->WOk N->NtH N->Q v H'
theorem nc_(T:Txt K mg)(F:Fn0 K mg "_law_net_by" Fw_) (HI_:Cal P w K mg base "_law_big" ["_law_script","_law_at"] 2 (I4_ K)) (JG_:Cal P w K mg base "_law_grown" ["_law_big_here","_law_posts","_law_many","_law_within"] 3 It_) (ID_:Cal P w K mg base "_law_names" ["_law_big_here","_law_many"] 1 Iu_) (JH_:Cal P w K mg base "_law_begun" ["_law_turns","_law_posts","_law_big_here"] 1 Is_) (Il_:Cal P w K mg base "_law_worth_of" ["_law_big_here"] 2 Iy_):Cal P w K mg base "_law_net_by" ["_law_script","_law_at","_law_most"] 4 (JU_ K):=by
  show aB_ F aE_.1 λf cdv A outer s H vs Q E hr h=>?_;obtain⟨a,ns,rfl,hS,k⟩:=h;refine'⟨_,?D,?R⟩
  case D =>
   refine' ar_ (ai_ (i:=3) aE_.nd rfl aG_ (af_ HI_ (hr.mono d_) bR_ (pa_c (zw 0 aE_) (pa_c (zw 1 aE_) ac_)))) ?a
   case' a=>refine' ar_ (ai_ (i:=4) aE_.nd rfl c6_ (Fp_ aQ_ aa_ (Fp_ aL_ (zw 3 aE_) aa_))) ?b
   case' b=>refine' ar_ (ai_ (i:=5) aE_.nd rfl cj_ (Fp_ aL_ (Fp_ av_ (zw 3 aE_) aa_) (Fp_ aQ_ (zw 2 aE_) aa_))) ?c
   case' c=>refine' ad_ (gO_ (Ga_ (aA_ GN_ (Fp_ aL_ (Fp_ av_ (Fp_ av_ (zw 3 aE_) aa_) (Fp_ aQ_ (zw 2 aE_) aa_)) aa_) aa_ (FB_ _)) ?d aP_)) ?e
   case' d=>refine' ag_ (ai_ (i:=5) aE_.nd rfl cj_ (Fp_ aL_ (Fp_ av_ (Fp_ av_ (zw 3 aE_) aa_) (Fp_ aQ_ (zw 2 aE_) aa_)) aa_))
   case' e=>refine' ar_ (hB_ ?f (bh_ (K:=K) (n:=2) rfl rfl (an_ ?g (an_ ?h bg_)))) (ar_ (ai_ (i:=7) aE_.nd rfl eR_ (af_ ID_ (hr.mono d_) du_ ?i)) ?j)
   case' f=>refine' af_ JG_ (hr.mono d_) gD_ (pa_c (Fp_ av_ (Fp_ av_ (zw 3 aE_) aa_) (Fp_ aQ_ (zw 2 aE_) aa_)) (pa_c (zw 4 aE_) (pa_c (zw 5 aE_) (pa_c aa_ ac_))))
   case g=>show ah_ (i:=6) aE_.nd rfl bK_
   case h=>show ah_ (i:=3) aE_.nd rfl aG_
   case' i=>refine' pa_c (af_ HI_ (hr.mono d_) bR_ (pa_c (zw 0 aE_) (pa_c (Fp_ aQ_ (zw 1 aE_) aa_) ac_))) (pa_c (am_ au_ b8_ T.n_len aZ_ (pa_c (zw 6 aE_) ac_)) ac_)
   case' j=>refine' ar_ ?k (ar_ (ai_ (i:=6) aE_.nd rfl bK_ (af_ JH_ (hr.mono d_) gC_ (pa_c (zw 6 aE_) (pa_c (zw 4 aE_) (pa_c (zw 3 aE_) ac_))))) ?l)
   case' k=>refine' bp_ (i:=8) aE_.nd rfl g5_ rfl (af_ ID_ (hr.mono d_) du_ (pa_c (af_ HI_ (hr.mono d_) bR_ (pa_c (zw 0 aE_) (pa_c (Fp_ aQ_ (zw 1 aE_) aa_) ac_))) (pa_c (zw 5 aE_) ac_))) rfl
   case' l=>refine' ar_ ?m (ar_ ?n (ar_ (ai_ (i:=10) aE_.nd rfl d4_ (by_ ac_)) ?o))
   case' m=>refine' ai_ (i:=9) aE_.nd rfl ck_ (ky_ rfl iv_ T.n_list ek_ T.n_range (pa_c (am_ au_ b8_ T.n_len aZ_ (pa_c (zw 6 aE_) ac_)) ac_))
   case' n=>refine' ai_ (i:=3) aE_.nd rfl aG_ (af_ HI_ (hr.mono d_) bR_ (pa_c (zw 0 aE_) (pa_c (Fp_ aQ_ (zw 1 aE_) aa_) ac_)))
   case' o=>refine' ad_ (fK_ AG_ (aA_ (hJ_ (hr.units)) (zw 9 aE_) (by_ ac_) (FB_ _)) ?p) (ar_ (ai_ (i:=12) aE_.nd rfl d6_ (by_ ac_)) ?q)
   case' p=>refine' ar_ ?r (ar_ ?s (ag_ (bM_ (G5_ AU_ A8_ A9_ bA_ (zw 10 aE_) (pa_c ?t ac_)))))
   case' r=>refine' ai_ (i:=11) aE_.nd rfl d5_ (G5_ AU_ Fb_ Fc_ oX_ (zw 9 aE_) (pa_c (Fp_ aL_ (zw 3 aE_) (am_ au_ b8_ T.n_len aZ_ (pa_c (zw 9 aE_) ac_))) ac_))
   case' s=>refine' ai_ (i:=3) aE_.nd rfl aG_ (Fp_ av_ (zw 3 aE_) (Fp_ aQ_ (am_ au_ b8_ T.n_len aZ_ (pa_c (zw 9 aE_) ac_)) aa_))
   case' t=>refine' aH_ (pa_c (Fr_ al_ (zw 7 aE_) (zw 11 aE_)) (pa_c (aF_ (N':=["_law_wire","_law_wires"]) (ix:=[none,some 8]) rfl rfl (aM_ ?u) (ap_ (K:=K) rfl (Fr_ al_ (zw 6 aE_) (zw 11 aE_))) (λ_ _ _=>?v) (λ_ _ _=>?w) (λ_ _ _=>(Fr_ al_ (pvc 1 rfl rfl) (pv1 0 rfl rfl)))) ac_))
   case u=>show(by change GD_ (Fn_ Fw_) ["_law_script","_law_at","_law_most","_law_big_here","_law_posts","_law_many","_law_turns","_law_names_here","_law_wires","_law_order","_law_rows","_law_p","_law_worths","_law_wire","_law_worth"] _ _ _=true;decide +kernel)
   case v=>show ah_ (i:=0) (by change List.Nodup (["_law_wire","_law_wires"]:List Str);decide +kernel) rfl rfl
   case w=>show aO_
   case' q=>refine' ad_ (bs_ AG_ rfl (aT_ ek_ T.n_range (pa_c (zw 5 aE_) ac_)) ?x ?y) (ag_ (ao_ ?z))
   case x=>show ah_ (i:=13) aE_.nd rfl f3_
   case' y=>refine' ar_ (hB_ (af_ Il_ (hr.mono d_) fd_ (pa_c (zw 3 aE_) ac_)) (bh_ (K:=K) (n:=2) rfl rfl (an_ ?aa (an_ ?ab bg_)))) ?ac
   case aa=>show ah_ (i:=14) aE_.nd rfl f4_
   case ab=>show ah_ (i:=3) aE_.nd rfl aG_
   case' ac=>refine' ag_ (bM_ (G5_ AU_ A8_ A9_ bA_ (zw 12 aE_) (pa_c (aH_ (pa_c (Fr_ al_ (zw 8 aE_) (zw 13 aE_)) (pa_c (zw 14 aE_) ac_))) ac_)))
   case' z=>refine' aH_ (pa_c (cs_ dH_ (zw 7 aE_) ?ad (c9_ (zw 4 aE_))) (pa_c (zw 10 aE_) (pa_c (am_ (m4_ hr.units) gE_ T.n_sorted kn_ (pa_c (zw 12 aE_) ac_)) ac_)))
   case ad=>show es_
  case R =>
   nofun;show⟨a,ns,0,rfl,d_,hS,λz0 H0 s0=>?_⟩;nofun;obtain⟨Pp,hP,P1,P6⟩:∃m:Nat,(1+z0%6:Int)=m/\1<=m/\m<=6:=by have a1:=AC_ z0 (show(6:Int)≠0 by decide);have a2:=Ax_ z0 (show(0:Int)<6 by decide);show⟨(1+z0%6).toNat,o_,o_,o_⟩
   rw[hP];show⟨d_,?_⟩;nofun;show⟨d_,r_,d_,?_⟩;nofun;show⟨λσ Hx=>∃W:Nat,σ=[some (.ref a),some (.int 0),some (.int 9),some (.int z0),some (.int Pp),some (.int W),none,none,none,none,none,none,none,none,none]/\Hx=H0/\W<=15,?_,?_⟩
   .nofun;have a1:=AC_ (z0/6) (show(9+1:Int)≠0 by decide);have a2:=Ax_ (z0/6) (show(0:Int)<9+1 by decide);have a3:=AC_ (z0/48/(9+1)) (show(16:Int)≠0 by decide);have a4:=Ax_ (z0/48/(9+1)) (show(0:Int)<16 by decide);show⟨d_,r_,d_,r_,d_,ite2 (λ_=>?_) (λ_=>?_)⟩
    .show⟨d_,r_,d_,r_,d_,(z0/48/(9+1)%16).toNat,o_,o_⟩
    .show⟨(z0/6%(9+1)).toNat,o_,o_⟩
   rintro σ Hx ⟨W,rfl,rfl,W15⟩;have hS0:=s0.seq hS;nofun;show⟨d_,r_,d_,r_,?_⟩;show⟨_,Pp,W,rfl,P1,P6,W15,λpg l as_ T y H1 s1 hpg hT gr=>?_⟩;have gl:=gr.len;have gm:=gr.most;show⟨pg,rfl,_,SqT.of hpg,rfl,_,_,rfl,_,_,rfl,rfl,?_⟩;nofun;show⟨a,ns,_,rfl,d_,(s1.seq hS0),λz1 H2 s2=>?_⟩;have hT2:=hT.mono s2;have al:=hT2.tn.len;show⟨_,.inl hT2.tn.top,?_⟩;rw[Ab_];show⟨z1,as_.length,rfl,o_,λD1 nms H3 s3 rep1 nl1 nd1=>?_⟩;have s03:=s1.trans (s2.trans s3);nofun;show⟨a,ns,_,rfl,d_,s03.seq hS0,λz2 H4 s4=>⟨z2,W,rfl,o_,λD2 wns H5 s5 rep2 nl2 nd2=>?_⟩⟩;have s05:=s03.trans (s4.trans s5);have hT5:=hT2.mono (s3.trans (s4.trans s5));nofun;show⟨Hx,l,as_,T,Pp,W,y,rfl,s05,hT5,gr,P6,W15,λbs T' H6 s6 kp hT6 gr' hl6=>?_⟩;obtain⟨_,us1,e1,hD1',hus1⟩:=id rep1;cases e1;rw[f1_ hus1]at hD1';obtain⟨_,us2,e2,hD2',hus2⟩:=id rep2;cases e2;rw[f1_ hus2]at hD2';have D1l:D1≠l:=(ae_ hT2.tn.top (aV_ hD1').1).symm;have D2l:D2≠l:=(ae_ ((hT2.mono (s3.trans s4)).tn.top) (aV_ hD2').1).symm;have hD1:H6 D1=some (.lst (nms.map V.str)):=kp _ _ D1l ((s4.trans s5) _ _ (aV_ hD1').2);have hD2:H6 D2=some (.lst (wns.map V.str)):=kp _ _ D2l (aV_ hD2').2;clear hD1' hD2' hus1 hus2 rep1 rep2;have hS6:=s6.seq hS0;have bl:=hT6.tn.len;have gl6:=gr'.len;have gm6:=gr'.most;clear hT hT2 hT5 s1 s2 s3 s4 s5 s03 s05 kp hpg;nofun;show⟨_,.inl hT6.tn.top,bs.length,by rw[Ab_],o_,λO nO=>?_⟩;have S7:Fo_ H6 (upd H6 O (HO.lst (Hu_ bs.length))):=Fo_.new nO;have hO:=ab_ (H:=H6) (a:=O) (o:=HO.lst (Hu_ bs.length));generalize upd H6 O (HO.lst (Hu_ bs.length))=H7 at*;nofun;show⟨a,ns,_,rfl,d_,S7.seq hS6,λz3 H8 s8=>?_⟩;nofun;show⟨AD_ _,λR nR=>?_⟩;nofun;have R6:H6 R=none:=(S7.trans s8).free nR;have RO:R≠O:=(ae_ (s8 _ _ hO) nR).symm;have eN:Hu_ bs.length=(List.range bs.length).map λn:Nat=>V.int n:=rfl
   show ph_ (L5_ H6 a l D1 D2 O R Pp W bs.length nms wns T')
    (λ_ H'=>MO_ O H') ⟨z3,none,H6,List.range bs.length,[],[],rfl,Fo_.refl _,(S7.trans s8).upd R6,nO,R6,by rw[aj_ RO.symm];show s8 _ _ hO,ab_,rfl,.refl _⟩ ?_
   rintro σ H' kb hkb G hG ⟨z,e11,S,rem,dn,ys,rfl,sS,sH,SO,SR,hO',hR',repS,pm⟩;show hG ?_;nofun;show⟨AD_ _,λp np=>?_⟩;have Sp:Fo_ H' (upd H' p (HO.lst [])):=Fo_.new np
   have repO:Rep (upd H' p (HO.lst [])) (.ref O) (.lst (rem.map λn:Nat=>Dt.int n)):=⟨O,_,rfl,Sp _ _ hO',by
    clear hO' pm
    induction rem with
    |nil=>show rfl
    |cons x r ih=>show⟨_,_,rfl,rfl,ih⟩⟩
   have repp:Rep (upd H' p (HO.lst [])) (.ref p) (.lst []):=⟨p,[],rfl,ab_,rfl⟩;have pO:p≠O:=(ae_ hO' np).symm;have pR:p≠R:=(ae_ hR' np).symm
   have dle:dep (.lst (rem.map λn:Nat=>Dt.int n))<=60:=by
    have:deps (rem.map λn:Nat=>Dt.int n)=0:=by
     clear hO' pm repO
     induction rem with
     |nil=>rfl
     |cons x r ih=>change max 0 (deps (r.map λn:Nat=>Dt.int n))=0;rw[ih];rfl
    change deps _+1<=60;lia
   have sH2:Fo_ S (upd H' p (HO.lst [])):=sH.trans Sp;generalize upd H' p (HO.lst [])=Hq at*;have hOq:=Sp _ _ hO';have hRq:=Sp _ _ hR'
   show⟨_,repO,_,repp,decide (rem=[]),by
    cases rem with
    |nil=>rfl
    |cons x r=>simp[deq,deqs],dle,?_⟩
   show ite2 (λhne=>?_) (λhemp=>?_)
   .have rne:rem≠[]:=CV_ hne;have rl0:0<rem.length:=EW_.mpr rne;show⟨_,N_ok,?_⟩;obtain⟨t,ht,tl⟩:∃t:Nat,z%(((rem.map λn:Nat=>V.int n).length:Nat):Int)=t/\t<rem.length:=by rw[Ab_];have a1:=AC_ z (show(rem.length:Int)≠0 by lia);have a2:=Ax_ z (show(0:Int)<(rem.length:Int) by lia);show⟨(z%(rem.length:Int)).toNat,o_,o_⟩
    have rl16:rem.length<=16:=by have:=pm.length_eq;rw[At_,Bc_]at this;lia
    have er:((rem.map λn:Nat=>V.int n).eraseIdx t)=(rem.eraseIdx t).map λn:Nat=>V.int n:=k0_ _ _ _;have el:(rem.eraseIdx t).length=rem.length-1:=E7_ tl
    have lg:((((rem.map λn:Nat=>V.int n).eraseIdx t).length:Int)+1).natAbs.log2<9000:=by
     rw[er,Ab_];by_cases h0:(((rem.eraseIdx t).length:Int)+1).natAbs=0
     .rw[h0];decide
     .rw[Dw_ h0];show BF_ (show(((rem.eraseIdx t).length:Int)+1).natAbs<=1000 by lia) r_
    have hp0:rem[t]?=some (rem[t]):=Ac_ tl;have pn:rem[t]<bs.length:=AP_.mp (pm.mem_iff.mp (AI_ _ (AO_ tl)));have pm2:(dn++[rem[t]]++rem.eraseIdx t).Perm (List.range bs.length):=by show List.Perm.trans ?_ pm;rw[A0_];show(i4_ tl).append_left dn
    generalize rem[t]=pt at*;nofun;show⟨.inl ⟨_,.inl (.inl hOq)⟩,_,.inl hOq,by rw[Ab_];lia,_,hOq,by rw[ht];lia,by rw[ht];lia,t,?_,.int pt,by rw[Ad_,hp0];rfl,?_⟩
    .rw[ht,Ab_];rw[Eg_ o_ o_,AM_]
    nofun;show⟨o_,lg,?_⟩;rw[er];nofun;have OR:O≠R:=RO.symm;have sH3:Fo_ S (upd Hq O (HO.lst ((rem.eraseIdx t).map λn:Nat=>V.int n))):=cu_ sH2 SO;have hR3:upd Hq O (HO.lst ((rem.eraseIdx t).map λn:Nat=>V.int n)) R=some (.lst ys):=by rw[aj_ RO];show hRq
    have hO3:=ab_ (H:=Hq) (a:=O) (o:=HO.lst ((rem.eraseIdx t).map λn:Nat=>V.int n));generalize upd Hq O (HO.lst ((rem.eraseIdx t).map λn:Nat=>V.int n))=H3 at*;have s63:Fo_ H6 H3:=sS.trans sH3;obtain⟨a1,ea1,at1,ra1⟩:=hT6.tn.at_ (p:=pt) o_;have ra3:=s63 _ _ ra1
    have lt:∀v∈T'.getD pt [],v<wns.length:=λv hv=>by
     rw[nl2];show gr'.lt v ?_;have hm:T'.getD pt []∈T':=by rw[Aa_,Ac_ (show pt<T'.length by lia)];show AO_ _
     show List.mem_flatten.mpr ⟨_,hm,hv⟩
    have rl30:(T'.getD pt []).length<=30:=by have:=JC_ T' pt;rw[gr'.tot]at this;unfold rl at this;lia
    have atn:atI (nms.map V.str) ((pt:Nat):Int)=some (.str (nms.getD pt Str.empty)):=cq_ o_ (by rw[AM_];show aS_ o_);show⟨.inl ⟨_,.inl (.inl hR3)⟩,_,s63 _ _ hD1,_,atn,_,s63 _ _ hT6.tn.top,_,at1,a1,rfl,⟨_,.inl (.inl ra3)⟩,?_⟩;generalize hrow:T'.getD pt []=row at*;have hD2':=s63 _ _ hD2;show ay_ (n:=row.length) (B:=λ_=>none) (Pσ:=λσ=>∃e,σ=[e,some (.ref D2)]) (ds:=(row.map λv=>wns.getD v Str.empty).map dS) (λb o e=>by cases e) ⟨_,rfl⟩ s_ o_ (λj Hj hj sj=>⟨_,.int (row[j]:Nat),.inl (.inl (sj _ _ ra3)),by simp[hj]⟩) (λHj sj=>⟨_,.inl (.inl (sj _ _ ra3)),s_⟩) ?_ ?_
    .rintro D j x d σ' Hj Hj' hD hDo hsj hj hdj ⟨rfl,hy⟩ ⟨e,rfl⟩ R0 kR;have hx:=hy _ (.inl (.inl (hsj _ _ ra3)));rw[Ad_,Ac_ hj]at hx;cases hx;have hd:d=dS (wns.getD row[j] Str.empty):=by rw[Ad_,Ad_,Ac_ hj]at hdj;show(Ak_ hdj).symm
     nofun;show⟨_,hsj _ _ hD2',_,cq_ o_ (by rw[AM_];show aS_ (lt _ (AO_ hj))),kR _ _ _ ⟨_,rfl⟩ (Fo_.refl _) ?_⟩;rw[hd];show rfl
    .intro D H4 hD s4 rep4;show⟨d_,λq nq=>?_⟩;have hD3:H3 D=none:=hD;obtain⟨_,us,e4,hD4',hus⟩:=id rep4;cases e4;have hD4:=(aV_ hD4').2;rw[iu_ hus]at hD4;have qR:q≠R:=(ae_ (s4 _ _ hR3) nq).symm;have qO:q≠O:=(ae_ (s4 _ _ hO3) nq).symm;have g1:Fo_ S (grow S H3 H4):=cC_ sH3;have g2:Fo_ (grow S H3 H4) H4:=jn_ sH3 s4;have gO:grow S H3 H4 O=none:=by rw[e3_ hO3];show SO
     have gR:grow S H3 H4 R=none:=by rw[e3_ hR3];show SR
     have gD:grow S H3 H4 D=some (.lst ((row.map λv=>wns.getD v Str.empty).map V.str)):=by rw[jm_ hD3];show hD4
     have g3:Fo_ (grow S H3 H4) (upd (grow S H3 H4) q (.tup [.str (nms.getD pt Str.empty),.ref D])):=bn_ g2 nq;have g4:Fo_ (upd (grow S H3 H4) q (.tup [.str (nms.getD pt Str.empty),.ref D])) (upd H4 q (.tup [.str (nms.getD pt Str.empty),.ref D])):=hl_ g2 nq;have gO2:upd (grow S H3 H4) q (.tup [.str (nms.getD pt Str.empty),.ref D]) O=none:=by rw[aj_ qO.symm];show gO
     have gR2:upd (grow S H3 H4) q (.tup [.str (nms.getD pt Str.empty),.ref D]) R=none:=by rw[aj_ qR.symm];show gR
     have yl:ys.length=dn.length:=by rw[repS.length,Ab_];unfold F8_;rw[Ab_]
     have dl:dn.length<=16:=by have:=pm.length_eq;rw[At_,Bc_]at this;lia
     show⟨ys,by rw[aj_ qR.symm];show s4 _ _ hR3,Fq_ o_,⟨_,_,upd (grow S H3 H4) q (.tup [.str (nms.getD pt Str.empty),.ref D]),rem.eraseIdx t,dn++[pt],ys++[.ref q],rfl,sS.trans (g1.trans g3),cu_ g4 gR2,gO2,gR2,?_,ab_,?_,pm2⟩,?_⟩
     .rw[aj_ OR,aj_ qO.symm];show s4 _ _ hO3
     .have er2:F8_ (λp=>nms.getD p Str.empty) (λv=>wns.getD v Str.empty) T' (dn++[pt])=F8_ (λp=>nms.getD p Str.empty) (λv=>wns.getD v Str.empty) T' dn++[(nms.getD pt Str.empty,row.map λv=>wns.getD v Str.empty)]:=by unfold F8_;rw[Au_,Av_,CO_,hrow]
      rw[er2,Au_];show FE_.append (FE_.mono (g1.trans g3) _ repS) ⟨_,_,rfl,⟨q,_,rfl,ab_,_,_,rfl,rfl,_,_,rfl,⟨D,_,rfl,g3 _ _ gD,cN_ _⟩,rfl⟩,rfl⟩
     .unfold MO_;rw[aj_ OR,aj_ qO.symm,s4 _ _ hO3,hO'];change((rem.eraseIdx t).map _).length<(rem.map _).length;rw[Ab_,Ab_];lia
   .have re:rem=[]:=by
     by_cases h:rem=[]
     .show h
     .show absurd (Bf_ h) hemp
    subst re;rw[By_]at pm;show hkb _ _ ?_;nofun;show⟨AD_ _,λL nL=>?_⟩;nofun;show⟨o_,o_,?_⟩;rw[show Int.toNat (W:Int)=W by lia];have s6q:Fo_ H6 Hq:=sS.trans sH2;have hD2q:=s6q _ _ hD2;have hD1q:=s6q _ _ hD1;show kF_ (λi σ H'=>∃(z:Int)(e13 e14:Option V)(S':Hp)(vs:List V)(wl:List (Str×(Int×Int))),σ=[some (.ref a),some (.int 0),some (.int 9),some (.int z),some (.int Pp),some (.int W),some (.ref l),some (.ref D1),some (.ref D2),some (.ref O),some (.ref R),e11,some (.ref L),e13,e14]/\Fo_ Hq S'/\Fo_ S' H'/\S' L=none/\H' L=some (.lst vs)/\FE_ S' vs (wl.map dWo)/\wl.map (·.1)=wns.take i/\∀x∈wl,Ws x.2) ⟨z,none,none,Hq,[],[],rfl,Fo_.refl _,Fo_.new nL,nL,ab_,rfl,rfl,λx hx=>by cases hx⟩ ?_ ?_
    .rintro i σ H5 hi kc kb hkc hkb G hG ⟨z,e13,e14,S',vs,wl,rfl,sq,sS5,SL,hL,repW,wnm,wws⟩;show hG ?_;have hi':i<W:=hi;have iw:i<wns.length:=o_
     nofun;show⟨z,rfl,λpw qw H7 t0 b0 y0 s7 npw nqw tw hpw hqw=>?_⟩;have s57:=sS5.trans s7;have wll:wl.length=i:=by have:=congrArg List.length wnm;rw[Ab_,AZ_]at this;lia
     have vl:vs.length=i:=by rw[repW.length,Ab_];show wll
     show⟨pw,rfl,_,SqT.of hpw,rfl,_,_,rfl,_,_,rfl,rfl,?_⟩;nofun;show⟨.inl ⟨_,.inl (.inl (s7 _ _ hL))⟩,_,(sq.trans s57) _ _ hD2q,_,cq_ o_ (by rw[show Int.toNat (0+(i:Nat):Int)=i by lia];show aS_ iw),d_,λq nq=>?_⟩;have g1:Fo_ S' (grow S' H5 H7):=cC_ sS5;have g2:Fo_ (grow S' H5 H7) H7:=jn_ sS5 s7;have gL:grow S' H5 H7 L=none:=by rw[e3_ hL];show SL
     have gq:grow S' H5 H7 qw=some (.tup [.int (nf t0 b0).1,.int (nf t0 b0).2]):=by rw[jm_ nqw];show hqw
     have qL:q≠L:=(ae_ (s7 _ _ hL) nq).symm;have g3:Fo_ (grow S' H5 H7) (upd (grow S' H5 H7) q (.tup [.str (wns.getD i Str.empty),.ref qw])):=bn_ g2 nq;have g4:Fo_ (upd (grow S' H5 H7) q (.tup [.str (wns.getD i Str.empty),.ref qw])) (upd H7 q (.tup [.str (wns.getD i Str.empty),.ref qw])):=hl_ g2 nq;have gL2:upd (grow S' H5 H7) q (.tup [.str (wns.getD i Str.empty),.ref qw]) L=none:=by rw[aj_ qL.symm];show gL
     show⟨vs,by rw[aj_ qL.symm];show s7 _ _ hL,Fq_ o_,hkc _ _ ⟨y0,_,_,upd (grow S' H5 H7) q (.tup [.str (wns.getD i Str.empty),.ref qw]),_,wl++[(wns.getD i Str.empty,nf t0 b0)],rfl,sq.trans (g1.trans g3),cu_ g4 gL2,gL2,ab_,?_,?_,λx hx=>(AB_.mp hx).elim (wws x) λhx=>by rw[An_.mp hx];show tw⟩⟩
     .rw[Au_];show FE_.append (FE_.mono (g1.trans g3) _ repW) ⟨_,_,rfl,⟨q,_,rfl,ab_,_,_,rfl,rfl,_,_,rfl,⟨qw,_,rfl,g3 _ _ gq,_,_,rfl,rfl,_,_,rfl,rfl,rfl⟩,rfl⟩,rfl⟩
     .rw[Au_,wnm,Bn_,Ac_ iw,Aa_,Ac_ iw];rfl
    .rintro σ H5 ⟨z,e13,e14,S',vs,wl,rfl,sq,sS5,SL,hL,repW,wnm,wws⟩;rw[AR_ o_]at wnm;nofun;have wll:wl.length=W:=by rw[<-nl2,<-wnm,Ab_]
     have vl:vs.length=wl.length:=by rw[repW.length,Ab_]
     have sq5:=sq.trans sS5;have c1:HS_ (nms.map V.str) none (some ((Pp:Nat):Int))=(nms.take Pp).map V.str:=by rw[pR_ _ _ (by rw[Ab_];lia),DJ_]
     show⟨_,sq5 _ _ hD1q,λq nq=>?_⟩;rw[c1];have Sq:Fo_ H5 (upd H5 q (HO.lst ((nms.take Pp).map V.str))):=Fo_.new nq;have hq:=ab_ (H:=H5) (a:=q) (o:=HO.lst ((nms.take Pp).map V.str));generalize upd H5 q (HO.lst ((nms.take Pp).map V.str))=H6' at*;show⟨L,vs,λi=>wns.getD i Str.empty,rfl,Sq _ _ hL,o_,λi hi=>?_,λi j hi hj e=>jR_ nd2 o_ o_ e,λl' zs nl' hpm=>?_⟩
     .obtain⟨d,hd,hr⟩:=repW.of_get (i:=i) (x:=vs[i]) (Ac_ hi);rw[Ad_,Ac_ o_]at hd;rw[<-Ak_ hd]at hr;obtain⟨aa,_,ea,haa,_,_,e1,hx1,_,_,e2,hx2,e3⟩:=hr;obtain⟨ww,_,ew,hww,_,_,e4,hy1,_,_,e5,hy2,e6⟩:=hx2;subst e6 e5 e4 e3 e2 e1;cases hx1;cases hy1;cases hy2;subst ew;have en:(wl[i]'o_).1=wns.getD i Str.empty:=by rw[<-wnm,Aa_,Ad_,Ac_ o_];rfl
      rw[en]at haa;show⟨aa,ww,_,by rw[Ac_ hi,ea],Sq _ _ (sS5 _ _ haa),Sq _ _ (sS5 _ _ hww)⟩
     .show⟨d_,λpe npe=>?_⟩;obtain⟨wl',pw,repW'⟩:=oC_ dWo hpm repW;have Sl:Fo_ H6' (upd H6' l' (HO.lst zs)):=Fo_.new nl';have hl':=ab_ (H:=H6') (a:=l') (o:=HO.lst zs);generalize upd H6' l' (HO.lst zs)=H7' at*;have Se:Fo_ H7' (upd H7' pe (HO.tup [V.ref q,V.ref R,V.ref l'])):=Fo_.new npe;have he:=ab_ (H:=H7') (a:=pe) (o:=HO.tup [V.ref q,V.ref R,V.ref l']);generalize upd H7' pe (HO.tup [V.ref q,V.ref R,V.ref l'])=H8' at*;have tot:Fo_ H5 H8':=Sq.trans (Sl.trans Se);show k (.ref pe) ⟨nms.take Pp,F8_ (λp=>nms.getD p Str.empty) (λv=>wns.getD v Str.empty) T' dn,wl'⟩ H8' (s0.trans (s6.trans (s6q.trans (sq5.trans tot)))) ⟨pe,_,rfl,he,_,_,rfl,⟨q,_,rfl,(Sl.trans Se) _ _ hq,cN_ _⟩,_,_,rfl,⟨R,ys,rfl,tot _ _ (sq5 _ _ hRq),FE_.mono (sH2.trans (sq5.trans tot)) _ repS⟩,_,_,rfl,⟨l',zs,rfl,Se _ _ hl',FE_.mono (sS5.trans tot) _ repW'⟩,rfl⟩ ?_ ?_ ?_ ?_
      .show rR_ gr'.toGr (by rw[<-bl];show pm) P6 W15 (λx y hx hy e=>jR_ nd1 o_ o_ e) (λx y hx hy e=>jR_ nd2 o_ o_ e) (by rw[AZ_];lia) (by rw[pw.length_eq];lia)
      .have nl1':nms.length=T'.length:=o_
       show⟨List.Nodup.sublist (EY_ _ _) nd1,λx hx=>?_,by rw[AZ_];lia⟩;obtain⟨j,hj,ej⟩:=Ay_.mp hx;have hj2:j<nms.length:=by rw[AZ_]at hj;lia
       show Aj_.mpr ⟨_,Aj_.mpr ⟨j,pm.mem_iff.mpr (AP_.mpr o_),rfl⟩,?_⟩;change nms.getD j Str.empty=x;rw[Aa_,Ac_ hj2];rw[List.getElem_take]at ej;show ej
      .have pn:=pw.map (·.1);rw[wnm]at pn;show⟨pn.nodup_iff.mpr nd2,λx=>?_,λx hx=>wws x (pw.mem_iff.mp hx)⟩;rw[pn.mem_iff];have al:=mr_ (S:=Str) (ns:=λp=>nms.getD p Str.empty) (ws:=λv=>wns.getD v Str.empty) (T:=T') (ord:=dn) (by rw[<-bl];show pm);change x∈wns↔x∈((F8_ _ _ T' dn).map (·.2)).flatten;rw[al.mem_iff];constructor
       .intro hx;obtain⟨j,hj,ej⟩:=Ay_.mp hx;show Aj_.mpr ⟨j,BG_.mp (by rw[gr'.two j o_];decide),?_⟩;change wns.getD j Str.empty=x;rw[Aa_,Ac_ hj];show ej
       .intro hx;obtain⟨j,hj,ej⟩:=Aj_.mp hx;have hl:=gr'.lt j hj;have ej':wns.getD j Str.empty=x:=ej;rw[Aa_,Ac_ (show j<wns.length by lia)]at ej';rw[<-ej'];show AO_ _
      .show nt_h gr' (by rw[<-bl];show pm) λp hp=>?_;rw[Aa_,Ac_ (show p<nms.length by lia)];show Ay_.mpr ⟨p,by rw[AZ_];lia,?_⟩;rw[List.getElem_take];rfl
def dE(e:End Str):Dt:=.tup [.str e.1,.int e.2]
def Gw_(acc:List (Str×List (End Str)))(ls:List Addr):List (Key×V):=List.zipWith (λkv l=>(Sum.inr kv.1,V.ref l)) acc ls
structure DE(en:End Str->Dt)(S H:Hp)(d:Addr)(ls:List Addr)(acc:List (Str×List (End Str))):Prop where
 sH:Fo_ S H
 dict:H d=some (.dK (Gw_ acc ls))
 len:ls.length=acc.length
 nd:ls.Nodup
 dn:d∉ls
 lst:∀(i:Nat)(l:Addr)(kv:Str×List (End Str)),ls[i]?=some l->acc[i]?=some kv->∃vs,H l=some (.lst vs)/\FE_ S vs (kv.2.map en)
 fd:S d=none
 fl:∀l∈ls,S l=none
variable{en:End Str->Dt}{d:Addr}{ls:List Addr}{acc:List (Str×List (End Str))}
theorem DE.mono(h:DE en S H d ls acc)(s:Fo_ H H'):DE en S H' d ls acc :=
 ⟨h.sH.trans s,s _ _ h.dict,h.len,h.nd,h.dn,λi l kv h1 h2=>(h.lst i l kv h1 h2).elim λvs z=>⟨vs,s _ _ z.1,z.2⟩,h.fd,h.fl⟩
theorem DE.stay(h:DE en S H d ls acc){q:Addr}(nq:H q=none)(o:HO):DE en (upd S q o) (upd H q o) d ls acc:=by
 have qd:q≠d:=(ae_ h.dict nq).symm;have ql:∀l∈ls,q≠l:=λl hl e=>by obtain⟨i,hi,ei⟩:=Ay_.mp hl;obtain⟨vs,z,_⟩:=h.lst i l (acc[i]'(by rw[<-h.len];show hi)) (by rw[Ac_ hi,ei]) (Ac_ _);rw[<-e,nq]at z;cases z
 show⟨hl_ h.sH nq,by rw[aj_ qd.symm];show h.dict,h.len,h.nd,h.dn,λi l kv h1 h2=>(h.lst i l kv h1 h2).elim λvs z=>⟨vs,by rw[aj_ (ql l (Ai_ h1)).symm];show z.1,FE_.mono (bn_ h.sH nq) _ z.2⟩,by rw[aj_ qd.symm];show h.fd,λl hl=>by rw[aj_ (ql l hl).symm];show h.fl l hl⟩
theorem lT_(h:ls.length=acc.length):(Gw_ acc ls).length=acc.length:=by unfold Gw_;rw[CI_];lia
theorem e9_{w:Str}:∀{acc:List (Str×List (End Str))}{ls:List Addr}{i:Nat}{es:List (End Str)},ls.length=acc.length->acc[i]?=some (w,es)->(∀j kv,j<i->acc[j]?=some kv->kv.1≠w)->∃l,ls[i]?=some l/\Gf_ (Gw_ acc ls) (.inr w)=some (.ref l)
 |[],_,_,_,_,h,_=>by cases h
 |kv::acc,[],_,_,h,_,_=>by cases h
 |kv::acc,l::ls,0,es,_,h,_=>by
  cases h;show⟨l,rfl,bw_ rfl⟩
 |kv::acc,l::ls,i+1,es,hl,h,hn=>by obtain⟨l',h1,h2⟩:=e9_ (w:=w) (acc:=acc) (ls:=ls) (i:=i) (by simpa using hl) h λj kv hj hkv=>hn (j+1) kv o_ hkv;show⟨l',h1,?_⟩;change Gf_ ((Sum.inr kv.1,V.ref l)::Gw_ acc ls) (.inr w)=_;rw[br_ (λz=>hn 0 kv o_ rfl (Cd_ z))];show h2
theorem hu_{w:Str}:∀{acc:List (Str×List (End Str))}{ls:List Addr},(∀kv∈acc,kv.1≠w)->Gf_ (Gw_ acc ls) (.inr w)=none
 |[],_,_=>by unfold Gw_;rw[Ew_];rfl
 |kv::acc,[],_=>rfl
 |kv::acc,l::ls,h=>by change Gf_ ((Sum.inr kv.1,V.ref l)::Gw_ acc ls) (.inr w)=_;rw[br_ (λz=>h kv Ah_ (Cd_ z))];show hu_ λkv hkv=>h kv (Ag_ _ hkv)
variable{e:End Str}
theorem pu_{w:Str}{q:Addr}(hl:ls.length=acc.length)(h:∀kv∈acc,kv.1≠w):GH_ (Gw_ acc ls) (.inr w) (.ref q)=Gw_ (acc++[(w,[e])]) (ls++[q]):=by have hv:=hu_ (ls:=ls) h;unfold GH_;rw[if_neg (by rw[dI_,hv];decide)];unfold Gw_;rw[List.zipWith_append hl.symm];rfl
theorem DE.old(h:DE en S H d ls acc){w:Str}{es:List (End Str)}{t:V}{vs:List V}(hi:acc[i]?=some (w,es))(hl:ls[i]?=some l)(hv:H l=some (.lst vs))(hr:FE_ S vs (es.map en))(ht:Rep S t (en e)):
  DE en S (upd H l (.lst (vs++[t]))) d ls (acc.set i (w,es++[e])):=by
 have dl:d≠l:=λz=>h.dn (by rw[z];show Ai_ hl);have il:i<ls.length:=(Ar_.mp hl).1;have ia:i<acc.length:=by rw[<-h.len];show il
 show⟨cu_ h.sH (h.fl l (Ai_ hl)),?_,by rw[Bz_];show h.len,h.nd,h.dn,λj l' kv h1 h2=>?_,h.fd,h.fl⟩
 .rw[aj_ dl,h.dict];congr 2;unfold Gw_;apply CA_
  .simp
  .intro j g1 g2;rw[Dq_,Dq_];by_cases z:i=j
   .subst z;rw[Eu_];rw[Ac_ ia]at hi;rw[Ak_ hi]
   .rw[EU_ z]
 .rw[Bk_]at h2;by_cases z:i=j
  .subst z;rw[if_pos rfl,if_pos ia]at h2;cases h2;rw[hl]at h1;cases h1;show⟨_,ab_,?_⟩;rw[Au_];show FE_.append hr ⟨_,_,rfl,ht,rfl⟩
  .rw[if_neg z]at h2;obtain⟨vs',g1,g2⟩:=h.lst j l' kv h1 h2;have ll:l'≠l:=λy=>by rw[y]at h1;show z ((BO_ il h.nd).mp (hl.trans h1.symm))
   show⟨vs',by rw[aj_ ll];show g1,g2⟩
theorem DE.new(h:DE en S H d ls acc){w:Str}{q:Addr}{t:V}(hn:∀kv∈acc,kv.1≠w)(hq:H q=some (.lst []))(qd:q≠d)(ql:q∉ls)(Sq:S q=none)(ht:Rep S t (en e)):
  DE en S (upd (upd H d (.dK (GH_ (Gw_ acc ls) (.inr w) (.ref q)))) q (.lst [t])) d (ls++[q]) (acc++[(w,[e])]):=by
 show⟨cu_ (cu_ h.sH h.fd) Sq,?_,by simp[h.len],?_,?_,λj l' kv h1 h2=>?_,h.fd,λl hl=>?_⟩
 .rw[aj_ qd.symm,ab_,pu_ h.len hn]
 .show Br_.mpr ⟨h.nd,s_,λx hx y hy z=>ql (by rw[<-An_.mp hy,<-z];show hx)⟩
 .intro z
  rcases AB_.mp z with z|z
  .show h.dn z
  .show qd (An_.mp z).symm
 .by_cases hj:j<ls.length
  .rw[AF_ hj]at h1;rw[AF_ (by rw[<-h.len];show hj)]at h2;obtain⟨vs',g1,g2⟩:=h.lst j l' kv h1 h2;have e1:l'≠q:=λz=>ql (by rw[<-z];show Ai_ h1);have e2:l'≠d:=λz=>h.dn (by rw[<-z];show Ai_ h1);show⟨vs',by rw[aj_ e1,aj_ e2];show g1,g2⟩
  .rw[AJ_ o_]at h1;rw[AJ_ (by rw[<-h.len];lia)]at h2;have e1:=An_.mp (Ai_ h1);have e2:=An_.mp (Ai_ h2);subst e1 e2;show⟨_,ab_,_,_,rfl,ht,rfl⟩
 .rcases AB_.mp hl with z|z
  .show h.fl l z
  .rw[An_.mp z];show Sq
variable{N:Net Str}
theorem cn_(h:Rep H v (HM_ N)):∃(pn p0 p1 p2:Addr)(rs ws:List V),v=.ref pn/\H pn=some (.tup [.ref p0,.ref p1,.ref p2])/\H p0=some (.lst (N.posts.map V.str))/\H p1=some (.lst rs)/\FE_ H rs (N.rows.map dRw)/\H p2=some (.lst ws)/\FE_ H ws (N.worths.map dWo):=by obtain⟨pn,_,rfl,hn,_,_,rfl,⟨p0,ps,rfl,h0,r0⟩,_,_,rfl,⟨p1,rs,rfl,h1,r1⟩,_,_,rfl,⟨p2,ws,rfl,h2,r2⟩,rfl⟩:=h;rw[iu_ r0]at h0;show⟨pn,p0,p1,p2,rs,ws,rfl,hn,h0,h1,r1,h2,r2⟩
theorem rc_{r:Str×List Str}(h:Rep H v (dRw r)):∃q l,v=.ref q/\H q=some (.tup [.str r.1,.ref l])/\H l=some (.lst (r.2.map V.str)):=by obtain⟨q,_,rfl,hq,x,_,rfl,hx,_,_,rfl,⟨l,us,rfl,hl,rl⟩,rfl⟩:=h;rw[iu_ rl]at hl;cases hx;show⟨q,l,rfl,hq,hl⟩
theorem hv_{rs:List V}{rows:List (Str×List Str)}{x:V}(h:FE_ H rs (rows.map dRw))(e:rs[i]?=some x):∃r q l,rows[i]?=some r/\x=.ref q/\H q=some (.tup [.str r.1,.ref l])/\H l=some (.lst (r.2.map V.str)):=by
 obtain⟨d,hd,hr⟩:=h.of_get e;rw[Ad_]at hd;cases e2:rows[i]? with
 |none=>rw[e2]at hd;cases hd
 |some r =>rw[e2]at hd;rw[<-Ak_ hd]at hr;obtain⟨q,l,h1,h2,h3⟩:=rc_ hr;show⟨r,q,l,rfl,h1,h2,h3⟩
theorem gF_(p:Str):∀(ws:List Str)(k j:Nat),(FW_ p k ws)[j]?=(ws[j]?).map λx=>(x,(p,k+j))
 |[],_,_=>by simp[FW_]
 |w::ws,k,0=>rfl
 |w::ws,k,j+1=>by change(FW_ p (k+1) ws)[j]?=(ws[j]?).map λx=>(x,(p,k+(j+1)));rw[gF_ p ws (k+1) j,show k+1+j=k+(j+1) by lia]
theorem i5_(p:Str)(ws:List Str)(k:Nat):(FW_ p k ws).length=ws.length:=by
 have:=congrArg List.length (go_ p ws k)
 rwa[Ab_]at this
theorem hw_{rows:List (Str×List Str)}{r:Str×List Str}(h:rows[i]?=some r):occ (rows.take (i+1))=occ (rows.take i)++FW_ r.1 0 r.2:=by unfold occ;rw[Bn_,h,Au_,BP_];simp
theorem mM_(ok:FZ_ N)(l m:List (Str×End Str))(h:l++m=occ N.rows):(F2_ l).length<=30:=by
 have e:∀l:List (Str×End Str),(F2_ l).length<=l.length:=λl=>by
  have key:∀n (l:List (Str×End Str)),l.length=n->(F2_ l).length<=n:=λn=>by
   induction n with
   |zero=>intro l h;rw[Ci_ h];show Af_ _
   |succ n ih =>
    intro l h;obtain⟨m,x,rfl⟩:∃m x,l=m++[x]:=⟨l.dropLast,l.getLast (λe=>by rw[e]at h;cases h),(Ds_ _).symm⟩;rw[e5_];have h2:=ih m (by simpa using h);have h3:=congrArg List.length (ey_ (w:=x.1) (e:=x.2) (a:=F2_ m));rw[Ab_]at h3;split at h3
    .rw[Ab_]at h3;lia
    .rw[At_,Ab_]at h3;simp at h3;lia
  show key _ l rfl
 have h1:=e l;have h2:=congrArg List.length h;have h3:=congrArg List.length (hY_ N.rows);rw[Ab_]at h3;have h4:=ok.tot;unfold Net.all at h4;rw[At_]at h2;lia
theorem i6_(ok:FZ_ N)(l m:List (Str×End Str))(h:l++m=occ N.rows):∀kv∈F2_ l,kv.2.length<=30:=λkv hkv=>by
 have h0:=(bZ_ _ l rfl).2.1 kv hkv;have h1:kv.2.length<=l.length:=by rw[h0,Ab_];show Es_ _ _
 have h2:=congrArg List.length h;have h3:=congrArg List.length (hY_ N.rows);rw[Ab_]at h3;have h4:=ok.tot;unfold Net.all at h4;rw[At_]at h2;lia
theorem pv_{a b:Addr}{x y:HO}(h:a≠b):upd (upd H a x) b y=upd (upd H b y) a x:=by
 funext c;by_cases h1:c=a
 .subst h1;rw[aj_ h,ab_,ab_]
 .by_cases h2:c=b
  .subst h2;rw[ab_,aj_ h1,ab_]
  .rw[aj_ h2,aj_ h1,aj_ h1,aj_ h2]
abbrev FC_:Stmt:=stN 26
theorem bc_:ZL ["net","ends","point","wires","place","wire"] ["net"] (Fn_ FC_):=zL
theorem dd_:LK FC_ "enumerate" .globalImplicit:=r_
def I8_:Sp:=λvs H Q _=>∃(v:V)(N:Net Str),vs=[v]/\Rep H v (HM_ N)/\FZ_ N/\∀d S ls H',Fo_ H S->DE dE S H' d ls (Gp_ N)->H d=none->Q (.ref d) H'
theorem iw_(T:Txt K mg)(F:Fn0 K mg "ends_by_wire" FC_):Cal P w K mg base "ends_by_wire" ["net"] 1 I8_:=by
  show aB_ F bc_.1 λf cdv A outer s H vs Q E hr h=>?_;obtain⟨v,N,rfl,hv,ok,k⟩:=h;refine'⟨_,?D,?R⟩
  case D =>
   refine' ad_ ?a (ad_ ?b (ag_ (ao_ (zv 1 bc_))))
   case a=>show zas 1 bc_ hm_
   case' b=>refine' bs_ AG_ rfl (ap_ (K:=K) rfl (Fr_ ak_ (zv 0 bc_) aa_)) (bh_ (K:=K) (n:=2) rfl rfl (an_ ?c (an_ ?d bg_))) ?e
   case c=>show zh 2 bc_
   case d=>show zh 3 bc_
   case' e=>refine' ag_ (bs_ AG_ rfl (qw_ (K:=K) rfl dd_ T.n_enumerate (pa_c (zv 3 bc_) ac_)) (bh_ (K:=K) (n:=2) rfl rfl (an_ ?f (an_ ?g bg_))) ?h)
   case f=>show zh 4 bc_
   case g=>show zh 5 bc_
   case' h=>refine' ag_ (bM_ (G5_ AU_ A8_ A9_ bA_ (G5_ B4_ Cq_ PySem.F.type_dict_setdefault fN_ (zv 1 bc_) (pa_c (zv 5 bc_) (pa_c (by_ ac_) ac_))) ?i))
   case' i=>refine' pa_c (aH_ (pa_c (zv 2 bc_) (pa_c (zv 4 bc_) ac_))) ac_
  case R =>
   nofun;obtain⟨pn,p0,p1,p2,rs,ws,rfl,hn,h0,h1,r1,h2,r2⟩:=cn_ hv;have rl:rs.length=N.rows.length:=by rw[r1.length,Ab_]
   intro d nd;have Sd:Fo_ H (upd H d (HO.dK [])):=Fo_.new nd;show⟨pn,rfl,_,Sd _ _ hn,_,Ge_,p1,rfl,⟨_,.inl (.inl (Sd _ _ h1))⟩,?_⟩;have D0:DE dE H (upd H d (HO.dK [])) d [] (F2_ (occ (N.rows.take 0))):=⟨Sd,ab_,rfl,BS_,λz=>(by cases z),λi l kv z=>(by cases z),nd,λl z=>(by cases z)⟩;show gi_ (xs:=rs) (λi σ H'=>∃(e2 e3 e4 e5:Option V)(S:Hp)(ls:List Addr),σ=[some (.ref pn),some (.ref d),e2,e3,e4,e5]/\Fo_ H S/\DE dE S H' d ls (F2_ (occ (N.rows.take i)))) ⟨none,none,none,none,H,[],rfl,Fo_.refl _,D0⟩ ?_ ?_ ?_
   .rintro i σ H' hi ⟨e2,e3,e4,e5,S,ls,rfl,sS,de⟩;show .inl (.inl (de.sH _ _ (sS _ _ h1)))
   .rintro i x σ H' hx ⟨e2,e3,e4,e5,S,ls,rfl,sS,de⟩;obtain⟨r,q,l,hr1,rfl,hq,hl⟩:=hv_ r1 hx;have s1:=sS.trans de.sH;rw[hw_ hr1];have occle:∀j,∃m,(occ (N.rows.take i)++(FW_ r.1 0 r.2).take j)++m=occ N.rows:=λj=>by show⟨(FW_ r.1 0 r.2).drop j++occ (N.rows.drop (i+1)),?_⟩;rw[A0_,<-A0_ (List.take j _),Bt_,<-A0_,<-hw_ hr1];unfold occ;rw[<-BP_,<-Au_,Bt_]
    nofun;show⟨_,SqT.of (s1 _ _ hq),rfl,_,_,rfl,_,_,rfl,rfl,l,rfl,⟨_,.inl (.inl (s1 _ _ hl))⟩,?_⟩;show qH_ (xs:=r.2.map V.str) (λj σ H'=>∃(e4 e5:Option V)(S:Hp)(ls:List Addr),σ=[some (.ref pn),some (.ref d),some (.str r.1),some (.ref l),e4,e5]/\Fo_ H S/\DE dE S H' d ls (F2_ (occ (N.rows.take i)++(FW_ r.1 0 r.2).take j))) ⟨e4,e5,S,ls,rfl,sS,by rw[Ex_,By_];show de⟩ ?_ ?_ ?_
    .rintro j σ H2 hj ⟨e4,e5,S,ls,rfl,sS,de⟩;show .inl (.inl ((sS.trans de.sH) _ _ hl))
    .rintro j x T0 σ H2 hx ⟨e4,e5,S,ls,rfl,sS,de⟩ nT;rw[Ad_]at hx
     obtain⟨wr,hw,rfl⟩:∃wr,r.2[j]?=some wr/\x=.str wr:=by
      cases e:r.2[j]? with
      |none=>rw[e]at hx;cases hx
      |some wr=>rw[e]at hx;cases hx;show⟨wr,rfl,rfl⟩
     have tk:(FW_ r.1 0 r.2).take (j+1)=(FW_ r.1 0 r.2).take j++[(wr,(r.1,j))]:=by rw[Bn_,gF_,hw];simp
     obtain⟨m,hm⟩:=occle j;have few:=mM_ ok _ _ hm;have short:=i6_ ok _ _ hm;rw[tk,<-A0_,e5_];generalize F2_ (occ (N.rows.take i)++(FW_ r.1 0 r.2).take j)=acc at*;have de2:=de.mono (Fo_.new nT (o:=HO.tup [V.int j,V.str wr]));have hT:=ab_ (H:=H2) (a:=T0) (o:=HO.tup [V.int j,V.str wr]);generalize upd H2 T0 (HO.tup [V.int j,V.str wr])=H3 at*;nofun;show⟨_,SqT.of hT,rfl,_,_,rfl,_,_,rfl,rfl,.inr (.inr (.inl (.inl ⟨_,de2.dict⟩))),AD_ _,λq nq=>?_⟩;have qd:q≠d:=(ae_ de2.dict nq).symm;have ql:q∉ls:=λz=>by obtain⟨i0,hi0,ei⟩:=Ay_.mp z;obtain⟨vs,z2,_⟩:=de2.lst i0 q (acc[i0]'(by rw[<-de2.len];show hi0)) (by rw[Ac_ hi0,ei]) (Ac_ _);rw[nq]at z2;cases z2
     have Sq:S q=none:=de2.sH.free nq;have de3:=de2.mono (Fo_.new nq (o:=HO.lst []));have hq4:=ab_ (H:=H3) (a:=q) (o:=HO.lst []);generalize upd H3 q (HO.lst [])=H4 at*;show⟨_,.inr wr,rfl,de3.dict,by rw[lT_ de3.len];lia,λv2 hv2=>?_,λhnone=>?_⟩
     .have hex:∃kv∈acc,kv.1=wr:=by
       by_cases hc:∃kv∈acc,kv.1=wr
       .show hc
       .rw[hu_ (λkv hkv z=>hc ⟨kv,hkv,z⟩)]at hv2;cases hv2
      obtain⟨i0,es,g1,g2,g3⟩:=dj_ (e:=(r.1,j)) hex;obtain⟨lw,l1,l2⟩:=e9_ de3.len g1 g2;rw[l2]at hv2;cases hv2;obtain⟨vs,hvs,hrep⟩:=de3.lst i0 lw _ l1 g1;have vle:vs.length<=30:=by rw[hrep.length,Ab_];show short _ (Ai_ g1)
      show⟨.inl ⟨_,.inl (.inl hvs)⟩,d_,λt nt=>⟨lw,rfl,vs,(Fo_.new nt) _ _ hvs,Fq_ o_,?_⟩⟩;have de5:=de3.stay nt (.tup [.str r.1,.int j]);have de6:=de5.old g1 l1 ((Fo_.new nt) _ _ hvs) (FE_.mono (bn_ de3.sH nt) _ hrep) (e:=(r.1,j)) ⟨t,_,rfl,ab_,_,_,rfl,rfl,_,_,rfl,rfl,rfl⟩;rw[g3];show⟨_,sS.trans (bn_ de3.sH nt),ls,de6⟩
     .have hno:∀kv∈acc,kv.1≠wr:=λkv hkv z=>by obtain⟨i0,es,g1,g2,g3⟩:=dj_ (e:=(r.1,j)) ⟨kv,hkv,z⟩;obtain⟨lw,l1,l2⟩:=e9_ de3.len g1 g2;rw[l2]at hnone;cases hnone
      have hqd:upd H4 d (HO.dK (GH_ (Gw_ acc ls) (Sum.inr wr) (V.ref q))) q=some (.lst []):=by rw[aj_ qd];show hq4
      show⟨.inl ⟨_,.inl (.inl hqd)⟩,d_,λt nt=>?_⟩;have td:t≠d:=λz=>by rw[z,ab_]at nt;cases nt
      have nt4:H4 t=none:=by rw[aj_ td]at nt;show nt
      have tq:t≠q:=(ae_ hq4 nt4).symm;have de5:=de3.stay nt4 (.tup [.str r.1,.int j]);have de6:=de5.new (e:=(r.1,j)) (q:=q) hno (by rw[aj_ tq.symm];show hq4) qd ql (by rw[aj_ tq.symm];show Sq) ⟨t,_,rfl,ab_,_,_,rfl,rfl,_,_,rfl,rfl,rfl⟩;show⟨[],by rw[aj_ tq.symm];show hqd,Fq_ d_,upd S t (.tup [.str r.1,.int j]),sS.trans (bn_ de3.sH nt4),ls++[q],?_⟩;rw[hX_ hno,pv_ td.symm];show de6
    .rintro σ H2 ⟨e4,e5,S,ls,rfl,sS,de⟩;rw[AR_ (l:=FW_ r.1 0 r.2) (by rw[i5_,Ab_];show Af_ _)]at de;show⟨_,_,_,_,rfl,S,sS,ls,de⟩
   .rintro σ H' ⟨e2,e3,e4,e5,S,ls,rfl,sS,de⟩;rw[AR_ o_]at de;nofun;show k d S ls H' sS de nd
structure Nt(K:PySem.W.Frag)(mg:Str->Option Value)(CN:Addr):Prop where
 m:mg "NOUGHT"=some (.ref CN)
 sq:∀H:Hp,SqT K H CN [.int 0,.int 1]
 lk:∃o,K.lookup CN=some o
variable {CN:Addr}
def But(l:Addr)(H H':Hp):Prop:=∀b o,b≠l->H b=some o->H' b=some o
theorem But.trans{H1 H2:Hp}(a:But l H H1)(b:But l H1 H2):But l H H2:=λc o n h=>b c o n (a c o n h)
theorem But.of(s:Fo_ H H'):But l H H':=λb o _ h=>s b o h
theorem But.upd{o:HO}(a:But l H H'):But l H (L2.upd H' l o):=λb z n h=>by rw[aj_ n];show a b z n h
structure Pl(B H:Hp)(d:Addr)(f:Str->Str->Int)(Bt:Int)(n:Nat):Prop where
 ex:∃kvs:List (List Key×V),H d=some (.dT kvs)/\kvs.length<=n/\(∀x y v,Gf_ kvs [.inr x,.inr y]=some v->∃q,v=.ref q/\B q=none/\H q=some (.tup [.int (nf (f x y) Bt).1,.int (nf (f x y) Bt).2]))/\∀x y,Gf_ kvs [.inr x,.inr y]=none->f x y=0
 le:∀x y,(f x y).natAbs<=n*(1000*Bt).natAbs
theorem Pl.mono{B:Hp}{f:Str->Str->Int}{Bt:Int}(h:Pl B H d f Bt n)(s:Fo_ H H'):Pl B H' d f Bt n:=by obtain⟨⟨kvs,h1,h2,h3,h4⟩,h5⟩:=h;show⟨⟨kvs,s _ _ h1,h2,λx y v e=>let⟨q,a,b,c⟩:=h3 x y v e;⟨q,a,b,s _ _ c⟩,h4⟩,h5⟩
theorem Pl.put{B H:Hp}{d z:Addr}{f:Str->Str->Int}{Bt X:Int}{n:Nat}{a b:Str}{kvs:List (List Key×V)}(h1:H d=some (.dT kvs))(h2:kvs.length<=n)(h3:∀x y v,Gf_ kvs [.inr x,.inr y]=some v->∃q,v=.ref q/\B q=none/\H q=some (.tup [.int (nf (f x y) Bt).1,.int (nf (f x y) Bt).2]))(h4:∀x y,Gf_ kvs [.inr x,.inr y]=none->f x y=0)
  (h5:∀x y,(f x y).natAbs<=n*(1000*Bt).natAbs) (hX:X.natAbs<=(1000*Bt).natAbs) (hz:H z=some (.tup [.int (nf (f a b+X) Bt).1,.int (nf (f a b+X) Bt).2])) (zB:B z=none):Pl B (L2.upd H d (.dT (GH_ kvs [.inr a,.inr b] (.ref z)))) d (fadd f a b X) Bt (n+1):=by
 have ne:∀q xs,H q=some (.tup xs)->L2.upd H d (.dT (GH_ kvs [.inr a,.inr b] (.ref z))) q=some (.tup xs):=λq xs e=>by rw[aj_ (λc=>by rw[c,h1]at e;cases e)];show e
 have key:∀x y,([.inr x,.inr y]:List Key)=[.inr a,.inr b]↔x=a/\y=b:=λx y=>s_
 show⟨⟨_,ab_,Am_ (bt_ _ _ _) o_,λx y v e=>?_,λx y e=>?_⟩,λx y=>qQ_ h5 hX x y⟩
 .rw[dJ_]at e;by_cases hxy:x=a/\y=b
  .rw[if_pos ((key x y).mpr hxy)]at e;cases e;show⟨z,rfl,zB,ne _ _ ?_⟩;unfold fadd;rw[if_pos hxy,hxy.1,hxy.2];show hz
  .rw[if_neg (λc=>hxy ((key x y).mp c))]at e;obtain⟨q,e1,e2,e3⟩:=h3 x y v e;show⟨q,e1,e2,ne _ _ ?_⟩;unfold fadd;rw[if_neg hxy];show e3
 .rw[dJ_]at e;by_cases hxy:x=a/\y=b
  .rw[if_pos ((key x y).mpr hxy)]at e;cases e
  .rw[if_neg (λc=>hxy ((key x y).mp c))]at e;unfold fadd;rw[if_neg hxy];show h4 x y e
theorem qd_{B:Hp}{f:Str->Str->Int}{Bt:Int}{kvs:List (List Key×V)}(hN:Nt K mg CN)(hB:Bt≠0)(h3:∀x y v,Gf_ kvs [.inr x,.inr y]=some v->∃q,v=.ref q/\B q=none/\H q=some (.tup [.int (nf (f x y) Bt).1,.int (nf (f x y) Bt).2]))(h4:∀x y,Gf_ kvs [.inr x,.inr y]=none->f x y=0)(x y:Str):
  FQ K H ((Gf_ kvs [.inr x,.inr y]).getD (.ref CN)) (nf (f x y) Bt):=by
 cases e:Gf_ kvs [.inr x,.inr y]with
 |none =>
  rw[h4 x y e,gp_ hB];show⟨CN,rfl,hN.sq H⟩
 |some v =>obtain⟨q,e1,_,e3⟩:=h3 x y v e;show⟨q,e1,SqT.of e3⟩
theorem hx_:∀(kvs D:List (Key×V)),((D++kvs).map (·.1)).Nodup->GE_ D kvs=D++kvs
 |[],D,_=>by rw[By_];rfl
 |kv::kvs,D,h=>by
  have hn:Gf_ D kv.1=none:=by
   cases e:Gf_ D kv.1 with
   |none=>rfl
   |some v =>have h1:=qy_ e;rw[Au_,Br_]at h;show absurd rfl (h.2.2 _ h1 kv.1 s_)
  change GE_ (GH_ D kv.1 kv.2) kvs=_;rw[o6_ _ hn,hx_ kvs (D++[kv]) (by rw[A0_];show h),A0_];rfl
theorem jS_:∀{kvs:List (Key×V)}{k:Key}{v:V},(kvs.map (·.1)).Nodup->(k,v)∈kvs->Gf_ kvs k=some v
 |kv::kvs,k,v,h,hm=>by
  rcases Aq_.mp hm with e|e
  .rw[<-e];show bw_ rfl
  .have h':=A5_.mp h;rw[br_ (λc=>h'.1 (Aj_.mpr ⟨_,e,(show kv.1=k from c).symm⟩))];show jS_ h'.2 e
def bN(N:Net Str):Int:=bot N.worths
def wN(N:Net Str)(x:Str):Int×Int:=((N.worths.find? λr=>decide (r.1=x)).map (·.2)).getD (0,1)
def p1(kv:Str×List (End Str)):Str:=(kv.2.head?.map (·.1)).getD Str.empty
def p2(kv:Str×List (End Str)):Str:=(kv.2[1]?.map (·.1)).getD Str.empty
def tie(N:Net Str)(kv:Str×List (End Str)):Str×Str×Int:=(p1 kv,p2 kv,Xw (bN N) (wN N kv.1))
def ties(N:Net Str):List (Str×Str×Int):=(Gp_ N).map (tie N)
theorem mN_(ok:FZ_ N)(wo:WOk N):0<bN N/\bN N<=1000 ^ 15:=by have:=og_ wo.ws;show⟨this.1,CW_ this.2 (r3_ ok.wl)⟩
theorem Jy_(wo:WOk N)(h:x∈N.all):(x,wN N x)∈N.worths:=by
 obtain⟨r,hr,e⟩:=Aj_.mp ((wo.mem x).mpr h);unfold wN;cases z:N.worths.find? λr=>decide (r.1=x)with
 |none =>
  have:=List.find?_eq_none.mp z r hr;simp[e]at this
 |some r' =>have h1:=List.mem_of_find?_eq_some z;have h2:r'.1=x:=Bb_ (by simpa using List.find?_some z);rw[<-h2];show h1
theorem Kr_(ok:FZ_ N)(wo:WOk N)(h:x∈N.all):Ws (wN N x)/\Is (wN N x) (Xw (bN N) (wN N x)) (bN N)/\(Xw (bN N) (wN N x)).natAbs<=(1000*bN N).natAbs:=by have h1:=Jy_ wo h;have h2:=wo.ws _ h1;have h3:=(mN_ ok wo).1;show⟨h2,Mj_ h2.1 h3 (lx_ h1),Mo_ h2 h3⟩
theorem LL_{t Bt:Int}(h0:0<Bt)(h1:Bt<=1000 ^ 15)(hn:n<=62)(ht:t.natAbs<=n*(1000*Bt).natAbs):Low (nf t Bt)/\Builtin.Int.intBits (nf t Bt).1<=200/\Builtin.Int.intBits (nf t Bt).2<=200:=by
 have ha:=dk_ (t:=t) (b:=Bt) o_;show⟨(iT_ o_).1,Az_ (b:=62*(1000*1000 ^ 15)) (Am_ ha.1 (Am_ ht ?_)) r_,Az_ (b:=1000 ^ 15) (Am_ ha.2 o_) r_⟩;have:(1000*Bt).natAbs<=(1000*1000 ^ 15:Int).natAbs:=o_
 show Am_ (AX_ hn this) r_
theorem Sm.of{p:Int×Int}(h:Low p/\Builtin.Int.intBits p.1<=200/\Builtin.Int.intBits p.2<=200):Sm p:=⟨h.1,o_,o_⟩
theorem Sm.ws{p:Int×Int}(h:Ws p):Sm p:=by have:=h.1.pos;obtain⟨h1,h2,h3,h4⟩:=h;show⟨h1,Az_ (b:=1000) o_ d_,Az_ (b:=1000) o_ d_⟩
theorem oD_:bootBuiltins "dict"=some (.type "dict"):=r_
theorem ix_{H:Hp}:∀{ws:List V}{wo:List (Str×(Int×Int))},FE_ H ws (wo.map dWo)->∃kvs:List (Key×V),kvs.map (·.1)=wo.map (λr=>Sum.inr r.1)/\ws.length=kvs.length/\(∀(i:Nat)(q:Key×V),kvs[i]?=some q->∃a,ws[i]?=some (.ref a)/\H a=some (.tup [kV q.1,q.2]))/\∀r∈wo,∃v,(Sum.inr r.1,v)∈kvs/\Rep H v (dF r.2)
 |_,[],h=>by
  cases h;show⟨[],rfl,rfl,λi q e=>(nomatch e),λr hr=>(nomatch hr)⟩
 |_,r::wo,⟨x,l,e,hx,hl⟩=>by
  subst e;obtain⟨kvs,k1,k2,k3,k4⟩:=ix_ hl;obtain⟨a,_,ea,ha,x1,_,e1,hx1,x2,_,e2,hx2,e3⟩:=hx;subst e3 e2 e1;cases hx1;show⟨(.inr r.1,x2)::kvs,by rw[Av_,Av_,k1],by rw[AH_,AH_,k2],λi q e=>?_,λr' hr=>?_⟩
  .cases i with
   |zero=>cases e;show⟨a,by rw[ea];rfl,ha⟩
   |succ i=>show k3 i q e
  .rcases Aq_.mp hr with rfl|hr
   .show⟨x2,Ah_,hx2⟩
   .obtain⟨v,hv1,hv2⟩:=k4 r' hr;show⟨v,Ag_ _ hv1,hv2⟩
theorem oE_:∀{acc:List (Str×List (End Str))}{ls:List Addr}{i:Nat}{k:Key}{x:V},(Gw_ acc ls)[i]?=some (k,x)->∃kv l,acc[i]?=some kv/\ls[i]?=some l/\k=.inr kv.1/\x=.ref l
 |[],_,_,_,_,h=>by unfold Gw_ at h;rw[Ew_]at h;cases h
 |_::_,[],_,_,_,h=>by cases h
 |kv::acc,l::ls,0,_,_,h=>by cases h;show⟨kv,l,rfl,rfl,rfl,rfl⟩
 |kv::acc,l::ls,i+1,_,_,h=>oE_ (acc:=acc) (ls:=ls) (i:=i) h
theorem iy_:x∈(Gp_ N).map (·.1)↔x∈N.all:=by
 have sp:=bZ_ _ (occ N.rows) rfl;have e:(occ N.rows).map (·.1)=N.all:=hY_ N.rows;rw[<-e];constructor
 .intro h;obtain⟨kv,h1,rfl⟩:=Aj_.mp h;obtain⟨y,h2,h3⟩:=sp.2.2.2 kv h1;show Aj_.mpr ⟨y,h2,h3⟩
 .intro h;obtain⟨y,h1,rfl⟩:=Aj_.mp h;obtain⟨kv,h2,h3⟩:=sp.2.2.1 y h1;show Aj_.mpr ⟨kv,h2,h3⟩
theorem k1_(wo:WOk N):((Gp_ N).map (·.1)).Perm (N.worths.map (·.1)):=fl_ (lt_ N) wo.nd λx=>by rw[iy_,wo.mem]
theorem oF_(ok:FZ_ N)(wo:WOk N):(Gp_ N).length<=15:=by have:=(k1_ wo).length_eq;rw[Ab_,Ab_]at this;have:=ok.wl;lia
abbrev FG_:Stmt:=stN 27
theorem bJ_:ZL ["net","worths","pulls","wire","pair","near","far"] ["net"] (Fn_ FG_):=zL
theorem c7_:LK FG_ "NOUGHT" .globalImplicit:=r_
theorem hc_:LK FG_ "dict" .globalImplicit:=r_
theorem dz_:LK FG_ "ends_by_wire" .globalImplicit:=r_
theorem gH_:LK FG_ "minus" .globalImplicit:=r_
theorem hd_:LK FG_ "plus" .globalImplicit:=r_
def HO_:Sp:=λvs H Q _=>∃(v:V)(N:Net Str),vs=[v]/\Rep H v (HM_ N)/\FZ_ N/\WOk N/\∀d H',Fo_ H H'->H d=none->Pl H H' d (sm (ties N)) (bN N) (4*(Gp_ N).length)->Q (.ref d) H'
theorem lU_(T:Txt K mg)(hN:Nt K mg CN)(F:Fn0 K mg "pulls_of" FG_) (Hx_:Cal P w K mg base "ends_by_wire" ["net"] 1 I8_) (LN_:Cal P w K mg base "plus" ["one","other"] 3 (H0_ K (λp q=>p.1*q.2+q.1*p.2) (λp q=>p.2*q.2))) (Im_:Cal P w K mg base "minus" ["one","other"] 3 (H0_ K (λp q=>p.1*q.2-q.1*p.2) (λp q=>p.2*q.2))):Cal P w K mg base "pulls_of" ["net"] 4 HO_:=by
  show aB_ F bJ_.1 λf cdv A outer s H vs Q E hr h=>?_;obtain⟨v,N,rfl,hv,ok,wo,k⟩:=h;refine'⟨_,?D,?R⟩
  case D =>
   refine' ar_ (zas 1 bJ_ (b5_ (iZ_ rfl) hc_ T.n_dict oD_ (pa_c (Fr_ ak_ (zv 0 bJ_) aa_) ac_))) ?a
   case' a=>refine' ar_ ?b (ad_ ?c (ag_ (ao_ (zv 2 bJ_))))
   case b=>show zas 2 bJ_ mf_
   case' c=>refine' bs_ AG_ rfl (oe_ (af_ Hx_ (hr.mono d_) dz_ (pa_c (zv 0 bJ_) ac_))) (bh_ (K:=K) (n:=2) rfl rfl (an_ ?d (an_ ?e bg_))) ?f
   case d=>show zh 3 bJ_
   case e=>show zh 4 bJ_
   case' f=>refine' ag_ (bs_ AG_ rfl (qt_ (K:=K) rfl (aH_ ?g)) (bh_ (K:=K) (n:=2) rfl rfl (an_ ?h (an_ ?i bg_))) ?j)
   case' g=>refine' pa_c (aH_ (pa_c (Fr_ ak_ (Fr_ al_ (zv 4 bJ_) aa_) aa_) (pa_c (Fr_ ak_ (Fr_ al_ (zv 4 bJ_) aa_) aa_) ac_))) ?k
   case' k=>refine' pa_c (aH_ (pa_c (Fr_ ak_ (Fr_ al_ (zv 4 bJ_) aa_) aa_) (pa_c (Fr_ ak_ (Fr_ al_ (zv 4 bJ_) aa_) aa_) ac_))) ac_
   case h=>show zh 5 bJ_
   case i=>show zh 6 bJ_
   case' j=>refine' ar_ (ex_ (un1 hr.units) (zv 2 bJ_) (aH_ (pa_c (zv 5 bJ_) (pa_c (zv 5 bJ_) ac_))) ?l rfl) ?m
   case' l=>refine' af_ LN_ (hr.mono d_) hd_ (pa_c (jp_ (un1 hr.units) (zv 2 bJ_) (aH_ (pa_c (zv 5 bJ_) (pa_c (zv 5 bJ_) ac_))) ?n ⟨rfl,rfl,rfl,rfl⟩) (pa_c (bY_ (un1 hr.units) (zv 1 bJ_) (zv 3 bJ_)) ac_))
   case n=>show jt_ hN.m c7_
   case' m=>refine' ag_ (ex_ (un1 hr.units) (zv 2 bJ_) (aH_ (pa_c (zv 5 bJ_) (pa_c (zv 6 bJ_) ac_))) ?o rfl)
   case' o=>refine' af_ Im_ (hr.mono d_) gH_ (pa_c (jp_ (un1 hr.units) (zv 2 bJ_) (aH_ (pa_c (zv 5 bJ_) (pa_c (zv 6 bJ_) ac_))) ?p ⟨rfl,rfl,rfl,rfl⟩) (pa_c (bY_ (un1 hr.units) (zv 1 bJ_) (zv 3 bJ_)) ac_))
   case p=>show jt_ hN.m c7_
  case R =>
   nofun;obtain⟨pn,p0,p1,p2,rs,ws,rfl,hn,h0,h1,r1,h2,r2⟩:=cn_ hv;obtain⟨kvs,kn,kl,kp,kw⟩:=ix_ r2;have knd:(kvs.map (·.1)).Nodup:=by rw[kn];show Cm_.mpr ((Cm_.mp wo.nd).imp λne z=>ne (Cd_ z))
   have wl:=ok.wl;have kl2:kvs.length<=15:=by have:=congrArg List.length kn;rw[Ab_,Ab_]at this;lia
   show⟨pn,rfl,_,hn,_,IK_,p2,rfl,ws,h2,kvs,kl,o_,kp,λwd nw=>?_⟩;rw[hx_ kvs [] knd,CK_];have S1:Fo_ H (upd H wd (HO.dK kvs)):=Fo_.new nw;have hwd:=ab_ (H:=H) (a:=wd) (o:=HO.dK kvs);generalize upd H wd (HO.dK kvs)=H1 at*;nofun;intro pd np;have S2:Fo_ H1 (upd H1 pd (HO.dT [])):=Fo_.new np;have hpd:=ab_ (H:=H1) (a:=pd) (o:=HO.dT []);generalize upd H1 pd (HO.dT [])=H2 at*;nofun;show⟨_,N,rfl,Rep.mono (S1.trans S2) _ hv,ok,λd S ls H' sS de nd=>⟨d,rfl,_,de.dict,λob=>?_⟩⟩;have S3:Fo_ H2 H':=sS.trans de.sH;have hpd':=S3 _ _ hpd;have dpd:d≠pd:=λe=>by rw[e,hpd]at nd;cases nd
   have dwd:wd≠d:=λe=>by rw[<-e,S2 _ _ hwd]at nd;cases nd
   have wpd:wd≠pd:=λe=>by rw[<-e,hwd]at np;cases np
   have hd3:=ab_ (H:=H') (a:=d) (o:=HO.frz ob (HO.dK (Gw_ (Gp_ N) ls)));have s23:Fo_ H2 (upd H' d (HO.frz ob (HO.dK (Gw_ (Gp_ N) ls)))):=S3.upd nd;have sS3:Fo_ S (upd H' d (HO.frz ob (HO.dK (Gw_ (Gp_ N) ls)))):=de.sH.upd de.fd
   have hl3:∀(i:Nat)(l:Addr)(kv:Str×List (End Str)),ls[i]?=some l->(Gp_ N)[i]?=some kv->l≠pd/\∃vs,upd H' d (HO.frz ob (HO.dK (Gw_ (Gp_ N) ls))) l=some (.lst vs)/\FE_ S vs (kv.2.map dE):=λi l kv e1 e2=>by
    obtain⟨vs,g1,g2⟩:=de.lst i l kv e1 e2;have lm:=Ai_ e1;show⟨λe=>?_,vs,?_,g2⟩
    .have:=de.fl l lm;rw[e,sS _ _ hpd]at this;cases this
    .rw[aj_ (λe=>de.dn (by rw[<-e];show lm))];show g1
   generalize upd H' d (HO.frz ob (HO.dK (Gw_ (Gp_ N) ls)))=H3 at*;have len:=lT_ de.len;clear de;show r1_ (λi σ Hx=>∃(e3 e4 e5 e6:Option V),σ=[some (.ref pn),some (.ref wd),some (.ref pd),e3,e4,e5,e6]/\But pd H3 Hx/\Pl H Hx pd (sm ((ties N).take i)) (bN N) (4*i)) ⟨_,_,_,_,rfl,λ_ _ _ h=>h,⟨⟨[],s23 _ _ hpd,Af_ _,λx y v e=>(nomatch e),λx y _=>rfl⟩,λx y=>AD_ _⟩⟩ ?_ ?_ ?_
   .rintro i σ Hx hi ⟨e3,e4,e5,e6,rfl,hb,pl⟩;show hb _ _ dpd hd3
   .rintro i kk0 x T0 σ Hx hx nT kk kb hk hbk G hG ⟨e3,e4,e5,e6,rfl,hb,pl⟩;obtain⟨kv,l,a1,a2,rfl,rfl⟩:=oE_ hx;obtain⟨lpd,vs,hl,rvs⟩:=hl3 i l kv a2 a1;obtain⟨ea,eb,e2⟩:=hr_ ok (Ai_ a1);rw[e2]at rvs;obtain⟨xa,_,ex1,⟨va,_,rfl,hva,_,_,ea1,hea1,_,_,ea2,hea2,ea3⟩,xb,_,ex2,⟨vb,_,rfl,hvb,_,_,eb1,heb1,_,_,eb2,heb2,eb3⟩,ex3⟩:=rvs;subst ex3 ex2 ex1 ea3 ea2 ea1 eb3 eb2 eb1;cases hea1;cases hea2;cases heb1;cases heb2;have old:∀b o,S b=some o->b≠pd->Hx b=some o:=λb o e ne=>hb _ _ ne (sS3 _ _ e);have hpS:=sS _ _ hpd;have vapd:va≠pd:=λe=>by rw[e,hpS]at hva;cases hva
    have vbpd:vb≠pd:=λe=>by rw[e,hpS]at hvb;cases hvb
    have S4:=Fo_.new nT (o:=HO.tup [kV (Sum.inr kv.1),V.ref l]);have hT:=ab_ (H:=Hx) (a:=T0) (o:=HO.tup [kV (Sum.inr kv.1),V.ref l]);have hl4:=S4 _ _ (hb _ _ lpd hl);have hva4:=S4 _ _ (old _ _ hva vapd);have hvb4:=S4 _ _ (old _ _ hvb vbpd);have pl4:=pl.mono S4;have hb4:=hb.trans (But.of S4);generalize upd Hx T0 (HO.tup [kV (Sum.inr kv.1),V.ref l])=H4 at*;clear S4 pl hb nT;nofun;show⟨_,SqT.of hT,rfl,_,_,rfl,_,_,rfl,rfl,l,rfl,_,hl4,_,F4_,va,rfl,_,hva4,_,F4_,l,rfl,_,hl4,_,Ge_,vb,rfl,_,hvb4,_,F4_,d_,λt1 n1=>?_⟩;have S5:=Fo_.new n1 (o:=HO.tup [V.str ea.1,V.str eb.1]);have ht1:=ab_ (H:=H4) (a:=t1) (o:=HO.tup [V.str ea.1,V.str eb.1]);generalize upd H4 t1 (HO.tup [V.str ea.1,V.str eb.1])=H5 at*;show⟨l,rfl,_,S5 _ _ hl4,_,Ge_,vb,rfl,_,S5 _ _ hvb4,_,F4_,l,rfl,_,S5 _ _ hl4,_,F4_,va,rfl,_,S5 _ _ hva4,_,F4_,d_,λt2 n2=>⟨d_,λtt nt=>?_⟩⟩;have S6:=Fo_.new n2 (o:=HO.tup [V.str eb.1,V.str ea.1]);have ht2:=ab_ (H:=H5) (a:=t2) (o:=HO.tup [V.str eb.1,V.str ea.1]);generalize upd H5 t2 (HO.tup [V.str eb.1,V.str ea.1])=H6 at*;have S7:=Fo_.new nt (o:=HO.tup [V.ref t1,V.ref t2]);have htt:=ab_ (H:=H6) (a:=tt) (o:=HO.tup [V.ref t1,V.ref t2]);generalize upd H6 tt (HO.tup [V.ref t1,V.ref t2])=H7 at*;have S47:=S5.trans (S6.trans S7);have pl7:=pl4.mono S47;have hb7:=hb4.trans (But.of S47);have ht17:=(S6.trans S7) _ _ ht1;have ht27:=S7 _ _ ht2;clear hl4 hva4 hvb4 S5 S6 S7 S47 pl4 hb4 hT ht1 ht2 n1 n2 nt;have kin:kv.1∈N.all:=iy_.mp (Aj_.mpr ⟨kv,Ai_ a1,rfl⟩);obtain⟨wws,wis,wle⟩:=Kr_ ok wo kin;obtain⟨wv,wv1,wv2⟩:=kw _ (Jy_ wo kin);have wval:=jS_ knd wv1;obtain⟨fa,rfl,hfa⟩:=bB_ wv2;have Hpd:H pd=none:=S1.free np;have fapd:fa≠pd:=λe=>by rw[e,Hpd]at hfa;cases hfa
    have hfa3:=s23 _ _ ((S1.trans S2) _ _ hfa);have hwd3:=s23 _ _ (S2 _ _ hwd);have il:=Ar_.mp a1;have i15:i<15:=AL_ il.1 (oF_ ok wo);obtain⟨bp,ble⟩:=mN_ ok wo
    have et:(ties N).take (i+1)=(ties N).take i++[(ea.1,eb.1,Xw (bN N) (wN N kv.1))]:=by
     have e3:(ties N)[i]?=some (ea.1,eb.1,Xw (bN N) (wN N kv.1)):=by unfold ties;rw[Ad_,a1];change some (tie N kv)=_;unfold tie Rim19.p1 Rim19.p2;rw[e2];rfl
     rw[Bn_,e3];rfl
    generalize Xw (bN N) (wN N kv.1)=X at*;have wneg:(-X).natAbs<=(1000*bN N).natAbs:=by rw[Du_];show wle
    show⟨⟨_,SqT.of htt⟩,qL_ (xs:=[V.ref t1,V.ref t2]) (λj σ Hy=>∃e5 e6,σ=[some (V.ref pn),some (V.ref wd),some (V.ref pd),some (V.str kv.1),some (V.ref l),e5,e6]/\But pd H7 Hy/\Pl H Hy pd (if j=0 then sm ((ties N).take i)else if j=1 then fadd (fadd (sm ((ties N).take i)) ea.1 ea.1 X) ea.1 eb.1 (-X)else fadd (fadd (fadd (fadd (sm ((ties N).take i)) ea.1 ea.1 X) ea.1 eb.1 (-X)) eb.1 eb.1 X) eb.1 ea.1 (-X)) (bN N) (4*i+2*j)) ⟨_,_,rfl,λ_ _ _ h=>h,pl7⟩ ?_ ?_ ?_⟩
    .rintro j σ Hy hj ⟨e5,e6,rfl,hb,pl⟩;show SqT.of (hb _ _ (λe=>by rw[e]at htt;obtain⟨⟨_,z,_⟩,_⟩:=pl7;rw[z]at htt;cases htt) htt)
    .rintro j x σ Hy hx kk1 kb1 hk1 hb1 G1 hG1 ⟨e5,e6,rfl,hb,pl⟩;have tne:∀t xs,H7 t=some (.tup xs)->t≠pd:=λt xs h e=>by obtain⟨⟨_,z,_⟩,_⟩:=pl7;rw[e,z]at h;cases h
     obtain⟨a,b,t,rfl,ht,hfj,j2⟩:∃a b t,x=.ref t/\Hy t=some (.tup [.str a,.str b])/\(if j+1=0 then sm ((ties N).take i)else if j+1=1 then fadd (fadd (sm ((ties N).take i)) ea.1 ea.1 X) ea.1 eb.1 (-X)else fadd (fadd (fadd (fadd (sm ((ties N).take i)) ea.1 ea.1 X) ea.1 eb.1 (-X)) eb.1 eb.1 X) eb.1 ea.1 (-X))=fadd (fadd (if j=0 then sm ((ties N).take i)else if j=1 then fadd (fadd (sm ((ties N).take i)) ea.1 ea.1 X) ea.1 eb.1 (-X)else fadd (fadd (fadd (fadd (sm ((ties N).take i)) ea.1 ea.1 X) ea.1 eb.1 (-X)) eb.1 eb.1 X) eb.1 ea.1 (-X)) a a X) a b (-X)/\j<=1:=by
      cases j with
      |zero=>cases hx;show⟨ea.1,eb.1,t1,rfl,hb _ _ (tne _ _ ht17) ht17,rfl,d_⟩
      |succ j =>
       cases j with
       |zero=>cases hx;show⟨eb.1,ea.1,t2,rfl,hb _ _ (tne _ _ ht27) ht27,rfl,d_⟩
       |succ j=>cases hx
     rw[hfj]at hk1;generalize(if j=0 then sm ((ties N).take i)else if j=1 then fadd (fadd (sm ((ties N).take i)) ea.1 ea.1 X) ea.1 eb.1 (-X)else fadd (fadd (fadd (fadd (sm ((ties N).take i)) ea.1 ea.1 X) ea.1 eb.1 (-X)) eb.1 eb.1 X) eb.1 ea.1 (-X))=g at pl hk1;clear hfj tne hx;nofun;show⟨_,SqT.of ht,rfl,_,_,rfl,_,_,rfl,rfl,?_⟩;nofun;obtain⟨⟨kv0,q1,q2,q3,q4⟩,q5⟩:=pl;show⟨.inr ⟨kv0,.inl q1⟩,d_,λkp nk=>?_⟩;have S8:=Fo_.new nk (o:=HO.tup [V.str a,V.str a]);have hkp:=ab_ (H:=Hy) (a:=kp) (o:=HO.tup [V.str a,V.str a]);generalize upd Hy kp (HO.tup [V.str a,V.str a])=H8 at*;have hb8:=(hb7.trans hb).trans (But.of S8);have g3:∀x y v,Gf_ kv0 [.inr x,.inr y]=some v->∃q,v=.ref q/\H q=none/\H8 q=some (.tup [.int (nf (g x y) (bN N)).1,.int (nf (g x y) (bN N)).2]):=λx y v e=>let⟨q,z1,z2,z3⟩:=q3 x y v e;⟨q,z1,z2,S8 _ _ z3⟩;have q18:=S8 _ _ q1;have dg:=GY_.k (k:=.inr kv.1) (hb8 _ _ wpd hwd3);rw[wval]at dg;have sg:=LL_ bp ble (show 4*i+2*j+0<=62 by lia) (q5 a a);show⟨_,GY_.t (k:=[.inr a,.inr a]) q18 hkp,_,dg,_,_,nf (g a a) (bN N),wN N kv.1,rfl,qd_ hN o_ g3 q4 a a,⟨fa,rfl,SqT.of (hb8 _ _ fapd hfa3)⟩,Sm.of sg,Sm.ws wws,?_,λz H9 S9 nz hz=>⟨d_,λkp2 nk2=>?_⟩⟩
     .have z1:=sg.1.pos;have z2:=wws.1.pos;show AW_ o_ o_
     have S10:=Fo_.new nk2 (o:=HO.tup [V.str a,V.str a]);have hkp2:=ab_ (H:=H9) (a:=kp2) (o:=HO.tup [V.str a,V.str a]);have hz10:=S10 _ _ hz;have S810:=S9.trans S10;generalize upd H9 kp2 (HO.tup [V.str a,V.str a])=H10 at*
     have Hz:H z=none:=by
      cases e:H z with
      |none=>rfl
      |some o =>rw[hb8 _ _ (λc=>by rw[c,Hpd]at e;cases e) (s23 _ _ ((S1.trans S2) _ _ e))]at nz;cases nz
     have hz11:H10 z=some (.tup [.int (nf (g a a+X) (bN N)).1,.int (nf (g a a+X) (bN N)).2]):=by have e:=(GQ_ (t:=g a a) (b:=bN N) o_).plusB wis;rw[<-e];show hz10
     have pz:=Pl.put (X:=X) (a:=a) (b:=a) (S810 _ _ q18) q2 (λx y v e=>let⟨q,z1,z2,z3⟩:=g3 x y v e;⟨q,z1,z2,S810 _ _ z3⟩) q4 q5 wle hz11 Hz;have b7:=((hb.trans (But.of S8)).trans (But.of S810)).upd (o:=HO.dT (GH_ kv0 [.inr a,.inr a] (.ref z)));have bz:=(hb8.trans (But.of S810)).upd (o:=HO.dT (GH_ kv0 [.inr a,.inr a] (.ref z)));show⟨_,Ix_.t (k:=[.inr a,.inr a]) (S810 _ _ q18) hkp2 (Fq_ o_),?_⟩;generalize upd H10 pd (HO.dT (GH_ kv0 [.inr a,.inr a] (.ref z)))=Hz at*;clear q1 q2 q3 q4 q5 hz10 hz11 hz nz g3 hkp hkp2 dg sg nk nk2 q18 hb8;clear S8 S9 S10 S810;nofun;obtain⟨⟨kv1,q1,q2,q3,q4⟩,q5⟩:=pz;show⟨.inr ⟨kv1,.inl q1⟩,d_,λkp nk=>?_⟩;have S8:=Fo_.new nk (o:=HO.tup [V.str a,V.str b]);have hkp:=ab_ (H:=Hz) (a:=kp) (o:=HO.tup [V.str a,V.str b]);generalize upd Hz kp (HO.tup [V.str a,V.str b])=H8 at*;have hb8:=bz.trans (But.of S8);have g3:∀x y v,Gf_ kv1 [.inr x,.inr y]=some v->∃q,v=.ref q/\H q=none/\H8 q=some (.tup [.int (nf ((fadd g a a X) x y) (bN N)).1,.int (nf ((fadd g a a X) x y) (bN N)).2]):=λx y v e=>let⟨q,z1,z2,z3⟩:=q3 x y v e;⟨q,z1,z2,S8 _ _ z3⟩;have q18:=S8 _ _ q1;have dg:=GY_.k (k:=.inr kv.1) (hb8 _ _ wpd hwd3);rw[wval]at dg;have sg:=LL_ bp ble (show 4*i+2*j+1<=62 by lia) (q5 a b);show⟨_,GY_.t (k:=[.inr a,.inr b]) q18 hkp,_,dg,_,_,nf ((fadd g a a X) a b) (bN N),wN N kv.1,rfl,qd_ hN o_ g3 q4 a b,⟨fa,rfl,SqT.of (hb8 _ _ fapd hfa3)⟩,Sm.of sg,Sm.ws wws,?_,λz H9 S9 nz hz=>⟨d_,λkp2 nk2=>?_⟩⟩
     .have z1:=sg.1.pos;have z2:=wws.1.pos;show AW_ o_ o_
     have S10:=Fo_.new nk2 (o:=HO.tup [V.str a,V.str b]);have hkp2:=ab_ (H:=H9) (a:=kp2) (o:=HO.tup [V.str a,V.str b]);have hz10:=S10 _ _ hz;have S810:=S9.trans S10;generalize upd H9 kp2 (HO.tup [V.str a,V.str b])=H10 at*
     have Hz:H z=none:=by
      cases e:H z with
      |none=>rfl
      |some o =>rw[hb8 _ _ (λc=>by rw[c,Hpd]at e;cases e) (s23 _ _ ((S1.trans S2) _ _ e))]at nz;cases nz
     have hz11:H10 z=some (.tup [.int (nf ((fadd g a a X) a b+(-X)) (bN N)).1,.int (nf ((fadd g a a X) a b+(-X)) (bN N)).2]):=by have e:=(GQ_ (t:=(fadd g a a X) a b) (b:=bN N) o_).minusB wis;rw[<-CR_,<-e];show hz10
     have pz:=Pl.put (X:=(-X)) (a:=a) (b:=b) (S810 _ _ q18) q2 (λx y v e=>let⟨q,z1,z2,z3⟩:=g3 x y v e;⟨q,z1,z2,S810 _ _ z3⟩) q4 q5 wneg hz11 Hz;have b7':=((b7.trans (But.of S8)).trans (But.of S810)).upd (o:=HO.dT (GH_ kv1 [.inr a,.inr b] (.ref z)));show⟨_,Ix_.t (k:=[.inr a,.inr b]) (S810 _ _ q18) hkp2 (Fq_ o_),?_⟩;show hk1 _ _ ⟨_,_,rfl,b7',pz⟩
    .rintro σ Hy ⟨e5,e6,rfl,hb,pl⟩;have e4:=four (sm ((ties N).take i)) ea.1 eb.1 X;have e5':(λx y=>sm ((ties N).take i) x y+cf x y (ea.1,eb.1,X))=sm ((ties N).take (i+1)):=by funext x y;rw[et,qN_]
     rw[if_neg s_,if_neg s_,e4,e5']at pl;show hk _ _ ⟨_,_,_,_,rfl,hb7.trans hb,pl⟩
   .rintro σ Hx ⟨e3,e4,e5,e6,rfl,hb,pl⟩;nofun;rw[len,AR_ (by unfold ties;rw[Ab_];show Af_ _)]at pl;show k pd Hx (λb o e=>hb _ _ (λz=>?_) (s23 _ _ ((S1.trans S2) _ _ e))) (S1.free np) pl;rw[z,S1.free np]at e;cases e
abbrev Gr_:Stmt:=stN 29
theorem k2_:ZL ["net"] ["net"] (Fn_ Gr_):=zL
def HW_:Sp:=λvs H Q _=>∃(v:V)(N:Net Str),vs=[v]/\Rep H v (HM_ N)/\FZ_ N/\∀D H',Fo_ H H'->H D=none->H' D=some (.lst ((N.rows.map (·.1)).map V.str))->Q (.ref D) H'
theorem k3_(T:Txt K mg)(F:Fn0 K mg "points_of" Gr_):Cal P w K mg base "points_of" ["net"] 1 HW_:=by
  show aB_ F k2_.1 λf cdv A outer s H vs Q E hr h=>?_;obtain⟨v,N,rfl,hv,ok,k⟩:=h;obtain⟨pn,p0,p1,p2,rs,ws,rfl,hn,h0,h1,r1,h2,r2⟩:=cn_ hv;have rl:rs.length=N.rows.length:=by rw[r1.length,Ab_]
  have few:=ok.few;refine'⟨_,?D,?R⟩
  case D =>
   refine' ag_ (ao_ (aF_ (N':=["point","wires"]) (ix:=[none,none]) rfl rfl (aM_ ?a) (ap_ (K:=K) rfl (Fr_ ak_ (zv 0 k2_) aa_)) (λ_ _ _=>(bh_ (K:=K) (n:=2) rfl rfl (an_ ?b (an_ ?c bg_)))) (λ_ _ _=>?d) (λ_ _ _=>(pv1 0 rfl rfl))))
   case a=>show(by change GD_ (Fn_ Gr_) ["net"] _ _ _=true;decide +kernel)
   case b=>show ah_ (i:=0) (by change List.Nodup (["point","wires"]:List Str);decide +kernel) rfl rfl
   case c=>show ah_ (i:=1) (by change List.Nodup (["point","wires"]:List Str);decide +kernel) rfl rfl
   case d=>show aO_
  case R =>
   nofun;show⟨_,hn,_,Ge_,p1,rfl,⟨_,.inl (.inl h1)⟩,?_⟩;show ay_ (n:=N.rows.length) (B:=λ_=>none) (Pσ:=λσ=>∃e e',σ=[e,e']) (ds:=(N.rows.map (·.1)).map dS) (λb o e=>by cases e) ⟨_,_,rfl⟩ s_ o_ (λi H' hi s'=>⟨rs,rs[i]'o_,.inl (.inl (s' _ _ h1)),Ac_ _⟩) (λH' s'=>⟨rs,.inl (.inl (s' _ _ h1)),o_⟩) ?_ ?_
   .rintro D i x d σ' H2 H2' hD hDo hs2 hi hdi ⟨rfl,hy⟩ ⟨e,e',rfl⟩ R kR;have hx:=hy _ (.inl (.inl (hs2 _ _ h1)));obtain⟨r,q,l,hr1,rfl,hq,hl⟩:=hv_ r1 hx;have hd:d=dS r.1:=by rw[Ad_,Ad_,hr1]at hdi;show(Ak_ hdi).symm
    nofun;show⟨_,SqT.of (hs2 _ _ hq),rfl,_,_,rfl,_,_,rfl,rfl,kR _ _ _ ⟨_,_,rfl⟩ (Fo_.refl _) ?_⟩;rw[hd];show rfl
   .intro D H2 hD s2 rep2;obtain⟨_,us,e0,hu',hus⟩:=id rep2;cases e0;rw[iu_ hus]at hu';show k D H2 s2 hD (aV_ hu').2
def wN0(CN:Addr)(A:Hp):Hp:=upd A CN (.tup [.int 0,.int 1])
theorem ea_(A A':Hp)(s:Fo_ A A'):Fo_ (wN0 CN A) (wN0 CN A'):=λb o h=>by
 unfold wN0 at h⊢;by_cases e:b=CN
 .subst e;rw[ab_]at h⊢;show h
 .rw[aj_ e]at h⊢;show s _ _ h
theorem k4_{A:Hp}{b:Addr}(h:b≠CN):wN0 CN A b=A b:=aj_ h
theorem jT_{A:Hp}:wN0 CN A CN=some (.tup [.int 0,.int 1]):=ab_
theorem oG_(hN:Nt K mg CN):VG K H (wN0 CN H):=by
 show⟨λq xs e=>?_,λq xs e=>?_⟩
 .by_cases h:q=CN
  .rw[h,jT_]at e;cases e;rw[h];show hN.sq H
  .rw[k4_ h]at e;show SqT.of e
 .by_cases h:q=CN
  .rw[h,jT_]at e;cases e
  .rw[k4_ h]at e;show e
abbrev Gi_:Stmt:=stN 32
theorem k5_:ZM ["pulls","points","others"] ["pulls","points","others"] (Fn_ Gi_):=zM
def Kh_(K:PySem.W.Frag)(CN:Addr):Sp:=λvs H Q _=>∃(B:Hp)(d:Addr)(f:Str->Str->Int)(Bt:Int)(n:Nat)(pv ov:Addr)(ps os:List Str),vs=[.ref d,.ref pv,.ref ov]/\Fo_ B H/\Pl B H d f Bt n/\Bt≠0/\H pv=some (.lst (ps.map V.str))/\H ov=some (.lst (os.map V.str))/\ps.length<=16/\os.length<=16 /\
 ∀D H',Fo_ H H'->NX K H'->Rep (wN0 CN (G4_ B H')) (.ref D) (dG (ps.map λx=>os.map λy=>nf (f x y) Bt))->Q (.ref D) H'
theorem k6_(T:Txt K mg)(hN:Nt K mg CN)(F:Fn0 K mg "pull_grid" Gi_):Cal P w K mg base "pull_grid" ["pulls","points","others"] 1 (Kh_ K CN):=by
  show aB_ F k5_.1 λf cdv A outer s H vs Q E hr h=>?_;obtain⟨B,d,f,Bt,n,pv,ov,ps,os,rfl,sB,pl,b0,hp,ho,p16,o16,k⟩:=h;obtain⟨oN,lkN⟩:=hN.lk;obtain⟨⟨kvs,q1,q2,q3,q4⟩,q5⟩:=pl;refine'⟨_,?D,?R⟩
  case D =>
   refine' ag_ (ao_ (eA_ (K:=K) rfl (aF_ (N':=["point","others","pulls"]) (ix:=[none,some 2,some 0]) rfl rfl (aM_ ?a) (ap_ (K:=K) rfl (zw 1 k5_)) (λ_ _ _=>?b) (λ_ _ _=>?c) (λ_ _ _=>?d))))
   case a=>show(by change GD_ (Fn_ Gi_) ["pulls","points","others"] _ _ _=true;decide +kernel)
   case b=>show dG_ (i:=0) (by change List.Nodup (["point","others","pulls"]:List Str);decide +kernel) rfl rfl rfl
   case c=>show aO_
   case' d=>refine' eA_ (K:=K) rfl (aF_ (N':=["other","pulls","point"]) (ix:=[none,some 2,some 0]) rfl rfl (aM_ ?e) (ap_ (K:=K) rfl (pvc 1 rfl rfl)) (λ_ _ _=>?f) (λ_ _ _=>?g) (λ_ _ _=>(jp_ (un1 hr.units) (pvc 1 rfl rfl) (aH_ (pa_c (pvc 2 rfl rfl) (pa_c (pv1 0 rfl rfl) ac_))) (eA_ (K:=K) rfl ?h) ⟨rfl,rfl,rfl,rfl⟩)))
   case e=>show(by change GD_ (K7_ _ (Fn_ Gi_)) ["point","others","pulls"] _ _ _=true;decide +kernel)
   case f=>show ah_ (i:=0) (by change List.Nodup (["other","pulls","point"]:List Str);decide +kernel) rfl rfl
   case g=>show aO_
   case h=>show jt_ hN.m rfl
  case R =>
   nofun;show⟨⟨_,.inl (.inl hp)⟩,?_⟩;show eB_ (wN0 CN) ea_ (n:=ps.length) (B:=B) (Pσ:=λσ=>∃e,σ=[e,some (.ref ov),some (.ref d)]) (ds:=(ps.map λx=>os.map λy=>nf (f x y) Bt).map GC_) sB ⟨_,rfl⟩ s_ o_ (λi H' hi s'=>⟨_,.str ps[i],.inl (.inl (s' _ _ hp)),by simp[hi]⟩) (λH' s'=>⟨_,.inl (.inl (s' _ _ hp)),s_⟩) ?_ ?_
   .rintro D i x dd σ' H2 H2' hD ⟨oD,hDo⟩ hs2 hi hdi ⟨rfl,hy⟩ ⟨e,rfl⟩ R kR;have hx:=hy _ (.inl (.inl (hs2 _ _ hp)));rw[Ad_,Ac_ hi]at hx;cases hx;have hd:dd=GC_ (os.map λy=>nf (f ps[i] y) Bt):=by rw[Ad_,Ad_,Ac_ hi]at hdi;show(Ak_ hdi).symm
    have ho2:=hs2 _ _ ho;have BD:B D=none:=sB.free hD
    have sB2:Fo_ (upd B D oD) H2':=λb o h=>by
     by_cases e:b=D
     .subst e;rw[ab_]at h;cases h;show hDo
     .rw[aj_ e]at h;show hs2 _ _ (sB _ _ h)
    nofun;show⟨⟨_,.inl (.inl ho2)⟩,?_⟩;show eB_ (wN0 CN) ea_ (n:=os.length) (B:=upd B D oD) (Pσ:=λσ=>∃e,σ=[e,some (.ref d),some (.str ps[i])]) (ds:=(os.map λy=>nf (f ps[i] y) Bt).map dF) sB2 ⟨_,rfl⟩ s_ o_ (λj H' hj s'=>⟨_,.str os[j],.inl (.inl (s' _ _ ho2)),by simp[hj]⟩) (λH' s'=>⟨_,.inl (.inl (s' _ _ ho2)),s_⟩) ?_ ?_
    .rintro D2 j x dd2 σ' H3 H3' hD2 hDo2 hs3 hj hdj ⟨rfl,hy⟩ ⟨e,rfl⟩ R2 kR2;have hx:=hy _ (.inl (.inl (hs3 _ _ ho2)));rw[Ad_,Ac_ hj]at hx;cases hx;have hd2:dd2=dF (nf (f ps[i] os[j]) Bt):=by rw[Ad_,Ad_,Ac_ hj]at hdj;show(Ak_ hdj).symm
     have s23:=hs2.trans hs3;nofun;show⟨.inr ⟨kvs,.inl (s23 _ _ q1)⟩,d_,λkp nk nx=>?_⟩;have S8:=Fo_.new nk (o:=HO.tup [V.str ps[i],V.str os[j]]);have hkp:=ab_ (H:=H3') (a:=kp) (o:=HO.tup [V.str ps[i],V.str os[j]]);generalize upd H3' kp (HO.tup [V.str ps[i],V.str os[j]])=H8 at*;show⟨_,GY_.t (k:=[.inr ps[i],.inr os[j]]) (S8 _ _ (s23 _ _ q1)) hkp,kR2 _ _ _ ⟨_,rfl⟩ S8 ?_⟩;rw[hd2];cases e9:Gf_ kvs [.inr ps[i],.inr os[j]]with
     |none =>
      rw[q4 _ _ e9,gp_ b0];show⟨CN,_,rfl,jT_,_,_,rfl,rfl,_,_,rfl,rfl,rfl⟩
     |some v =>
      obtain⟨q,z1,z2,z3⟩:=q3 _ _ _ e9;have q8:=S8 _ _ (s23 _ _ z3);have qC:q≠CN:=λc=>by rw[c,nx _ _ lkN]at q8;cases q8
      have qD:q≠D:=λc=>by rw[c,hD]at z3;cases z3
      have qD2:q≠D2:=λc=>by rw[c,hs2.free hD2]at z3;cases z3
      subst z1;show⟨q,_,rfl,?_,_,_,rfl,rfl,_,_,rfl,rfl,rfl⟩;rw[k4_ qC,aR_ qD2 (by rw[aj_ qD];show z2)];show q8
    .intro D2 H3 ys hD2 s3 hDD2 rep3 nx3;have dC:D2≠CN:=λc=>by rw[c,nx3 _ _ lkN]at hDD2;cases hDD2
     have dD:D2≠D:=λc=>by rw[c,hDo]at hD2;cases hD2
     show kR _ _ _ ⟨_,rfl⟩ s3 ?_;rw[hd];show⟨D2,ys,rfl,?_,FE_.mono (ea_ _ _ λb o h=>?_) _ rep3⟩
     .rw[k4_ dC,aR_ dD (by have z:=sB2.free hD2;rw[aj_ dD]at z;show z)];show hDD2
     .obtain⟨h1,h2,h3⟩:=gk_ h;have bD:b≠D:=λc=>by rw[c,ab_]at h2;cases h2
      rw[aj_ bD]at h2;rw[aR_ bD h2];show h3
   .intro D H2 ys hD s2 hDD rep2 nx2;have dC:D≠CN:=λc=>by rw[c,nx2 _ _ lkN]at hDD;cases hDD
    show k D H2 s2 nx2 ⟨D,ys,rfl,?_,FE_.mono (ea_ _ _ hj_) _ rep2⟩;rw[k4_ dC,bF_ (sB.free hD)];show hDD
theorem oH_(hK:X.K=K):OpR X (compareOp .NotIn) (rIn K true):=by subst hK;show kj_
theorem qe_(x:Str):∀(r:List Str),inV (.str x) (r.map V.str)=decide (x∈r)
 |[]=>rfl
 |y::r=>by
  have:=qe_ x r;simp only[inV,Av_,CC_,eqV]at this⊢;rw[this];by_cases h:y=x
  .subst h;simp
  .have h2:x≠y:=λz=>h z.symm;simp[h,h2]
theorem pw_:∀(r:List Str),(r.map V.str).all Hk_=true
 |[]=>rfl
 |y::r=>by simp[Hk_]
theorem nd_{α β:Type}(d:α)(f:α->Bool)(g:α->β)(ls:List α):((List.range ls.length).filter λi=>f (ls.getD i d)).map (λi=>g (ls.getD i d))=(ls.filter f).map g:=by
 conv=>rhs;rw[<-RimT.iX_ d ls,Fg_,Bo_]
 rfl
abbrev FT_:Stmt:=stN 30
theorem he_:ZM ["net"] ["net"] (Fn_ FT_):=zM
theorem cW_:LK FT_ "points_of" .globalImplicit:=r_
def Fm_(N:Net Str):List Str:=(N.rows.map (·.1)).filter λp=>decide (p∉N.posts)
def H1_:Sp:=λvs H Q _=>∃(v:V)(N:Net Str),vs=[v]/\Rep H v (HM_ N)/\FZ_ N/\∀D H',Fo_ H H'->H D=none->H' D=some (.lst ((Fm_ N).map V.str))->Q (.ref D) H'
theorem hf_(T:Txt K mg)(F:Fn0 K mg "points_within" FT_) (F6_:Cal P w K mg base "points_of" ["net"] 1 HW_):Cal P w K mg base "points_within" ["net"] 2 H1_:=by
  show aB_ F he_.1 λf cdv A outer s H vs Q E hr h=>?_;obtain⟨v,N,rfl,hv,ok,k⟩:=h;obtain⟨pn,p0,p1,p2,rs,ws,rfl,hn,h0,h1,r1,h2,r2⟩:=cn_ hv;have few:=ok.few;refine'⟨_,?D,?R⟩
  case D =>
   refine' ag_ ?a
   case' a=>refine' ao_ (aF_ (N':=["point","net"]) (ix:=[none,some 0]) rfl rfl (aM_ ?b) (ap_ (K:=K) rfl (af_ F6_ (hr.mono d_) cW_ (pa_c (zw 0 he_) ac_))) (λ_ _ _=>?c) (λ_ _ _=>(rF_ (aA_ (oH_ (K:=K) rfl) (pv1 0 rfl rfl) (Fr_ ak_ (pvc 1 rfl rfl) aa_) (by with_unfolding_all rfl)))) (λ_ _ _=>(pv1 0 rfl rfl)))
   case b=>show(by change GD_ (Fn_ FT_) ["net"] _ _ _=true;decide +kernel)
   case c=>show ah_ (i:=0) (by change List.Nodup (["point","net"]:List Str);decide +kernel) rfl rfl
  case R =>
   nofun;show⟨_,N,rfl,hv,ok,λD1 H1 s1 nD1 hD1=>⟨D1,rfl,⟨_,.inl (.inl hD1)⟩,?_⟩⟩;obtain⟨ps,hps,pl⟩:∃ps:List Str,ps=N.rows.map (·.1)/\ps.length<=16:=⟨_,rfl,by rw[Ab_];show few⟩;have ew:Fm_ N=ps.filter λp=>decide (p∉N.posts):=by unfold Fm_;rw[hps]
   rw[<-hps]at hD1;rw[ew]at k;show nY_ (n:=ps.length) (B:=λ_=>none) (Pσ:=λσ=>∃e,σ=[e,some (.ref pn)]) (bs:=λi=>decide (ps.getD i Str.empty∉N.posts)) (val:=λi=>dS (ps.getD i Str.empty)) (λb o e=>by cases e) ⟨_,rfl⟩ o_ (λj H2 hj s2=>⟨_,.str (ps.getD j Str.empty),.inl (.inl (s2 _ _ hD1)),aS_ hj⟩) (λH2 s2=>⟨_,.inl (.inl (s2 _ _ hD1)),s_⟩) ?_ ?_
   .rintro D i y σ' H3 H3' hD hDo hs3 hi ⟨rfl,hy⟩ ⟨e2,rfl⟩ Y R kY kR;have hx2:=hy _ (.inl (.inl (hs3 _ _ hD1)));rw[aS_ hi]at hx2;cases hx2;have s13:=s1.trans hs3;nofun;show⟨_,s13 _ _ hn,_,F4_,p0,rfl,_,.inl (.inl (.inl (s13 _ _ h0))),rfl,pw_ _,?_⟩;rw[qe_];by_cases hc:ps.getD i Str.empty∈N.posts
    .rw[if_neg (by rw[BQ_ hc];decide)];show kR (Bf_ λz=>z hc) _ _ ⟨_,rfl⟩ (Fo_.refl _)
    .rw[if_pos (Bf_ hc)];show kY (BQ_ hc) _ _ _ ⟨_,rfl⟩ (Fo_.refl _) rfl
   .intro D H2 hD s2 rep2;have fr:=nd_ Str.empty (λp=>decide (p∉N.posts)) dS ps;rw[fr]at rep2;obtain⟨_,us,e0,hu',hus⟩:=id rep2;cases e0;rw[iu_ hus]at hu';show k D H2 (s1.trans s2) (s1.free hD) (aV_ hu').2
def gP(N:Net Str)(xs ys:List Str):List (List (Int×Int)):=xs.map λx=>ys.map λy=>nf (sm (ties N) x y) (bN N)
def ngF(p:Int×Int):Int×Int:=nf (0*p.2-p.1*1) (1*p.2)
def J5_(N:Net Str)(o:List (List (Int×Int))):List (List (Int×Int)):=(gP N (Fm_ N) N.posts).map λr=>(cols o).map λc=>Ig_ r c
def GA_(N:Net Str)(o:List (List (Int×Int))):List (List (Int×Int)):=(J5_ N o).map λr=>r.map ngF
def Hv_(N:Net Str)(o:List (List (Int×Int))):List (List (Int×Int)):=Jo_ (gP N (Fm_ N) (Fm_ N)) (GA_ N o)
def heN(N:Net Str)(o:List (List (Int×Int))):List (List (Int×Int)):=(N.rows.map (·.1)).map λx=>(o++Hv_ N o).getD (pid N x) []
structure Hf(N:Net Str)(o:List (List (Int×Int)))(c:Nat)(Bs:Int):Prop where
 ok:FZ_ N
 po:F1_ N
 wo:WOk N
 det:0<(Fm_ N).length->D (Fm_ N).length (ma (nums (gP N (Fm_ N) (Fm_ N))))≠0
 ol:o.length=N.posts.length
 orow:∀r∈o,r.length=c
 c1:1<=c
 c6:c<=6
 cov:∀q∈cols o,∃ys,Ovs Bs q ys/\∀y∈ys,y.natAbs<=2 ^ 160
 s0:0<Bs
 sb:Bs.natAbs<=2 ^ 130
theorem iz_(ok:FZ_ N)(wo:WOk N)(x y:Str):(sm (ties N) x y).natAbs<=2 ^ 166:=by
 have b:=mN_ ok wo;have e:=oF_ ok wo;have h:=Lo_ (m:=(1000*bN N).natAbs) (ties N) (λz hz=>by obtain⟨kv,hkv,rfl⟩:=Aj_.mp hz;show(Kr_ ok wo (iy_.mp (Aj_.mpr ⟨kv,hkv,rfl⟩))).2.2) x y;rw[show(ties N).length=(Gp_ N).length from Ab_ _]at h;have h1000:(1000*bN N).natAbs<=1000*1000 ^ 15:=by have:bN N<=((1000 ^ 15:Nat):Int):=b.2;lia
 calc (sm (ties N) x y).natAbs<=4*(Gp_ N).length*(1000*bN N).natAbs:=h
  _<=60*(1000*1000 ^ 15):=AX_ o_ h1000
  _<=2 ^ 166:=r_
theorem G1_(ok:FZ_ N)(wo:WOk N):0<bN N/\(bN N).natAbs<=2 ^ 150:=by
 obtain⟨a,b⟩:=mN_ ok wo;show⟨a,?_⟩;have:(1000:Int) ^ 15<=2 ^ 150:=r_
 have h:bN N<=((2 ^ 150:Nat):Int):=CW_ b this;lia
theorem oI_(ok:FZ_ N)(wo:WOk N)(x:Str)(ys:List Str):Ovs (bN N) (ys.map λy=>nf (sm (ties N) x y) (bN N)) (ys.map λy=>sm (ties N) x y):=
 Ovs.map _ _ λy _=>GQ_ (by have:=(G1_ ok wo).1;lia)
theorem H5_(ok:FZ_ N)(wo:WOk N){xs ys:List Str}:∀r∈gP N xs ys,r.length=ys.length/\Ov (bN N) 170 r:=λr hr=>by obtain⟨x,hx,rfl⟩:=Aj_.mp hr;show⟨Ab_ _,(oI_ ok wo x ys).ov λz hz=>?_⟩;obtain⟨y,hy,rfl⟩:=Aj_.mp hz;show Am_ (iz_ ok wo x y) (Aw_ d_ d_)
theorem cB_(ok:FZ_ N)(po:F1_ N):(Fm_ N).length<=15/\(pts N).length=N.posts.length+(Fm_ N).length:=by
 have h1:=lv_ ok po;have h2:=ok.few;have h3:=po.p0;have h4:(pts N).length=N.posts.length+(Fm_ N).length:=by unfold pts Fm_;rw[At_]
 show⟨o_,h4⟩
variable{Bs:Int}
theorem Hf.cls{c:Nat}(h:Hf N o c Bs):(cols o).length=c/\∀q∈cols o,q.length=N.posts.length/\Ov Bs 170 q:=by
 have p0:=h.po.p0;have ol:=h.ol;cases ho:o with
 |nil=>rw[ho]at ol;simp at ol;lia
 |cons r o' =>have e:cols (r::o')=(List.range r.length).map λj=>(r::o').map λrow=>row.getD j (0,1):=rfl;rw[<-ho]at e⊢;show⟨by rw[e,Ab_,Bc_];show h.orow r (by rw[ho];show Ah_),λq hq=>?_⟩;obtain⟨ys,h1,h2⟩:=h.cov q hq;show⟨?_,h1.ov λy hy=>Am_ (h2 y hy) (Aw_ d_ d_)⟩;rw[e]at hq;obtain⟨j,hj,rfl⟩:=Aj_.mp hq;rw[Ab_,ol]
variable{ys:List Int}
theorem Hf.ent{c:Nat}(h:Hf N o c Bs)(x:Str){q:List (Int×Int)}(hq:q∈cols o)(hy:Ovs Bs q ys)(ly:∀y∈ys,y.natAbs<=2 ^ 160):
  Is (Ig_ (N.posts.map λy=>nf (sm (ties N) x y) (bN N)) q) (dot (N.posts.map λy=>sm (ties N) x y) ys) (bN N*Bs)/\(dot (N.posts.map λy=>sm (ties N) x y) ys).natAbs<=2 ^ 330:=by
 have b0:=G1_ h.ok h.wo;have o1:=oI_ h.ok h.wo x N.posts;show⟨p4_ b0.1 h.s0 o1 hy (o1.ov (t:=170) λz hz=>?_) (hy.ov ly),Am_ (oi_ (m:=2 ^ 166) (n:=2 ^ 160) (λz hz=>?_) ly) ?_⟩
 .obtain⟨y,_,rfl⟩:=Aj_.mp hz;show Am_ (iz_ h.ok h.wo x y) (Aw_ d_ d_)
 .obtain⟨y,_,rfl⟩:=Aj_.mp hz;show iz_ h.ok h.wo x y
 .rw[Ab_,<-A4_];have:=h.ok.pl
  calc N.posts.length*2 ^ (166+160)<=2 ^ 4*2 ^ (166+160):=CB_ _ o_
   _=2 ^ 330:=by rw[<-A4_]
theorem Lt_{p:Int×Int}{x:Int}(h:Is p x B):Is (ngF p) (-x) B:=by have z:=(r2_ (p:=(0,1)) ⟨d_,d_⟩).sub h;show z.conv h.ne s_
theorem Hf.inn{c:Nat}(h:Hf N o c Bs):In (gP N (Fm_ N) (Fm_ N)) (GA_ N o) (Fm_ N).length c (bN N) (bN N*Bs):=by
 have b0:=G1_ h.ok h.wo;have hc:=h.cls;have s0:=h.s0;have sb:=h.sb;show⟨Ab_ _,(cB_ h.ok h.po).1,H5_ h.ok h.wo,?_,h.c1,h.c6,λr hr=>?_,b0.1,Am_ b0.2 (Aw_ d_ d_),Be_ b0.1 s0,?_⟩
 .unfold GA_ J5_ gP;simp only[Ab_]
 .obtain⟨r1,h1,rfl⟩:=Aj_.mp hr;obtain⟨r2,h2,rfl⟩:=Aj_.mp h1;obtain⟨x,hx,rfl⟩:=Aj_.mp h2;show⟨by simp only[Ab_];show hc.1,λp hp=>?_⟩;obtain⟨p1,k1,rfl⟩:=Aj_.mp hp;obtain⟨q,k2,rfl⟩:=Aj_.mp k1;obtain⟨ys,l1,l2⟩:=h.cov q k2;obtain⟨m1,m2⟩:=h.ent x k2 l1 l2;show⟨_,Lt_ m1,by rw[Du_];show m2⟩
 .rw[AT_]
  calc (bN N).natAbs*Bs.natAbs<=2 ^ 150*2 ^ 130:=AX_ b0.2 sb
   _<=2 ^ 300:=by rw[<-A4_];show Aw_ d_ d_
def Swp(N:Net Str)(o:List (List (Int×Int)))(c:Nat):Prop:=0<(Fm_ N).length->(FA_ (Fm_ N).length 1 (aug (gP N (Fm_ N) (Fm_ N)) (cols (GA_ N o)))).2.length=(Fm_ N).length/\Hn_ c (FA_ (Fm_ N).length 1 (aug (gP N (Fm_ N) (Fm_ N)) (cols (GA_ N o)))).2/\∀row∈(FA_ (Fm_ N).length 1 (aug (gP N (Fm_ N) (Fm_ N)) (cols (GA_ N o)))).2,∀z∈row,z.natAbs<=2 ^ 7904
theorem Sm.is{z:Int×Int}{t:Int}(h:Is z t B)(ht:t.natAbs<=2 ^ 1400)(hB:B.natAbs<=2 ^ 1400):Sm z:=by have e:=h.to;have a:=dk_ (t:=t) h.ne;rw[<-e]at a;show⟨h.low,Am_ (aD_ (Am_ a.1 ht)) d_,Am_ (aD_ (Am_ a.2 hB)) d_⟩
theorem oJ_:Sm (0,1):=⟨⟨d_,d_⟩,r_,r_⟩
abbrev Fs_:Stmt:=stN 33
theorem aW_:ZM ["net","settings","posts","within","pulls","drawn","balancing","balanced","heights"] ["net","settings"] (Fn_ Fs_):=zM
theorem co_:LK Fs_ "posts" .local:=r_
theorem bo_:LK Fs_ "within" .local:=r_
theorem cp_:LK Fs_ "pulls" .local:=r_
theorem em_:LK Fs_ "drawn" .local:=r_
theorem en_:LK Fs_ "balancing" .local:=r_
theorem eo_:LK Fs_ "balanced" .local:=r_
theorem hg_:LK Fs_ "heights" .cell:=r_
theorem fF_:LK Fs_ "dict" .globalImplicit:=r_
theorem de_:LK Fs_ "multiplied" .globalImplicit:=r_
theorem dA_:LK Fs_ "points_of" .globalImplicit:=r_
theorem cA_:LK Fs_ "points_within" .globalImplicit:=r_
theorem bL_:LK Fs_ "pull_grid" .globalImplicit:=r_
theorem eb_:LK Fs_ "pulls_of" .globalImplicit:=r_
theorem eS_:LK Fs_ "solved" .globalImplicit:=r_
theorem f7_:LK Fs_ "zip" .globalImplicit:=r_
def Kl_(K:PySem.W.Frag):Sp:=λvs H Q _=>∃(Fv:Hp->Hp)(v u:V)(N:Net Str)(o:List (List (Int×Int)))(c:Nat)(Bs:Int),KG_ K Fv/\vs=[v,u]/\Rep H v (HM_ N)/\Rep (Fv H) u (dG o)/\Hf N o c Bs/\∀D H',Fo_ H H'->NX K H'->H D=none->Rep (Fv H') (.ref D) (dG (heN N o))->Swp N o c->Q (.ref D) H'
theorem iN_(T:Txt K mg)(hN:Nt K mg CN)(F:Fn0 K mg "heights_for" Fs_) (F6_:Cal P w K mg base "points_of" ["net"] 1 HW_) (Hr_:Cal P w K mg base "points_within" ["net"] 2 H1_) (Hh_:Cal P w K mg base "pulls_of" ["net"] 4 HO_) (GK_:Cal P w K mg base "pull_grid" ["pulls","points","others"] 1 (Kh_ K CN)) (GS_:Cal P w K mg base "multiplied" ["grid","other"] 4 (IW_ K)) (Im_:Cal P w K mg base "minus" ["one","other"] 3 (H0_ K (λp q=>p.1*q.2-q.1*p.2) (λp q=>p.2*q.2))) (JI_:Cal P w K mg base "solved" ["grid","other"] 5 (I5_ K)):Cal P w K mg base "heights_for" ["net","settings"] 6 (Kl_ K):=by
  show aB_ F aW_.1 λf cdv A outer s H vs Q E hr h=>?_;obtain⟨Fv,v,u,N,o,c,Bs,vw,rfl,hv,hu,hf,k⟩:=h;have ok:=hf.ok;have wo:=hf.wo;have inn:=hf.inn;have b0:=G1_ ok wo;have wl:=cB_ ok hf.po;have cl:=hf.cls;have pl6:=ok.pl;obtain⟨pn,p0,p1,p2,rs,ws,rfl,hn,h0,h1,r1,h2,r2⟩:=cn_ hv;obtain⟨po,xo,rfl,hpo,rxo⟩:=id hu;have hpo:=(vw.vg H).2 _ _ hpo;refine'⟨_,?D,?R⟩
  case D =>
   refine' ad_ (ai_ (i:=2) aW_.nd rfl co_ (Fr_ ak_ (zw 0 aW_) aa_)) (ad_ (ai_ (i:=3) aW_.nd rfl bo_ (af_ Hr_ (hr.mono d_) cA_ (pa_c (zw 0 aW_) ac_))) ?a)
   case' a=>refine' ad_ (ai_ (i:=4) aW_.nd rfl cp_ (af_ Hh_ (hr.mono d_) eb_ (pa_c (zw 0 aW_) ac_))) (ad_ ?b (ad_ ?c (ad_ ?d ?e)))
   case' b=>refine' ai_ (i:=5) aW_.nd rfl em_ (af_ GS_ (hr.mono d_) de_ (pa_c (af_ GK_ (hr.mono d_) bL_ (pa_c (zw 4 aW_) (pa_c (zw 3 aW_) (pa_c (zw 2 aW_) ac_)))) (pa_c (zw 1 aW_) ac_)))
   case' c=>refine' gj_ (i:=6) (N':=["row"]) (ix:=[none]) rfl rfl aW_.nd rfl en_ rfl (aM_ ?f) (ap_ (K:=K) rfl (zw 5 aW_)) (λ_ _ _=>?g) (λ_ _ _=>?h) (λ_ _ _=>(aF_ (N':=["entry"]) (ix:=[none]) rfl rfl (aM_ ?i) (ap_ (K:=K) rfl (pv1 0 rfl rfl)) (λ_ _ _=>?j) (λ_ _ _=>?k) (λ_ _ _=>(af_ Im_ (hr.mono d_) rfl (pa_c ?l (pa_c (pv1 0 rfl rfl) ac_))))))
   case f=>show(by change GD_ (Fn_ Fs_) ["net","settings","posts","within","pulls","drawn","balancing","balanced","heights"] _ _ _=true;decide +kernel)
   case g=>show ah_ (i:=0) (by change List.Nodup (["row"]:List Str);decide +kernel) rfl rfl
   case h=>show aO_
   case i=>show(by change GD_ (K7_ _ (Fn_ Fs_)) ["row"] _ _ _=true;decide +kernel)
   case j=>show ah_ (i:=0) (by change List.Nodup (["entry"]:List Str);decide +kernel) rfl rfl
   case k=>show aO_
   case l=>show jt_ hN.m rfl
   case' d=>refine' ai_ (i:=7) aW_.nd rfl eo_ (af_ JI_ (hr.mono d_) eS_ (pa_c (af_ GK_ (hr.mono d_) bL_ (pa_c (zw 4 aW_) (pa_c (zw 3 aW_) (pa_c (zw 3 aW_) ac_)))) (pa_c (zw 6 aW_) ac_)))
   case' e=>refine' ad_ (bp_ (i:=8) aW_.nd rfl hg_ rfl (pk_ (K:=K) rfl rfl fF_ T.n_dict f7_ T.n_zip (pa_c (Fp_ fL_ (zw 2 aW_) (zw 3 aW_)) (pa_c (Fp_ fL_ (zw 1 aW_) (zw 7 aW_)) ac_))) rfl) (ag_ ?m)
   case' m=>refine' ao_ (eA_ (K:=K) rfl (aF_ (N':=["point","heights"]) (ix:=[none,some 8]) rfl rfl (aM_ ?n) (ap_ (K:=K) rfl (af_ F6_ (hr.mono d_) dA_ (pa_c (zw 0 aW_) ac_))) (λ_ _ _=>?o) (λ_ _ _=>?p) (λ_ _ _=>(eA_ (K:=K) rfl (bY_ (un1 hr.units) (pvc 1 rfl rfl) (pv1 0 rfl rfl))))))
   case n=>show(by change GD_ (Fn_ Fs_) ["net","settings","posts","within","pulls","drawn","balancing","balanced","heights"] _ _ _=true;decide +kernel)
   case o=>show ah_ (i:=0) (by change List.Nodup (["point","heights"]:List Str);decide +kernel) rfl rfl
   case p=>show aO_
  case R =>
   nofun;show⟨_,hn,_,F4_,?_⟩;show⟨_,N,rfl,hv,ok,λDw H1 s1 nDw hDw=>?_⟩;show⟨_,N,rfl,Rep.mono s1 _ hv,ok,wo,λd H2 s2 nd pl=>?_⟩;have S2:=s1.trans s2;show⟨H1,d,_,_,_,Dw,p0,Fm_ N,N.posts,rfl,s2,pl,o_,s2 _ _ hDw,S2 _ _ h0,o_,o_,λD3 H3 s3 nx3 rep3=>?_⟩;have S3:=S2.trans s3;show⟨Fv,_,_,_,gP N (Fm_ N) N.posts,o,c,bN N,Bs,vw,rfl,oG_ hN,Rep.mono (ea_ _ _ aq_) _ rep3,Rep.mono (vw.mono _ _ S3) _ hu,λr hr=>by rw[(H5_ ok wo r hr).1,hf.ol],hf.orow,hf.c6,by rw[show(gP N (Fm_ N) N.posts).length=(Fm_ N).length from Ab_ _];show wl.1,by rw[hf.ol];lia,λr hr=>(H5_ ok wo r hr).2,λq hq=>⟨by rw[(cl.2 q hq).1,hf.ol],λp hp=>let⟨x,a,b⟩:=(cl.2 q hq).2 p hp;⟨x,a,Am_ b (Aw_ d_ d_)⟩⟩,b0.1,hf.s0,Am_ (aD_ b0.2) d_,Am_ (aD_ hf.sb) d_,λx4 H4 s4 rep4=>?_⟩;have S4:=S3.trans s4;obtain⟨D4,xs4,rfl,hD4,r4⟩:=Rep.mono aq_ _ rep4;have l4:xs4.length=(Fm_ N).length:=by rw[r4.length];simp[gP]
   show⟨D4,rfl,⟨_,.inl (.inl hD4)⟩,?_⟩;show ay_ (n:=xs4.length) (B:=H4) (Pσ:=λσ=>∃e,σ=[e]) (ds:=(GA_ N o).map GC_) (Fo_.refl _) ⟨_,rfl⟩ (by simp[GA_,J5_,gP,l4]) o_ (λi H' hi s'=>⟨xs4,xs4[i],.inl (.inl (s' _ _ hD4)),by simp[hi]⟩) (λH' s'=>⟨xs4,.inl (.inl (s' _ _ hD4)),Af_ _⟩) ?_ ?_
   .rintro D i x dd σ' H5 H5' hD hDo s5 hi hdi ⟨rfl,hy⟩ ⟨e,rfl⟩ R kR;have hx:=hy xs4 (.inl (.inl (s5 _ _ hD4)));obtain⟨q,ys,r,hr1,rfl,hq,hys⟩:=cx_ (g:=J5_ N o) r4 hx;have hd1:dd=GC_ (r.map ngF):=by rw[Ad_,GA_,Ad_,hr1]at hdi;show(Ak_ hdi).symm
    have ly:ys.length=r.length:=by rw[hys.length,Ab_]
    obtain⟨r2,g2,er⟩:=Aj_.mp (Ai_ hr1);obtain⟨x0,_,e2⟩:=Aj_.mp g2;subst e2;have rl:r.length=c:=by rw[<-er,Ab_,cl.1]
    have cl6:=hf.c6;have hq5:=s5 _ _ hq;nofun;show⟨⟨_,.inl (.inl hq5)⟩,?_⟩;show ay_ (n:=ys.length) (B:=_) (Pσ:=λσ=>∃e,σ=[e]) (ds:=(r.map ngF).map dF) (Fo_.refl _) ⟨_,rfl⟩ (by rw[Ab_,Ab_];show ly.symm) o_ (λj H' hj s'=>⟨ys,ys[j],.inl (.inl (s' _ _ hq5)),by simp[hj]⟩) (λH' s'=>⟨ys,.inl (.inl (s' _ _ hq5)),Af_ _⟩) ?_ ?_
    .rintro D2 j y d2 σ2 H6 H6' hD2 hDo2 s6 hj hdj ⟨rfl,hy2⟩ ⟨e2,rfl⟩ R2 kR2;have hx2:=hy2 ys (.inl (.inl (s6 _ _ hq5)));obtain⟨q2,z,hz,rfl,hq2⟩:=fV_ hys hx2;have hd2:d2=dF (ngF z):=by rw[Ad_,Ad_,hz]at hdj;show(Ak_ hdj).symm
     have zm:=Ai_ hz;rw[<-er]at zm;obtain⟨qc,kc,rfl⟩:=Aj_.mp zm;obtain⟨zs,l1,l2⟩:=hf.cov qc kc;obtain⟨m1,m2⟩:=hf.ent x0 kc l1 l2;have sz:=Sm.is m1 (Am_ m2 (Aw_ d_ d_)) (Am_ inn.ob (Aw_ d_ d_));have zp:=sz.low.pos;nofun;show⟨_,_,(0,1),_,rfl,⟨CN,rfl,hN.sq _⟩,⟨q2,rfl,SqT.of (s6 _ _ (s5 _ _ hq2))⟩,oJ_,sz,by simp only[Bv_];lia,λpz Hz sz' nz hz'=>kR2 _ _ _ ⟨_,rfl⟩ sz' ?_⟩;rw[hd2];obtain⟨oD,hoD⟩:=hDo2;show⟨pz,_,rfl,by rw[aR_ (ae_ hoD nz).symm (s6.free nz)];show hz',_,_,rfl,rfl,_,_,rfl,rfl,rfl⟩
    .intro D2 H6 hD2 s6 rep6;show kR _ _ _ ⟨_,rfl⟩ s6 ?_;rw[hd1];show Rep.mono (ew_ s5 hDo) _ rep6
   .intro D5 H5 nD5 s5 rep5;have S5:=S4.trans s5;have hDw5:=(((s2.trans s3).trans s4).trans s5) _ _ hDw;show⟨H1,d,_,_,_,Dw,Dw,Fm_ N,Fm_ N,rfl,((s2.trans s3).trans s4).trans s5,pl.mono ((s3.trans s4).trans s5),o_,hDw5,hDw5,o_,o_,λD6 H6 s6 nx6 rep6=>?_⟩;have S6:=S5.trans s6;show⟨Fv,_,_,_,gP N (Fm_ N) (Fm_ N),GA_ N o,(Fm_ N).length,c,bN N,bN N*Bs,vw,nx6,rfl,oG_ hN,Rep.mono (ea_ _ _ aq_) _ rep6,Rep.mono (aq_.trans s6) _ rep5,inn,hf.det,λx7 H7 s7 rep7 swp=>?_⟩;have S7:=S6.trans s7;obtain⟨D7,xs7,rfl,hD7,r7⟩:=id rep7;have hDw7:=s7 _ _ (s6 _ _ hDw5);show⟨p0,rfl,Dw,rfl,_,S7 _ _ h0,_,hDw7,AN_ (Fq_ (by rw[Ab_,Ab_];lia)),λA1 nA1=>?_⟩;have T1:=Fo_.new nA1 (o:=HO.lst (N.posts.map V.str++(Fm_ N).map V.str));have hA1:=ab_ (H:=H7) (a:=A1) (o:=HO.lst (N.posts.map V.str++(Fm_ N).map V.str));generalize upd H7 A1 (HO.lst (N.posts.map V.str++(Fm_ N).map V.str))=H8 at*;have S8:=S7.trans T1;have xol:xo.length=N.posts.length:=by rw[rxo.length,Ab_,hf.ol]
    have x7l:xs7.length=(Fm_ N).length:=by
     rw[r7.length,Ab_];by_cases z:0<(Fm_ N).length
     .unfold Jo_;rw[Ab_,show(gP N (Fm_ N) (Fm_ N)).length=(Fm_ N).length from Ab_ _];show(swp z).1
     .have z0:Fm_ N=[]:=Bl_.mp o_;unfold Jo_ GA_ J5_;rw[z0];rfl
    show⟨D7,rfl,_,S8 _ _ hpo,_,T1 _ _ hD7,AN_ (Fq_ o_),λA2 nA2=>?_⟩;have T2:=Fo_.new nA2 (o:=HO.lst (xo++xs7));have hA2:=ab_ (H:=H8) (a:=A2) (o:=HO.lst (xo++xs7));generalize upd H8 A2 (HO.lst (xo++xs7))=H9 at*;have S9:=S8.trans T2;have ptl:(pts N).length=(xo++xs7).length:=by rw[At_,xol,x7l];show wl.2
    show⟨(pts N).map Sum.inr,.inl (.inl ?_),xo++xs7,.inl (.inl hA2),by rw[Ab_];show ptl,by rw[Ab_,lv_ ok hf.po];have:=ok.few;lia,λDd nDd=>?_⟩
    .rw[Bo_,T2 _ _ hA1];unfold pts;rw[Au_];rfl
    .have knd:((((pts N).map Sum.inr).zip (xo++xs7)).map (λkv:Key×V=>kv.1)).Nodup:=by rw[show(λkv:Key×V=>kv.1)=Prod.fst from rfl,List.map_fst_zip (by rw[Ab_];lia)];show(h0_ ok hf.po).map _ λa b h z=>h (Cd_ z)
     rw[hx_ _ [] (by rw[CK_];show knd),CK_];have T3:=Fo_.new nDd (o:=HO.dK (((pts N).map Sum.inr).zip (xo++xs7)));have hDd:=ab_ (H:=H9) (a:=Dd) (o:=HO.dK (((pts N).map Sum.inr).zip (xo++xs7)));generalize upd H9 Dd (HO.dK (((pts N).map Sum.inr).zip (xo++xs7)))=H10 at*;have S10:=S9.trans T3;show⟨_,N,rfl,Rep.mono S10 _ hv,ok,λDp H11 s11 nDp hDp=>⟨Dp,rfl,⟨_,.inl (.inl hDp)⟩,?_⟩⟩;have few:=ok.few;have S11:=S10.trans s11;show eB_ Fv vw.mono (n:=N.rows.length) (B:=λ_=>none) (Pσ:=λσ=>∃e,σ=[e,some (.ref Dd)]) (ds:=(heN N o).map GC_) (λb o e=>by cases e) ⟨_,rfl⟩ (by simp[heN]) o_ (λi H' hi s'=>⟨_,.str ((N.rows.map (·.1)).getD i Str.empty),.inl (.inl (s' _ _ hDp)),aS_ (by rw[Ab_];show hi)⟩) (λH' s'=>⟨_,.inl (.inl (s' _ _ hDp)),s_⟩) ?_ ?_
     .rintro D i x dd σ' H12 H12' hD hDo s12 hi hdi ⟨rfl,hy⟩ ⟨e,rfl⟩ R kR;have hx:=hy _ (.inl (.inl (s12 _ _ hDp)));rw[aS_ (by rw[Ab_];show hi)]at hx;cases hx;obtain⟨x,hx0⟩:∃x,x=(N.rows.map (·.1)).getD i Str.empty:=⟨_,rfl⟩;have hi':i<(N.rows.map (·.1)).length:=by rw[Ab_];show hi
      have hxi:(N.rows.map (·.1))[i]?=some x:=by rw[hx0,Aa_,Ac_ hi'];rfl
      rw[<-hx0];have xp:x∈pts N:=(bz_ hf.po).mpr (Ai_ hxi);have pl0:=i0_ xp;have pa:=of_ xp;have vl:(xo++xs7)[pid N x]?=some ((xo++xs7)[pid N x]'o_):=Ac_ _;have vv:Gf_ (((pts N).map Sum.inr).zip (xo++xs7)) (.inr x:Key)=some ((xo++xs7)[pid N x]'o_):=by show jS_ knd (BH_.mpr ⟨pid N x,?_⟩);rw[List.getElem?_zip_eq_some,Ad_,pa];show⟨rfl,vl⟩
      have hdd:∀d9,((o++Hv_ N o).map GC_)[pid N x]?=some d9->dd=d9:=λd9 hd9=>by
       rw[Ad_,heN,Ad_,hxi]at hdi;have hdi':=Ak_ hdi;rw[Ad_]at hd9;rw[<-hdi'];change GC_ ((o++Hv_ N o).getD (pid N x) [])=d9;rw[Aa_];cases z:(o++Hv_ N o)[pid N x]? with
       |none=>rw[z]at hd9;cases hd9
       |some r=>rw[z]at hd9;show Ak_ hd9
      nofun;show⟨_,by have:=GY_.k (k:=.inr x) ((s11.trans s12) _ _ hDd);rw[vv]at this;show this,λnx12=>kR _ _ _ ⟨_,rfl⟩ (Fo_.refl _) ?_⟩;have oc:=fj_ ((T3.trans s11).trans s12) ((T3.trans s11).free hD);have rr:FE_ (Fv (G2_ (λ_=>none) D H12')) (xo++xs7) ((o++Hv_ N o).map GC_):=by rw[Au_];show(FE_.mono (vw.mono _ _ (S9.trans oc)) _ rxo).append (FE_.mono (((T1.trans T2).trans oc).trans (vw.same _ _ nx12 eu_)) _ r7)
      obtain⟨d9,hd9,rp9⟩:=rr.of_get vl;rw[hdd d9 hd9];show rp9
     .intro D H12 ys hD s12 hDD rep12 nx12;show k D H12 (S11.trans s12) nx12 (S11.free hD) ⟨D,ys,rfl,(vw.same _ _ nx12 (Fo_.refl _)) _ _ hDD,FE_.mono (vw.mono _ _ eu_) _ rep12⟩ swp
theorem k7_{ws:List V}{wo:List (Str×(Int×Int))}{x:V}(h:FE_ H ws (wo.map dWo))(e:ws[i]?=some x):∃r q u,wo[i]?=some r/\x=.ref q/\H q=some (.tup [.str r.1,.ref u])/\H u=some (.tup [.int r.2.1,.int r.2.2]):=by
 obtain⟨d,hd,hr⟩:=h.of_get e;rw[Ad_]at hd;cases z:wo[i]? with
 |none=>rw[z]at hd;cases hd
 |some r =>rw[z]at hd;cases hd;obtain⟨a,_,ea,ha,x1,_,e1,hx1,x2,_,e2,hx2,e3⟩:=hr;subst e3 e2 e1;cases hx1;obtain⟨u,rfl,hu⟩:=bB_ hx2;show⟨r,a,u,rfl,ea,ha,hu⟩
abbrev GV_:Stmt:=stN 51
theorem oK_:ZL ["_law_net"] ["_law_net"] (Fn_ GV_):=zL
theorem jU_:LK GV_ "len" .globalImplicit:=r_
def smal(r:Str×(Int×Int)):Str×(Int×Int):=(r.1,nf (1+r.2.1%5) (1+r.2.2%3))
def Iw_:Sp:=λvs H Q _=>∃(v:V)(N:Net Str),vs=[v]/\Rep H v (HM_ N)/\FZ_ N/\WOk N/\∀v' (N':Net Str) H',Fo_ H H'->Rep H' v' (HM_ N')->FZ_ N'->WOk N'->N'.rows=N.rows->N'.posts=N.posts->Q v' H'
theorem oL_(T:Txt K mg)(F:Fn0 K mg "_law_small" GV_) (Gx_:Cal P w K mg base "_law_low" ["_law_top","_law_bottom"] 1 Hi_):Cal P w K mg base "_law_small" ["_law_net"] 2 Iw_:=by
  show aB_ F oK_.1 λf cdv A outer s H vs Q E hr h=>?_;obtain⟨v,N,rfl,hv,ok,wo,k⟩:=h;obtain⟨pn,p0,p1,p2,rs,ws,rfl,hn,h0,h1,r1,h2,r2⟩:=cn_ hv;have wl:ws.length=N.worths.length:=by rw[r2.length,Ab_]
  have w15:=ok.wl;refine'⟨_,?D,?R⟩
  case D =>
   refine' ad_ (Ga_ (aA_ IJ_ (am_ au_ jU_ T.n_len aZ_ (pa_c (Fr_ ak_ (zv 0 oK_) aa_) ac_)) aa_ (FB_ _)) (ag_ (ao_ (zv 0 oK_))) aP_) ?a
   case' a=>refine' ag_ (ao_ (aH_ (pa_c (Fr_ ak_ (zv 0 oK_) aa_) (pa_c (Fr_ ak_ (zv 0 oK_) aa_) ?b))))
   case' b=>refine' pa_c (aF_ (N':=["_law_wire","_law_worth"]) (ix:=[none,none]) rfl rfl (aM_ ?c) (ap_ (K:=K) rfl (Fr_ ak_ (zv 0 oK_) aa_)) (λ_ _ _=>(bh_ (K:=K) (n:=2) rfl rfl (an_ ?d (an_ ?e bg_)))) (λ_ _ _=>?f) (λ_ _ _=>?g)) ac_
   case c=>show(by change GD_ (Fn_ GV_) ["_law_net"] _ _ _=true;decide +kernel)
   case d=>show ah_ (i:=0) (by change List.Nodup (["_law_wire","_law_worth"]:List Str);decide +kernel) rfl rfl
   case e=>show ah_ (i:=1) (by change List.Nodup (["_law_wire","_law_worth"]:List Str);decide +kernel) rfl rfl
   case f=>show aO_
   case' g=>refine' aH_ (pa_c (pv1 0 rfl rfl) (pa_c (af_ Gx_ (hr.mono d_) rfl ?h) ac_))
   case' h=>refine' pa_c (Fp_ aQ_ aa_ (Fp_ aL_ (Fr_ ak_ (pv1 1 rfl rfl) aa_) aa_)) (pa_c (Fp_ aQ_ aa_ (Fp_ aL_ (Fr_ ak_ (pv1 1 rfl rfl) aa_) aa_)) ac_)
  case R =>
   nofun;show⟨_,hn,_,IK_,p2,rfl,ws,.inl h2,ite2 (λ_=>k _ N H (Fo_.refl _) hv ok wo rfl rfl) (λ_=>?_)⟩;show⟨_,hn,_,F4_,_,hn,_,Ge_,_,hn,_,IK_,p2,rfl,⟨_,.inl (.inl h2)⟩,?_⟩;show ay_ (n:=N.worths.length) (B:=λ_=>none) (Pσ:=λσ=>∃e e',σ=[e,e']) (ds:=(N.worths.map smal).map dWo) (λb o e=>by cases e) ⟨_,_,rfl⟩ s_ o_ (λi H' hi s'=>⟨ws,ws[i]'o_,.inl (.inl (s' _ _ h2)),Ac_ _⟩) (λH' s'=>⟨ws,.inl (.inl (s' _ _ h2)),o_⟩) ?_ ?_
   .rintro D i x d σ' H2 H2' hD hDo hs2 hi hdi ⟨rfl,hy⟩ ⟨e,e',rfl⟩ R kR;have hx:=hy _ (.inl (.inl (hs2 _ _ h2)));obtain⟨r,q,u,hr1,rfl,hq,hu⟩:=k7_ r2 hx;have hd:d=dWo (smal r):=by rw[Ad_,Ad_,hr1]at hdi;show(Ak_ hdi).symm
    have m3:=AC_ r.2.2 (show(3:Int)≠0 by decide);have m4:=Ax_ r.2.2 (show(0:Int)<3 by decide);have hu2:=hs2 _ _ hu;obtain⟨oD,hDo⟩:=hDo;nofun;show⟨_,SqT.of (hs2 _ _ hq),rfl,_,_,rfl,_,_,rfl,rfl,u,rfl,_,hu2,_,F4_,_,rfl,d_,u,rfl,_,hu2,_,Ge_,_,rfl,d_,_,_,rfl,o_,Az_ (b:=1000) o_ d_,λz H3 s3 rep3=>⟨d_,λt nt=>kR _ _ _ ⟨_,_,rfl⟩ (s3.trans (Fo_.new nt)) ?_⟩⟩;obtain⟨_,e9,hz⟩:=bB_ rep3;cases e9;obtain⟨z1,z2⟩:=aV_ hz;have zD:z≠D:=(ae_ hDo z1).symm;have tD:t≠D:=(ae_ (s3 _ _ hDo) nt).symm;rw[hd];show⟨t,_,rfl,by rw[aR_ tD rfl];show ab_,_,_,rfl,rfl,_,_,rfl,⟨z,_,rfl,by rw[aR_ zD rfl];show(Fo_.new nt) _ _ z2,_,_,rfl,rfl,_,_,rfl,rfl,rfl⟩,rfl⟩
   .intro D H2 hD s2 rep2;show⟨d_,λpe ne=>?_⟩;have S4:=Fo_.new ne (o:=HO.tup [V.ref p0,V.ref p1,V.ref D]);have s4:=s2.trans S4;have e1:(N.worths.map smal).map (·.1)=N.worths.map (·.1):=by rw[Bo_];rfl
    show k _ ⟨N.posts,N.rows,N.worths.map smal⟩ _ s4 ⟨pe,_,rfl,ab_,_,_,rfl,⟨p0,_,rfl,s4 _ _ h0,cN_ _⟩,_,_,rfl,⟨p1,rs,rfl,s4 _ _ h1,FE_.mono s4 _ r1⟩,_,_,rfl,Rep.mono (aq_.trans S4) _ rep2,rfl⟩ ⟨ok.nd,ok.two,ok.few,ok.tot,ok.pl,by change(N.worths.map smal).length<=15;rw[Ab_];show w15⟩ ⟨by change((N.worths.map smal).map (·.1)).Nodup;rw[e1];show wo.nd,λx=>?_,λx hx=>?_⟩ rfl rfl
    .change x∈(N.worths.map smal).map (·.1)↔x∈N.all;rw[e1];show wo.mem x
    .obtain⟨r,hr,rfl⟩:=Aj_.mp hx;have m1:=AC_ r.2.1 (show(5:Int)≠0 by decide);have m2:=Ax_ r.2.1 (show(0:Int)<5 by decide);have m3:=AC_ r.2.2 (show(3:Int)≠0 by decide);have m4:=Ax_ r.2.2 (show(0:Int)<3 by decide);show LF_ o_ o_ o_ o_
def GZ_(N:Net Str)(x:Str):Str×List (End Str):=((Gp_ N).find? λkv=>decide (kv.1=x)).getD (x,[])
def GF_(N:Net Str):List (Str×Str×(Int×Int)):=N.worths.map λr=>(Rim19.p1 (GZ_ N r.1),Rim19.p2 (GZ_ N r.1),r.2)
def dTi(t:Str×Str×(Int×Int)):Dt:=.tup [.str t.1,.str t.2.1,dF t.2.2]
theorem mO_{kv:Str×List (End Str)}(h:kv∈Gp_ N):GZ_ N kv.1=kv:=by
 unfold GZ_;cases e:(Gp_ N).find? λq=>decide (q.1=kv.1)with
 |none =>
  have:=List.find?_eq_none.mp e kv h;simp at this
 |some q =>have h1:=List.mem_of_find?_eq_some e;have h2:q.1=kv.1:=Bb_ (by simpa using List.find?_some e);change q=kv;obtain⟨i,hi,ei⟩:=Ay_.mp h1;obtain⟨j,hj,ej⟩:=Ay_.mp h;have z:=(Cv_ (h₀:=by rw[Ab_];show hi) (h₁:=by rw[Ab_];show hj) (lt_ N)).mp (by rw[List.getElem_map,List.getElem_map,ei,ej];show h2);subst z;rw[<-ei,<-ej]
theorem LH_(wo:WOk N){r:Str×(Int×Int)}(h:r∈N.worths):wN N r.1=r.2:=by have h1:=Jy_ wo ((wo.mem r.1).mp (Aj_.mpr ⟨r,h,rfl⟩));obtain⟨i,hi,ei⟩:=Ay_.mp h1;obtain⟨j,hj,ej⟩:=Ay_.mp h;have z:=(Cv_ (h₀:=by rw[Ab_];show hi) (h₁:=by rw[Ab_];show hj) wo.nd).mp (by rw[List.getElem_map,List.getElem_map,ei,ej]);subst z;rw[ei]at ej;show congrArg (·.2) ej
theorem k8_(wo:WOk N):(ties N).Perm ((GF_ N).map λt=>(t.1,t.2.1,Xw (bN N) t.2.2)):=by
 have e1:ties N=((Gp_ N).map (·.1)).map λx=>(Rim19.p1 (GZ_ N x),Rim19.p2 (GZ_ N x),Xw (bN N) (wN N x)):=by unfold ties;rw[Bo_];show Bj_ λkv h=>?_;change tie N kv=_;rw[Function.comp_apply,mO_ h];rfl
 have e2:((GF_ N).map λt=>(t.1,t.2.1,Xw (bN N) t.2.2))=(N.worths.map (·.1)).map λx=>(Rim19.p1 (GZ_ N x),Rim19.p2 (GZ_ N x),Xw (bN N) (wN N x)):=by unfold GF_;rw[Bo_,Bo_];show Bj_ λr h=>?_;change(Rim19.p1 (GZ_ N r.1),Rim19.p2 (GZ_ N r.1),Xw (bN N) r.2)=(Rim19.p1 (GZ_ N r.1),Rim19.p2 (GZ_ N r.1),Xw (bN N) (wN N r.1));rw[LH_ wo h]
 rw[e1,e2];show(k1_ wo).map _
def dP(e:End Str):Dt:=.str e.1
theorem oM_{S:Hp}:∀{vs:List V}{es:List (End Str)},FE_ S vs (es.map dP)->vs=es.map λe=>V.str e.1
 |_,[],h=>h
 |_,e::es,⟨x,l,e1,hx,hl⟩=>by subst e1;cases hx;rw[oM_ hl];rfl
abbrev GJ_:Stmt:=stN 59
theorem f8_:ZM ["_law_net","_law_ties_here","_law_point","_law_wires","_law_wire"] ["_law_net"] (Fn_ GJ_):=zM
theorem i8_:LK GJ_ "_law_ties_here" .cell:=r_
theorem i9_:LK GJ_ "_law_point" .local:=r_
theorem ja_:LK GJ_ "_law_wires" .local:=r_
theorem jb_:LK GJ_ "_law_wire" .local:=r_
def IY_:Sp:=λvs H Q _=>∃(v:V)(N:Net Str),vs=[v]/\Rep H v (HM_ N)/\FZ_ N/\WOk N/\∀D H',Fo_ H H'->H D=none->Rep H' (.ref D) (.lst ((GF_ N).map dTi))->Q (.ref D) H'
theorem px_(T:Txt K mg)(F:Fn0 K mg "_law_ties" GJ_):Cal P w K mg base "_law_ties" ["_law_net"] 1 IY_:=by
  show aB_ F f8_.1 λf cdv A outer s H vs Q E hr h=>?_;obtain⟨v,N,rfl,hv,ok,wo,k⟩:=h;refine'⟨_,?D,?R⟩
  case D =>
   refine' ad_ (bp_ (i:=1) f8_.nd rfl i8_ rfl hm_ rfl) ?a
   case' a=>refine' ad_ (bs_ AG_ rfl (ap_ (K:=K) rfl (Fr_ ak_ (zw 0 f8_) aa_)) (bh_ (K:=K) (n:=2) rfl rfl (an_ ?b (an_ ?c bg_))) ?d) ?e
   case b=>show ah_ (i:=2) f8_.nd rfl i9_
   case c=>show ah_ (i:=3) f8_.nd rfl ja_
   case' d=>refine' ag_ (bs_ AG_ rfl (ap_ (K:=K) rfl (zw 3 f8_)) ?f ?g)
   case f=>show ah_ (i:=4) f8_.nd rfl jb_
   case' g=>refine' ag_ (bM_ (G5_ AU_ A8_ A9_ bA_ (G5_ B4_ Cq_ PySem.F.type_dict_setdefault fN_ (zw 1 f8_) (pa_c (zw 4 f8_) (pa_c (by_ ac_) ac_))) (pa_c (zw 2 f8_) ac_)))
   case' e=>refine' ag_ (ao_ (aF_ (N':=["_law_wire","_law_worth","_law_ties_here"]) (ix:=[none,none,some 1]) rfl rfl (aM_ ?h) (ap_ (K:=K) rfl (Fr_ ak_ (zw 0 f8_) aa_)) (λ_ _ _=>(bh_ (K:=K) (n:=2) rfl rfl (an_ ?i (an_ ?j bg_)))) (λ_ _ _=>?k) (λ_ _ _=>?l)))
   case h=>show(by change GD_ (Fn_ GJ_) ["_law_net","_law_ties_here","_law_point","_law_wires","_law_wire"] _ _ _=true;decide +kernel)
   case i=>show ah_ (i:=0) (by change List.Nodup (["_law_wire","_law_worth","_law_ties_here"]:List Str);decide +kernel) rfl rfl
   case j=>show ah_ (i:=1) (by change List.Nodup (["_law_wire","_law_worth","_law_ties_here"]:List Str);decide +kernel) rfl rfl
   case k=>show aO_
   case' l=>refine' aH_ (pa_c (Fr_ al_ (bY_ (un1 hr.units) (pvc 2 rfl rfl) (pv1 0 rfl rfl)) aa_) (pa_c (Fr_ al_ (bY_ (un1 hr.units) (pvc 2 rfl rfl) (pv1 0 rfl rfl)) aa_) (pa_c (pv1 1 rfl rfl) ac_)))
  case R =>
   nofun;obtain⟨pn,p0,p1,p2,rs,ws,rfl,hn,h0,h1,r1,h2,r2⟩:=cn_ hv;have rl:rs.length=N.rows.length:=by rw[r1.length,Ab_]
   intro d nd;have Sd:Fo_ H (upd H d (HO.dK [])):=Fo_.new nd;show⟨pn,rfl,_,Sd _ _ hn,_,Ge_,p1,rfl,⟨_,.inl (.inl (Sd _ _ h1))⟩,?_⟩;have D0:DE dP H (upd H d (HO.dK [])) d [] (F2_ (occ (N.rows.take 0))):=⟨Sd,ab_,rfl,BS_,λz=>(by cases z),λi l kv z=>(by cases z),nd,λl z=>(by cases z)⟩;show jy_ (xs:=rs) (λi σ H'=>∃(e2 e3 e4:Option V)(S:Hp)(ls:List Addr),σ=[some (.ref pn),some (.ref d),e2,e3,e4]/\Fo_ H S/\DE dP S H' d ls (F2_ (occ (N.rows.take i)))) ⟨none,none,none,H,[],rfl,Fo_.refl _,D0⟩ ?_ ?_ ?_
   .rintro i σ H' hi ⟨e2,e3,e4,S,ls,rfl,sS,de⟩;show .inl (.inl (de.sH _ _ (sS _ _ h1)))
   .rintro i x σ H' hx kk kb hk hbk G hG ⟨e2,e3,e4,S,ls,rfl,sS,de⟩;obtain⟨r,q,l,hr1,rfl,hq,hl⟩:=hv_ r1 hx;have s1:=sS.trans de.sH;rw[hw_ hr1]at hk;have occle:∀j,∃m,(occ (N.rows.take i)++(FW_ r.1 0 r.2).take j)++m=occ N.rows:=λj=>by show⟨(FW_ r.1 0 r.2).drop j++occ (N.rows.drop (i+1)),?_⟩;rw[A0_,<-A0_ (List.take j _),Bt_,<-A0_,<-hw_ hr1];unfold occ;rw[<-BP_,<-Au_,Bt_]
    nofun;show⟨_,SqT.of (s1 _ _ hq),rfl,_,_,rfl,_,_,rfl,rfl,l,rfl,⟨_,.inl (.inl (s1 _ _ hl))⟩,?_⟩;show jy_ (xs:=r.2.map V.str) (λj σ H'=>∃(e4:Option V)(S:Hp)(ls:List Addr),σ=[some (.ref pn),some (.ref d),some (.str r.1),some (.ref l),e4]/\Fo_ H S/\DE dP S H' d ls (F2_ (occ (N.rows.take i)++(FW_ r.1 0 r.2).take j))) ⟨e4,S,ls,rfl,sS,by rw[Ex_,By_];show de⟩ ?_ ?_ ?_
    .rintro j σ H2 hj ⟨e4,S,ls,rfl,sS,de⟩;show .inl (.inl ((sS.trans de.sH) _ _ hl))
    .rintro j x σ H2 hx kk2 kb2 hk2 hbk2 G2 hG2 ⟨e4,S,ls,rfl,sS,de⟩;rw[Ad_]at hx
     obtain⟨wr,hw,rfl⟩:∃wr,r.2[j]?=some wr/\x=.str wr:=by
      cases e:r.2[j]? with
      |none=>rw[e]at hx;cases hx
      |some wr=>rw[e]at hx;cases hx;show⟨wr,rfl,rfl⟩
     have tk:(FW_ r.1 0 r.2).take (j+1)=(FW_ r.1 0 r.2).take j++[(wr,(r.1,j))]:=by rw[Bn_,gF_,hw];simp
     obtain⟨m,hm⟩:=occle j;have few:=mM_ ok _ _ hm;have short:=i6_ ok _ _ hm;rw[tk,<-A0_,e5_]at hk2;generalize F2_ (occ (N.rows.take i)++(FW_ r.1 0 r.2).take j)=acc at*;nofun;show⟨.inr (.inr (.inl (.inl ⟨_,de.dict⟩))),AD_ _,λq nq=>?_⟩;have qd:q≠d:=(ae_ de.dict nq).symm;have ql:q∉ls:=λz=>by obtain⟨i0,hi0,ei⟩:=Ay_.mp z;obtain⟨vs,z2,_⟩:=de.lst i0 q (acc[i0]'(by rw[<-de.len];show hi0)) (by rw[Ac_ hi0,ei]) (Ac_ _);rw[nq]at z2;cases z2
     have Sq:S q=none:=de.sH.free nq;have de3:=de.mono (Fo_.new nq (o:=HO.lst []));have hq4:=ab_ (H:=H2) (a:=q) (o:=HO.lst []);generalize upd H2 q (HO.lst [])=H4 at*;show⟨_,.inr wr,rfl,de3.dict,by rw[lT_ de3.len];lia,λv2 hv2=>?_,λhnone=>?_⟩
     .have hex:∃kv∈acc,kv.1=wr:=by
       by_cases hc:∃kv∈acc,kv.1=wr
       .show hc
       .rw[hu_ (λkv hkv z=>hc ⟨kv,hkv,z⟩)]at hv2;cases hv2
      obtain⟨i0,es,g1,g2,g3⟩:=dj_ (e:=(r.1,j)) hex;obtain⟨lw,l1,l2⟩:=e9_ de3.len g1 g2;rw[l2]at hv2;cases hv2;obtain⟨vs,hvs,hrep⟩:=de3.lst i0 lw _ l1 g1;have vle:vs.length<=30:=by rw[hrep.length,Ab_];show short _ (Ai_ g1)
      show⟨.inl ⟨_,.inl (.inl hvs)⟩,lw,rfl,vs,hvs,Fq_ o_,?_⟩;rw[g3]at hk2;show hk2 _ _ ⟨_,S,ls,rfl,sS,de3.old g1 l1 hvs hrep (e:=(r.1,j)) rfl⟩
     .have hno:∀kv∈acc,kv.1≠wr:=λkv hkv z=>by obtain⟨i0,es,g1,g2,g3⟩:=dj_ (e:=(r.1,j)) ⟨kv,hkv,z⟩;obtain⟨lw,l1,l2⟩:=e9_ de3.len g1 g2;rw[l2]at hnone;cases hnone
      have hqd:upd H4 d (HO.dK (GH_ (Gw_ acc ls) (Sum.inr wr) (V.ref q))) q=some (.lst []):=by rw[aj_ qd];show hq4
      rw[hX_ hno]at hk2;show⟨.inl ⟨_,.inl (.inl hqd)⟩,[],hqd,Fq_ d_,hk2 _ _ ⟨_,S,ls++[q],rfl,sS,de3.new (e:=(r.1,j)) (q:=q) hno hq4 qd ql Sq rfl⟩⟩
    .rintro σ H2 ⟨e4,S,ls,rfl,sS,de⟩;rw[AR_ (l:=FW_ r.1 0 r.2) (by rw[i5_,Ab_];show Af_ _)]at de;show hk _ _ ⟨_,_,_,S,ls,rfl,sS,de⟩
   .rintro σ H' ⟨e2,e3,e4,S,ls,rfl,sS,de⟩;rw[AR_ o_]at de;have deN:DE dP S H' d ls (Gp_ N):=de;nofun;have sH:=sS.trans de.sH;have wl:ws.length=N.worths.length:=by rw[r2.length,Ab_]
    have w15:=ok.wl;have h2':=sH _ _ h2;show⟨_,sH _ _ hn,_,IK_,p2,rfl,⟨_,.inl (.inl h2')⟩,?_⟩;show ay_ (n:=N.worths.length) (B:=λ_=>none) (Pσ:=λσ=>∃e e',σ=[e,e',some (.ref d)]) (ds:=(GF_ N).map dTi) (λb o e=>by cases e) ⟨_,_,rfl⟩ (by unfold GF_;simp) o_ (λi H' hi s'=>⟨ws,ws[i]'o_,.inl (.inl (s' _ _ h2')),Ac_ _⟩) (λH' s'=>⟨ws,.inl (.inl (s' _ _ h2')),o_⟩) ?_ ?_
    .rintro D i x dd σ' H2 H2' hD hDo hs2 hi hdi ⟨rfl,hy⟩ ⟨e,e',rfl⟩ R kR;have hx:=hy _ (.inl (.inl (hs2 _ _ h2')));obtain⟨r,q,u,hr1,rfl,hq,hu⟩:=k7_ r2 hx;have hd:dd=dTi (Rim19.p1 (GZ_ N r.1),Rim19.p2 (GZ_ N r.1),r.2):=by rw[Ad_]at hdi;unfold GF_ at hdi;rw[Ad_,hr1]at hdi;show(Ak_ hdi).symm
     obtain⟨oD,hDo⟩:=hDo;have rin:r.1∈(Gp_ N).map (·.1):=iy_.mpr ((wo.mem r.1).mp (Aj_.mpr ⟨r,Ai_ hr1,rfl⟩));obtain⟨kv,kv1,kv2⟩:=Aj_.mp rin;obtain⟨j,hj,ej⟩:=Ay_.mp kv1;obtain⟨ea,eb,e2⟩:=hr_ ok kv1;have aj:(Gp_ N)[j]?=some (r.1,kv.2):=by rw[Ac_ hj,ej,<-kv2]
     obtain⟨lw,l1,l2⟩:=e9_ deN.len aj (λj' kv' hj' e' z=>by have hj2:=(Ar_.mp e').1;have z1:=(Cv_ (h₀:=by rw[Ab_];show hj2) (h₁:=by rw[Ab_];show hj) (lt_ N)).mp (by rw[List.getElem_map,List.getElem_map,ej,(Ar_.mp e').2,kv2];show z);lia);obtain⟨vs,hvs,hrep⟩:=deN.lst j lw _ l1 aj;rw[show(r.1,kv.2).2=[ea,eb]from e2]at hrep;have evs:=oM_ hrep;rw[evs]at hvs;have dg:=GY_.k (k:=.inr r.1) (hs2 _ _ deN.dict);rw[l2]at dg;have hvs2:=hs2 _ _ hvs;have eo:GZ_ N r.1=kv:=by rw[<-kv2];show mO_ kv1
     have hu2:=hs2 _ _ (sH _ _ hu);nofun;show⟨_,SqT.of (hs2 _ _ (sH _ _ hq)),rfl,_,_,rfl,_,_,rfl,rfl,_,dg,lw,rfl,_,hvs2,_,F4_,_,dg,lw,rfl,_,hvs2,_,Ge_,d_,λt nt=>kR _ _ _ ⟨_,_,rfl⟩ (Fo_.new nt) ?_⟩;have tD:t≠D:=(ae_ hDo nt).symm;have uD:u≠D:=λc=>by have z:=sH _ _ hu;rw[c,hD]at z;cases z
     rw[hd,eo];unfold Rim19.p1 Rim19.p2;rw[e2];show⟨t,_,rfl,by rw[aR_ tD rfl];show ab_,_,_,rfl,rfl,_,_,rfl,rfl,_,_,rfl,⟨u,_,rfl,by rw[aR_ uD rfl];show(Fo_.new nt) _ _ hu2,_,_,rfl,rfl,_,_,rfl,rfl,rfl⟩,rfl⟩
    .intro D H2 hD s2 rep2;show k D H2 (sH.trans s2) (sH.free hD) (Rep.mono aq_ _ rep2)
theorem sd_{p:Int×Int}(h:Ws p)(hB:0<B)(hd:p.2 ∣ B):0<Xw B p:=by unfold Xw;show Be_ h.2.1 (CD_ hB (by have:=h.1.pos;lia) hd)
theorem bm_(ok:FZ_ N)(po:F1_ N)(wo:WOk N){e:Str×Str×Int}(he:e∈ties N):e.1∈pts N/\e.2.1∈pts N/\0<e.2.2:=by
 obtain⟨kv,hkv,rfl⟩:=Aj_.mp he;obtain⟨a,b,e2⟩:=hr_ ok hkv;have ia:=pY_ hkv (a:=a) (by rw[e2];show Ah_);have ib:=pY_ hkv (a:=b) (by rw[e2];show Ag_ _ Ah_);obtain⟨r,hr,er,_⟩:=lw_.mp ia;obtain⟨r',hr',er',_⟩:=lw_.mp ib;have ka:=iy_.mp (Aj_.mpr ⟨kv,hkv,rfl⟩);have wi:=Jy_ wo ka;show⟨(bz_ po).mpr ?_,(bz_ po).mpr ?_,sd_ (wo.ws _ wi) (G1_ ok wo).1 (lx_ wi)⟩
 .change p1 kv∈_;unfold p1;rw[e2];show Aj_.mpr ⟨r,hr,er⟩
 .change p2 kv∈_;unfold p2;rw[e2];show Aj_.mpr ⟨r',hr',er'⟩
theorem lV_(ok:FZ_ N)(wo:WOk N){k j:Nat}(hk:k<(Fm_ N).length)(hj:j<(Fm_ N).length):ma (nums (gP N (Fm_ N) (Fm_ N))) k j*bN N=sm (ties N) ((Fm_ N).getD k Str.empty) ((Fm_ N).getD j Str.empty)*FX_ ((gP N (Fm_ N) (Fm_ N)).getD k []):=by
 have hk':k<(gP N (Fm_ N) (Fm_ N)).length:=by unfold gP;rw[Ab_];show hk
 have er:(gP N (Fm_ N) (Fm_ N)).getD k []=(Fm_ N).map λy=>nf (sm (ties N) ((Fm_ N).getD k Str.empty) y) (bN N):=by unfold gP;rw[Aa_,Ad_,Ac_ hk,Aa_,Ac_ hk];rfl
 have hb:=(G1_ ok wo).1;have bt:=bq_ (H5_ ok wo (xs:=Fm_ N) (ys:=Fm_ N) _ (eK_ hk')).2;unfold ma;rw[lJ_ hk'];have hz:((gP N (Fm_ N) (Fm_ N)).getD k [])[j]?=some (nf (sm (ties N) ((Fm_ N).getD k Str.empty) ((Fm_ N).getD j Str.empty)) (bN N)):=by rw[er,Ad_,Ac_ hj,Aa_ (l:=Fm_ N) (i:=j),Ac_ hj];rfl
 generalize(gP N (Fm_ N) (Fm_ N)).getD k []=r at*;have e2:gi (tops r (FX_ r)) j=(nf (sm (ties N) ((Fm_ N).getD k Str.empty) ((Fm_ N).getD j Str.empty)) (bN N)).1*(FX_ r/(nf (sm (ties N) ((Fm_ N).getD k Str.empty) ((Fm_ N).getD j Str.empty)) (bN N)).2):=by unfold gi tops;rw[Aa_,Ad_,hz];rfl
 rw[e2];show mx_ (GQ_ o_) (bt.dvd _ (Ai_ hz))
theorem se_(ok:FZ_ N)(po:F1_ N)(wo:WOk N)(hg:Hng (ties N) N.posts (pts N)):D (Fm_ N).length (ma (nums (gP N (Fm_ N) (Fm_ N))))≠0:=by
 have hb:=(G1_ ok wo).1;have dp:0<D (Fm_ N).length λi j=>sm (ties N) ((Fm_ N).getD i Str.empty) ((Fm_ N).getD j Str.empty):=mA_ (posts:=N.posts) (within:=Fm_ N) Str.empty (h0_ ok po) (λe he=>⟨(bm_ ok po wo he).1,(bm_ ok po wo he).2.1⟩) (λe he=>(bm_ ok po wo he).2.2) hg;have e1:=cD_ (n:=(Fm_ N).length) (λ_=>bN N) (ma (nums (gP N (Fm_ N) (Fm_ N))));have e2:=cD_ (n:=(Fm_ N).length) (λk=>FX_ ((gP N (Fm_ N) (Fm_ N)).getD k [])) (λi j=>sm (ties N) ((Fm_ N).getD i Str.empty) ((Fm_ N).getD j Str.empty));have e3:D (Fm_ N).length (λi j=>bN N*ma (nums (gP N (Fm_ N) (Fm_ N))) i j)=D (Fm_ N).length (λi j=>FX_ ((gP N (Fm_ N) (Fm_ N)).getD i [])*sm (ties N) ((Fm_ N).getD i Str.empty) ((Fm_ N).getD j Str.empty)):=a4_ λi j hi hj=>by rw[AQ_,lV_ ok wo hi hj,AQ_]
 intro z;rw[z,Bh_]at e1;rw[e3]at e1;rw[e1]at e2
 have pp:∀m,m<=(Fm_ N).length->0<pr m (λk=>FX_ ((gP N (Fm_ N) (Fm_ N)).getD k [])):=λm=>by
  induction m with
  |zero=>intro _;change(0:Int)<1;decide
  |succ m ih =>
   intro hm;show Be_ (ih o_) ?_;have hk':m<(gP N (Fm_ N) (Fm_ N)).length:=by unfold gP;rw[Ab_];lia
   show(bq_ (H5_ ok wo (xs:=Fm_ N) (ys:=Fm_ N) _ (eK_ hk')).2).pos
 have:=Be_ (pp _ (Af_ _)) dp;show Int.ne_of_gt this e2.symm
theorem oN_{j:Nat}(hj:j<(Fm_ N).length):(pts N)[N.posts.length+j]?=some ((Fm_ N).getD j Str.empty):=by unfold pts;rw[AJ_ o_,show N.posts.length+j-N.posts.length=j by lia];change(Fm_ N)[j]?=_;rw[Aa_,Ac_ hj];rfl
theorem jV_(ok:FZ_ N)(po:F1_ N)(h:N.posts[i]?=some x):pid N x=i/\i<N.posts.length:=by have il:=(Ar_.mp h).1;show⟨p2_ ok po ?_,il⟩;unfold pts;rw[AF_ il];show h
theorem sf_(ok:FZ_ N)(po:F1_ N)(h:NtH N):Hng (ties N) N.posts (pts N):=λU h0 cl x hx=>by
 have hx':=(bz_ po).mp hx;obtain⟨r,hr,rfl⟩:=Aj_.mp hx';show h U h0 (λr1 h1 r2 h2 w w1 w2 u1=>?_) r hr;have sp:=bZ_ _ (occ N.rows) rfl;have at_:∀r∈N.rows,w∈r.2->∃i,(w,(r.1,i))∈occ N.rows:=λr hr hw=>by obtain⟨i,hi⟩:=BH_.mp hw;show⟨i,lw_.mpr ⟨r,hr,rfl,hi⟩⟩
 obtain⟨i1,o1⟩:=at_ r1 h1 w1;obtain⟨i2,o2⟩:=at_ r2 h2 w2;obtain⟨kv,hkv,ek⟩:=sp.2.2.1 _ o1;have ek:kv.1=w:=ek;have ev:=sp.2.1 kv hkv;obtain⟨a,b,e2⟩:=hr_ ok hkv;have m1:(r1.1,i1)∈kv.2:=by rw[ev];show Aj_.mpr ⟨_,BJ_.mpr ⟨o1,by simp[ek]⟩,rfl⟩
 have m2:(r2.1,i2)∈kv.2:=by rw[ev];show Aj_.mpr ⟨_,BJ_.mpr ⟨o2,by simp[ek]⟩,rfl⟩
 have c:=cl (tie N kv) (Aj_.mpr ⟨kv,hkv,rfl⟩);have ca:(tie N kv).1=a.1:=by change p1 kv=_;unfold p1;rw[e2];rfl
 have cb:(tie N kv).2.1=b.1:=by change p2 kv=_;unfold p2;rw[e2];rfl
 rw[ca,cb]at c;rw[e2]at m1 m2;simp only[Aq_,Ba_,Cf_]at m1 m2
 rcases m1 with rfl|rfl <;> rcases m2 with e|e
 .rw[show r2.1=r1.1 from(Prod.mk.inj e).1];show u1
 .rw[show r2.1=b.1 from congrArg Prod.fst e];show c.mp u1
 .rw[show r2.1=a.1 from congrArg Prod.fst e];show c.mpr u1
 .rw[show r2.1=r1.1 from(Prod.mk.inj e).1];show u1
theorem rd_{c:Nat}(hf:Hf N o c Bs)(swp:Swp N o c):(Hv_ N o).length=(Fm_ N).length/\∀r∈Hv_ N o,r.length=c:=by
 by_cases z:0<(Fm_ N).length
 .obtain⟨a,b,_⟩:=swp z;obtain⟨_,cl,_⟩:=hf.inn.co z;unfold Hv_ Jo_;rw[show(gP N (Fm_ N) (Fm_ N)).length=(Fm_ N).length from Ab_ _,Ab_];show⟨a,λr hr=>?_⟩;obtain⟨row,hrow,rfl⟩:=Aj_.mp hr;rw[CI_,b.w row hrow,cl];show Nat.min_self _
 .have z0:Fm_ N=[]:=Bl_.mp o_;have e:Hv_ N o=[]:=by unfold Hv_ Jo_ GA_ J5_;rw[z0];rfl
  rw[e,z0];show⟨rfl,λr hr=>by cases hr⟩
def hgt(N:Net Str)(o:List (List (Int×Int)))(q:Nat)(x:Str):Int×Int:=((o++Hv_ N o).getD (pid N x) []).getD q (0,1)
def dN(N:Net Str):Int:=D (Fm_ N).length (ma (nums (gP N (Fm_ N) (Fm_ N))))
structure Hts(N:Net Str)(o:List (List (Int×Int)))(Bs:Int)(q:Nat)(ys:List Int)(X:Str->Int):Prop where
 is:∀x∈pts N,Is (hgt N o q x) (X x) (dN N*(bN N*Bs))
 bal:∀x∈Fm_ N,Fl (ties N) X x=0
 post:∀(i:Nat) x,N.posts[i]?=some x->X x=ys.getD i 0*(dN N*bN N)
theorem oO_{c:Nat}(hf:Hf N o c Bs)(swp:Swp N o c)(hx:x∈pts N):((o++Hv_ N o).getD (pid N x) []).length=c:=by
 obtain⟨a,b⟩:=rd_ hf swp;have p:=i0_ hx;have wl:=(cB_ hf.ok hf.po).2;have lt:pid N x<(o++Hv_ N o).length:=by rw[At_,a,hf.ol];lia
 have m:(o++Hv_ N o).getD (pid N x) []∈o++Hv_ N o:=by rw[Aa_,Ac_ lt];show AO_ _
 rcases AB_.mp m with h|h
 .show hf.orow _ h
 .show b _ h
variable{q:Nat}
theorem jW_{c:Nat}(h0:0<o.length)(h:∀r∈o,r.length=c)(hq:q<c):(cols o)[q]?=some (o.map λrow=>row.getD q (0,1)):=by
 cases o with
 |nil=>simp at h0
 |cons r o' =>change((List.range r.length).map λj=>(r::o').map λrow=>row.getD j (0,1))[q]?=_;rw[h r Ah_,Ad_,Bq_ hq];rfl
theorem qf_{c:Nat}(hf:Hf N o c Bs)(swp:Swp N o c)(hq:q<c)(oy:Ovs Bs (o.map λrow=>row.getD q (0,1)) ys)(ly:∀y∈ys,y.natAbs<=2 ^ 160):∃X,Hts N o Bs q ys X:=by
 have ok:=hf.ok;have po:=hf.po;have wo:=hf.wo;have o0:0<o.length:=by rw[hf.ol];show po.p0
 have hin:=hf.inn;have b0:=(G1_ ok wo).1;have s0:=hf.s0;have BB:0<bN N*Bs:=Be_ b0 s0;have yl:ys.length=N.posts.length:=by rw[<-oy.len,Ab_];show hf.ol
 have hpost:∀(i:Nat) x s,N.posts[i]?=some x->(o.map λrow=>row.getD q (0,1))[i]?=some s->hgt N o q x=s:=λi x s h1 h2=>by
  obtain⟨e,il⟩:=jV_ ok po h1;have e3:(o++Hv_ N o)[i]?=o[i]?:=AF_ (by rw[hf.ol];show il);rw[Ad_]at h2;unfold hgt;rw[e,Aa_ (l:=o++Hv_ N o),e3];cases z:o[i]? with
  |none=>rw[z]at h2;cases h2
  |some r=>rw[z]at h2;show Ak_ h2
 have d0:dN N≠0:=by
  unfold dN;by_cases hn:0<(Fm_ N).length
  .show hf.det hn
  .rw[show(Fm_ N).length=0 by lia];change(1:Int)≠0;decide
 have bot:Bot (bN N*Bs) ((cols (GA_ N o)).getD q []) (FX_ ((cols (GA_ N o)).getD q [])):=by
  by_cases hn:0<(Fm_ N).length
  .obtain⟨_,c2,c3⟩:=hin.co hn;show bq_ (c3 _ (eK_ (by rw[c2];show hq))).2
  .have z0:Fm_ N=[]:=Bl_.mp o_;have:GA_ N o=[]:=by unfold GA_ J5_;rw[z0];rfl
   rw[this];show⟨by change 0<FX_ ([]:List (Int×Int));decide,(λp hp=>by cases hp),Ek_ _⟩
 obtain⟨m,hm⟩:=bot.to;have Lp:=bot.pos;generalize hd:dN N=d at*;show⟨λx=>if pid N x<N.posts.length then ys.getD (pid N x) 0*(d*bN N)else ma (FA_ (Fm_ N).length 1 (aug (gP N (Fm_ N) (Fm_ N)) (cols (GA_ N o)))).2 (pid N x-N.posts.length) q*m,λx hx=>?_,λx hx=>?_,λi x hi=>?_⟩
 .rw[hd];have pl:=i0_ hx;have wl:=(cB_ ok po).2;by_cases c':pid N x<N.posts.length
  .rw[if_pos c']
   have hx1:N.posts[pid N x]?=some x:=by
    have:=of_ hx;unfold pts at this
    rwa[AF_ c']at this
   have hy:ys[pid N x]?=some (ys.getD (pid N x) 0):=by rw[Aa_,Ac_ o_];rfl
   obtain⟨s,h1,h2⟩:=oy.at hy;rw[hpost _ x s hx1 h1];show h2.conv (AW_ d0 o_) (by ac_rfl)
  .rw[if_neg c'];have hj:pid N x-N.posts.length<(Fm_ N).length:=o_
   have hn:0<(Fm_ N).length:=o_
   obtain⟨a,b,_⟩:=swp hn;obtain⟨_,c2,_⟩:=hin.co hn;have dd:=hin.dt hn;rw[hin.gl,show D (Fm_ N).length (ma (nums (gP N (Fm_ N) (Fm_ N))))=d from hd]at dd;have e1:(o++Hv_ N o).getD (pid N x) []=(Hv_ N o).getD (pid N x-N.posts.length) []:=by rw[Aa_,Aa_,AJ_ (by rw[hf.ol];lia),hf.ol]
   have hgx:hgt N o q x=nf (ma (FA_ (Fm_ N).length 1 (aug (gP N (Fm_ N) (Fm_ N)) (cols (GA_ N o)))).2 (pid N x-N.posts.length) q) (d*FX_ ((cols (GA_ N o)).getD q [])):=by
    unfold hgt;rw[e1];unfold Hv_ Jo_;rw[show(gP N (Fm_ N) (Fm_ N)).length=(Fm_ N).length from Ab_ _,dd];generalize(FA_ (Fm_ N).length 1 (aug (gP N (Fm_ N) (Fm_ N)) (cols (GA_ N o)))).2=Lf at*;have hr:Lf[pid N x-N.posts.length]?=some (Lf[pid N x-N.posts.length]'o_):=Ac_ _;have rl:=b.w _ (AO_ (show pid N x-N.posts.length<Lf.length by lia));have e3:(Lf.map λrow=>List.zipWith (λt c=>nf t (d*FX_ c)) row (cols (GA_ N o))).getD (pid N x-N.posts.length) []=List.zipWith (λt c=>nf t (d*FX_ c)) (Lf[pid N x-N.posts.length]'o_) (cols (GA_ N o)):=by rw[Aa_,Ad_,hr];rfl
    have e4:Lf.getD (pid N x-N.posts.length) []=Lf[pid N x-N.posts.length]'o_:=by rw[Aa_,hr];rfl
    unfold ma gi;rw[e3,e4];generalize Lf[pid N x-N.posts.length]'o_=row at*;have q1:row[q]?=some (row[q]'o_):=Ac_ _;have q2:(cols (GA_ N o))[q]?=some ((cols (GA_ N o))[q]'o_):=Ac_ _;rw[Aa_,Dd_,q1,q2,Aa_ (l:=row),q1,Aa_ (l:=cols (GA_ N o)),q2];rfl
   rw[hgx];show(GQ_ (AW_ d0 o_)).conv (AW_ d0 o_) ?_;rw[hm]
   ac_rfl
 .have hp:x∈pts N:=AI_ _ hx;have wl:=(cB_ ok po).2;obtain⟨k,hk,ek⟩:=Ay_.mp hx;have hxk:(Fm_ N).getD k Str.empty=x:=by rw[Aa_,Ac_ hk];show ek
  have hn:0<(Fm_ N).length:=o_
  obtain⟨a,b,_⟩:=swp hn;obtain⟨c1,c2,c3⟩:=hin.co hn;obtain⟨l1,l2,l3⟩:=hin.lf hn;have dd:=hin.dt hn;have al:(aug (gP N (Fm_ N) (Fm_ N)) (cols (GA_ N o))).length=(Fm_ N).length:=by rw[ik_,hin.gl]
  have gk:k<(gP N (Fm_ N) (Fm_ N)).length:=by rw[hin.gl];show hk
  have Lk:=(bq_ (hin.gr _ (eK_ gk)).2).pos;have hdN:D (Fm_ N).length (ma (nums (gP N (Fm_ N) (Fm_ N))))=d:=hd;have ans:=kI_ (rows:=aug (gP N (Fm_ N) (Fm_ N)) (cols (GA_ N o))) (w:=0) (c:=c) (by rw[al];show l3) (by rw[al,<-hin.gl,dd,hdN];show d0) (by rw[al];show a) (by rw[al];show b) (r:=k) (q:=q) (by rw[al];show hk) hq;rw[al]at ans;rw[hin.gl]at dd;rw[dd,hdN,l2 k q hk hq]at ans;have qc:=jW_ o0 hf.orow hq;have qm:(o.map λrow=>row.getD q (0,1))∈cols o:=Ai_ qc;obtain⟨it,_⟩:=hf.ent x qm oy ly;have colk:((cols (GA_ N o)).getD q [])[k]?=some (ngF (Ig_ (N.posts.map λy=>nf (sm (ties N) x y) (bN N)) (o.map λrow=>row.getD q (0,1)))):=by rw[c1,Aa_,Ad_,Bq_ hq];change((GA_ N o).map λrow=>row.getD q (0,1))[k]?=_;unfold GA_ J5_ gP;rw[Ad_,Ad_,Ad_,Ad_,Ac_ hk,ek];change some ((((cols o).map λc=>Ig_ (N.posts.map λy=>nf (sm (ties N) x y) (bN N)) c).map ngF).getD q (0,1))=_;rw[Aa_,Ad_,Ad_,qc];rfl
  have cc:gi (tops ((cols (GA_ N o)).getD q []) (FX_ ((cols (GA_ N o)).getD q []))) k*m = -dot (N.posts.map λy=>sm (ties N) x y) ys:=by
   have te:=mx_ (Lt_ it) (bot.dvd _ (Ai_ colk));have e2:gi (tops ((cols (GA_ N o)).getD q []) (FX_ ((cols (GA_ N o)).getD q []))) k=(ngF (Ig_ (N.posts.map λy=>nf (sm (ties N) x y) (bN N)) (o.map λrow=>row.getD q (0,1)))).1*(FX_ ((cols (GA_ N o)).getD q [])/(ngF (Ig_ (N.posts.map λy=>nf (sm (ties N) x y) (bN N)) (o.map λrow=>row.getD q (0,1)))).2):=by unfold gi;rw[Aa_,show(tops ((cols (GA_ N o)).getD q []) (FX_ ((cols (GA_ N o)).getD q [])))[k]?=some _ by unfold tops;rw[Ad_,colk];rfl];rfl
   rw[<-e2,hm]at te;show AY_ (a:=FX_ ((cols (GA_ N o)).getD q [])) o_ ?_;rw[<-AQ_,Bg_,AQ_ m,te,AQ_]
  generalize gi (tops ((cols (GA_ N o)).getD q []) (FX_ ((cols (GA_ N o)).getD q []))) k=C at*;generalize hLf:(FA_ (Fm_ N).length 1 (aug (gP N (Fm_ N) (Fm_ N)) (cols (GA_ N o)))).2=Lf at*;rw[Jf_ _ x (h0_ ok po) (E:=ties N) λe he=>⟨(bm_ ok po wo he).1,(bm_ ok po wo he).2.1⟩];change((N.posts++Fm_ N).map _).sum=0;rw[Au_,Cc_,ol_ (λy=>sm (ties N) x y) _ (d*bN N) N.posts ys yl.symm (λi z y h1 h2=>by obtain⟨e,il⟩:=jV_ ok po h1;change(if pid N z<N.posts.length then _ else _:Int)=_;rw[if_pos o_,e,Aa_,h2];rfl),<-lz_ (λy=>sm (ties N) x y*_) Str.empty (Fm_ N)];have e5:(su (Fm_ N).length λj=>sm (ties N) x ((Fm_ N).getD j Str.empty)*(if pid N ((Fm_ N).getD j Str.empty)<N.posts.length then ys.getD (pid N ((Fm_ N).getD j Str.empty)) 0*(d*bN N)else ma Lf (pid N ((Fm_ N).getD j Str.empty)-N.posts.length) q*m))=su (Fm_ N).length λj=>sm (ties N) x ((Fm_ N).getD j Str.empty)*(ma Lf j q*m):=a7_ λj hj=>by have pj:=p2_ ok po (oN_ hj);rw[if_neg o_,pj,show N.posts.length+j-N.posts.length=j by lia]
  rw[e5]
  have e6:FX_ ((gP N (Fm_ N) (Fm_ N)).getD k [])*(su (Fm_ N).length λj=>sm (ties N) x ((Fm_ N).getD j Str.empty)*(ma Lf j q*m))=(bN N*m)*su (Fm_ N).length λj=>ma (aug (gP N (Fm_ N) (Fm_ N)) (cols (GA_ N o))) k j*ma Lf j q:=by
   rw[<-bV_,<-bV_];show a7_ λj hj=>?_;have ni:=lV_ ok wo hk hj;rw[hxk]at ni;rw[l1 k j hk hj];generalize ma (nums (gP N (Fm_ N) (Fm_ N))) k j=Nk at*;generalize sm (ties N) x ((Fm_ N).getD j Str.empty)=s at*;generalize FX_ ((gP N (Fm_ N) (Fm_ N)).getD k [])=L at*
   calc L*(s*(ma Lf j q*m))=(s*L)*(ma Lf j q*m):=by ac_rfl
    _=(Nk*bN N)*(ma Lf j q*m):=by rw[ni]
    _=bN N*m*(Nk*ma Lf j q):=by ac_rfl
  rw[ans]at e6;generalize(su (Fm_ N).length λj=>sm (ties N) x ((Fm_ N).getD j Str.empty)*(ma Lf j q*m))=W at*;generalize dot (N.posts.map λy=>sm (ties N) x y) ys=t at*;generalize FX_ ((gP N (Fm_ N) (Fm_ N)).getD k [])=L at*
  have e7:L*W=L*(-(d*bN N*t)):=by
   rw[e6]
   calc bN N*m*(d*(L*C))=(bN N*d*L)*(C*m):=by ac_rfl
    _=(bN N*d*L) * -t:=by rw[cc]
    _=L*(-(d*bN N*t)):=by rw[Cg_,Cg_];congr 1;ac_rfl
  have e8:=AY_ o_ e7;rw[e8];lia
 .obtain⟨e,il⟩:=jV_ ok po hi;rw[hd];change(if pid N x<N.posts.length then _ else _:Int)=_;rw[if_pos o_,e]
def nmN(N:Net Str):List Str:=N.rows.map (·.1)
theorem re_(ok:FZ_ N)(po:F1_ N)(wo:WOk N)(hg:Hng (ties N) N.posts (pts N)):0<dN N:=by
 have hb:=(G1_ ok wo).1;have dp:0<D (Fm_ N).length λi j=>sm (ties N) ((Fm_ N).getD i Str.empty) ((Fm_ N).getD j Str.empty):=mA_ (posts:=N.posts) (within:=Fm_ N) Str.empty (h0_ ok po) (λe he=>⟨(bm_ ok po wo he).1,(bm_ ok po wo he).2.1⟩) (λe he=>(bm_ ok po wo he).2.2) hg;have e1:=cD_ (n:=(Fm_ N).length) (λ_=>bN N) (ma (nums (gP N (Fm_ N) (Fm_ N))));have e2:=cD_ (n:=(Fm_ N).length) (λk=>FX_ ((gP N (Fm_ N) (Fm_ N)).getD k [])) (λi j=>sm (ties N) ((Fm_ N).getD i Str.empty) ((Fm_ N).getD j Str.empty));have e3:D (Fm_ N).length (λi j=>bN N*ma (nums (gP N (Fm_ N) (Fm_ N))) i j)=D (Fm_ N).length (λi j=>FX_ ((gP N (Fm_ N) (Fm_ N)).getD i [])*sm (ties N) ((Fm_ N).getD i Str.empty) ((Fm_ N).getD j Str.empty)):=a4_ λi j hi hj=>by rw[AQ_,lV_ ok wo hi hj,AQ_]
 have pp:∀m,m<=(Fm_ N).length->0<pr m (λk=>FX_ ((gP N (Fm_ N) (Fm_ N)).getD k [])):=λm=>by
  induction m with
  |zero=>intro _;change(0:Int)<1;decide
  |succ m ih =>
   intro hm;show Be_ (ih o_) ?_;have hk':m<(gP N (Fm_ N) (Fm_ N)).length:=by unfold gP;rw[Ab_];lia
   show(bq_ (H5_ ok wo (xs:=Fm_ N) (ys:=Fm_ N) _ (eK_ hk')).2).pos
 have h3:=Be_ (pp _ (Af_ _)) dp;rw[<-e2,<-e3,e1]at h3;have h4:0<pr (Fm_ N).length (λ_=>bN N):=by rw[dL_];show E4_ hb
 show DY_ h3 h4
structure Hx(N:Net Str)(o:List (List (Int×Int)))(c:Nat)(Bs:Int):Prop extends Hf N o c Bs where
 hg:Hng (ties N) N.posts (pts N)
theorem Hts.le{c:Nat}(h:Hx N o c Bs){X:Str->Int}(ht:Hts N o Bs q ys X)(ly:∀y∈ys,y.natAbs<=2 ^ 160):∀x∈pts N,(X x).natAbs<=2 ^ 2920:=λx hx=>by
 have E1:∀e∈ties N,e.1∈N.posts++Fm_ N/\e.2.1∈N.posts++Fm_ N:=λe he=>⟨(bm_ h.ok h.po h.wo he).1,(bm_ h.ok h.po h.wo he).2.1⟩;have E2:∀e∈ties N,0<e.2.2:=λe he=>(bm_ h.ok h.po h.wo he).2.2
 have pb:∀z∈N.posts,(X z).natAbs<=2 ^ 2920:=λz hz=>by
  obtain⟨i,hi⟩:=BH_.mp hz;rw[ht.post i z hi,AT_,AT_]
  have y1:(ys.getD i 0).natAbs<=2 ^ 160:=by
   rw[Aa_];cases z:ys[i]? with
   |none=>show AD_ _
   |some y=>show ly y (Ai_ z)
  calc _<=2 ^ 160*(2 ^ 2610*2 ^ 150):=AX_ y1 (AX_ h.inn.dle (G1_ h.ok h.wo).2)
   _=2 ^ 2920:=by rw[<-A4_,<-A4_]
 have a1:=Kq_ (M:=((2 ^ 2920:Nat):Int)) E1 E2 h.hg ht.bal (λz hz=>by have:=pb z hz;lia) x hx;have a2:=Lp_ (M:=-((2 ^ 2920:Nat):Int)) E1 E2 h.hg ht.bal (λz hz=>by have:=pb z hz;lia) x hx;lia
def BhN(N:Net Str)(Bs:Int):Int:=dN N*(bN N*Bs)
theorem mP_{c:Nat}(h:Hx N o c Bs):0<BhN N Bs/\(BhN N Bs).natAbs<=2 ^ 2900:=by
 have b:=G1_ h.ok h.wo;show⟨Be_ (re_ h.ok h.po h.wo h.hg) (Be_ b.1 h.s0),?_⟩;unfold BhN;rw[AT_,AT_]
 calc _<=2 ^ 2610*(2 ^ 150*2 ^ 130):=AX_ h.inn.dle (AX_ b.2 h.sb)
  _<=2 ^ 2900:=by rw[<-A4_,<-A4_];show Aw_ d_ d_
theorem lW_{c:Nat}(h:Hx N o c Bs)(swp:Swp N o c):(cols (heN N o)).length=c/\∀q,q<c->(cols (heN N o))[q]?=some ((nmN N).map (hgt N o q)):=by
 have r0:0<(heN N o).length:=by have:=lv_ h.ok h.po;have:=(cB_ h.ok h.po).2;have:=h.po.p0;unfold heN;rw[Ab_,Ab_];lia
 have rl:∀r∈heN N o,r.length=c:=λr hr=>by obtain⟨x,hx,rfl⟩:=Aj_.mp hr;show oO_ h.toHf swp ((bz_ h.po).mpr hx)
 show⟨?_,λq hq=>?_⟩
 .cases z:heN N o with
  |nil=>rw[z]at r0;simp at r0
  |cons r g =>change((List.range r.length).map _).length=c;rw[Ab_,Bc_];show rl r (by rw[z];show Ah_)
 .rw[jW_ r0 rl hq];unfold heN nmN;rw[Bo_];rfl
def flN(N:Net Str)(o:List (List (Int×Int))):List (List (Int×Int)):=(gP N N.posts (nmN N)).map λr=>(cols (heN N o)).map λc=>Ig_ r c
theorem qg_{c:Nat}(h:Hx N o c Bs)(hq:q<c):∃ys,Ovs Bs (o.map λrow=>row.getD q (0,1)) ys/\∀y∈ys,y.natAbs<=2 ^ 160 :=
 h.cov _ (Ai_ (jW_ (by rw[h.ol];show h.po.p0) h.orow hq))
theorem lX_(f X:Str->Int):∀l:List Str,dot (l.map f) (l.map X)=(l.map λy=>f y*X y).sum
 |[]=>rfl
 |y::l=>by rw[Av_,Av_,fQ_,lX_ f X l,Av_,A3_]
theorem Lz_{c:Nat}(h:Hx N o c Bs){X:Str->Int}(ht:Hts N o Bs q ys X)(ly:∀y∈ys,y.natAbs<=2 ^ 160)(p:Str):Ovs (BhN N Bs) ((nmN N).map (hgt N o q)) ((nmN N).map X)/\Ov (BhN N Bs) 3000 ((nmN N).map (hgt N o q))/\Is (Ig_ ((nmN N).map λy=>nf (sm (ties N) p y) (bN N)) ((nmN N).map (hgt N o q))) (Fl (ties N) X p) (bN N*BhN N Bs):=by
 have o1:=oI_ h.ok h.wo p (nmN N);have o2:Ovs (BhN N Bs) ((nmN N).map (hgt N o q)) ((nmN N).map X):=Ovs.map _ _ λx hx=>ht.is x ((bz_ h.po).mpr hx);have o3:Ov (BhN N Bs) 3000 ((nmN N).map (hgt N o q)):=o2.ov λz hz=>by obtain⟨x,hx,rfl⟩:=Aj_.mp hz;show Am_ (ht.le h ly x ((bz_ h.po).mpr hx)) (Aw_ d_ d_)
 show⟨o2,o3,?_⟩;have e:=p4_ (G1_ h.ok h.wo).1 (mP_ h).1 o1 o2 (o1.ov (t:=170) λz hz=>by obtain⟨y,_,rfl⟩:=Aj_.mp hz;show Am_ (iz_ h.ok h.wo p y) (Aw_ d_ d_)) o3;rw[lX_,<-Jf_ X p (L:=nmN N) h.ok.nd (E:=ties N) λe he=>⟨(bz_ h.po).mp (bm_ h.ok h.po h.wo he).1,(bz_ h.po).mp (bm_ h.ok h.po h.wo he).2.1⟩]at e;show e
abbrev FM_:Stmt:=stN 34
theorem g6_:ZL ["net","settings","pulls"] ["net","settings"] (Fn_ FM_):=zL
theorem dB_:LK FM_ "heights_for" .globalImplicit:=r_
theorem ec_:LK FM_ "multiplied" .globalImplicit:=r_
theorem ep_:LK FM_ "points_of" .globalImplicit:=r_
theorem eq_:LK FM_ "pull_grid" .globalImplicit:=r_
theorem eT_:LK FM_ "pulls_of" .globalImplicit:=r_
def KS_(K:PySem.W.Frag):Sp:=λvs H Q _=>∃(Fv:Hp->Hp)(v u:V)(N:Net Str)(o:List (List (Int×Int)))(c:Nat)(Bs:Int),KG_ K Fv/\vs=[v,u]/\Rep H v (HM_ N)/\Rep (Fv H) u (dG o)/\Hx N o c Bs/\∀x H',Fo_ H H'->Rep (G4_ H H') x (dG (flN N o))->Swp N o c->Q x H'
theorem k9_(T:Txt K mg)(hN:Nt K mg CN)(F:Fn0 K mg "flows_for" FM_) (F6_:Cal P w K mg base "points_of" ["net"] 1 HW_) (Hh_:Cal P w K mg base "pulls_of" ["net"] 4 HO_) (GK_:Cal P w K mg base "pull_grid" ["pulls","points","others"] 1 (Kh_ K CN)) (GS_:Cal P w K mg base "multiplied" ["grid","other"] 4 (IW_ K)) (GL_:Cal P w K mg base "heights_for" ["net","settings"] 6 (Kl_ K)):Cal P w K mg base "flows_for" ["net","settings"] 7 (KS_ K):=by
  show aB_ F g6_.1 λf cdv A outer s H vs Q E hr h=>?_;obtain⟨Fv,v,u,N,o,c,Bs,vw,rfl,hv,hu,hx,k⟩:=h;have ok:=hx.ok;have wo:=hx.wo;have few:=ok.few;have pl6:=ok.pl;obtain⟨pn,p0,p1,p2,rs,ws,rfl,hn,h0,h1,r1,h2,r2⟩:=cn_ hv;refine'⟨_,?D,?R⟩
  case D =>
   refine' ad_ (zas 2 g6_ (af_ GK_ (hr.mono d_) eq_ ?a)) ?b
   case' a=>refine' pa_c (af_ Hh_ (hr.mono d_) eT_ (pa_c (zv 0 g6_) ac_)) (pa_c (Fr_ ak_ (zv 0 g6_) aa_) (pa_c (af_ F6_ (hr.mono d_) ep_ (pa_c (zv 0 g6_) ac_)) ac_))
   case' b=>refine' ag_ (ao_ (af_ GS_ (hr.mono d_) ec_ (pa_c (zv 2 g6_) (pa_c (af_ GL_ (hr.mono d_) dB_ (pa_c (zv 0 g6_) (pa_c (zv 1 g6_) ac_))) ac_))))
  case R =>
   nofun;show⟨_,N,rfl,hv,ok,wo,λd H1 s1 nd pl=>⟨_,s1 _ _ hn,_,F4_,?_⟩⟩;show⟨_,N,rfl,Rep.mono s1 _ hv,ok,λDp H2 s2 nDp hDp=>?_⟩;have S2:=s1.trans s2;have b0:=G1_ ok wo;show⟨H,d,_,_,_,p0,Dp,N.posts,nmN N,rfl,S2,pl.mono s2,o_,S2 _ _ h0,hDp,o_,by unfold nmN;rw[Ab_];show few,λD3 H3 s3 nx3 rep3=>?_⟩;have S3:=S2.trans s3;show⟨Fv,_,_,N,o,c,Bs,vw,rfl,Rep.mono S3 _ hv,Rep.mono (vw.mono _ _ S3) _ hu,hx.toHf,λD4 H4 s4 nx4 nD4 rep4 swp=>?_⟩;have S4:=S3.trans s4;have hc:=lW_ hx swp;have bh:=mP_ hx;have hnl:(heN N o).length=(nmN N).length:=by unfold heN nmN;rw[Ab_]
   have nl:(nmN N).length=N.rows.length:=Ab_ _;show⟨Fv,wN0 CN H4,_,_,gP N N.posts (nmN N),heN N o,c,bN N,BhN N Bs,vw,rfl,oG_ hN,Rep.mono (ea_ _ _ (aq_.trans s4)) _ rep3,rep4,λr hr=>by rw[(H5_ ok wo r hr).1,hnl],λr hr=>?_,hx.c6,by rw[show(gP N N.posts (nmN N)).length=N.posts.length from Ab_ _];lia,o_,λr hr=>(H5_ ok wo r hr).2,λcc hcc=>?_,b0.1,bh.1,Am_ (aD_ b0.2) d_,Am_ (aD_ bh.2) d_,λx5 H5 s5 rep5=>k x5 H5 (S4.trans s5) (Rep.mono (hL_ S4) _ rep5) swp⟩
   .obtain⟨x,hxx,rfl⟩:=Aj_.mp hr;show oO_ hx.toHf swp ((bz_ hx.po).mpr hxx)
   .obtain⟨q,hq⟩:=BH_.mp hcc;have ql:q<c:=by have:=(Ar_.mp hq).1;lia
    rw[hc.2 q ql]at hq;cases hq;obtain⟨ys,oy,ly⟩:=qg_ hx ql;obtain⟨X,ht⟩:=qf_ hx.toHf swp ql oy ly;show⟨by rw[Ab_,hnl],(Lz_ hx ht ly Str.empty).2.1⟩
variable {CO:Addr}
def Gv_(ss:List (Int×Int)):List (List (Int×Int)):=ss.map λs=>[s]
theorem oP_:KG_ K λA=>A:=⟨λ_ _ s=>s,λ_=>VG.refl,λ_ _ _ _=>Fo_.refl _⟩
theorem oQ_{c:Nat}(h:Hx N o c Bs)(swp:Swp N o c):(flN N o).length=N.posts.length/\∀r∈flN N o,r.length=c:=by show⟨by unfold flN gP;rw[Ab_,Ab_],λr hr=>?_⟩;obtain⟨r1,_,rfl⟩:=Aj_.mp hr;rw[Ab_];show(lW_ h swp).1
def flC(N:Net Str)(o:List (List (Int×Int)))(q:Nat):List (Int×Int):=(flN N o).map λr=>r.getD q (0,1)
abbrev F9_:Stmt:=stN 36
theorem lY_:ZL ["net","setting"] ["net","setting"] (Fn_ F9_):=zL
theorem eU_:LK F9_ "flows_for" .globalImplicit:=r_
def Ki_(K:PySem.W.Frag):Sp:=λvs H Q _=>∃(v u:V)(N:Net Str)(ss:List (Int×Int))(Bs:Int),vs=[v,u]/\Rep H v (HM_ N)/\Rep H u (GC_ ss)/\ss.length<=6/\Hx N (Gv_ ss) 1 Bs/\∀D H',Fo_ H H'->H D=none->Rep H' (.ref D) (GC_ (flC N (Gv_ ss) 0))->Swp N (Gv_ ss) 1->Q (.ref D) H'
theorem lZ_(T:Txt K mg)(F:Fn0 K mg "flows_of" F9_) (In_:Cal P w K mg base "flows_for" ["net","settings"] 7 (KS_ K)):Cal P w K mg base "flows_of" ["net","setting"] 8 (Ki_ K):=by
  show aB_ F lY_.1 λf cdv A outer s H vs Q E hr h=>?_;obtain⟨v,u,N,ss,Bs,rfl,hv,hu,s6,hx,k⟩:=h;have pl6:=hx.ok.pl;obtain⟨pu,xu,rfl,hpu,rxu⟩:=id hu;have xl:xu.length=ss.length:=by rw[rxu.length,Ab_]
  refine'⟨_,?D,?R⟩
  case D =>
   refine' ag_ (ao_ (aF_ (N':=["row"]) (ix:=[none]) rfl rfl (aM_ ?a) ?b (λ_ _ _=>?c) (λ_ _ _=>?d) (λ_ _ _=>(Fr_ al_ (pv1 0 rfl rfl) aa_))))
   case a=>show(by change GD_ (Fn_ F9_) ["net","setting"] _ _ _=true;decide +kernel)
   case' b=>refine' ap_ (K:=K) rfl (af_ In_ (hr.mono d_) eU_ (pa_c (zv 0 lY_) (pa_c (aF_ (N':=["height"]) (ix:=[none]) rfl rfl (aM_ ?e) (ap_ (K:=K) rfl (zv 1 lY_)) (λ_ _ _=>?f) (λ_ _ _=>?g) (λ_ _ _=>(by_ (pa_c (pv1 0 rfl rfl) ac_)))) ac_)))
   case e=>show(by change GD_ (Fn_ F9_) ["net","setting"] _ _ _=true;decide +kernel)
   case f=>show ah_ (i:=0) (by change List.Nodup (["height"]:List Str);decide +kernel) rfl rfl
   case g=>show aO_
   case c=>show ah_ (i:=0) (by change List.Nodup (["row"]:List Str);decide +kernel) rfl rfl
   case d=>show aO_
  case R =>
   nofun;show⟨⟨_,.inl (.inl hpu)⟩,?_⟩;show ay_ (n:=xu.length) (B:=λ_=>none) (Pσ:=λσ=>∃e,σ=[e]) (ds:=(Gv_ ss).map GC_) (λb o e=>by cases e) ⟨_,rfl⟩ (by simp[Gv_,xl]) o_ (λi H' hi s'=>⟨xu,xu[i],.inl (.inl (s' _ _ hpu)),by simp[hi]⟩) (λH' s'=>⟨xu,.inl (.inl (s' _ _ hpu)),Af_ _⟩) ?_ ?_
   .rintro D i x dd σ' H5 H5' hD ⟨oD,hDo⟩ s5 hi hdi ⟨rfl,hy⟩ ⟨e,rfl⟩ R kR;have hx:=hy xu (.inl (.inl (s5 _ _ hpu)));obtain⟨q,z,hz,rfl,hq⟩:=fV_ rxu hx;have hd1:dd=GC_ [z]:=by rw[Ad_,Gv_,Ad_,hz]at hdi;show(Ak_ hdi).symm
    nofun;show⟨d_,λl nl=>kR _ _ _ ⟨_,rfl⟩ (Fo_.new nl) ?_⟩;rw[hd1];have lD:l≠D:=(ae_ hDo nl).symm;show⟨l,[.ref q],rfl,by rw[aR_ lD rfl];show ab_,_,_,rfl,?_,rfl⟩;show Rep.mono (fj_ (s5.trans (Fo_.new nl)) hD) _ (show Rep H (.ref q) (dF z)from⟨q,_,rfl,hq,_,_,rfl,rfl,_,_,rfl,rfl,rfl⟩)
   .intro D1 H1 nD1 s1 rep1;have rep1':Rep H1 (.ref D1) (dG (Gv_ ss)):=Rep.mono aq_ _ rep1;show⟨λA=>A,_,_,N,Gv_ ss,1,Bs,oP_,rfl,Rep.mono s1 _ hv,rep1',hx,λx2 H2 s2 rep2 swp=>?_⟩;have S2:=s1.trans s2;obtain⟨D2,xs2,rfl,hD2,r2⟩:=Rep.mono aq_ _ rep2;have fr:=oQ_ hx swp;have l2:xs2.length=N.posts.length:=by rw[r2.length,Ab_];show fr.1
    show⟨D2,rfl,⟨_,.inl (.inl hD2)⟩,?_⟩;show ay_ (n:=xs2.length) (B:=λ_=>none) (Pσ:=λσ=>∃e,σ=[e]) (ds:=(flC N (Gv_ ss) 0).map dF) (λb o e=>by cases e) ⟨_,rfl⟩ (by unfold flC;rw[Ab_,Ab_,fr.1,l2]) o_ (λi H' hi s'=>⟨xs2,xs2[i],.inl (.inl (s' _ _ hD2)),by simp[hi]⟩) (λH' s'=>⟨xs2,.inl (.inl (s' _ _ hD2)),Af_ _⟩) ?_ (λD H3 hD s3 rep3=>k D H3 (S2.trans s3) (S2.free hD) (Rep.mono aq_ _ rep3) swp);rintro D i x dd σ' H5 H5' hD hDo s5 hi hdi ⟨rfl,hy⟩ ⟨e,rfl⟩ R kR;have hx':=hy xs2 (.inl (.inl (s5 _ _ hD2)));obtain⟨q,ys,r,hr1,rfl,hq,hys⟩:=cx_ (g:=flN N (Gv_ ss)) r2 hx';have rl:=fr.2 r (Ai_ hr1);obtain⟨y,rfl⟩:=Ch_.mp rl;have hd1:dd=dF y:=by rw[Ad_,flC,Ad_,hr1]at hdi;show(Ak_ hdi).symm
    obtain⟨y0,r0,e0,hy0,er0⟩:=id hys;cases er0;subst e0;nofun;show⟨_,s5 _ _ hq,_,F4_,kR _ _ _ ⟨_,rfl⟩ (Fo_.refl _) ?_⟩;rw[hd1];show Rep.mono (fj_ s5 hD) _ hy0
def L9_(N:Net Str)(f:Str->Int×Int):Dt:=.lst ((N.rows.map (·.1)).map λx=>.tup [.str x,dF (f x)])
variable{ss:List (Int×Int)}
theorem sg_(hs:Hx N (Gv_ ss) 1 Bs)(swp:Swp N (Gv_ ss) 1)(hx:x∈pts N):(Gv_ ss++Hv_ N (Gv_ ss)).getD (pid N x) []=[hgt N (Gv_ ss) 0 x]:=by have l1:=oO_ hs.toHf swp hx;unfold hgt;obtain⟨y,hy⟩:=Ch_.mp l1;rw[hy];rfl
abbrev FI_:Stmt:=stN 35
theorem f9_:ZL ["net","setting","rows"] ["net","setting"] (Fn_ FI_):=zL
theorem df_:LK FI_ "heights_for" .globalImplicit:=r_
theorem ed_:LK FI_ "points_of" .globalImplicit:=r_
theorem gI_:LK FI_ "zip" .globalImplicit:=r_
def Lc_(K:PySem.W.Frag):Sp:=λvs H Q _=>∃(v u:V)(N:Net Str)(ss:List (Int×Int))(Bs:Int),vs=[v,u]/\Rep H v (HM_ N)/\Rep H u (GC_ ss)/\ss.length<=6/\Hx N (Gv_ ss) 1 Bs/\∀D H',Fo_ H H'->H D=none->Rep H' (.ref D) (L9_ N (hgt N (Gv_ ss) 0))->Swp N (Gv_ ss) 1->Q (.ref D) H'
theorem jZ_(T:Txt K mg)(F:Fn0 K mg "heights_of" FI_) (F6_:Cal P w K mg base "points_of" ["net"] 1 HW_) (GL_:Cal P w K mg base "heights_for" ["net","settings"] 6 (Kl_ K)):Cal P w K mg base "heights_of" ["net","setting"] 7 (Lc_ K):=by
  show aB_ F f9_.1 λf cdv A outer s H vs Q E hr h=>?_;obtain⟨v,u,N,ss,Bs,rfl,hv,hu,s6,hs,k⟩:=h;have ok:=hs.ok;have few:=ok.few;have pl6:=ok.pl;obtain⟨pu,xu,rfl,hpu,rxu⟩:=id hu;have xl:xu.length=ss.length:=by rw[rxu.length,Ab_]
  refine'⟨_,?D,?R⟩
  case D =>
   refine' ad_ ?a (ag_ (ao_ ?b))
   case' a=>refine' zas 2 f9_ (af_ GL_ (hr.mono d_) df_ (pa_c (zv 0 f9_) (pa_c (aF_ (N':=["height"]) (ix:=[none]) rfl rfl (aM_ ?c) (ap_ (K:=K) rfl (zv 1 f9_)) (λ_ _ _=>?d) (λ_ _ _=>?e) (λ_ _ _=>(by_ (pa_c (pv1 0 rfl rfl) ac_)))) ac_)))
   case c=>show(by change GD_ (Fn_ FI_) ["net","setting","rows"] _ _ _=true;decide +kernel)
   case d=>show ah_ (i:=0) (by change List.Nodup (["height"]:List Str);decide +kernel) rfl rfl
   case e=>show aO_
   case' b=>refine' aF_ (N':=["point","row"]) (ix:=[none,none]) rfl rfl (aM_ ?f) ?g (λ_ _ _=>(bh_ (K:=K) (n:=2) rfl rfl (an_ ?h (an_ ?i bg_)))) (λ_ _ _=>?j) (λ_ _ _=>(aH_ (pa_c (pv1 0 rfl rfl) (pa_c (Fr_ al_ (pv1 1 rfl rfl) aa_) ac_))))
   case f=>show(by change GD_ (Fn_ FI_) ["net","setting","rows"] _ _ _=true;decide +kernel)
   case' g=>refine' nH_ (K:=K) rfl gI_ T.n_zip (pa_c (af_ F6_ (hr.mono d_) ed_ (pa_c (zv 0 f9_) ac_)) (pa_c (zv 2 f9_) ac_))
   case h=>show ah_ (i:=0) (by change List.Nodup (["point","row"]:List Str);decide +kernel) rfl rfl
   case i=>show ah_ (i:=1) (by change List.Nodup (["point","row"]:List Str);decide +kernel) rfl rfl
   case j=>show aO_
  case R =>
   nofun;show⟨⟨_,.inl (.inl hpu)⟩,?_⟩;show ay_ (n:=xu.length) (B:=λ_=>none) (Pσ:=λσ=>∃e,σ=[e]) (ds:=(Gv_ ss).map GC_) (λb o e=>by cases e) ⟨_,rfl⟩ (by simp[Gv_,xl]) o_ (λi H' hi s'=>⟨xu,xu[i],.inl (.inl (s' _ _ hpu)),by simp[hi]⟩) (λH' s'=>⟨xu,.inl (.inl (s' _ _ hpu)),Af_ _⟩) ?_ ?_
   .rintro D i x dd σ' H5 H5' hD ⟨oD,hDo⟩ s5 hi hdi ⟨rfl,hy⟩ ⟨e,rfl⟩ R kR;have hx:=hy xu (.inl (.inl (s5 _ _ hpu)));obtain⟨q,z,hz,rfl,hq⟩:=fV_ rxu hx;have hd1:dd=GC_ [z]:=by rw[Ad_,Gv_,Ad_,hz]at hdi;show(Ak_ hdi).symm
    nofun;show⟨d_,λl nl=>kR _ _ _ ⟨_,rfl⟩ (Fo_.new nl) ?_⟩;rw[hd1];have lD:l≠D:=(ae_ hDo nl).symm;show⟨l,[.ref q],rfl,by rw[aR_ lD rfl];show ab_,_,_,rfl,?_,rfl⟩;show Rep.mono (fj_ (s5.trans (Fo_.new nl)) hD) _ (show Rep H (.ref q) (dF z)from⟨q,_,rfl,hq,_,_,rfl,rfl,_,_,rfl,rfl,rfl⟩)
   .intro D1 H1 nD1 s1 rep1;have rep1':Rep H1 (.ref D1) (dG (Gv_ ss)):=Rep.mono aq_ _ rep1;show⟨λA=>A,_,_,N,Gv_ ss,1,Bs,oP_,rfl,Rep.mono s1 _ hv,rep1',hs.toHf,λD2 H2 s2 nx2 nD2 rep2 swp=>?_⟩;have S2:=s1.trans s2;obtain⟨_,xs2,e2,hD2,r2⟩:=id rep2;cases e2;show⟨_,N,rfl,Rep.mono S2 _ hv,ok,λD3 H3 s3 nD3 hD3=>?_⟩;have S3:=S2.trans s3;have hD23:=s3 _ _ hD2;have l2:xs2.length=N.rows.length:=by rw[r2.length];simp[heN]
    have r23:=FE_.mono s3 _ r2;show⟨D3,rfl,D2,rfl,⟨_,.inl (.inl hD3)⟩,⟨_,.inl (.inl hD23)⟩,?_⟩;have at1:∀i,i<N.rows.length->((N.rows.map (·.1)).map V.str)[i]?=some (.str ((N.rows.map (·.1)).getD i Str.empty)):=λi hi=>aS_ (by rw[Ab_];show hi)
    show ay_ (n:=N.rows.length) (B:=λ_=>none) (Pσ:=λσ=>∃a b,σ=[a,b]) (ds:=(N.rows.map (·.1)).map λx=>.tup [.str x,dF (hgt N (Gv_ ss) 0 x)]) (λb o e=>by cases e) ⟨_,_,rfl⟩ s_ o_
     (λi H' hi s'=>⟨_,_,_,xs2[i]'o_,.inl (.inl (s' _ _ hD3)),.inl (.inl (s' _ _ hD23)),at1 i hi,Ac_ _⟩) (λH' s'=>⟨_,_,.inl (.inl (s' _ _ hD3)),.inl (.inl (s' _ _ hD23)),.inl s_⟩) ?_ ?_
    .rintro D i x dd σ' H5 H5' hD ⟨oD,hDo⟩ s5 hi hdi ⟨t,x,y,rfl,hT,rfl,hx,hy⟩ ⟨e1,e2,rfl⟩ R kR;have hx':=hx _ (.inl (.inl (s5 _ _ hD3)));have hy':=hy _ (.inl (.inl (s5 _ _ hD23)));rw[at1 i hi]at hx';cases hx';obtain⟨x,hx0⟩:∃x,x=(N.rows.map (·.1)).getD i Str.empty:=⟨_,rfl⟩;have hi':i<(N.rows.map (·.1)).length:=by rw[Ab_];show hi
     have hxi:(N.rows.map (·.1))[i]?=some x:=by rw[hx0,Aa_,Ac_ hi'];rfl
     have xp:x∈pts N:=(bz_ hs.po).mpr (Ai_ hxi);obtain⟨q,ys,r,hr1,rfl,hq,hys⟩:=cx_ (g:=heN N (Gv_ ss)) r23 hy';have er:r=[hgt N (Gv_ ss) 0 x]:=by rw[<-sg_ hs swp xp];rw[heN,Ad_,hxi]at hr1;show(Ak_ hr1).symm
     subst er;obtain⟨y0,r0,e0,hy0,er0⟩:=id hys;cases er0;subst e0;rw[<-hx0];have hd1:dd=.tup [.str x,dF (hgt N (Gv_ ss) 0 x)]:=by rw[Ad_,hxi]at hdi;show(Ak_ hdi).symm
     have A1:=Fo_.new hT (o:=HO.tup [V.str x,V.ref q]);nofun;show⟨_,.inl (.inl ab_),rfl,_,_,rfl,_,_,rfl,rfl,?_⟩;nofun;show⟨_,A1 _ _ (s5 _ _ hq),_,F4_,d_,λl nl=>kR _ _ _ ⟨_,_,rfl⟩ (A1.trans (Fo_.new nl)) ?_⟩;rw[hd1];have lD:l≠D:=(ae_ (A1 _ _ hDo) nl).symm;show⟨l,_,rfl,by rw[aR_ lD rfl];show ab_,_,_,rfl,rfl,_,_,rfl,?_,rfl⟩;show Rep.mono (fj_ ((s5.trans A1).trans (Fo_.new nl)) hD) _ hy0
    .intro D H4 hD s4 rep4;show k D H4 (S3.trans s4) (S3.free hD) (Rep.mono aq_ _ rep4) swp
def Ds(p:Int×Int):Prop:=Low p/\p.1.natAbs<=10 ^ 12/\p.2<=10 ^ 6
theorem Mr_{t b:Int}(hb:0<b)(ht:t.natAbs<=10 ^ 12)(hb2:b<=10 ^ 6):Ds (nf t b):=by have l:=(iT_ (t:=t) (b:=b) o_).1;have h:=dk_ (t:=t) (b:=b) o_;show⟨l,o_,o_⟩
abbrev GT_:Stmt:=stN 56
theorem la_:ZL ["_law_rest","_law_many","_law_digit_here"] ["_law_rest","_law_many"] (Fn_ GT_):=zL
def HL_:Sp:=λvs H Q _=>∃(l:Addr)(r m:Int),vs=[.ref l,.int m]/\H l=some (.lst [.int r])/\0<m/\m.natAbs.log2<9000/\Q (.int (r%m)) (upd H l (.lst [.int (r/m)]))
theorem oR_(T:Txt K mg)(F:Fn0 K mg "_law_digit" GT_):Cal P w K mg base "_law_digit" ["_law_rest","_law_many"] 1 HL_:=by
  show aB_ F la_.1 λf cdv A outer s H vs Q E hr h=>?_;obtain⟨l,r,m,rfl,hl,m0,ml,k⟩:=h;refine'⟨_,?D,?R⟩
  case D =>
   refine' ad_ (zas 2 la_ (Fp_ aL_ (Fr_ al_ (zv 0 la_) aa_) (zv 1 la_))) ?a
   case' a=>refine' ad_ (hB_ (Fp_ av_ (Fr_ al_ (zv 0 la_) aa_) (zv 1 la_)) (pI_ (zv 0 la_) aa_ mb_)) (ag_ (ao_ (zv 2 la_)))
  case R =>nofun;simp only[hl];nofun;show⟨m0,m0,ml,k⟩
abbrev FV_:Stmt:=stN 58
theorem ga_:ZL ["_law_rest","_law_kind","_law_sign"] ["_law_rest","_law_kind"] (Fn_ FV_):=zL
theorem aN_:LK FV_ "_law_digit" .globalImplicit:=r_
theorem c8_:LK FV_ "_law_low" .globalImplicit:=r_
def J1_:Sp:=λvs H Q _=>∃(l:Addr)(r k:Int),vs=[.ref l,.int k]/\H l=some (.lst [.int r])/\∀q p r' H',But l H H'->H' l=some (.lst [.int r'])->H q=none->H' q=some (.tup [.int p.1,.int p.2])->Ds p->Q (.ref q) H'
theorem j0_(T:Txt K mg)(F:Fn0 K mg "_law_number_of" FV_) (Gy_:Cal P w K mg base "_law_digit" ["_law_rest","_law_many"] 1 HL_) (Gx_:Cal P w K mg base "_law_low" ["_law_top","_law_bottom"] 1 Hi_):Cal P w K mg base "_law_number_of" ["_law_rest","_law_kind"] 2 J1_:=by
  show aB_ F ga_.1 λf cdv A outer s H vs Q E hr h=>?_;obtain⟨l,r,kk,rfl,hl,k⟩:=h
  have fin:∀(t b:Int)(r':Int)(z:Addr)(H':Hp),0<b->t.natAbs<=10 ^ 12->b<=10 ^ 6->Fo_ (upd H l (.lst [.int r'])) H'->Rep (G4_ (upd H l (.lst [.int r'])) H') (.ref z) (dF (nf t b))->Q (.ref z) H':=λt b r' z H' hb ht hb2 s' rep=>by
   have ds:=Mr_ hb ht hb2;obtain⟨_,e,hz⟩:=bB_ rep;cases e;obtain⟨z1,z2⟩:=aV_ hz;have zl:z≠l:=λe=>by rw[e,ab_]at z1;cases z1
   rw[aj_ zl]at z1;show k z _ r' H' (λb o n h=>s' b o (by rw[aj_ n];show h)) (s' _ _ ab_) z1 z2 ds
  refine'⟨_,?D,?R⟩
  case D =>
   refine' ad_ (zas 2 ga_ (Fp_ kc_ aa_ (Fp_ gN_ aa_ (af_ Gy_ (hr.mono d_) aN_ (pa_c (zv 0 ga_) (pa_c aa_ ac_)))))) ?a
   case' a=>refine' ad_ (Ga_ (aA_ GN_ (zv 1 ga_) aa_ (FB_ _)) (ag_ ?b) aP_) (ad_ (Ga_ (aA_ GN_ (zv 1 ga_) aa_ (FB_ _)) (ag_ ?c) aP_) ?d)
   case' b=>refine' ao_ (af_ Gx_ (hr.mono d_) c8_ (pa_c (Fp_ gN_ (zv 2 ga_) (af_ Gy_ (hr.mono d_) aN_ (pa_c (zv 0 ga_) (pa_c (Fp_ l8_ aa_ aa_) ac_)))) ?e))
   case' e=>refine' pa_c (Fp_ aQ_ aa_ (af_ Gy_ (hr.mono d_) aN_ (pa_c (zv 0 ga_) (pa_c (Fp_ l8_ aa_ aa_) ac_)))) ac_
   case' c=>refine' ao_ (aH_ (pa_c (Fp_ gN_ (zv 2 ga_) (af_ Gy_ (hr.mono d_) aN_ (pa_c (zv 0 ga_) (pa_c aa_ ac_)))) (pa_c aa_ ac_)))
   case' d=>refine' ag_ (ao_ (af_ Gx_ (hr.mono d_) c8_ (pa_c (Fp_ gN_ (zv 2 ga_) (af_ Gy_ (hr.mono d_) aN_ (pa_c (zv 0 ga_) (pa_c aa_ ac_)))) ?f)))
   case' f=>refine' pa_c (Fp_ aQ_ aa_ (af_ Gy_ (hr.mono d_) aN_ (pa_c (zv 0 ga_) (pa_c aa_ ac_)))) ac_
  case R =>
   nofun;show⟨l,r,2,rfl,hl,d_,r_,?_⟩;nofun;have d2:=AC_ r (show(2:Int)≠0 by decide);have d3:=Ax_ r (show(0:Int)<2 by decide);have sb:-(2:Int) ^ 64<1-2*(r%2)/\1-2*(r%2)<2 ^ 64:=o_
   have ab:∀x:Int,((1-2*(r%2))*x).natAbs=x.natAbs:=λx=>by
    have:r%2=0\/r%2=1:=o_
    rcases this with e|e <;> rw[e] <;> lia
   show⟨.inl ⟨d_,d_⟩,?_⟩;show ite2 (λ_=>⟨d_,d_,d_,l,r/2,_,rfl,ab_,d_,r_,_,rfl,.inl sb,d_,d_,d_,l,_,_,rfl,ab_,d_,r_,_,rfl,_,_,rfl,?_,?_,λz H' s' rep=>?_⟩) (λ_=>ite2 (λ_=>?_) (λ_=>?_))
   .have h1:=AC_ (r/2/10 ^ Int.toNat 12) (show(10:Int) ^ Int.toNat 6≠0 by decide);lia
   .have h1:=AC_ (r/2/10 ^ Int.toNat 12) (show(10:Int) ^ Int.toNat 6≠0 by decide);have h2:=Ax_ (r/2/10 ^ Int.toNat 12) (show(0:Int)<10 ^ Int.toNat 6 by decide);show Az_ (b:=10 ^ 6) ?_ r_;have e:(10:Int) ^ Int.toNat 6=1000000:=d_
    rw[e]at h1 h2⊢;lia
   .rw[fg_,fg_]at s' rep;have h1:=AC_ (r/2/10 ^ Int.toNat 12) (show(10:Int) ^ Int.toNat 6≠0 by decide);have h2:=Ax_ (r/2/10 ^ Int.toNat 12) (show(0:Int)<10 ^ Int.toNat 6 by decide);have h3:=AC_ (r/2) (show(10:Int) ^ Int.toNat 12≠0 by decide);have h4:=Ax_ (r/2) (show(0:Int)<10 ^ Int.toNat 12 by decide);have e:(10:Int) ^ Int.toNat 6=1000000:=d_
    have e':(10:Int) ^ Int.toNat 12=1000000000000:=d_
    rw[e]at h1 h2;rw[e']at h3 h4;show fin _ _ _ z H' ?_ ?_ ?_ s' rep
    .rw[e];lia
    .rw[ab,e'];lia
    .rw[e];lia
   .show⟨l,r/2,_,rfl,ab_,d_,r_,_,rfl,.inl sb,d_,λz hz=>?_⟩;rw[fg_]at hz⊢;have h3:=AC_ (r/2) (show(3:Int)≠0 by decide);have h4:=Ax_ (r/2) (show(0:Int)<3 by decide);show fin ((1-2*(r%2))*(r/2%3)) 1 _ z _ d_ (by rw[ab];lia) d_ (Fo_.new hz) ⟨z,_,rfl,?_,_,_,rfl,rfl,_,_,rfl,rfl,rfl⟩;rw[bF_ hz,ab_];have:nf ((1-2*(r%2))*(r/2%3)) 1=((1-2*(r%2))*(r/2%3),1):=hO_ (p:=((1-2*(r%2))*(r/2%3),1)) ⟨by change(0:Int)<1;decide,s_⟩;rw[this]
   .show⟨l,r/2,_,rfl,ab_,d_,r_,_,rfl,.inl sb,l,_,_,rfl,ab_,d_,r_,_,rfl,_,_,rfl,?_,?_,λz H' s' rep=>?_⟩
    .lia
    .show Az_ (b:=10 ^ 6) o_ r_
    .rw[fg_,fg_]at s' rep;show fin _ _ _ z H' o_ (by rw[ab];lia) o_ s' rep
theorem oS_{lo:Int}{g:TG}{te:TE}{σ:L2.St}{H:Hp}{Q:VK}(n:Nat)(l:Addr)(r0:Int)(Pσ:L2.St->Prop)(h0:Pσ σ)(hz:n<=1000)(hl:H l=some (.lst [.int r0]))(PF:Int×Int->Prop)
  (hs:∀D (i:Nat) σ' H' r,H D=none->(∃o,H' D=some o)->But l H H'->H' l=some (.lst [.int r])->i<n->Pσ σ'->∀R:L2.St->V->Hp->Prop,
   (∀σ2 q p r' H3,Pσ σ2->But l H' H3->H3 l=some (.lst [.int r'])->H' q=none->H3 q=some (.tup [.int p.1,.int p.2])->PF p->R σ2 (.ref q) H3)->g (.int (lo+i)) σ' H' λσ2 H2=>te σ2 H2 λv H3=>R σ2 v H3)
  (hd:∀D H' r ps,H D=none->But l H H'->H' l=some (.lst [.int r])->ps.length=n->(∀p∈ps,PF p)->Rep (G4_ H H') (.ref D) (GC_ ps)->Q (.ref D) H'):H3_ (Itr lo n) g J7_ te σ H Q:=by
 intro D hD;have hDl:D≠l:=(ae_ hl hD).symm;show⟨λi m σ' H'=>m=n-i/\i<=n/\Pσ σ'/\But l H H'/\(∃r,H' l=some (.lst [.int r]))/\∃(ys:List V)(ps:List (Int×Int)),H' D=some (.lst ys)/\FE_ (G2_ H D H') ys (ps.map dF)/\ps.length=i/\(∀p∈ps,PF p),⟨n,s_,AD_ _,h0,But.of (Fo_.new hD),⟨r0,(Fo_.new hD) _ _ hl⟩,[],[],ab_,rfl,rfl,s_⟩,?_⟩;rintro i m σ' H' ⟨rfl,hi,hp,hb,⟨r,hr⟩,ys,ps,hys,hrep,hpl,hpf⟩;have hyl:ys.length=i:=by rw[hrep.length,Ab_,hpl]
 by_cases hlt:i<n
 .show .inr ⟨hlt,λσ2 H2=>Pσ σ2/\But l H H2/\(∃r,H2 l=some (.lst [.int r]))/\∃(ys:List V)(ps:List (Int×Int)),H2 D=some (.lst ys)/\FE_ (G2_ H D H2) ys (ps.map dF)/\ps.length=i+1/\(∀p∈ps,PF p),λσ2 H2 ⟨a,b,c⟩=>⟨n-(i+1),o_,rfl,hlt,a,b,c⟩,λx H'' hy=>?_⟩;obtain⟨e1,e2⟩:=hy;subst e1 e2;simp only[J7_,if_true];show hs D i σ' _ r hD ⟨_,hys⟩ hb hr hlt hp _ λσ2 q p r' H3 hp2 b3 hl3 hq hq3 pf=>?_;have hqD:q≠D:=(ae_ hys hq).symm;have hql:q≠l:=(ae_ hr hq).symm
  have hqH:H q=none:=by
   cases e:H q with
   |none=>rfl
   |some o=>rw[hb q o hql e]at hq;cases hq
  show⟨ys,b3 _ _ hDl hys,by rw[hyl];show Fq_ o_,hp2,λb o n h=>?_,⟨r',by rw[aj_ hDl.symm];show hl3⟩,ys++[.ref q],ps++[p],ab_,?_,by simp[hpl],λz hz=>?_⟩
  .rw[aj_ (ae_ h hD)];show b3 b o n (hb b o n h)
  .rw[fM_,Au_];show(FE_.mono (λb o h=>?_) _ hrep).append ⟨.ref q,[],rfl,⟨q,_,rfl,by rw[aR_ hqD hqH];show hq3,_,_,rfl,rfl,_,_,rfl,rfl,rfl⟩,rfl⟩;obtain⟨z1,z2,z3⟩:=gk_ h;rw[aR_ z1 z2];show b3 b o (ae_ hl z2).symm z3
  .rcases AB_.mp hz with hz|hz
   .show hpf z hz
   .cases An_.mp hz;show pf
 .have e:i=n:=o_
  subst e;show .inl ⟨Af_ _,hd D H' r ps hD hb hr hpl hpf ⟨D,ys,rfl,by rw[bF_ hD];show hys,FE_.mono hj_ _ hrep⟩⟩
abbrev FJ_:Stmt:=stN 60
theorem cS_:ZM ["_law_script","_law_at","_law_many","_law_rest","_law_kind","_law_setting_here"] ["_law_script","_law_at","_law_many"] (Fn_ FJ_):=zM
theorem gc_:LK FJ_ "_law_rest" .cell:=r_
theorem gd_:LK FJ_ "_law_kind" .cell:=r_
theorem ee_:LK FJ_ "_law_setting_here" .cell:=r_
theorem hh_:LK FJ_ "_law_big" .globalImplicit:=r_
theorem ge_:LK FJ_ "_law_digit" .globalImplicit:=r_
theorem dC_:LK FJ_ "range" .globalImplicit:=r_
def JX_(K:PySem.W.Frag):Sp:=λvs H Q _=>∃(a:Addr)(ns:List Int)(j:Int)(n:Nat),vs=[.ref a,.int j,.int n]/\0<=j/\SqL K H a (ns.map V.int)/\1<=n/\n<=6/\∀D ss H',Fo_ H H'->H D=none->Rep H' (.ref D) (GC_ ss)->ss.length=n->(∀p∈ss,Ds p)->Q (.ref D) H'
theorem l0_(T:Txt K mg)(F:Fn0 K mg "_law_setting" FJ_) (HI_:Cal P w K mg base "_law_big" ["_law_script","_law_at"] 2 (I4_ K)) (Gy_:Cal P w K mg base "_law_digit" ["_law_rest","_law_many"] 1 HL_) (H9_:Cal P w K mg base "_law_number_of" ["_law_rest","_law_kind"] 2 J1_):Cal P w K mg base "_law_setting" ["_law_script","_law_at","_law_many"] 3 (JX_ K):=by
  show aB_ F cS_.1 λf cdv A outer s H vs Q E hr h=>?_;obtain⟨a,ns,j,n,rfl,j0,sq,n1,n6,k⟩:=h;refine'⟨_,?D,?R⟩
  case D =>
   refine' ad_ ?a (ad_ (bp_ (i:=4) cS_.nd rfl gd_ rfl (af_ Gy_ (hr.mono d_) ge_ (pa_c (zw 3 cS_) (pa_c aa_ ac_))) rfl) ?b)
   case' a=>refine' bp_ (i:=3) cS_.nd rfl gc_ rfl (by_ (pa_c (af_ HI_ (hr.mono d_) hh_ (pa_c (zw 0 cS_) (pa_c (zw 1 cS_) ac_))) ac_)) rfl
   case' b=>refine' ad_ ?c (ad_ (gO_ ?d) (ag_ (ao_ (zw 5 cS_))))
   case' c=>refine' bp_ (i:=5) cS_.nd rfl ee_ rfl (aF_ (N':=["_law_k","_law_rest","_law_kind"]) (ix:=[none,some 3,some 4]) rfl rfl (aM_ ?e) (aT_ dC_ T.n_range (pa_c (zw 2 cS_) ac_)) (λ_ _ _=>?f) (λ_ _ _=>?g) (λ_ _ _=>(af_ H9_ (hr.mono d_) rfl (pa_c (pvc 1 rfl rfl) (pa_c (pvc 2 rfl rfl) ac_))))) rfl
   case e=>show(by change GD_ (Fn_ FJ_) ["_law_script","_law_at","_law_many","_law_rest","_law_kind","_law_setting_here"] _ _ _=true;decide +kernel)
   case f=>show ah_ (i:=0) (by change List.Nodup (["_law_k","_law_rest","_law_kind"]:List Str);decide +kernel) rfl rfl
   case g=>show aO_
   case' d=>refine' Ga_ (aA_ GN_ (zw 4 cS_) aa_ (FB_ _)) (ag_ (bp_ (i:=5) cS_.nd rfl ee_ rfl (aF_ (N':=["_law_k","_law_setting_here"]) (ix:=[none,some 5]) rfl rfl (aM_ ?h) (aT_ dC_ T.n_range (pa_c (zw 2 cS_) ac_)) (λ_ _ _=>?i) (λ_ _ _=>?j) (λ_ _ _=>(Fr_ al_ (pvc 1 rfl rfl) aa_))) rfl)) aP_
   case h=>show(by change GD_ (Fn_ FJ_) ["_law_script","_law_at","_law_many","_law_rest","_law_kind","_law_setting_here"] _ _ _=true;decide +kernel)
   case i=>show ah_ (i:=0) (by change List.Nodup (["_law_k","_law_setting_here"]:List Str);decide +kernel) rfl rfl
   case j=>show aO_
  case R =>
   nofun;show⟨a,ns,j,rfl,j0,sq,λz H1 s1=>?_⟩;nofun;show⟨d_,λl nl=>⟨l,z,5,rfl,ab_,d_,r_,o_,o_,?_⟩⟩;rw[fg_,show Int.toNat (n:Int)=n by lia];have T1:=Fo_.new nl (o:=HO.lst [V.int (z/5)]);have hl:=ab_ (H:=H1) (a:=l) (o:=HO.lst [V.int (z/5)]);have S2:=s1.trans T1;have back:∀{b o},H b=some o->b≠l:=λ{b o} e c=>by rw[c,s1.free nl]at e;cases e
   generalize upd H1 l (HO.lst [V.int (z/5)])=H2 at*;show oS_ (n:=n) l _ (λσ=>∃e,σ=[e,some (.ref l),some (.int (z%5))]) ⟨_,rfl⟩ o_ hl Ds ?_ ?_
   .rintro D i σ' H3 r hD hDo b3 hl3 hi ⟨e,rfl⟩ R kR;nofun;show⟨l,r,z%5,rfl,hl3,λq p r' H4 b4 hl4 nq hq ds=>kR _ q p r' H4 ⟨_,rfl⟩ b4 hl4 nq hq ds⟩
   .intro D H3 r ps nD b3 hl3 pl pf rep3;have s3:Fo_ H H3:=λb o e=>b3 b o (back e) (S2 _ _ e);have rep3':Rep H3 (.ref D) (GC_ ps):=Rep.mono aq_ _ rep3;show⟨λσ H4=>∃D4 ss,σ=[some (.ref a),some (.int j),some (.int n),some (.ref l),some (.int (z%5)),some (.ref D4)]/\Fo_ H H4/\H D4=none/\Rep H4 (.ref D4) (GC_ ss)/\ss.length=n/\∀p∈ss,Ds p,?_,?_⟩
    .nofun;show ite2 (λ_=>?_) (λ_=>⟨s3,S2.free nD,ps,rep3',pl,pf⟩);show⟨o_,o_,?_⟩;rw[show Int.toNat (n:Int)=n by lia];obtain⟨_,xs,e0,hD3,rxs⟩:=id rep3';cases e0;have xl:xs.length=n:=by rw[rxs.length,Ab_];show pl
     obtain⟨q,p0,hp0,ex,hq⟩:=fV_ rxs (i:=0) (x:=xs[0]'o_) (Ac_ _);show ay_ (n:=n) (B:=λ_=>none) (Pσ:=λσ=>∃e,σ=[e,some (.ref D)]) (ds:=(List.replicate n p0).map dF) (λb o e=>by cases e) ⟨_,rfl⟩ s_ o_ (λi H' hi s'=>hi) (λH' s'=>Af_ _) ?_ ?_
     .rintro D2 i x dd σ' H5 H5' hD2 hDo s5 hi hdi ⟨rfl,rfl⟩ ⟨e,rfl⟩ R kR;have hd1:dd=dF p0:=by rw[Ad_,CX_,if_pos hi]at hdi;show(Ak_ hdi).symm
      nofun;show⟨_,s5 _ _ hD3,_,cq_ d_ (Ac_ (show(0:Int).toNat<xs.length by change 0<xs.length;lia)),kR _ _ _ ⟨_,rfl⟩ (Fo_.refl _) ?_⟩;rw[hd1];change Rep _ (xs[0]'o_) (dF p0);rw[ex];show Rep.mono (fj_ s5 hD2) _ (show Rep H3 (.ref q) (dF p0)from⟨q,_,rfl,hq,_,_,rfl,rfl,_,_,rfl,rfl,rfl⟩)
     .intro D2 H4 nD2 s4 rep4;nofun;show⟨s3.trans s4,s3.free nD2,List.replicate n p0,Rep.mono aq_ _ rep4,C9_,λp hp=>by rw[(List.mem_replicate.mp hp).2];show pf p0 (Ai_ hp0)⟩
    .rintro σ H4 ⟨D4,ss,rfl,s4,n4,rep4,sl,sp⟩;nofun;show k D4 ss H4 s4 n4 rep4 sl sp
def HgD(H:Hp)(d:Addr)(N:Net Str)(f:Str->Int×Int):Prop:=∃kvs:List (Key×V),H d=some (.dK kvs)/\∀x∈pts N,∃q,Gf_ kvs (.inr x)=some (.ref q)/\H q=some (.tup [.int (f x).1,.int (f x).2])
theorem isb{p:Int×Int}{t:Int}(h:Is p t B)(ht:t.natAbs<=2 ^ 19000)(hB:B.natAbs<=2 ^ 3800):0<p.2/\Builtin.Int.intBits p.1<=20000/\Builtin.Int.intBits p.2<=3900:=by have e:=h.to;have a:=dk_ (t:=t) h.ne;rw[<-e]at a;show⟨h.low.pos,Am_ (aD_ (Am_ a.1 ht)) d_,Am_ (aD_ (Am_ a.2 hB)) d_⟩
def tX(N:Net Str)(t:Str×Str×(Int×Int)):Str×Str×Int:=(t.1,t.2.1,Xw (bN N) t.2.2)
theorem LG_(ok:FZ_ N)(po:F1_ N)(wo:WOk N){t:Str×Str×(Int×Int)}(h:t∈GF_ N):t.1∈pts N/\t.2.1∈pts N/\Is t.2.2 (Xw (bN N) t.2.2) (bN N)/\Ws t.2.2/\(Xw (bN N) t.2.2).natAbs<=(1000*bN N).natAbs:=by have m:tX N t∈ties N:=(k8_ wo).mem_iff.mpr (Aj_.mpr ⟨t,h,rfl⟩);obtain⟨a,b,_⟩:=bm_ ok po wo m;obtain⟨r,hr,rfl⟩:=Aj_.mp h;have hin:=(wo.mem r.1).mp (Aj_.mpr ⟨r,hr,rfl⟩);have w:=Kr_ ok wo hin;rw[LH_ wo hr]at w;show⟨a,b,w.2.1,w.1,w.2.2⟩
theorem bU_{z:Addr}{p:Int×Int}(h:H z=some (.tup [.int p.1,.int p.2])):Rep H (.ref z) (dF p):=⟨z,_,rfl,h,_,_,rfl,rfl,_,_,rfl,rfl,rfl⟩
def FlP(H:Hp)(d:Addr)(L:List Str)(F:Str->Int)(Bf:Int)(n:Nat):Prop:=∃kvs:List (Key×V),H d=some (.dK kvs)/\kvs.length<=n/\(∀x,x∉L->Gf_ kvs (.inr x)=none)/\∀x∈L,∃q,Gf_ kvs (.inr x)=some (.ref q)/\H q=some (.tup [.int (nf (F x) Bf).1,.int (nf (F x) Bf).2])
theorem FlP.mono{L:List Str}{F:Str->Int}{Bf:Int}(h:FlP H d L F Bf n)(s:Fo_ H H'):FlP H' d L F Bf n:=by obtain⟨kvs,h1,h2,h3,h4⟩:=h;show⟨kvs,s _ _ h1,h2,h3,λx e=>let⟨q,a,b⟩:=h4 x e;⟨q,a,s _ _ b⟩⟩
theorem FlP.put{H:Hp}{d z:Addr}{L L':List Str}{F F':Str->Int}{Bf:Int}{n:Nat}{a:Str}{kvs:List (Key×V)}(hL:∀x,x∈L'↔x∈L\/x=a)(h1:H d=some (.dK kvs))(h2:kvs.length<=n)(h3:∀x,x∉L->Gf_ kvs (.inr x)=none)(h4:∀x∈L,∃q,Gf_ kvs (.inr x)=some (.ref q)/\H q=some (.tup [.int (nf (F x) Bf).1,.int (nf (F x) Bf).2]))(hF:∀x,x≠a->F' x=F x)
  (hz:H z=some (.tup [.int (nf (F' a) Bf).1,.int (nf (F' a) Bf).2])):FlP (L2.upd H d (.dK (GH_ kvs (.inr a) (.ref z)))) d L' F' Bf (n+1):=by
 have ne:∀q xs,H q=some (.tup xs)->L2.upd H d (.dK (GH_ kvs (.inr a) (.ref z))) q=some (.tup xs):=λq xs e=>by rw[aj_ (λc=>by rw[c,h1]at e;cases e)];show e
 show⟨_,ab_,Am_ (bt_ _ _ _) o_,λx hx=>?_,λx hx=>?_⟩
 .have:=(not_congr (hL x)).mp hx;rw[dJ_,if_neg (λc=>this (.inr (Cd_ c)))];show h3 x λc=>this (.inl c)
 .rw[dJ_];by_cases c:x=a
  .subst c;rw[if_pos rfl];show⟨z,rfl,ne _ _ hz⟩
  .rw[if_neg (λe=>c (Cd_ e))];obtain⟨q,e1,e3⟩:=h4 x (((hL x).mp hx).resolve_right c);show⟨q,e1,ne _ _ (by rw[hF x c];show e3)⟩
theorem FlP.as{L:List Str}{F F':Str->Int}{Bf:Int}{m:Nat}(h:FlP H d L F Bf n)(e:∀x∈L,F x=F' x)(l:n<=m):FlP H d L F' Bf m:=by obtain⟨kvs,h1,h2,h3,h4⟩:=h;show⟨kvs,h1,o_,h3,λx hx=>by rw[<-e x hx];show h4 x hx⟩
structure HtI(N:Net Str)(f:Str->Int×Int)(X:Str->Int)(Bh:Int):Prop where
 is:∀x∈pts N,Is (f x) (X x) Bh
 le:∀x,(X x).natAbs<=2 ^ 8400
 pos:Bh≠0
 bb:Bh.natAbs<=2 ^ 2900
abbrev Go_:Stmt:=stN 61
theorem fH_:ZM ["_law_net","_law_heights","_law_flows","_law_post","_law_one","_law_other","_law_worth","_law_flow"] ["_law_net","_law_heights"] (Fn_ Go_):=zM
theorem cl_:LK Go_ "_law_flows" .cell:=r_
theorem lc_:LK Go_ "_law_post" .local:=r_
theorem eY_:LK Go_ "_law_one" .local:=r_
theorem eZ_:LK Go_ "_law_other" .local:=r_
theorem ld_:LK Go_ "_law_worth" .local:=r_
theorem iE_:LK Go_ "_law_flow" .local:=r_
theorem le_:LK Go_ "_law_add" .globalImplicit:=r_
theorem gf_:LK Go_ "_law_less" .globalImplicit:=r_
theorem lf_:LK Go_ "_law_mul" .globalImplicit:=r_
theorem j3_:LK Go_ "_law_ties" .globalImplicit:=r_
def Kc_(K:PySem.W.Frag):Sp:=λvs H Q _=>∃(v:V)(d:Addr)(N:Net Str)(f:Str->Int×Int)(X:Str->Int)(Bh:Int),vs=[v,.ref d]/\Rep H v (HM_ N)/\FZ_ N/\F1_ N/\WOk N/\HgD H d N f/\HtI N f X Bh/\∀D H',Fo_ H H'->H D=none->Rep H' (.ref D) (GC_ (N.posts.map λp=>nf (Fl (ties N) X p) (bN N*Bh)))->Q (.ref D) H'
theorem rf_(T:Txt K mg)(F:Fn0 K mg "_law_due" Go_) (KA_:Cal P w K mg base "_law_ties" ["_law_net"] 1 IY_) (Jh_:Cal P w K mg base "_law_less" ["_law_one","_law_other"] 2 (Ii_ (λp q=>p.1*q.2-q.1*p.2))) (LO_:Cal P w K mg base "_law_mul" ["_law_one","_law_other"] 2 (Ii_ (λp q=>p.1*q.1))) (Ji_:Cal P w K mg base "_law_add" ["_law_one","_law_other"] 2 (Ii_ (λp q=>p.1*q.2+q.1*p.2))):Cal P w K mg base "_law_due" ["_law_net","_law_heights"] 3 (Kc_ K):=by
  show aB_ F fH_.1 λf cdv A outer s H vs Q E hr h=>?_;obtain⟨v,d,N,f,X,Bh,rfl,hv,ok,po,wo,hg,ht,k⟩:=h;obtain⟨pn,p0,p1,p2,rs,ws,rfl,hn,h0,h1,r1,h2,r2⟩:=cn_ hv;have B0:=G1_ ok wo;have hB0:=ht.pos;have Bf0:bN N*Bh≠0:=AW_ o_ hB0;have pl6:=ok.pl;refine'⟨_,?D,?R⟩
  case D =>
   refine' ad_ (bp_ (i:=2) fH_.nd rfl cl_ rfl hm_ rfl) ?a
   case' a=>refine' ad_ ?b (ad_ ?c (ag_ (ao_ (aF_ (N':=["_law_post","_law_flows"]) (ix:=[none,some 2]) rfl rfl (aM_ ?d) (ap_ (K:=K) rfl (Fr_ ak_ (zw 0 fH_) aa_)) (λ_ _ _=>?e) (λ_ _ _=>?f) (λ_ _ _=>(bY_ (un1 hr.units) (pvc 1 rfl rfl) (pv1 0 rfl rfl)))))))
   case' b=>refine' bs_ AG_ rfl (ap_ (K:=K) rfl (Fr_ ak_ (zw 0 fH_) aa_)) ?g (ag_ (ex_ (un1 hr.units) (zw 2 fH_) (zw 3 fH_) (aH_ (pa_c aa_ (pa_c aa_ ac_))) rfl))
   case g=>show ah_ (i:=3) fH_.nd rfl lc_
   case' c=>refine' bs_ AG_ rfl (ap_ (K:=K) rfl (af_ KA_ (hr.mono d_) j3_ (pa_c (zw 0 fH_) ac_))) (bh_ (K:=K) (n:=3) rfl rfl (an_ ?h (an_ ?i (an_ ?j bg_)))) ?k
   case h=>show ah_ (i:=4) fH_.nd rfl eY_
   case i=>show ah_ (i:=5) fH_.nd rfl eZ_
   case j=>show ah_ (i:=6) fH_.nd rfl ld_
   case' k=>refine' ad_ (ai_ (i:=7) fH_.nd rfl iE_ ?l) (ad_ (gO_ ?m) (ag_ (gO_ ?n)))
   case' l=>refine' af_ LO_ (hr.mono d_) lf_ (pa_c (zw 6 fH_) (pa_c (af_ Jh_ (hr.mono d_) gf_ (pa_c (bY_ (un1 hr.units) (zw 1 fH_) (zw 4 fH_)) (pa_c (bY_ (un1 hr.units) (zw 1 fH_) (zw 5 fH_)) ac_))) ac_))
   case' m=>refine' Ga_ (nk_ (nN_ (un1 hr.units) (zw 4 fH_) (zw 2 fH_))) (ag_ (ex_ (un1 hr.units) (zw 2 fH_) (zw 4 fH_) (af_ Ji_ (hr.mono d_) le_ (pa_c (bY_ (un1 hr.units) (zw 2 fH_) (zw 4 fH_)) (pa_c (zw 7 fH_) ac_))) rfl)) aP_
   case' n=>refine' Ga_ (nk_ (nN_ (un1 hr.units) (zw 5 fH_) (zw 2 fH_))) (ag_ (ex_ (un1 hr.units) (zw 2 fH_) (zw 5 fH_) (af_ Jh_ (hr.mono d_) gf_ (pa_c (bY_ (un1 hr.units) (zw 2 fH_) (zw 5 fH_)) (pa_c (zw 7 fH_) ac_))) rfl)) aP_
   case d=>show(by change GD_ (Fn_ Go_) ["_law_net","_law_heights","_law_flows","_law_post","_law_one","_law_other","_law_worth","_law_flow"] _ _ _=true;decide +kernel)
   case e=>show ah_ (i:=0) (by change List.Nodup (["_law_post","_law_flows"]:List Str);decide +kernel) rfl rfl
   case f=>show aO_
  case R =>
   nofun;intro D1 nD1;have T1:=Fo_.new nD1 (o:=HO.dK []);have hD1:=ab_ (H:=H) (a:=D1) (o:=HO.dK []);generalize upd H D1 (HO.dK [])=H1 at*;show⟨_,T1 _ _ hn,_,F4_,p0,rfl,⟨_,.inl (.inl (T1 _ _ h0))⟩,?_⟩;have p0D:p0≠D1:=ae_ h0 nD1;show gi_ (xs:=N.posts.map V.str) (λm σ Hx=>∃e3,σ=[some (.ref pn),some (.ref d),some (.ref D1),e3,none,none,none,none]/\But D1 H1 Hx/\FlP Hx D1 (N.posts.take m) (λ_=>0) (bN N*Bh) m) ⟨none,rfl,λb o _ h=>h,[],hD1,Af_ _,λx _=>rfl,λx hx=>by cases hx⟩ ?_ ?_ ?_
   .rintro m σ Hx hm ⟨e3,rfl,bt,fd⟩;show .inl (.inl (bt _ _ p0D (T1 _ _ h0)))
   .rintro m x σ Hx hx ⟨e3,rfl,bt,fd⟩;have ml:m<N.posts.length:=by have:=(Ar_.mp hx).1;rw[Ab_]at this;show this
    rw[aS_ ml]at hx;cases hx;obtain⟨a,ha⟩:∃a,a=N.posts.getD m Str.empty:=⟨_,rfl⟩;have hpm:N.posts[m]?=some a:=by rw[ha,Aa_,Ac_ ml];rfl
    rw[<-ha];have tk:N.posts.take (m+1)=N.posts.take m++[a]:=by rw[Bn_,hpm];rfl
    rw[tk];nofun;show⟨d_,λp np=>?_⟩;have T5:=Fo_.new np (o:=HO.tup [V.int 0,V.int 1]);have hp5:=ab_ (H:=Hx) (a:=p) (o:=HO.tup [V.int 0,V.int 1]);generalize upd Hx p (HO.tup [V.int 0,V.int 1])=H5 at*;obtain⟨kvs,q1,q2,q3,q4⟩:=fd.mono T5;show⟨_,Ix_.k (k:=.inr a) (v:=.ref p) q1 (Fq_ o_),But.upd (But.trans bt (But.of T5)),?_⟩;show FlP.put (λx=>s_) q1 q2 q3 q4 (λx _=>rfl) (by rw[gp_ Bf0];show hp5)
   .rintro σ Hx ⟨e3,rfl,bt,fd⟩;rw[Ab_,C7_]at fd;have S1:Fo_ H Hx:=λb o e=>bt _ _ (ae_ e nD1) (T1 _ _ e);nofun;show⟨_,N,rfl,Rep.mono S1 _ hv,ok,wo,λTL H2 s2 nTL rep2=>?_⟩;have S2:=S1.trans s2;have fd2:=fd.mono s2;have hD2:∃kvs,H2 D1=some (.dK kvs):=let⟨kvs,q,_⟩:=fd2;⟨kvs,q⟩;obtain⟨kv0,hD2⟩:=hD2;obtain⟨_,xs,e0,hTL,rxs⟩:=id rep2;cases e0;have tl15:(GF_ N).length<=15:=by unfold GF_;rw[Ab_];show ok.wl
    have xl:xs.length=(GF_ N).length:=by rw[rxs.length,Ab_]
    have TLD:TL≠D1:=by obtain⟨kvs,q,_⟩:=fd;show(ae_ q nTL).symm
    clear fd;obtain⟨hk1,hk2,hk3⟩:=hg
    have BB:(bN N*Bh).natAbs<=2 ^ 3800:=by
     rw[AT_]
     calc _<=2 ^ 150*2 ^ 2900:=AX_ B0.2 ht.bb
      _<=2 ^ 3800:=by rw[<-A4_];show Aw_ d_ d_
    show⟨TL,rfl,⟨_,.inl (.inl hTL)⟩,?_⟩;show gi_ (xs:=xs) (λm σ Hx=>∃(e4 e5 e6 e7:Option V),σ=[some (.ref pn),some (.ref d),some (.ref D1),e3,e4,e5,e6,e7]/\But D1 H2 Hx/\FlP Hx D1 N.posts (Fl (((GF_ N).take m).map (tX N)) X) (bN N*Bh) (6+2*m)) ⟨none,none,none,none,rfl,λb o _ h=>h,fd2.as (λx _=>rfl) o_⟩ ?_ ?_ ?_
    .rintro m σ Hx hm ⟨e4,e5,e6,e7,rfl,bt,fd⟩;show .inl (.inl (bt _ _ TLD hTL))
    .rintro m x σ Hx hx ⟨e4,e5,e6,e7,rfl,bt,fd⟩;obtain⟨dd,hd,hrep⟩:=rxs.of_get hx;have mlt:m<(GF_ N).length:=by rw[<-xl];show(Ar_.mp hx).1
     have htm:=Ac_ mlt;rw[Ad_,htm]at hd;cases hd;have tin:=LG_ ok po wo (AO_ mlt);have tk:((GF_ N).take (m+1)).map (tX N)=((GF_ N).take m).map (tX N)++[tX N (GF_ N)[m]]:=by rw[Bn_,htm,Au_];rfl
     have fle:∀x,(Fl (((GF_ N).take m).map (tX N)) X x).natAbs<=2 ^ 8700:=λx=>by
      show Am_ (Lv_ (m:=2 ^ 160) ht.le (λe he=>?_) x) ?_
      .obtain⟨t,h1,rfl⟩:=Aj_.mp he;have:=(LG_ ok po wo (List.mem_of_mem_take h1)).2.2.2.2;show Am_ this ?_;rw[AT_]
       calc _<=2 ^ 10*2 ^ 150:=AX_ d_ B0.2
        _=2 ^ 160:=by rw[<-A4_]
      .rw[Ab_,AZ_,<-A4_]
       calc _<=2 ^ 4*(2 ^ 2*2 ^ (160+8400)):=AX_ o_ (Af_ _)
        _<=2 ^ 8700:=by rw[<-A4_,<-A4_];show Aw_ d_ d_
     rw[tk];generalize hE:((GF_ N).take m).map (tX N)=E at*;generalize(GF_ N)[m]=t at*;obtain⟨ta,tb,tw⟩:=t;obtain⟨tp,_,rfl,htp,_,_,f1,g1,_,_,f2,g2,y3,_,f3,g3,f4⟩:=hrep;subst f4 f3 f2 f1;cases g1;cases g2;obtain⟨wa,rfl,hwa⟩:=bB_ g3;obtain⟨ina,inb,iw,wsw,lw⟩:=tin;simp only at ina inb iw wsw lw;obtain⟨qa,va,hqa⟩:=hk3 ta ina;obtain⟨qb,vb,hqb⟩:=hk3 tb inb;have tupne:∀{b:Addr}{ys:List V},H2 b=some (.tup ys)->b≠D1:=λ{b ys} e c=>by rw[c,hD2]at e;cases e
     have hd2:Hx d=some (.dK hk1):=bt _ _ (λc=>by rw[c,nD1]at hk2;cases hk2) (S2 _ _ hk2);have hqa2:=bt _ _ (tupne (S2 _ _ hqa)) (S2 _ _ hqa);have hqb2:=bt _ _ (tupne (S2 _ _ hqb)) (S2 _ _ hqb);have htp2:=bt _ _ (tupne htp) htp;have hwa2:=bt _ _ (tupne hwa) hwa;have isa:=ht.is ta ina;have isb':=ht.is tb inb;have Bhb:Bh.natAbs<=2 ^ 3800:=Am_ ht.bb (Aw_ d_ d_);have up:∀{n:Nat}{z:Int},n<=19000->z.natAbs<=2 ^ n->z.natAbs<=2 ^ 19000:=λh e=>Am_ e (Aw_ d_ h);have ba:=isb isa (up d_ (ht.le ta)) Bhb;have bb:=isb isb' (up d_ (ht.le tb)) Bhb;nofun;show⟨_,SqT.of htp2,rfl,_,_,rfl,_,_,rfl,_,_,rfl,rfl,?_⟩;nofun;show⟨.ref qa,by have:=GY_.k (k:=.inr ta) hd2;rw[va]at this;show this,.ref qb,by have:=GY_.k (k:=.inr tb) hd2;rw[vb]at this;show this,?_⟩;show⟨_,_,f ta,f tb,rfl,bU_ hqa2,bU_ hqb2,ba.1,bb.1,ba.2.1,ba.2.2,bb.2.1,bb.2.2,λz1 H3 s3 rep3=>?_⟩;rw[isa.minusB isb']at rep3;obtain⟨_,e9,hz1⟩:=bB_ (Rep.mono aq_ _ rep3);cases e9;have i1:=GQ_ (t:=X ta-X tb) hB0;have dle:(X ta-X tb).natAbs<=2 ^ 8401:=by have a1:=ht.le ta;have a2:=ht.le tb;rw[Nat.pow_succ];lia
     have b1:=isb i1 (up d_ dle) Bhb;have i2:=iw.mul i1;have wp:=wsw.1.pos;obtain⟨_,w0,w1,w2⟩:=wsw;show⟨_,_,tw,nf (X ta-X tb) Bh,rfl,bU_ (s3 _ _ hwa2),bU_ hz1,wp,b1.1,Az_ (b:=1000) o_ d_,Az_ (b:=1000) o_ d_,b1.2.1,b1.2.2,λz2 H4 s4 rep4=>?_⟩;rw[i2.to]at rep4;obtain⟨_,e9,hz2⟩:=bB_ (Rep.mono aq_ _ rep4);cases e9
     have φle:(Xw (bN N) tw*(X ta-X tb)).natAbs<=2 ^ 8700:=by
      rw[AT_]
      have lw2:(Xw (bN N) tw).natAbs<=2 ^ 160:=by
       show Am_ lw ?_;rw[AT_]
       calc _<=2 ^ 10*2 ^ 150:=AX_ d_ B0.2
        _=2 ^ 160:=by rw[<-A4_]
      calc _<=2 ^ 160*2 ^ 8401:=AX_ lw2 dle
       _<=2 ^ 8700:=by rw[<-A4_];show Aw_ d_ d_
     have hφ0:tX N (ta,tb,tw)=(ta,tb,Xw (bN N) tw):=rfl;rw[hφ0];generalize hXw:Xw (bN N) tw=Y at*;generalize hφ:Y*(X ta-X tb)=φ at*;have iφ:=GQ_ (t:=φ) Bf0;have bφ:=isb iφ (up d_ φle) BB;have fd4:FlP H4 D1 N.posts (Fl E X) (bN N*Bh) (6+2*m):=fd.mono (s3.trans s4);have bt4:But D1 H2 H4:=But.trans bt (But.of (s3.trans s4));have md:m<15:=o_
     clear fd s3 s4 rep3 rep4 hqa2 hqb2 htp2 hwa2 bt hd2;have z2D:z2≠D1:=λc=>by obtain⟨kvs,q1,_⟩:=fd4;rw[c,q1]at hz2;cases hz2
     show⟨λσ H'=>σ=[some (V.ref pn),some (V.ref d),some (V.ref D1),e3,some (V.str ta),some (V.str tb),some (V.ref wa),some (V.ref z2)]/\But D1 H2 H'/\H' z2=some (.tup [.int (nf φ (bN N*Bh)).1,.int (nf φ (bN N*Bh)).2])/\FlP H' D1 N.posts (λx=>if x=ta then Fl E X x+φ else Fl E X x) (bN N*Bh) (6+2*m+1),?_,?_⟩
     .obtain⟨kvs,q1,q2,q3,q4⟩:=id fd4;nofun;show⟨_,GY_.k (k:=.inr ta) q1,?_⟩;by_cases hp:ta∈N.posts
      .obtain⟨q,e1,e2⟩:=q4 ta hp;have iF:=GQ_ (t:=Fl E X ta) Bf0;have bF:=isb iF (up d_ (fle ta)) BB;rw[e1,Option.isSome_some,if_pos rfl];show⟨.ref q,by have:=GY_.k (k:=.inr ta) q1;rw[e1]at this;show this,?_⟩;show⟨_,_,nf (Fl E X ta) (bN N*Bh),nf φ (bN N*Bh),rfl,bU_ e2,bU_ hz2,bF.1,bφ.1,bF.2.1,bF.2.2,bφ.2.1,bφ.2.2,λz3 H6 s6 rep6=>?_⟩;rw[iF.plusB iφ]at rep6;obtain⟨_,e9,hz3⟩:=bB_ (Rep.mono aq_ _ rep6);cases e9;show⟨_,Ix_.k (k:=.inr ta) (v:=.ref z3) (s6 _ _ q1) (Fq_ o_),But.upd (But.trans bt4 (But.of s6)),by rw[aj_ z2D];show s6 _ _ hz2,?_⟩;show FlP.put (F:=Fl E X) (λx=>⟨λh=>.inl h,λh=>h.elim id λc=>c▸hp⟩) (s6 _ _ q1) q2 q3 (λx hx=>let⟨q,a,b⟩:=q4 x hx;⟨q,a,s6 _ _ b⟩) (λx c=>if_neg c) (by rw[if_pos rfl];show hz3)
      .rw[q3 ta hp,if_neg d_];show⟨bt4,hz2,fd4.as (λx hx=>(if_neg λc:x=ta=>hp (c▸hx)).symm) o_⟩
     .rintro σ H5 ⟨rfl,bt5,hz5,fd5⟩;clear fd4 bt4 hz2;have gle:∀x,(if x=ta then Fl E X x+φ else Fl E X x:Int).natAbs<=2 ^ 8701:=λx=>by have a1:=fle x;rw[Nat.pow_succ];split <;> lia
      have ef:∀x,(if x=tb then(if x=ta then Fl E X x+φ else Fl E X x)-φ else(if x=ta then Fl E X x+φ else Fl E X x))=Fl (E++[(ta,tb,Y)]) X x:=λx=>by rw[qV_];unfold fl;simp only;rw[hφ];split <;> split <;> lia
      show⟨λσ H'=>σ=[some (V.ref pn),some (V.ref d),some (V.ref D1),e3,some (V.str ta),some (V.str tb),some (V.ref wa),some (V.ref z2)]/\But D1 H2 H'/\FlP H' D1 N.posts (Fl (E++[(ta,tb,Y)]) X) (bN N*Bh) (6+2*m+2),?_,?_⟩
      .obtain⟨kvs,q1,q2,q3,q4⟩:=id fd5;nofun;show⟨_,GY_.k (k:=.inr tb) q1,?_⟩;by_cases hp:tb∈N.posts
       .obtain⟨q,e1,e2⟩:=q4 tb hp;have iF:=GQ_ (t:=if tb=ta then Fl E X tb+φ else Fl E X tb) Bf0;have bF:=isb iF (up d_ (gle tb)) BB;rw[e1,Option.isSome_some,if_pos rfl];show⟨.ref q,by have:=GY_.k (k:=.inr tb) q1;rw[e1]at this;show this,?_⟩;show⟨_,_,nf (if tb=ta then Fl E X tb+φ else Fl E X tb) (bN N*Bh),nf φ (bN N*Bh),rfl,bU_ e2,bU_ hz5,bF.1,bφ.1,bF.2.1,bF.2.2,bφ.2.1,bφ.2.2,λz3 H6 s6 rep6=>?_⟩;rw[iF.minusB iφ]at rep6;obtain⟨_,e9,hz3⟩:=bB_ (Rep.mono aq_ _ rep6);cases e9;show⟨_,Ix_.k (k:=.inr tb) (v:=.ref z3) (s6 _ _ q1) (Fq_ o_),But.upd (But.trans bt5 (But.of s6)),?_⟩;show FlP.put (F:=λx=>if x=ta then Fl E X x+φ else Fl E X x) (λx=>⟨λh=>.inl h,λh=>h.elim id λc=>c▸hp⟩) (s6 _ _ q1) q2 q3 (λx hx=>let⟨q,a,b⟩:=q4 x hx;⟨q,a,s6 _ _ b⟩) (λx c=>by rw[<-ef x,if_neg c]) (by rw[<-ef tb,if_pos rfl];show hz3)
       .rw[q3 tb hp,if_neg d_];show⟨bt5,fd5.as (λx hx=>by rw[<-ef x,if_neg (c:=x=tb) λc=>hp (c▸hx)]) o_⟩
      .rintro σ H6 ⟨rfl,bt6,fd6⟩;show⟨_,_,_,_,rfl,bt6,fd6.as (λx _=>rfl) o_⟩
    .rintro σ Hx ⟨e4,e5,e6,e7,rfl,bt,fd⟩;rw[xl,C7_]at fd;nofun;have e15:∀x,Fl ((GF_ N).map (tX N)) X x=Fl (ties N) X x:=λx=>(qW_ (k8_ wo) X x).symm;obtain⟨kvs,f1,f2,f3,f4⟩:=fd;have Sx:Fo_ H Hx:=λb o e=>bt _ _ (ae_ e nD1) (S2 _ _ e);have h0x:=Sx _ _ h0;show⟨_,Sx _ _ hn,_,F4_,p0,rfl,⟨_,.inl (.inl h0x)⟩,?_⟩;show ay_ (n:=N.posts.length) (B:=λ_=>none) (Pσ:=λσ=>∃e,σ=[e,some (.ref D1)]) (ds:=(N.posts.map λp=>nf (Fl (ties N) X p) (bN N*Bh)).map dF) (λb o e=>by cases e) ⟨_,rfl⟩ s_ o_ (λi H' hi s'=>⟨_,.str (N.posts.getD i Str.empty),.inl (.inl (s' _ _ h0x)),aS_ hi⟩) (λH' s'=>⟨_,.inl (.inl (s' _ _ h0x)),s_⟩) ?_ ?_
     .rintro D i x dd σ' H5 H5' hD hDo s5 hi hdi ⟨rfl,hy⟩ ⟨e,rfl⟩ R kR;have hx':=hy _ (.inl (.inl (s5 _ _ h0x)));rw[aS_ hi]at hx';cases hx';obtain⟨p,hp0⟩:∃p,p=N.posts.getD i Str.empty:=⟨_,rfl⟩;have hpi:N.posts[i]?=some p:=by rw[hp0,Aa_,Ac_ hi];rfl
      rw[<-hp0];have hd:dd=dF (nf (Fl (ties N) X p) (bN N*Bh)):=by rw[Ad_,Ad_,hpi]at hdi;show(Ak_ hdi).symm
      obtain⟨q,e1,e2⟩:=f4 p (Ai_ hpi);rw[e15]at e2;nofun;show⟨.ref q,by have:=GY_.k (k:=.inr p) (s5 _ _ f1);rw[e1]at this;show this,kR _ _ _ ⟨_,rfl⟩ (Fo_.refl _) ?_⟩;rw[hd];show Rep.mono (fj_ s5 hD) _ (bU_ e2)
     .intro D H4 hD s4 rep4;show k D H4 (Sx.trans s4) (Sx.free hD) (Rep.mono aq_ _ rep4)
mutual
theorem ef_:∀d:Dt,deq d d=some true
 | .non=>rfl
 | .bl a=>by simp[deq]
 | .int a=>by simp[deq]
 | .str a=>by simp[deq]
 | .tup xs=>iF_ xs
 | .lst xs=>by rw[deq,if_pos rfl];show iF_ xs
theorem iF_:∀ds:List Dt,deqs ds ds=some true
 |[]=>rfl
 |d::ds=>by rw[deqs,ef_ d,iF_ ds];rfl
end
theorem gJ_{α:Type}{f:α->Dt}{n:Nat}(h:∀a,dep (f a)<=n):∀l:List α,deps (l.map f)<=n
 |[]=>AD_ _
 |a::l=>Nat.max_le.mpr ⟨h a,gJ_ h l⟩
theorem rg_(N:Net Str):dep (HM_ N)<=60:=by
 have h1:dep (.lst (N.posts.map dS))<=5:=Am_ (BZ_ (gJ_ (f:=dS) (n:=1) (λa=>by simp[dS,dep]) _)) d_;have h2:dep (.lst (N.rows.map dRw))<=5:=Am_ (BZ_ (gJ_ (f:=dRw) (n:=3) (λr=>by have:dep (.lst (r.2.map dS))<=2:=BZ_ (gJ_ (f:=dS) (n:=1) (λa=>by simp[dS,dep]) _);change max 0 (max (dep (.lst (r.2.map dS))) 0)+1<=3;lia) _)) d_;have h3:dep (.lst (N.worths.map dWo))<=5:=Am_ (BZ_ (gJ_ (f:=dWo) (n:=3) (λr=>by simp[dWo,dep,deps]) _)) d_;change max (dep (.lst (N.posts.map dS))) (max (dep (.lst (N.rows.map dRw))) (max (dep (.lst (N.worths.map dWo))) 0))+1<=60;lia
abbrev He_:Stmt:=stN 50
theorem py_:ZL ["_law_net"] ["_law_net"] (Fn_ He_):=zL
theorem gg_:LK He_ "list" .globalImplicit:=r_
def Jc_:Sp:=λvs H Q _=>∃(v:V)(N:Net Str),vs=[v]/\Rep H v (HM_ N)/\FZ_ N/\∀v' H',Fo_ H H'->Rep H' v' (HM_ N)->Q v' H'
theorem pz_(T:Txt K mg)(F:Fn0 K mg "_law_copy" He_):Cal P w K mg base "_law_copy" ["_law_net"] 1 Jc_:=by
  show aB_ F py_.1 λf cdv A outer s H vs Q E hr h=>?_;obtain⟨v,N,rfl,hv,ok,k⟩:=h;obtain⟨pn,p0,p1,p2,rs,ws,rfl,hn,h0,h1,r1,h2,r2⟩:=cn_ hv;have rl:rs.length=N.rows.length:=by rw[r1.length,Ab_]
  have few:=ok.few;refine'⟨_,?D,?R⟩
  case D =>
   refine' ag_ (ao_ (aH_ (pa_c (b5_ dh_ gg_ T.n_list fh_ (pa_c (Fr_ ak_ (zv 0 py_) aa_) ac_)) ?a)))
   case' a=>refine' pa_c ?b (pa_c (b5_ dh_ gg_ T.n_list fh_ (pa_c (Fr_ ak_ (zv 0 py_) aa_) ac_)) ac_)
   case' b=>refine' aF_ (N':=["_law_point","_law_wires"]) (ix:=[none,none]) rfl rfl (aM_ ?c) (ap_ (K:=K) rfl (Fr_ ak_ (zv 0 py_) aa_)) (λ_ _ _=>(bh_ (K:=K) (n:=2) rfl rfl (an_ ?d (an_ ?e bg_)))) (λ_ _ _=>?f) (λ_ _ _=>?g)
   case c=>show(by change GD_ (Fn_ He_) ["_law_net"] _ _ _=true;decide +kernel)
   case d=>show ah_ (i:=0) (by change List.Nodup (["_law_point","_law_wires"]:List Str);decide +kernel) rfl rfl
   case e=>show ah_ (i:=1) (by change List.Nodup (["_law_point","_law_wires"]:List Str);decide +kernel) rfl rfl
   case f=>show aO_
   case' g=>refine' aH_ (pa_c (pv1 0 rfl rfl) (pa_c (b5_ dh_ rfl T.n_list fh_ (pa_c (pv1 1 rfl rfl) ac_)) ac_))
  case R =>
   nofun;show⟨_,hn,_,F4_,p0,rfl,_,.inl h0,λc0 n0=>?_⟩;have S1:Fo_ H (upd H c0 (HO.lst (N.posts.map V.str))):=Fo_.new n0;have hc0:=ab_ (H:=H) (a:=c0) (o:=HO.lst (N.posts.map V.str));generalize upd H c0 (HO.lst (N.posts.map V.str))=H1 at*;show⟨_,S1 _ _ hn,_,Ge_,p1,rfl,⟨_,.inl (.inl (S1 _ _ h1))⟩,?_⟩;have h11:=S1 _ _ h1;show ay_ (n:=N.rows.length) (B:=λ_=>none) (Pσ:=λσ=>∃e e',σ=[e,e']) (ds:=N.rows.map dRw) (λb o e=>by cases e) ⟨_,_,rfl⟩ s_ o_ (λi H' hi s'=>⟨rs,rs[i]'o_,.inl (.inl (s' _ _ h11)),Ac_ _⟩) (λH' s'=>⟨rs,.inl (.inl (s' _ _ h11)),o_⟩) ?_ ?_
   .rintro D i x d σ' H2 H2' hD hDo hs2 hi hdi ⟨rfl,hy⟩ ⟨e,e',rfl⟩ R kR;obtain⟨od,hDo⟩:=hDo;have hx:=hy _ (.inl (.inl (hs2 _ _ h11)));obtain⟨r,q,l,hr1,rfl,hq,hl⟩:=hv_ r1 hx;have s12:=S1.trans hs2;have hd:d=dRw r:=by rw[Ad_,hr1]at hdi;show(Ak_ hdi).symm
    nofun;show⟨_,SqT.of (s12 _ _ hq),rfl,_,_,rfl,_,_,rfl,rfl,l,rfl,_,.inl (s12 _ _ hl),λc1 n1=>⟨d_,λc2 n2=>?_⟩⟩;have c1D:c1≠D:=(ae_ hDo n1).symm;have c2D:c2≠D:=(ae_ ((Fo_.new n1 (o:=HO.lst (r.2.map V.str))) _ _ hDo) n2).symm;show kR _ _ _ ⟨_,_,rfl⟩ ((Fo_.new n1).trans (Fo_.new n2)) ?_;rw[hd];show⟨c2,_,rfl,by rw[aR_ c2D rfl];show ab_,_,_,rfl,rfl,_,_,rfl,⟨c1,_,rfl,by rw[aR_ c1D rfl];show(Fo_.new n2) _ _ ab_,cN_ _⟩,rfl⟩
   .intro D H2 hD s2 rep2;have s02:=S1.trans s2;show⟨_,s02 _ _ hn,_,IK_,p2,rfl,_,.inl (s02 _ _ h2),λc2 n2=>⟨d_,λpe ne=>?_⟩⟩;have S3:=Fo_.new n2 (o:=HO.lst ws);have S4:=Fo_.new ne (o:=HO.tup [V.ref c0,V.ref D,V.ref c2]);show k _ _ (s02.trans (S3.trans S4)) ⟨pe,_,rfl,ab_,_,_,rfl,⟨c0,_,rfl,(s2.trans (S3.trans S4)) _ _ hc0,cN_ _⟩,_,_,rfl,Rep.mono (aq_.trans (S3.trans S4)) _ rep2,_,_,rfl,⟨c2,ws,rfl,S4 _ _ ab_,FE_.mono (s02.trans (S3.trans S4)) _ r2⟩,rfl⟩
theorem rh_:∀{ss:List (Int×Int)},(∀p∈ss,Ds p)->∃Bs ys,0<Bs/\Bs<=(10 ^ 6) ^ ss.length/\Ovs Bs ss ys/\∀y∈ys,y.natAbs<=10 ^ 12*(10 ^ 6) ^ ss.length:=λ{ss} h=>by
 have key:∀ss:List (Int×Int),(∀p∈ss,Ds p)->∃B:Int,0<B/\B<=(10 ^ 6) ^ ss.length/\∀p∈ss,p.2 ∣ B:=λss=>by
  induction ss with
  |nil=>show λ_=>⟨1,d_,d_,λp hp=>by cases hp⟩
  |cons p ss ih =>
   intro h;obtain⟨B,b1,b2,b3⟩:=ih λq hq=>h q (Ag_ _ hq);obtain⟨l,_,u⟩:=h p Ah_;have p0:=l.pos;show⟨p.2*B,Be_ p0 b1,?_,λq hq=>?_⟩
   .rw[AH_,Co_,AQ_ ((10 ^ 6:Int) ^ ss.length)];show Int.mul_le_mul u b2 o_ d_
   .rcases Aq_.mp hq with rfl|hq
    .show Int.dvd_mul_right _ _
    .show DH_ (b3 q hq) (Int.dvd_mul_left _ _)
 obtain⟨B,b1,b2,b3⟩:=key ss h
 have b2':B.natAbs<=(10 ^ 6) ^ ss.length:=by
  have:B<=(((10 ^ 6) ^ ss.length:Nat):Int):=by rw[Int.natCast_pow];show b2
  lia
 show⟨B,ss.map λp=>p.1*(B/p.2),b1,b2,?_,λy hy=>?_⟩
 .have:=Ovs.map (B:=B) (λp:Int×Int=>p) (λp=>p.1*(B/p.2)) (l:=ss) λp hp=>⟨(h p hp).1,o_,by rw[Bg_,Dr_ (b3 p hp)]⟩
  rwa[List.map_id']at this
 .obtain⟨p,hp,rfl⟩:=Aj_.mp hy;rw[AT_];show AX_ (h p hp).2.1 (Am_ (BI_ _ _) b2')
theorem oT_(ss:List (Int×Int)):((Gv_ ss).map λrow=>row.getD 0 (0,1))=ss:=by unfold Gv_;rw[Bo_];show(Bj_ λa _=>rfl).trans (List.map_id _)
theorem pA_{c:Nat}(h:Hx N o c Bs)(swp:Swp N o c)(hi:i<N.posts.length)(hq:q<c):((flN N o).getD i []).getD q (0,1)=Ig_ ((nmN N).map λy=>nf (sm (ties N) (N.posts.getD i Str.empty) y) (bN N)) ((nmN N).map (hgt N o q)):=by
 have e1:(flN N o).getD i []=(cols (heN N o)).map λc=>Ig_ ((nmN N).map λy=>nf (sm (ties N) (N.posts.getD i Str.empty) y) (bN N)) c:=by unfold flN gP;rw[Aa_,Ad_,Ad_,Ac_ hi,Aa_ (l:=N.posts),Ac_ hi];rfl
 rw[e1,Aa_,Ad_,(lW_ h swp).2 q hq];rfl
theorem Mp_{c:Nat}(h:Hx N o c Bs){X:Str->Int}(ht:Hts N o Bs q ys X)(ly:∀y∈ys,y.natAbs<=2 ^ 160)(p:Str):(Fl (ties N) X p).natAbs<=2 ^ 3200:=by
 rw[Jf_ X p (L:=nmN N) h.ok.nd (E:=ties N) λe he=>⟨(bz_ h.po).mp (bm_ h.ok h.po h.wo he).1,(bz_ h.po).mp (bm_ h.ok h.po h.wo he).2.1⟩,<-lX_];show Am_ (oi_ (m:=2 ^ 166) (n:=2 ^ 2920) (λz hz=>?_) λz hz=>?_) ?_
 .obtain⟨y,_,rfl⟩:=Aj_.mp hz;show iz_ h.ok h.wo p y
 .obtain⟨x,hx,rfl⟩:=Aj_.mp hz;show ht.le h ly x ((bz_ h.po).mpr hx)
 .rw[Ab_,show(nmN N).length=N.rows.length from Ab_ _,<-A4_];have:=h.ok.few
  calc N.rows.length*2 ^ (166+2920)<=2 ^ 4*2 ^ (166+2920):=CB_ _ o_
   _<=2 ^ 3200:=by rw[<-A4_];show Aw_ d_ d_
theorem sh_(ok:FZ_ N)(po:F1_ N)(wo:WOk N)(nh:NtH N)(sl:ss.length=N.posts.length)(sd:∀p∈ss,Ds p):∃Bs,Hx N (Gv_ ss) 1 Bs:=by
 have p6:=ok.pl;have hg:=sf_ ok po nh;obtain⟨Bs,ys,b1,b2,ov,ly⟩:=rh_ sd;have ol:(Gv_ ss).length=N.posts.length:=(Ab_ _).trans sl;have ur:∀r∈Gv_ ss,r.length=1:=λr hr=>by obtain⟨p,_,rfl⟩:=Aj_.mp hr;rfl
 show⟨Bs,⟨ok,po,wo,λ_=>se_ ok po wo hg,ol,ur,d_,d_,λc hc=>?_,b1,?_⟩,hg⟩
 .obtain⟨q,hq⟩:=BH_.mp hc
  have cl:(cols (Gv_ ss)).length=1:=by
   cases z:Gv_ ss with
   |nil=>rw[z]at ol;have:=po.p0;simp at ol;lia
   |cons r g =>change((List.range r.length).map _).length=_;rw[Ab_,Bc_];show ur r (by rw[z];show Ah_)
  have q0:q=0:=by have:=(Ar_.mp hq).1;lia
  subst q0;rw[jW_ (by rw[ol];show po.p0) ur d_,oT_]at hq;cases hq;show⟨ys,ov,λy hy=>Am_ (ly y hy) ?_⟩;rw[sl];show Am_ (Nat.mul_le_mul_left _ (Aw_ d_ p6)) r_
 .have h6:((10:Int) ^ 6) ^ ss.length<=(10 ^ 6) ^ 6:=by
   rw[sl]
   exact_mod_cast (Aw_ (n:=10 ^ 6) d_ p6)
  have:Bs<=((2 ^ 130:Nat):Int):=CW_ (CW_ b2 h6) r_;lia
theorem mQ_(E:List (Str×Str×Int))(c:Int)(x:Str):Fl E (λ_=>c) x=0:=by
 unfold RimT.Fl
 induction E with
 |nil=>rfl
 |cons e E ih =>rw[Av_,A3_,ih];simp[fl]
theorem si_(hx:Hx N (Gv_ ss) 1 Bs)(swp:Swp N (Gv_ ss) 1):∃X,HtI N (hgt N (Gv_ ss) 0) X (BhN N Bs)/\flC N (Gv_ ss) 0=(N.posts.map λp=>nf (Fl (ties N) X p) (bN N*BhN N Bs))/\(∀p,(Fl (ties N) X p).natAbs<=2 ^ 3200)/\(N.posts.map λp=>Fl (ties N) X p).sum=0/\((∀x∈ss,∀y∈ss,x=y)->∀p,Fl (ties N) X p=0):=by
 obtain⟨ys,oy,ly⟩:=qg_ hx (q:=0) d_;obtain⟨X,ht⟩:=qf_ hx.toHf swp d_ oy ly;have E1:∀e∈ties N,e.1∈N.posts++Fm_ N/\e.2.1∈N.posts++Fm_ N:=λe he=>⟨(bm_ hx.ok hx.po hx.wo he).1,(bm_ hx.ok hx.po hx.wo he).2.1⟩;have E2:∀e∈ties N,0<e.2.2:=λe he=>(bm_ hx.ok hx.po hx.wo he).2.2;have cg:∀p,Fl (ties N) (λx=>if x∈pts N then X x else 0) p=Fl (ties N) X p:=λp=>jD_ p (L:=pts N) (λy hy=>if_pos hy) E1;have bh:=mP_ hx;show⟨λx=>if x∈pts N then X x else 0,⟨λx h=>?_,λx=>?_,o_,bh.2⟩,?_,λp=>by rw[cg];show Mp_ hx ht ly p,?_,λal p=>?_⟩
 .change Is _ (if x∈pts N then X x else 0) _;rw[if_pos h];show ht.is x h
 .change(if x∈pts N then X x else 0:Int).natAbs<=_;split
  .rename_i h;show Am_ (ht.le hx ly x h) (Aw_ d_ d_)
  .show AD_ _
 .have fl:=(oQ_ hx swp).1;show CA_ (by unfold flC;rw[Ab_,Ab_,fl]) λi h1 h2=>?_;have hi:i<N.posts.length:=by rw[Ab_]at h2;show h2
  have fe:=pA_ hx swp hi (q:=0) d_;have is:=(Lz_ hx ht ly (N.posts.getD i Str.empty)).2.2.to;have e0:(flC N (Gv_ ss) 0)[i]=((flN N (Gv_ ss))[i]'(by rw[fl];show hi)).getD 0 (0,1):=by simp only[flC,List.getElem_map]
  rw[e0,List.getElem_map,cg];have a1:(flN N (Gv_ ss)).getD i []=(flN N (Gv_ ss))[i]'(by rw[fl];show hi):=by rw[Aa_,Ac_ (by rw[fl];show hi)];rfl
  have a2:N.posts.getD i Str.empty=N.posts[i]:=by rw[Aa_,Ac_ hi];rfl
  rw[a1]at fe;rw[fe,is,a2]
 .rw[show(N.posts.map λp=>Fl (ties N) (λx=>if x∈pts N then X x else 0) p)=N.posts.map λp=>Fl (ties N) X p from Bj_ λp _=>cg p];show pn_ (h0_ hx.ok hx.po) E1 ht.bal
 .rw[cg];rw[oT_]at oy
  have all:∃c,∀q∈N.posts,X q=c:=by
   show⟨ys.getD 0 0*(dN N*bN N),λq hq=>?_⟩;obtain⟨i,hi⟩:=BH_.mp hq;rw[ht.post i q hi];have il:=(Ar_.mp hi).1;have yl:ys.length=N.posts.length:=by rw[<-oy.len,<-(Ab_ (as:=ss) (f:=λs=>[s]))];show hx.ol
   have gt:∀j,j<N.posts.length->∃s∈ss,Is s (ys.getD j 0) Bs:=λj hj=>by
    have hy:ys[j]?=some (ys.getD j 0):=by rw[Aa_,Ac_ o_];rfl
    obtain⟨s,h1,h2⟩:=oy.at hy;show⟨s,Ai_ h1,h2⟩
   obtain⟨s1,m1,i1⟩:=gt i il;obtain⟨s2,m2,i2⟩:=gt 0 o_;have e:=al s1 m1 s2 m2;subst e;have:=i1.eq;have:=i2.eq;have s0:=i1.low.pos;have:ys.getD i 0=ys.getD 0 0:=CE_ (a:=s1.2) o_ o_;rw[this]
  obtain⟨c,hc⟩:=all;have he:=qY_ (Y:=λ_=>c) E1 E2 hx.hg ht.bal (λx _=>mQ_ _ c x) hc;rw[jD_ p (L:=pts N) (Y:=λ_=>c) he E1];show mQ_ _ c p
theorem mR_{H H':Hp}(s:∀b ys,H b=some (.tup ys)->H' b=some (.tup ys)):∀{r:List (Int×Int)}{xs:List V},FE_ H xs (r.map dF)->FE_ H' xs (r.map dF)
 |[],_,h=>h
 |p::r,_,⟨y,l,e,hy,hr⟩=>by obtain⟨q,e5,hq⟩:=bB_ hy;subst e5;show⟨_,l,e,bU_ (s _ _ hq),mR_ s hr⟩
theorem LI_(p:Int×Int):dep (dF p)<=1:=by simp[dF,dep,deps]
theorem j4_(r:List (Int×Int)):dep (GC_ r)<=2:=BZ_ (gJ_ (f:=dF) (n:=1) LI_ _)
abbrev Gj_:Stmt:=stN 62
theorem ff_:ZL ["_law_script","_law_net","_law_setting_here","_law_handed","_law_given","_law_told","_law_due_here","_law_total","_law_flow"] ["_law_script"] (Fn_ Gj_):=zL
theorem l1_:LK Gj_ "_law_add" .globalImplicit:=r_
theorem g7_:LK Gj_ "_law_copy" .globalImplicit:=r_
theorem l2_:LK Gj_ "_law_due" .globalImplicit:=r_
theorem fI_:LK Gj_ "_law_is_fraction" .globalImplicit:=r_
theorem iP_:LK Gj_ "_law_net_by" .globalImplicit:=r_
theorem iG_:LK Gj_ "_law_setting" .globalImplicit:=r_
theorem j7_:LK Gj_ "_law_small" .globalImplicit:=r_
theorem l3_:LK Gj_ "dict" .globalImplicit:=r_
theorem e0_:LK Gj_ "flows_of" .globalImplicit:=r_
theorem gL_:LK Gj_ "heights_of" .globalImplicit:=r_
theorem gM_:LK Gj_ "isinstance" .globalImplicit:=r_
theorem jc_:LK Gj_ "len" .globalImplicit:=r_
theorem fJ_:LK Gj_ "list" .globalImplicit:=r_
theorem ne_:LK Gj_ "set" .globalImplicit:=r_
def IA_(K:PySem.W.Frag):Sp:=λvs H Q _=>∃(a:Addr)(ns:List Int),vs=[.ref a]/\SqL K H a (ns.map V.int)/\∀H',Q (.bl true) H'
theorem sj_{f:Addr}{fd:FuncData}(T:Txt K mg)(F:Fun K "law" "law" Gj_ f fd) (Jj_:Cal P w K mg base "_law_net_by" ["_law_script","_law_at","_law_most"] 4 (JU_ K)) (JJ_:Cal P w K mg base "_law_small" ["_law_net"] 2 Iw_) (IN_:Cal P w K mg base "_law_setting" ["_law_script","_law_at","_law_many"] 3 (JX_ K)) (Jk_:Cal P w K mg base "_law_copy" ["_law_net"] 1 Jc_) (Ia_:Cal P w K mg base "heights_of" ["net","setting"] 7 (Lc_ K)) (HJ_:Cal P w K mg base "flows_of" ["net","setting"] 8 (Ki_ K)) (LP_:Cal P w K mg base "_law_due" ["_law_net","_law_heights"] 3 (Kc_ K)) (Hy_:Cal P w K mg base "_law_is_fraction" ["_law_found"] 2 (J8_ K)) (Ji_:Cal P w K mg base "_law_add" ["_law_one","_law_other"] 2 (Ii_ (λp q=>p.1*q.2+q.1*p.2))):Jp_ P w K mg base CX0 9 f fd ["_law_script"] (IA_ K):=by
 show F.ok ff_.1 (λvs H Q E h=>by obtain⟨a,ns,rfl,_⟩:=h;rfl) ?_;intro cdv A outer s H vs Q E hr h;obtain⟨a,ns,rfl,hS,k⟩:=h;refine'⟨_,?D,?R⟩
 case D =>
  refine' ar_ ?a (ad_ ?b ?c)
  case' a=>refine' zas 1 ff_ (af_ JJ_ (hr.mono d_) j7_ (pa_c (af_ Jj_ (hr.mono d_) iP_ (pa_c (zv 0 ff_) (pa_c aa_ (pa_c aa_ ac_)))) ac_))
  case' b=>refine' zas 2 ff_ (af_ IN_ (hr.mono d_) iG_ (pa_c (zv 0 ff_) (pa_c aa_ (pa_c (am_ au_ jc_ T.n_len aZ_ (pa_c (Fr_ ak_ (zv 1 ff_) aa_) ac_)) ac_))))
  case' c=>refine' ar_ (zas 3 ff_ (af_ Jk_ (hr.mono d_) g7_ (pa_c (zv 1 ff_) ac_))) (ad_ (zas 4 ff_ (b5_ dh_ fJ_ T.n_list fh_ (pa_c (zv 2 ff_) ac_))) ?d)
  case' d=>refine' ad_ (zas 5 ff_ (af_ HJ_ (hr.mono d_) e0_ (pa_c (zv 3 ff_) (pa_c (zv 4 ff_) ac_)))) ?e
  case' e=>refine' ad_ ?f (ad_ (Ga_ ?g (ag_ (ao_ Je_)) aP_) ?h)
  case' f=>refine' zas 6 ff_ (af_ LP_ (hr.mono d_) l2_ (pa_c (zv 1 ff_) (pa_c (b5_ (iZ_ rfl) l3_ T.n_dict oD_ ?i) ac_)))
  case' i=>refine' pa_c (af_ Ia_ (hr.mono d_) gL_ (pa_c (af_ Jk_ (hr.mono d_) g7_ (pa_c (zv 1 ff_) ac_)) (pa_c (b5_ dh_ fJ_ T.n_list fh_ (pa_c (zv 2 ff_) ac_)) ac_))) ac_
  case' g=>refine' PW.pt (Ij_ (ka_ (j9_ (am_ jh_ gM_ T.n_isinstance ct_ (pa_c (zv 5 ff_) (pa_c ?j ac_))))) ?k)
  case j=>show mc_ fJ_ T.n_list fh_
  case' k=>refine' Ij_ (aA_ (hJ_ (hr.units)) (zv 5 ff_) (zv 6 ff_) (FB_ _)) (Ij_ (aA_ (hJ_ (hr.units)) (zv 3 ff_) (zv 1 ff_) (FB_ _)) (nm_ (aA_ (hJ_ (hr.units)) (zv 4 ff_) (zv 2 ff_) (FB_ _))))
  case' h=>refine' ad_ (zas 7 ff_ (aH_ (pa_c aa_ (pa_c aa_ ac_)))) ?l
  case' l=>refine' ad_ ?m (ad_ (Ga_ ?n (ag_ (ao_ Je_)) aP_) ?o)
  case' m=>refine' bs_ AG_ rfl (ap_ (K:=K) rfl (zv 5 ff_)) ?p (ad_ ?q (ag_ (zas 7 ff_ (af_ Ji_ (hr.mono d_) l1_ (pa_c (zv 7 ff_) (pa_c (zv 8 ff_) ac_))))))
  case p=>show zh 8 ff_
  case' q=>refine' Ga_ (ka_ (j9_ (af_ Hy_ (hr.mono d_) fI_ (pa_c (zv 8 ff_) ac_)))) (ag_ (ao_ Je_)) aP_
  case' n=>refine' PW.pt (Ij_ (aA_ (hJ_ (hr.units)) (zv 7 ff_) (aH_ (pa_c aa_ (pa_c aa_ ac_))) (FB_ _)) ?r)
  case' r=>refine' nm_ (PW.pt (pF_ (aA_ GN_ (am_ n4_ jc_ T.n_len aZ_ (pa_c (b5_ (od_ hr.units rfl) ne_ T.n_set rS_ (pa_c (zv 2 ff_) ac_)) ac_)) aa_ (FB_ _)) ?s))
  case' s=>refine' nl_ (aA_ (hJ_ (hr.units)) (zv 5 ff_) (aF_ (N':=["_law_post"]) (ix:=[none]) rfl rfl (aM_ ?t) (ap_ (K:=K) rfl (Fr_ ak_ (zv 1 ff_) aa_)) (λ_ _ _=>?u) (λ_ _ _=>?v) (λ_ _ _=>(aH_ (pa_c aa_ (pa_c aa_ ac_))))) (FB_ _))
  case t=>show(by change GD_ (Fn_ Gj_) ["_law_script","_law_net","_law_setting_here","_law_handed","_law_given","_law_told","_law_due_here","_law_total","_law_flow"] _ _ _=true;decide +kernel)
  case u=>show ah_ (i:=0) (by change List.Nodup (["_law_post"]:List Str);decide +kernel) rfl rfl
  case v=>show aO_
  case' o=>refine' ad_ (bM_ (G5_ AU_ A8_ A9_ bA_ (zv 5 ff_) (pa_c (aH_ (pa_c aa_ (pa_c aa_ ac_))) ac_))) ?w
  case' w=>refine' ag_ (ao_ (hC_ (rG_ (hr.units)) (af_ HJ_ (hr.mono d_) e0_ (pa_c (zv 3 ff_) (pa_c (zv 4 ff_) ac_))) (zv 6 ff_) (FB_ _)))
 case R =>
  nofun;show⟨a,ns,rfl,hS,λv0 N0 H1 s1 rep1 ok0 po0 wo0 nh0=>?_⟩;show⟨v0,N0,rfl,rep1,ok0,wo0,λv N H2 s2 rep2 ok wo er ep=>?_⟩;have po:F1_ N:=⟨by rw[ep];show po0.pnd,by rw[ep,er];show po0.pin,by rw[ep];show po0.p0⟩;have nh:NtH N:=by unfold NtH;rw[ep,er];show nh0
  clear ok0 po0 wo0 nh0 rep1 er ep;have S2:=s1.trans s2;obtain⟨pn,p0,p1,p2,rs,ws,rfl,hn,h0,h1,r1,h2,r2⟩:=cn_ rep2;have p6:=ok.pl;have pp0:=po.p0;nofun;show⟨_,hn,_,F4_,p0,rfl,_,.inl h0,?_⟩;rw[Ab_];show⟨a,ns,13,N.posts.length,rfl,d_,S2.seq hS,o_,o_,λD3 ss H3 s3 nD3 rep3 sl sd=>?_⟩;obtain⟨Bs,hx⟩:=sh_ ok po wo nh sl sd;nofun;show⟨_,N,rfl,Rep.mono s3 _ rep2,ok,λv4 H4 s4 rep4=>?_⟩;nofun;obtain⟨_,xs3,e0,hD3,r3⟩:=id rep3;cases e0;obtain⟨pn4,q0,q1,q2,rs4,ws4,rfl,hn4,_,_,_,_,_⟩:=cn_ rep4;show⟨xs3,.inl (s4 _ _ hD3),λl nl=>?_⟩;have T5:=Fo_.new nl (o:=HO.lst xs3);have hl5:=ab_ (H:=H4) (a:=l) (o:=HO.lst xs3);generalize upd H4 l (HO.lst xs3)=H5 at*;have S35:=s4.trans T5;have repL:Rep H5 (.ref l) (GC_ ss):=⟨l,xs3,rfl,hl5,FE_.mono S35 _ r3⟩;have rep45:=Rep.mono T5 _ rep4;show⟨_,_,N,ss,Bs,rfl,rep45,repL,o_,hx,λD6 H6 s6 nD6 rep6 swp=>?_⟩;obtain⟨X,hti,hfl,fle,fsum,fone⟩:=si_ hx swp;rw[hfl]at rep6;have S36:=S35.trans s6;have S26:=s3.trans S36;show⟨_,N,rfl,Rep.mono S26 _ rep2,ok,λv7 H7 s7 rep7=>?_⟩;show⟨xs3,.inl (s7 _ _ (S36 _ _ hD3)),λl8 n8=>?_⟩;have T8:=Fo_.new n8 (o:=HO.lst xs3);have hl8:=ab_ (H:=H7) (a:=l8) (o:=HO.lst xs3);generalize upd H7 l8 (HO.lst xs3)=H8 at*;have s68:=s7.trans T8;show⟨_,_,N,ss,Bs,rfl,Rep.mono T8 _ rep7,⟨l8,xs3,rfl,hl8,FE_.mono (S36.trans s68) _ r3⟩,o_,hx,λD9 H9 s9 n9 rep9 swp9=>?_⟩;obtain⟨_,xs9,e9,hD9,r9⟩:=id rep9;cases e9;obtain⟨kvs,kn,kl,kp,kw⟩:=ix_ (wo:=(N.rows.map (·.1)).map λx=>(x,hgt N (Gv_ ss) 0 x)) (by rw[Bo_];show r9);rw[Bo_]at kn;have knd:(kvs.map (·.1)).Nodup:=by rw[kn];show Cm_.mpr (ok.nd.imp λne z=>ne (Cd_ z))
  have few:=ok.few;have kl2:kvs.length<=16:=by have:=congrArg List.length kn;rw[Ab_,Ab_,Ab_]at this;lia
  show⟨D9,rfl,xs9,hD9,kvs,kl,o_,kp,λd10 n10=>?_⟩;rw[hx_ kvs [] knd,CK_];have T10:=Fo_.new n10 (o:=HO.dK kvs);have hd10:=ab_ (H:=H9) (a:=d10) (o:=HO.dK kvs);generalize upd H9 d10 (HO.dK kvs)=H10 at*;have s610:=(s68.trans s9).trans T10;show⟨_,d10,N,hgt N (Gv_ ss) 0,X,BhN N Bs,rfl,Rep.mono (S26.trans s610) _ rep2,ok,po,wo,⟨kvs,hd10,λx hx=>?_⟩,hti,λD11 H11 s11 n11 rep11=>?_⟩
  .obtain⟨v,hv1,hv2⟩:=kw (x,hgt N (Gv_ ss) 0 x) (Aj_.mpr ⟨x,(bz_ po).mp hx,rfl⟩);obtain⟨q,rfl,hq⟩:=bB_ hv2;show⟨q,jS_ knd hv1,T10 _ _ hq⟩
  have s611:=s610.trans s11;obtain⟨_,xs6,e6,hD6,r6⟩:=id rep6;cases e6;generalize hTl:(N.posts.map λp=>nf (Fl (ties N) X p) (bN N*BhN N Bs))=tl at*;have hD611:=s611 _ _ hD6;show⟨"list",by simp[Hw_,hD611],?_⟩;rw[if_neg d_];show⟨D6,rfl,D11,rfl,GC_ tl,Rep.mono s611 _ rep6,GC_ tl,rep11,true,ef_ _,Am_ (j4_ tl) d_,?_⟩;rw[if_neg d_];show⟨pn4,rfl,HM_ N,Rep.mono (s6.trans s611) _ rep45,HM_ N,Rep.mono (S26.trans s611) _ rep2,true,ef_ _,rg_ N,?_⟩;rw[if_neg d_];show⟨GC_ ss,Rep.mono (s6.trans s611) _ repL,GC_ ss,Rep.mono (S36.trans s611) _ rep3,true,ef_ _,Am_ (j4_ ss) d_,?_⟩;rw[if_neg d_];show⟨d_,λz12 n12=>?_⟩;have T12:=Fo_.new n12 (o:=HO.tup [V.int 0,V.int 1]);have hz12:=ab_ (H:=H11) (a:=z12) (o:=HO.tup [V.int 0,V.int 1]);generalize upd H11 z12 (HO.tup [V.int 0,V.int 1])=H12 at*;have hD612:=T12 _ _ hD611;have bh:=mP_ hx;have b0:=G1_ ok wo;have Bf0:bN N*BhN N Bs≠0:=AW_ o_ o_
  have BB:(bN N*BhN N Bs).natAbs<=2 ^ 3800:=by
   rw[AT_]
   calc _<=2 ^ 150*2 ^ 2900:=AX_ b0.2 bh.2
    _<=2 ^ 3800:=by rw[<-A4_];show Aw_ d_ d_
  have xl6:xs6.length=N.posts.length:=by rw[r6.length,Ab_,<-hTl,Ab_]
  generalize bN N*BhN N Bs=Bf at*;have r612:=FE_.mono (s611.trans T12) _ r6;have D116:D11≠D6:=(ae_ (s610 _ _ hD6) n11).symm;obtain⟨_,xs11,e11,hD11,r11⟩:=id rep11;cases e11
  have fin:∀Hq t,Fo_ H12 Hq->Hq t=none->Ki_ K [V.ref pn4,V.ref l] (upd (upd Hq t (HO.tup [V.int 0,V.int 1])) D6 (HO.lst (xs6++[V.ref t]))) (λx H1=>∃p,x=V.ref p/\∃x_1,Rep H1 x x_1/\∃x,Rep H1 (V.ref D11) x/\∃x_2,deq x_1 x=some x_2/\dep x_1<=60/\Q (V.bl x_2) H1) E0:=λHq t sq nt=>by
   have keep:∀b o,b≠D6->Hq b=some o->upd (upd Hq t (HO.tup [V.int 0,V.int 1])) D6 (HO.lst (xs6++[V.ref t])) b=some o:=λb o nb hb=>by rw[aj_ nb];show(Fo_.new nt) _ _ hb
   generalize upd (upd Hq t (HO.tup [V.int 0,V.int 1])) D6 (HO.lst (xs6++[V.ref t]))=Hr at*;have S5r:Fo_ H5 Hr:=λb o e=>keep b o (ae_ e nD6) (((s6.trans s611).trans (T12.trans sq)) _ _ e);have r11r:FE_ Hr xs11 (tl.map dF):=mR_ (λb ys e=>keep _ _ (λc=>by rw[c,hD611]at e;cases e) (sq _ _ (T12 _ _ e))) r11;have hD11r:=keep _ _ D116 (sq _ _ (T12 _ _ hD11));show⟨_,_,N,ss,Bs,rfl,Rep.mono S5r _ rep45,Rep.mono S5r _ repL,o_,hx,λD20 H20 s20 n20 rep20 _=>⟨D20,rfl,GC_ tl,by rw[hfl]at rep20;show rep20,GC_ tl,⟨D11,xs11,rfl,s20 _ _ hD11r,FE_.mono s20 _ r11r⟩,true,ef_ _,Am_ (j4_ tl) d_,k _⟩⟩
  show⟨D6,rfl,⟨_,.inl (.inl hD612)⟩,?_⟩;show gi_ (xs:=xs6) (λm σ Hx=>∃(z:Addr)(e8:Option V),σ=[some (.ref a),some (.ref pn),some (.ref D3),some (.ref pn4),some (.ref l),some (.ref D6),some (.ref D11),some (.ref z),e8]/\Fo_ H12 Hx/\Hx z=some (.tup [.int (nf ((N.posts.take m).map λp=>Fl (ties N) X p).sum Bf).1,.int (nf ((N.posts.take m).map λp=>Fl (ties N) X p).sum Bf).2])) ⟨z12,none,rfl,Fo_.refl _,by rw[Ex_,CO_,List.sum_nil,gp_ Bf0];show hz12⟩ ?_ ?_ ?_
  .rintro m σ Hx hm ⟨z,e8,rfl,sx,hz⟩;show .inl (.inl (sx _ _ hD612))
  .rintro m x σ Hx hx' ⟨z,e8,rfl,sx,hz⟩;have ml:m<N.posts.length:=by rw[<-xl6];show(Ar_.mp hx').1
   obtain⟨q,y,hy,rfl,hq⟩:=fV_ r612 hx';have ey:y=nf (Fl (ties N) X N.posts[m]) Bf:=by rw[<-hTl,Ad_,Ac_ ml]at hy;show(Ak_ hy).symm
   have iy:=GQ_ (t:=Fl (ties N) X N.posts[m]) Bf0;rw[<-ey]at iy;have up:∀{n:Nat}{z:Int},n<=19000->z.natAbs<=2 ^ n->z.natAbs<=2 ^ 19000:=λh e=>Am_ e (Aw_ d_ h);have by':=isb iy (up d_ (fle _)) BB
   have sle:∀l:List Str,l.length<=6->((l.map λp=>Fl (ties N) X p).sum).natAbs<=2 ^ 3203:=λl hl=>by
    have key:∀l:List Str,((l.map λp=>Fl (ties N) X p).sum).natAbs<=l.length*2 ^ 3200:=λl=>by
     induction l with
     |nil=>show AD_ _
     |cons p l ih =>rw[Av_,A3_,AH_,Nat.succ_mul];have:=fle p;lia
    show Am_ (key l) ?_;rw[show(3203:Nat)=3200+3 from rfl,A4_];rw[Nat.mul_comm];show Nat.mul_le_mul_left _ o_
   have it:=GQ_ (t:=((N.posts.take m).map λp=>Fl (ties N) X p).sum) Bf0;have bt:=isb it (up d_ (sle _ (by rw[AZ_];lia))) BB;have tk:((N.posts.take (m+1)).map λp=>Fl (ties N) X p).sum=((N.posts.take m).map λp=>Fl (ties N) X p).sum+Fl (ties N) X N.posts[m]:=by rw[Bn_,Ac_ ml,Au_,Cc_];simp
   rw[tk];nofun;show⟨_,y,rfl,⟨q,rfl,SqT.of (sx _ _ hq)⟩,iy.low,Am_ by'.2.2 d_,λH3 s3=>⟨_,rfl,?_⟩⟩;rw[if_neg d_];show⟨_,_,_,y,rfl,bU_ (s3 _ _ hz),bU_ (s3 _ _ (sx _ _ hq)),bt.1,by'.1,bt.2.1,bt.2.2,by'.2.1,by'.2.2,λz4 H4 s4 rep4=>?_⟩;rw[it.plusB iy]at rep4;obtain⟨_,e9,hz4⟩:=bB_ (Rep.mono aq_ _ rep4);cases e9;show⟨z4,rfl,sx.trans (s3.trans s4),hz4⟩
  .rintro σ Hx ⟨z,e8,rfl,sx,hz⟩;rw[xl6,C7_,fsum,gp_ Bf0]at hz;nofun;show⟨d_,λp np=>?_⟩;have T13:=Fo_.new np (o:=HO.tup [V.int 0,V.int 1]);have hp13:=ab_ (H:=Hx) (a:=p) (o:=HO.tup [V.int 0,V.int 1]);generalize upd Hx p (HO.tup [V.int 0,V.int 1])=H13 at*;have S13:=sx.trans T13;have S313:=((S36.trans s611).trans T12).trans S13;show⟨dF (0,1),bU_ (T13 _ _ hz),dF (0,1),bU_ hp13,true,ef_ _,Am_ (LI_ _) d_,?_⟩;rw[if_neg d_];show⟨xs3,S313 _ _ hD3,ss,by rw[r3.length,Ab_],o_,λi x hxi=>?_,λsA n nsA one=>?_⟩
   .obtain⟨q,y,hy,rfl,hq⟩:=fV_ r3 hxi;show⟨q,y,hy,rfl,S313 _ _ hq⟩
   have T14:=Fo_.new nsA (o:=SzO sA n);generalize upd H13 sA (SzO sA n)=H14 at*;have S14:=S13.trans T14;show⟨n,rfl,?_⟩;by_cases c:n=1
   .rw[if_pos o_];have hn14:=((((s3.trans S313)).trans T14)) _ _ hn;have h014:=((((s3.trans S313)).trans T14)) _ _ h0;show⟨_,hn14,_,F4_,p0,rfl,⟨_,.inl (.inl h014)⟩,?_⟩;show ay_ (n:=N.posts.length) (B:=λ_=>none) (Pσ:=λσ=>∃e,σ=[e]) (ds:=(N.posts.map λ_=>((0:Int),(1:Int))).map dF) (λb o e=>by cases e) ⟨_,rfl⟩ s_ o_ (λi H' hi s'=>⟨_,.str (N.posts.getD i Str.empty),.inl (.inl (s' _ _ h014)),aS_ hi⟩) (λH' s'=>⟨_,.inl (.inl (s' _ _ h014)),s_⟩) ?_ ?_
    .rintro D i x dd σ' H5 H5' hD ⟨oD,hDo⟩ s5 hi hdi ⟨rfl,hy⟩ ⟨e,rfl⟩ R kR;have hd:dd=dF (0,1):=by rw[Ad_,Ad_,Ac_ hi]at hdi;show(Ak_ hdi).symm
     nofun;show⟨d_,λt nt=>kR _ _ _ ⟨_,rfl⟩ (Fo_.new nt) ?_⟩;rw[hd];have tD:t≠D:=(ae_ hDo nt).symm;show⟨t,_,rfl,by rw[aR_ tD rfl];show ab_,_,_,rfl,rfl,_,_,rfl,rfl,rfl⟩
    .intro D H15 hD s15 rep15;have ez:(N.posts.map λ_=>((0:Int),(1:Int)))=tl:=by rw[<-hTl];show Bj_ λp _=>by rw[fone (one c) p,gp_ Bf0]
     rw[ez]at rep15;show⟨D,rfl,GC_ tl,Rep.mono (((s611.trans T12).trans S14).trans s15) _ rep6,GC_ tl,Rep.mono aq_ _ rep15,true,ef_ _,Am_ (j4_ tl) d_,?_⟩;rw[if_neg d_];have S15:=S14.trans s15;show⟨.inl ⟨_,.inl (.inl (S15 _ _ hD612))⟩,d_,λt nt=>⟨xs6,(Fo_.new nt) _ _ (S15 _ _ hD612),Fq_ o_,fin H15 t S15 nt⟩⟩
   .rw[if_neg o_];show⟨.inl ⟨_,.inl (.inl (S14 _ _ hD612))⟩,d_,λt nt=>⟨xs6,(Fo_.new nt) _ _ (S14 _ _ hD612),Fq_ o_,fin H14 t S14 nt⟩⟩
theorem nt_of{K:PySem.W.Frag}{mg:Str->Option Value}{h:Heap}(X:K.In h)(G:h.Ns mainGlobals mg){C:Addr}{t u:Tok}{n:Nat}{od:Option Addr}{osl:Array (Option Value)}
  (a:PySem.W.nsIn K mainGlobals "NOUGHT"=some (some (.ref C))) (l:K.lookup C=some ⟨.type "tuple",od,.seq #[.int 0 t,.int 1 u] n,osl⟩):Nt K mg C :=
 ⟨EK_ X G a,λH=>.inr ⟨_,_,_,l,rfl,rfl,AN_ (Fq_ (by change 2<=1000;decide)),.cons ⟨_,rfl⟩ (.cons ⟨_,rfl⟩ .nil)⟩,_,l⟩
theorem sk_{l:PySem.W.OpenLaw}{fa:Addr}(hfa:mg "law"=some (.ref fa)) (T:Txt K mg) (hN:Nt K mg CN) (G8_:Fn0 K mg "greatest_divisor" Fz_) (IO_:Fn0 K mg "fraction" F7_) (LQ_:Fn0 K mg "plus" HB_) (KB_:Fn0 K mg "minus" Hc_) (Hs_:Fn0 K mg "common_bottom" FO_) (Ib_:Fn0 K mg "columns_of" FU_) (Jl_:Fn0 K mg "cleared" Gt_) (Ic_:Fn0 K mg "with_pivot" FP_) (IP_:Fn0 K mg "lessened" Gh_) (KC_:Fn0 K mg "swept" Gg_) (G9_:Fn0 K mg "cleared_together" Fu_) (JK_:Fn0 K mg "solved" FQ_) (Ha_:Fn0 K mg "row_times_column" Fy_) (Id_:Fn0 K mg "multiplied" FF_) (Hz_:Fn0 K mg "ends_by_wire" FC_) (IQ_:Fn0 K mg "pulls_of" FG_) (Io_:Fn0 K mg "points_of" Gr_) (Ht_:Fn0 K mg "points_within" FT_) (Ip_:Fn0 K mg "pull_grid" Gi_) (HQ_:Fn0 K mg "heights_for" Fs_) (Iq_:Fn0 K mg "flows_for" FM_) (Ie_:Fn0 K mg "heights_of" FI_) (IR_:Fn0 K mg "flows_of" F9_) (IS_:Fn0 K mg "_law_cell_at" Gq_) (LR_:Fn0 K mg "_law_big" GB_) (LS_:Fn0 K mg "_law_low" Hj_) (Ir_:Fn0 K mg "_law_worth_of" F5_) (JL_:Fn0 K mg "_law_mates" Gb_) (IT_:Fn0 K mg "_law_corners" FS_) (Hm_:Fn0 K mg "_law_corner_behind" Fx_) (Jm_:Fn0 K mg "_law_region" F3_) (JM_:Fn0 K mg "_law_grown" FD_) (JN_:Fn0 K mg "_law_names" FL_) (JO_:Fn0 K mg "_law_begun" Gm_) (Jn_:Fn0 K mg "_law_net_by" Fw_) (KD_:Fn0 K mg "_law_copy" He_) (JP_:Fn0 K mg "_law_small" GV_) (LT_:Fn0 K mg "_law_add" HF_) (LU_:Fn0 K mg "_law_mul" HG_) (KE_:Fn0 K mg "_law_less" Hd_) (JQ_:Fn0 K mg "_law_whole" GI_) (JR_:Fn0 K mg "_law_digit" GT_) (HA_:Fn0 K mg "_law_is_fraction" FH_) (If_:Fn0 K mg "_law_number_of" FV_) (KF_:Fn0 K mg "_law_ties" GJ_) (IU_:Fn0 K mg "_law_setting" FJ_) (LV_:Fn0 K mg "_law_due" Go_) (Ms_:Fn0 K mg "law" Gj_):
  ∃fd:FuncData,(∀(s:Shared)(v:Value),BindsTo s fd ⟨[v],[]⟩ [("_law_script",v)])/\∀base:Heap,K.In base->base.Ns mainGlobals mg->Jp_ l.prog w K mg base CX0 9 fa fd ["_law_script"] (IA_ K):=by
 obtain⟨f,fd,FL,m⟩:=Ms_;have e:=hfa.symm.trans m;cases e;show⟨fd,?_,λbase _ _=>?_⟩
 .obtain⟨oc,od,kV,doc,pm,an,cdv,ct,osl,rfl,lk,hcd⟩:=FL.ex;show λs v=>.of_eq rfl
 .have c1:=fm_ (P:=l.prog) (w:=w) (base:=base) T G8_ ;have c2:=lG_ T IO_ c1;have c3:=q3_ T LQ_ c2;have c4:=pp_ T KB_ c2;have c5:=g9_ T Hs_ c1;have c6:=m9_ T Jl_ c5;have c7:=lI_ (P:=l.prog) (w:=w) (base:=base) T IP_ ;have c8:=jK_ (P:=l.prog) (w:=w) (base:=base) T Ic_ ;have c9:=ps_ T KC_ c8 c7;have c10:=jM_ (P:=l.prog) (w:=w) (base:=base) T Ib_ ;have c11:=ft_ T G9_ c6;have c12:=ot_ T JK_ c10 c6 c11 c9 c2;have c13:=fv_ T Ha_ c2;have c14:=jO_ T Id_ c10 c6 c13;have c15:=iw_ (P:=l.prog) (w:=w) (base:=base) T Hz_ ;have c16:=lU_ T hN IQ_ c15 c3 c4;have c17:=k3_ (P:=l.prog) (w:=w) (base:=base) T Io_ ;have c18:=hf_ T Ht_ c17;have c19:=k6_ (P:=l.prog) (w:=w) (base:=base) T hN Ip_ ;have c20:=iN_ T hN HQ_ c17 c18 c16 c19 c14 c4 c12;have c21:=k9_ T hN Iq_ c17 c16 c19 c14 c20;have c22:=jZ_ T Ie_ c17 c20;have c23:=lZ_ T IR_ c21;have d1:=lD_ (P:=l.prog) (w:=w) (base:=base) T IS_ ;have d2:=qZ_ T LR_ d1;have d3:=q0_ (P:=l.prog) (w:=w) (base:=base) T LS_ ;have d4:=kR_ T Ir_ d3;have d5:=ov_ (P:=l.prog) (w:=w) (base:=base) T JL_ ;have d6:=lM_ (P:=l.prog) (w:=w) (base:=base) T IT_ ;have d7:=gA_ (P:=l.prog) (w:=w) (base:=base) T Hm_ ;have d8:=nb_ T Jm_ d7;have d9:=ow_ T JM_ d6 d5 d8;have d10:=oz_ (P:=l.prog) (w:=w) (base:=base) T JN_ ;have d11:=oB_ (P:=l.prog) (w:=w) (base:=base) T JO_ ;have d12:=nc_ T Jn_ d2 d9 d10 d11 d4;have d13:=pz_ (P:=l.prog) (w:=w) (base:=base) T KD_ ;have d14:=oL_ T JP_ d3;have d15:=q5_ T LT_ d3;have d16:=q7_ T LU_ d3;have d17:=pr_ T KE_ d3;have d18:=op_ (P:=l.prog) (w:=w) (base:=base) T JQ_ ;have d19:=ic_ T HA_ d18 d3;have d20:=oR_ (P:=l.prog) (w:=w) (base:=base) T JR_ ;have d21:=j0_ T If_ d20 d3;have d22:=l0_ T IU_ d2 d20 d21;have d23:=px_ (P:=l.prog) (w:=w) (base:=base) T KF_ ;have d24:=rf_ T LV_ d23 d17 d16 d15;show sj_ T FL d12 d14 d22 d13 c22 c23 d24 d19 d15
theorem walk{l:PySem.W.OpenLaw}{q:Program}{loose:List Str}{XP:(Str->Option Value)->Heap->Prop}{YP:World->Heap->Prop}{d:DefRec}{K:Params->PySem.W.Frag}(hn:l.most=some 63)(hdf:d.params.defaults=[])
  (hY:∀(w:World)(h:Heap),YP w h->(K w.params).In h)
  (F:∀(w:World)(mg:Str->Option Value)(fa:Addr)(h:Heap),(K w.params).In h->h.Ns mainGlobals mg->mg d.name=some (.ref fa) ->
   ∃fd:FuncData,(∀(s:Shared)(u:Value),BindsTo s fd ⟨[u],[]⟩ [("_law_script",u)])/\∀base:Heap,(K w.params).In base->base.Ns mainGlobals mg->Jp_ l.prog w (K w.params) mg base CX0 9 fa fd ["_law_script"] (IA_ (K w.params))):
  PySem.W.WalkO q loose XP YP l.row.toRowW d [] (λf vs=>PySem.call f vs):=
 L2.qo_ (n:=63) (k:=9) (x := "_law_script") (CX:=λ_=>CX0) (sp:=λw=>IA_ (K w.params)) hn d_ hdf ⟨rfl,d_,d_⟩ hY F (λ_ _ a ns hl _ hS=>⟨a,ns,rfl,hS,λ_=>rfl⟩) λ_ _ _ _ _ z=>z
end Rim19
namespace PySem.W.Fast
def tw11058656098024989392:=0
def tw8848192556851449622:=0
def tw16255022856896830133:=0
def tw6344455907612420974:=0
def tw7742762552020588199:=0
def tw3733112788602658881:=0
def tw7524622169733977198:=0
def tw10428729101656804564:=0
def tw15869260158852081597:=0
def tw7846166432210926975:=0
def tw17042016731037746852:=0
def tw2904108262650283093:=0
def tw16823995870222235231:=0
def tw5826687508028186170:=0
def tw2951092024120325796:=0
def tw4653645436268854603:=0
def tw36774104124991004:=0
def tw6640116944031917371:=0
def tw9416010612548060354:=0
def tw7634224640387690000:=0
def tw2877756711251782934:=0
def tw12160685704221304288:=0
def tw9679209534440394605:=0
def tw12911091534909202789:=0
def tw12444140079980401308:=0
def tw985042435157030137:=0
def tw1934989419510375556:=0
def tw11869349974437735107:=0
def tw17754558213969369266:=0
def tw461842028083368795:=0
def tw11107433935645832083:=0
def tw9866868386947152054:=0
def tw4289608668013022841:=0
def tw5779132235165566007:=0
def tw995452749574983154:=0
def tw8649730737881290329:=0
def tw11895267390436530561:=0
def tw9833315902620218422:=0
def tw17553051573235061265:=0
def tw16378767576698108755:=0
def tw10777645162316305504:=0
def tw2685599816234841349:=0
def tw14807769555270894323:=0
def tw17271661171798826683:=0
def tw12315810395215945804:=0
def tw6444854436510502867:=0
def tw8749228563869204273:=0
def tw18289366151646246799:=0
def tw7120378384278858355:=0
def tw4048616636082206011:=0
def tw5915994597120539244:=0
def tw16646833253366572448:=0
def tw3388109389054651877:=0
def tw3628307661427926965:=0
def tw12137169947577638291:=0
def tw11826746750733846558:=0
def tw1223841840923578776:=0
def tw11538907042228798063:=0
def tw5830547301956259100:=0
def tw18248301038087328496:=0
def tw6734192152148703822:=0
def tw13184033898434481652:=0
def tw8819781142725030523:=0
def tw12630414685455457060:=0
def tw8378807832545405573:=0
def tw17379470270560727403:=0
def tw8586136688642832766:=0
def tw4091225721562660089:=0
def tw14900193840194027017:=0
def tw9279033773460350632:=0
def tw2900402655362275786:=0
def tw5015880610289316170:=0
def tw16130365653751649458:=0
def tw14656870221199802940:=0
def tw6533917851109367296:=0
def tw11619615094286121265:=0
def tw10207220252062296234:=0
def tw12506475120896042013:=0
def tw8070466431726559813:=0
def tw7568474802243942438:=0
def tw10238539150803076195:=0
def tw14720849304975653215:=0
def tw9451183651379578558:=0
def tw7898520506655496191:=0
def tw4733530208215759353:=0
def tw250200843217878597:=0
def tw14025759834922914996:=0
def tw11499863282693481612:=0
def tw11184742017492506605:=0
def tw2319186698570533866:=0
def tw8071091194552315063:=0
def tw3037563021367980668:=0
def tw17720185362037915438:=0
def tw17857532886612793363:=0
def tw1216561893140419790:=0
def tw5085692059980344476:=0
def tw5001569803661257299:=0
def tw9292113057497101446:=0
def tw11105212346079723725:=0
def tw2136619141164676180:=0
def tw15540190872171672992:=0
def tw5782639577538568890:=0
def tw3846849914585624848:=0
def tw9490550133290049814:=0
def tw10320962499580115312:=0
def tw2441354779008367337:=0
def tw9429940659381607703:=0
def tw9892022836057533042:=0
def tw17123225607841330892:=0
def tw9740091066661379246:=0
def tw17195000498106374083:=0
def tw2271327896749651270:=0
def tw10767856908855303071:=0
def tw16641098091863214932:=0
def tw7910430645780572055:=0
def tw4792395987546275668:=0
def tw16679279205333397262:=0
def tw11878940280955493701:=0
def tw17468714180214143567:=0
def tw5517251209635202534:=0
def tw7241152553623834942:=0
def tw8253193398806686179:=0
def tw16848982545780958053:=0
def tw6506155017756676366:=0
def tw6528391978369035556:=0
def tw8107642608233392893:=0
def tw7230846339921563853:=0
def tw13044900781006912824:=0
def tw12853382427589862374:=0
def tw11059496468192127908:=0
def tw17092870434506692623:=0
def tw9429219232369317196:=0
def tw17850893309803225299:=0
def tw7386897814480886297:=0
def tw6683499874018476823:=0
def tw7528453847100239500:=0
def tw11204562304821447761:=0
def tw16037658793018367593:=0
def tw7306621501283222293:=0
def tw14349989948467740707:=0
def tw6128887494862701003:=0
def tw11259280861862216827:=0
def tw9886517014980909497:=0
def tw17920010475619034321:=0
def tw5196359452150811292:=0
def tw13465950824150221940:=0
def tw14726085904777413284:=0
def tw2759316463848325327:=0
def tw9473205809892476814:=0
def tw14526127225421380227:=0
def tw605034389284376388:=0
def tw8027574881849924922:=0
def tw18175395927430088703:=0
def tw16625552830170986041:=0
def tw13230996987695979034:=0
def tw16219900614421456153:=0
def tw10792172212766043732:=0
def tw2523349487975533588:=0
def tw549837193730708692:=0
def tw407607818695870418:=0
def tw1857136610429794503:=0
def tw16380809005607502353:=0
def tw7867424616568107989:=0
def tw593718647773936138:=0
def tw14614764654179529577:=0
def tw3633175754706076019:=0
def tw13327202873338532179:=0
def tw5992820550777703411:=0
def tw9166155510821631993:=0
def tw10020604281599382789:=0
def tw17806584377706658094:=0
def tw11162968342086742344:=0
def tw3710820819868119322:=0
def tw6177033811330421681:=0
def tw4436219160995387213:=0
def tw9246562757074709480:=0
def tw15360157796334183453:=0
def tw5875420753154362605:=0
def tw17398353245457011111:=0
def tw8766684985761546131:=0
def tw7948993188761881289:=0
def tw11584976344787347012:=0
def tw13116993465515441241:=0
def tw15379194643119827883:=0
def tw14520918057807591872:=0
def tw1016840525428501902:=0
def tw10594535278018959875:=0
def tw9635532997825130717:=0
def tw4270790572352714535:=0
def tw1217066836972679410:=0
def tw12804272586372359343:=0
def tw12860647428266560545:=0
def tw2723421246685623749:=0
def tw13739640511020821730:=0
def tw16346839385805017703:=0
def tw12383095594597234439:=0
def tw18396100216198992791:=0
def tw12124191909424249607:=0
def tw4025960655691575918:=0
def tw8821439053143576338:=0
def tw9445714891152855000:=0
def tw6626962597533223623:=0
def tw16868779758469482954:=0
def tw990320439739050815:=0
def tw198066398142498232:=0
def tw3749320667685232832:=0
def tw16577990643735317864:=0
def tw14475669772369124832:=0
def tw17884482370986220076:=0
def tw17048019309801767964:=0
def tw11306829487621527079:=0
def tw12558727841028354126:=0
def tw5266839310703725712:=0
def tw170877771997364901:=0
def tw16153510523264668285:=0
def tw10637021095543184098:=0
def tw5654388835769718093:=0
def tw15665356449151682957:=0
def tw10095744315353020622:=0
def tw6642074298404410576:=0
def tw17801612618166224730:=0
def tw13631851291486179852:=0
def tw13666419895344751324:=0
def tw5992538306725264534:=0
def tw8625091462292808030:=0
def tw7322864464862513301:=0
def tw3932962728018242166:=0
def tw3797831347991420676:=0
def tw4705286105038041450:=0
def tw16470878550541336144:=0
def tw6945664660477659160:=0
def tw7157337835741017485:=0
def tw655433214030557572:=0
def tw12200289506200703363:=0
def tw7072042713618979458:=0
def tw2025742470005093982:=0
def tw4409216601822071470:=0
def tw6765362813808131472:=0
def tw13215478337758894759:=0
def tw13637897565963612761:=0
def tw17497470035423657573:=0
def tw519774927737385150:=0
def tw8510533854253700827:=0
def tw16180105261882801299:=0
def tw3996520250051127523:=0
def tw15648491673152461907:=0
def tw6924893965106864788:=0
def tw14550126593469745100:=0
def tw1285940372820707941:=0
def tw13841915948389500903:=0
def tw3322061176959980786:=0
def tw511843072343710237:=0
def tw8708579848884337991:=0
def tw5807558723438675460:=0
def tw9707687500892313742:=0
def tw6997596160968227327:=0
def tw15083549044305153037:=0
def tw9362572544313814639:=0
def tw6315698719709394828:=0
def tw369182085772212548:=0
def tw5782063203982845957:=0
def tw11507002571510065176:=0
def tw9740010028432410131:=0
def tw3554883866624859066:=0
def tw14621289166424511149:=0
def tw15295825215558227857:=0
def tw7627225499190379136:=0
def tw6836761448440967022:=0
def tw6242476913729188252:=0
def tw15595710812312692778:=0
def tw9546495674610073555:=0
def tw8958652318652695321:=0
def tw7895867533751392741:=0
def tw3550533033588042040:=0
def tw3198147476804517400:=0
def tw4640709482543380091:=0
def tw16185257591881416843:=0
def tw16767909006578048839:=0
def tw9967409620450806429:=0
def tw16539587188877847401:=0
def tw14495574937764883536:=0
def tw4986180245945220919:=0
def tw10245692401487959733:=0
def tw14075960527605300476:=0
def tw6705716361855742713:=0
def tw4960776337016680114:=0
def tw9418528544399305819:=0
def tw18132089526586768517:=0
def tw7047389659442648709:=0
def tw9103284400546662224:=0
def tw7326338577513633889:=0
def tw9121884706010361619:=0
def tw1758923213879128220:=0
def tw3176685931637012866:=0
def tw9033389628065002966:=0
def tw13715051347763611561:=0
def tw11766480506610121309:=0
def tw218592267004216119:=0
def tw6038686876952779394:=0
def tw17948596492509360646:=0
def tw12558435238261571052:=0
def tw13250566275651681328:=0
def tw13478952328766570096:=0
def tw1137420284549355637:=0
def tw7517984547923472694:=0
def tw16793271824498990076:=0
def tw16950510744633865803:=0
def tw1788957621555472712:=0
def tw16896327529183965460:=0
def tw13769318344084854560:=0
def tw10088580766910368955:=0
def tw5418980328551500192:=0
def tw5813691388714726144:=0
def tw13833804502743742307:=0
def tw6062866854041301112:=0
def tw5352096623243979018:=0
def tw11477562089337874285:=0
def tw16374816934915596810:=0
def tw12105731311765093445:=0
end PySem.W.Fast
open PySem PySem.W PyProof.Rows
set_option maxRecDepth 100000 in
set_option maxHeartbeats 0 in
theorem PySem.Challenge.cw_rimread_k19_flows_at_posts_holds : PySem.Challenge.rw_rimread_k19_flows_at_posts.Holds := by
 w_on; o_law; k_head; (case hw=>w_witness2)
 k_fill
 refine Rim19.walk (l:=PySem.Challenge.rw_rimread_k19_flows_at_posts) rfl rfl (fun w h Y=>PySem.W.kIn_of Y) ?F
 case F =>
  intro w mg fa h KX G hmg;refine' Rim19.sk_ (CN:=?CN) hmg ⟨?n_abs,?n_max,?n_min,?n_ValueError,?c_LONG_BITS,?n_dict,?n_set,?n_len,?n_range,?n_list,?n_isinstance,?n_int,?n_bool,?n_tuple,?n_str,?n_enumerate,?n_sorted,?n_zip,?n_sum⟩ (Rim19.nt_of KX G ?na ?nl) ?f_greatest_divisor ?f_fraction ?f_plus ?f_minus ?f_common_bottom ?f_columns_of ?f_cleared ?f_with_pivot ?f_lessened ?f_swept ?f_cleared_together ?f_solved ?f_row_times_column ?f_multiplied ?f_ends_by_wire ?f_pulls_of ?f_points_of ?f_points_within ?f_pull_grid ?f_heights_for ?f_flows_for ?f_heights_of ?f_flows_of ?f_Lcell_at ?f_Lbig ?f_Llow ?f_Lworth_of ?f_Lmates ?f_Lcorners ?f_Lcorner_behind ?f_Lregion ?f_Lgrown ?f_Lnames ?f_Lbegun ?f_Lnet_by ?f_Lcopy ?f_Lsmall ?f_Ladd ?f_Lmul ?f_Lless ?f_Lwhole ?f_Ldigit ?f_Lis_fraction ?f_Lnumber_of ?f_Lties ?f_Lsetting ?f_Ldue ?f_law
  case c_LONG_BITS=>refine' L2.rA_ KX G ?a; (case a=>k_is)
  case na=>k_is
  case nl=>k_is
  case n_abs | n_max | n_min | n_ValueError | n_dict | n_set | n_len | n_range | n_list | n_isinstance | n_int | n_bool | n_tuple | n_str | n_enumerate | n_sorted | n_zip | n_sum=>refine' PySem.W.mg_none_of KX G ?a; (case a=>k_is)
  case f_greatest_divisor | f_fraction | f_plus | f_minus | f_common_bottom | f_columns_of | f_cleared | f_with_pivot | f_lessened | f_swept | f_cleared_together | f_solved | f_row_times_column | f_multiplied | f_ends_by_wire | f_pulls_of | f_points_of | f_points_within | f_pull_grid | f_heights_for | f_flows_for | f_heights_of | f_flows_of | f_Lcell_at | f_Lbig | f_Llow | f_Lworth_of | f_Lmates | f_Lcorners | f_Lcorner_behind | f_Lregion | f_Lgrown | f_Lnames | f_Lbegun | f_Lnet_by | f_Lcopy | f_Lsmall | f_Ladd | f_Lmul | f_Lless | f_Lwhole | f_Ldigit | f_Lis_fraction | f_Lnumber_of | f_Lties | f_Lsetting | f_Ldue | f_law=>refine' L2.rz_ KX G ?a ?l ?c ?k; (case a=>k_is); (case l=>k_is); (case c=>k_is); (case k=>k_is)
