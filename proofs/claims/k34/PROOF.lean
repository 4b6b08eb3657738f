import PyProof.Rows.All
import Wide.All
import OpenK.AllK
import Wide.FinOn
import Lean
import PyProof.EqAt
import PyProof.EqKinds
import PyProof.TupleCall
import PySem.Challenge.RW_rimread_k34_stars
local macro_rules | `(tactic| rfl') => `(tactic| decide +kernel)
local macro_rules | `(tactic| lia)=>`(tactic| first|lia -verbose|omega)
set_option Elab.async false
set_option linter.all false
set_option maxRecDepth 100000
set_option maxHeartbeats 4000000
set_option compiler.extract_closed false
def Aa_:=@List.getElem?_eq_getElem
def Ab_:=@List.length_map
def Ac_:=@List.getD_eq_getElem?_getD
def Ad_:=@PySem.wpAny_bind
def Ae_:=@List.getElem?_map
def Af_:=@Nat.le_refl
def Ag_:=@List.getElem?_eq_some_iff
def Ah_:=@List.length_append
def Ai_:=@List.mem_singleton
def Aj_:=@PySem.Heap.get?_push_of_some
def Ak_:=@List.mem_of_getElem?
def Al_:=@List.mem_map
def Am_:=@List.size_toArray
def An_:=@List.mem_cons_of_mem
def Ao_:=@List.mem_cons
def Ap_:=@List.map_append
def Aq_:=@Option.some.inj
def Ar_:=@List.mem_iff_getElem
def As_:=@PySem.Heap.lt_size
def At_:=@List.mem_cons_self
def Au_:=@PySem.PassesOwn.never
def Av_:=@PySem.wpAny_pure
def Aw_:=@PySem.F.plainAttrs_list
def Ax_:=@List.mem_append
def Ay_:=@Nat.le_trans
def Az_:=@decide_eq_false
def AA_:=@Nat.zero_le
def AB_:=@List.map_cons
def AC_:=@Int.toNat_natCast
def AD_:=@PySem.Heap.get?_push_size
def AE_:=@Nat.ne_of_lt
def AF_:=@Nat.lt_of_lt_of_le
def AG_:=@of_decide_eq_true
def AH_:=@List.length_cons
def AI_:=@Bool.false_ne_true
def AJ_:=@List.flatten_cons
def AK_:=@PySem.F.slot_list_append
def AL_:=@PySem.F.type_list_append
def AM_:=@List.mem_append_right
def AN_:=@Int.emod_lt_of_pos
def AO_:=@List.length_take
def AP_:=@List.getElem?_append_left
def AQ_:=@decide_eq_true
def AR_:=@Nat.le_of_lt
def AS_:=@Int.emod_nonneg
def AT_:=@List.take_of_length_le
def AU_:=@List.getElem?_inj
def AV_:=@List.mem_append_left
def AW_:=@List.nodup_cons
def AX_:=@PySem.Heap.get?_update_other
def AY_:=@PyProof.Rows.bits_of_natAbs_le
def AZ_:=@PySem.wpAny_holding
def A0_:=@List.nodup_append
def A1_:=@List.getElem_mem
def A2_:=@List.getElem?_append_right
def A3_:=@List.mem_range
def A4_:=@List.length_singleton
def A5_:=@List.append_assoc
def A6_:=@List.flatten_append
def A7_:=@PySem.Around.in1_units
def A8_:=@List.not_mem_nil
def A9_:=@List.mem_filter
def Ba_:=@List.length_range
def Bb_:=@List.take_append_drop
def Bc_:=@PyProof.Rows.bits_mul
def Bd_:=@List.append_nil
def Be_:=@List.take_succ
def Bf_:=@List.map_map
def Bg_:=@Array.getD_eq_getD_getElem?
def Bh_:=@List.nodup_nil
def Bi_:=@Array.perm_iff_toList_perm
def Bj_:=@List.getElem?_set
def Bk_:=@List.eq_nil_of_length_eq_zero
def Bl_:=@PySem.wpAny_mono
def Bm_:=@of_decide_eq_false
def Bn_:=@PySem.mem_of_lookup
def Bo_:=@List.pairwise_map
def Bp_:=@List.length_filter_le
def Bq_:=@List.length_set
def Br_:=@Int.mul_pos
def Bs_:=@PyProof.Rows.callWith_type1
def Bt_:=@PySem.wpAny_Call_Name_kw
def Bu_:=@List.mem_flatten
def Bv_:=@Nat.lt_irrefl
def Bw_:=@Int.zero_add
def Bx_:=@Sum.inr.inj
def By_:=@PySem.wpAny_pyNext_list_item
def Bz_:=@List.count_append
def BA_:=@List.getElem?_eq_none
def BB_:=@PyProof.Rows.bits_add
def BC_:=@Nat.lt_of_le_of_lt
def BD_:=@List.filter_append
def BE_:=@Prod.mk.inj
def BF_:=@PySem.F.plainAttrs_dict
def BG_:=@List.filter_cons_of_neg
def BH_:=@List.filter_cons_of_pos
def BI_:=@Nat.lt_succ_of_lt
def BJ_:=@List.range_succ
def BK_:=@List.filterMap_cons
def BL_:=@Nat.succ_le_succ
def BM_:=@decide_eq_decide
def BN_:=@List.getLast?_append
def BO_:=@List.map_congr_left
def BP_:=@List.length_pos_iff
def BQ_:=@List.lookup_cons
def BR_:=@List.dropLast_concat_getLast
def BS_:=@PySem.Calls.callWith_builtin
def BT_:=@Nat.mod_lt
def BU_:=@List.mem_filterMap
def BV_:=@PySem.codeAny_mono
def BW_:=@List.count_eq_zero
def BX_:=@Bool.false_eq_true
def BY_:=@PyProof.Rows.F.plain_set_update_loop
def BZ_:=@PySem.wpAny_passesOwn
def B0_:=@Bool.eq_iff_iff
def B1_:=@PySem.F.slot_dict_get
def B2_:=@List.any_cons
def B3_:=@Array.getElem?_eq_some_iff
def B4_:=@PySem.wpAny_pyIter_list
def B5_:=@List.mem_of_find?_eq_some
def B6_:=@PySem.wpAny_field
def B7_:=@PySem.Heap.size_push
def B8_:=@Nat.le_add_right
def B9_:=@Prod.ext
def Ca_:=@Nat.mod_eq_of_lt
def Cb_:=@List.take_length
def Cc_:=@List.length_reverse
def Cd_:=@Int.fdiv_eq_ediv_of_dvd
def Ce_:=@Option.map_some
def Cf_:=@PySem.Calls.spliced_cons
def Cg_:=@List.find?_cons
def Ch_:=@PySem.tupleKind_room_in1
def Ci_:=@List.count_pos_iff
def Cj_:=@decide_eq_true_iff
def Ck_:=@List.filter_map
def Cl_:=@Option.some.injEq
def Cm_:=@PySem.wpAny_newObj_type
def Cn_:=@Int.gcd_dvd_right
def Co_:=@List.map_nil
def Cp_:=@PySem.Heap.get?_update_self
def Cq_:=@PySem.wpAny_setField
def Cr_:=@PySem.F.slot_dict_setdefault
def Cs_:=@List.sublist_flatten_of_mem
def Ct_:=@List.length_drop
def Cu_:=@Bool.and_eq_true
def Cv_:=@PySem.Calls.evalArgs_plain
def Cw_:=@Nat.not_lt
def Cx_:=@PySem.Around.under_plainId
def Cy_:=@PySem.wpAny_standAt
def Cz_:=@beq_eq_false_iff_ne
def CA_:=@List.flatMap_append
def CB_:=@List.getElem?_range
def CC_:=@List.filter_eq_self
def CD_:=@PySem.wpAny_execs_nil
def CE_:=@Nat.min_eq_left
def CF_:=@List.count_cons
def CG_:=@PySem.codeAny_builtin
def CH_:=@PySem.W.callWith_K
def CI_:=@PySem.wpAny_comprehension_free
def CJ_:=@PySem.Obj.data_mapFields
def CK_:=@Nat.zero_add
def CL_:=@List.set_cons_zero
def CM_:=@List.set_cons_succ
def CN_:=@PyProof.Rows.F.entry_set_update_loop
def CO_:=@PySem.F.slot_list_insert
def CP_:=@PySem.F.type_list_insert
def CQ_:=@PySem.call_meets
def CR_:=@PySem.wpAny_truthy_bool
def CS_:=@PySem.Calls.spliced_nil
def CT_:=@Decidable.not_not
def CU_:=@Int.mul_nonpos_of_nonpos_of_nonneg
def CV_:=@PySem.sizeLine_eq
def CW_:=@PySem.W.cellsFrom_some
def CX_:=@Option.map_eq_some_iff
def CY_:=@PySem.F.entry_dict_get
def CZ_:=@List.head?_eq_getElem?
def C0_:=@List.length_eq_one_iff
def C1_:=@if_false
def C2_:=@or_false
def C3_:=@Option.getD_some
def C4_:=@List.ext_getElem
def C5_:=@List.perm_middle
def C6_:=@Nat.min_le_right
def C7_:=@PySem.wpAny_pyNext_list_end
def C8_:=@List.contains_iff_mem
def C9_:=@PySem.Obj.isFreed_of_fields
def Da_:=@Array.getElem?_setIfInBounds_ne
def Db_:=@PySem.wpAny_rule
def Dc_:=@PySem.wpAny_call
def Dd_:=@List.of_mem_zip
def De_:=@PySem.SeqAt.EqAt.same
def Df_:=@PySem.pushCells_keeps
def Dg_:=@PySem.call_meetsIn
def Dh_:=@Nat.sub_self
def Di_:=@PyProof.Rows.get?_update_seq
def Dj_:=@List.eq_nil_iff_forall_not_mem
def Dk_:=@List.nil_append
def Dl_:=@Nat.succ.inj
def Dm_:=@exists_eq_left'
def Dn_:=@List.find?_some
def Do_:=@Int.mul_ne_zero
def Dp_:=@List.take_append_of_le_length
def Dq_:=@PySem.W.hideAll_get
def Dr_:=@Array.length_toList
def Ds_:=@PySem.Heap.SameBut.update
def Dt_:=@PySem.F.type_dict_setdefault
def Du_:=@List.not_lt
def Dv_:=@Nat.log2_lt
def Dw_:=@PySem.W.of_hideAll
def Dx_:=@PyProof.Rows.assignInOrder_cons
def Dy_:=@PySem.SeqAt.EqAt.of_refs
def Dz_:=@PySem.Calls.Name_function_global
def DA_:=@PySem.wpAny_newFunctionEnv_cells
def DB_:=@List.all_cons
def DC_:=@PyProof.Rows.listUpdate_at
def DD_:=@PySem.wpAny_newList
def DE_:=@PySem.plainId_quiet
def DF_:=@List.map_take
def DG_:=@PySem.Heap.get?_push_ne
def DH_:=@Option.isSome_map
def DI_:=@List.filter_congr
def DJ_:=@List.getElem?_eq_none_iff
def DK_:=@Int.natAbs_ediv_le_natAbs
def DL_:=@List.drop_eq_getElem_cons
def DM_:=@List.mem_or_eq_of_mem_set
def DN_:=@Classical.byContradiction
def DO_:=@PySem.wpAny_execs_cons
def DP_:=@Nat.ne_of_gt
def DQ_:=@Option.isSome_iff_exists
def DR_:=@PyProof.noPylong_of_log2
def DS_:=@Nat.lt_succ_self
def DT_:=@beq_self_eq_true
def DU_:=@List.cons_append
def DV_:=@List.any_eq_true
def DW_:=@Int.gcd_dvd_left
def DX_:=@Int.le_of_lt
def DY_:=@Int.mul_ediv_cancel_left
def DZ_:=@List.flatten_nil
def D0_:=@PySem.wpAny_call_entry
def D1_:=@PySem.F.slot_dict_values
def D2_:=@List.map_flatten
def D3_:=@List.Pairwise.imp_of_mem
def D4_:=@Int.natCast_emod
def D5_:=@List.getElem?_replicate
def D6_:=@PySem.wpAny_Call_method0_late
def D7_:=@PySem.F.args_dict_get_3
def D8_:=@List.getElem?_cons_succ
def D9_:=@decide_eq_false_iff_not
def Ea_:=@PySem.wpAny_callSpecial?_slot
def Eb_:=@Int.eq_ofNat_of_zero_le
def Ec_:=@Int.gcd_natCast_natCast
def Ed_:=@List.length_nil
def Ee_:=@PySem.wpAny_specialOf
def Ef_:=@List.getElem?_set_self
def Eg_:=@PySem.seqIndex_of
def Eh_:=@PyProof.Rows.subscriptTail_builtinR
def Ei_:=@Nat.le_succ
def Ej_:=@List.length_pos_of_mem
def Ek_:=@PyProof.Rows.seqEpoch_at
def El_:=@List.filter_eq_nil_iff
def Em_:=@Array.getElem?_eq_none
def En_:=@PySem.wpAny_isTrue_Compare1
def Eo_:=@PySem.wpAny_pyIter_listiter
def Ep_:=@List.length_replicate
def Eq_:=@PySem.codeAny_call_function
def Er_:=@PySem.F.type_dict_get
def Es_:=@List.getElem_set_self
def Et_:=@PySem.wpAny_seqItems
def Eu_:=@PySem.wpAny_notOrdered_dict
def Ev_:=@Int.natAbs_dvd_natAbs
def Ew_:=@PySem.Heap.get?_none_of_le
def Ex_:=@List.getElem?_set_ne
def Ey_:=@PySem.SeqAt.EqAt.bool_bool
def Ez_:=@bne_iff_ne
def EA_:=@PySem.W.kat_cons
def EB_:=@PySem.codeAny_call_builtin
def EC_:=@List.replicate_succ'
def ED_:=@List.getElem_zipWith
def EE_:=@PySem.Paired.length
def EF_:=@PySem.W.mg_of
def EG_:=@List.map_drop
def EH_:=@PySem.evalArgs_none
def EI_:=@PySem.W.looks_mroIn
def EJ_:=@Int.neg_ediv_of_dvd
def EK_:=@List.filter_sublist
def EL_:=@List.getD_cons_zero
def EM_:=@List.getD_cons_succ
def EN_:=@List.getElem_set_ne
def EO_:=@PyProof.Rows.getElem?_mirror_all
def EP_:=@PyProof.Rows.slot_tupleiter_next
def EQ_:=@PySem.seqIndex_neg
def ER_:=@PySem.wpAny_typeOf
def ES_:=@Nat.add_comm
def ET_:=@Sum.inl.inj
def EU_:=@Int.neg_gcd
def EV_:=@Int.add_pos
namespace L2
open PySem PySem.Spec PyProof.Rows
abbrev Key:=Sum Int Str
def Ig_:Key->Value->Bool
 | .inl k,v=>Value.isInt k v
 | .inr x,v=>Value.isStrOf x v
def keyH (w:World):Key->Int
 | .inl k=>hashInt k
 | .inr x=>hashStr w x
theorem bj_:∀ {k:Key}{v:Value},Ig_ k v=true->(∃ i t,k=Sum.inl i/\v=Value.int i t)\/(∃ x t,k=Sum.inr x/\v=Value.str x t)
 | .inl i,v,h=>by
  obtain ⟨t,e⟩:=Value.isInt_shape (k:=i) (v:=v) h;exact .inl ⟨i,t,rfl,e⟩
 | .inr x,v,h=>by obtain ⟨t,e⟩:=Value.isStrOf_shape (x:=x) (v:=v) h;exact .inr ⟨x,t,rfl,e⟩
theorem mS_ (i:Int)(t:Tok):Ig_ (.inl i) (.int i t)=true:=by simp [Ig_,Value.isInt]
theorem mT_ (x:Str)(t:Tok):Ig_ (.inr x) (.str x t)=true:=by simp [Ig_,Value.isStrOf]
theorem qC_ (a b:Int):decide ((Sum.inl a:Key)=Sum.inl b)=(a == b):=by
 by_cases e:a=b
 ·subst e;simp
 ·have h:¬ (Sum.inl a:Key)=Sum.inl b:=fun q=>e (ET_ q);rw [Az_ h];exact (Cz_.mpr e).symm
theorem qD_ (a b:Str):decide ((Sum.inr a:Key)=Sum.inr b)=decide (a=b):=by
 by_cases e:a=b
 ·subst e;simp
 ·have h:¬ (Sum.inr a:Key)=Sum.inr b:=fun q=>e (Bx_ q);rw [Az_ h,Az_ e]
theorem qE_ (a:Int)(b:Str):decide ((Sum.inl a:Key)=Sum.inr b)=false:=Az_ (fun q=>nomatch q)
theorem qF_ (a:Str)(b:Int):decide ((Sum.inr a:Key)=Sum.inl b)=false:=Az_ (fun q=>nomatch q)
def Fa_ (prog:Program)(w:World):PySem.KeyKind prog w Key where
 is:=Ig_
 hash:=keyH w
 inj:=fun v a b ha hb=>by
  rcases bj_ ha with ⟨i,t,rfl,rfl⟩|⟨x,t,rfl,rfl⟩
  ·rcases bj_ hb with ⟨j,u,rfl,e⟩|⟨y,u,rfl,e⟩
   ·injection e with e1 _;rw [e1]
   ·exact nomatch e
  ·rcases bj_ hb with ⟨j,u,rfl,e⟩|⟨y,u,rfl,e⟩
   ·exact nomatch e
   ·injection e with e1 _;rw [e1]
 byValue:=fun k v h=>by rcases bj_ h with ⟨i,t,rfl,rfl⟩|⟨x,t,rfl,rfl⟩ <;> rfl
 pyHash:=fun hv h=>by
  rcases bj_ hv with ⟨i,t,rfl,rfl⟩|⟨x,t,rfl,rfl⟩
  ·exact wpAny_pyHash_int h
  ·exact wpAny_pyHash_str h
 eqBool:=fun hu hv h=>by
  rcases bj_ hu with ⟨i,t,rfl,rfl⟩|⟨x,t,rfl,rfl⟩
  ·rcases bj_ hv with ⟨j,u,rfl,rfl⟩|⟨y,u,rfl,rfl⟩
   ·rw [qC_] at h;exact wpAny_eqBool_int h
   ·rw [qE_] at h;exact SeqAt.EqAt.int_str i t y u _ _ _ _ h
  ·rcases bj_ hv with ⟨j,u,rfl,rfl⟩|⟨y,u,rfl,rfl⟩
   ·rw [qF_] at h;exact SeqAt.EqAt.str_int x t j u _ _ _ _ h
   ·rw [qD_] at h;exact wpAny_eqBool_str h
 «strs»:=fun k x t v h=>by
  rcases bj_ h with ⟨i,u,rfl,e⟩|⟨y,u,rfl,e⟩
  ·exact nomatch e
  ·injection e with e1 _
   subst e1;cases v <;> rfl
theorem la_ (prog:Program)(w:World)(i:Int)(t:Tok):(Fa_ prog w).is (.inl i) (.int i t)=true:=mS_ i t
theorem lb_ (prog:Program)(w:World)(x:Str)(t:Tok):(Fa_ prog w).is (.inr x) (.str x t)=true:=mT_ x t
end L2
namespace L2
open PySem PySem.Spec PyProof.Rows
inductive V where
 | non|bl (b:Bool)|int (i:Int)|str (x:Str)|byt (b:Array UInt8)|flt (b:UInt64)|ref (a:Addr)|ty (n:String)
 deriving DecidableEq
def Fs_:V->Value->Prop
 | .non,u=>u=Value.none
 | .bl b,u=>u=Value.bool b
 | .int i,u=>∃ t,u=Value.int i t
 | .str x,u=>∃ t,u=Value.str x t
 | .byt b,u=>∃ t,u=Value.bytes b t
 | .flt b,u=>∃ t,u=Value.float b t
 | .ref a,u=>u=Value.ref a
 | .ty n,u=>u=Value.type n
abbrev Fm_:List V->List Value->Prop:=Paired Fs_
theorem Fm_.length {xs:List V}{us:List Value}(r:Fm_ xs us):xs.length=us.length:=EE_ r
theorem Fm_.get:∀ {xs:List V}{us:List Value}{i:Nat}{x:V},Fm_ xs us->xs[i]?=some x->∃ u,us[i]?=some u/\Fs_ x u
 | _,_,_,_,.nil,e=>by simp at e
 | _,_,0,_,.cons r _,e=>by simp at e;subst e;exact ⟨_,rfl,r⟩
 | _,_,i+1,x,.cons _ t,e=>by obtain ⟨u,h1,h2⟩:=Fm_.get (i:=i) (x:=x) t (by simpa using e);exact ⟨u,by simpa using h1,h2⟩
theorem Fm_.set {x:V}{u:Value}(r:Fs_ x u):∀ {xs:List V}{us:List Value}(i:Nat),Fm_ xs us->Fm_ (xs.set i x) (us.set i u)
 | _,_,_,.nil=>.nil
 | _,_,0,.cons _ t=>.cons r t
 | _,_,i+1,.cons q t=>.cons q (Fm_.set r i t)
theorem Fm_.append:∀ {xs ys:List V}{us ws:List Value},Fm_ xs us->Fm_ ys ws->Fm_ (xs++ys) (us++ws)
 | _,_,_,_,.nil,s=>s
 | _,_,_,_,.cons r t,s=>.cons r (Fm_.append t s)
theorem Fm_.take:∀ {xs:List V}{us:List Value}(n:Nat),Fm_ xs us->Fm_ (xs.take n) (us.take n)
 | _,_,0,_=>.nil
 | _,_,_+1,.nil=>.nil
 | _,_,n+1,.cons r t=>.cons r (Fm_.take n t)
theorem Fm_.drop:∀ {xs:List V}{us:List Value}(n:Nat),Fm_ xs us->Fm_ (xs.drop n) (us.drop n)
 | _,_,0,r=>r
 | _,_,_+1,.nil=>.nil
 | _,_,n+1,.cons _ t=>Fm_.drop n t
def Iw_:Option V->Option Value->Prop
 | some v,some u=>Fs_ v u
 | none,none=>True
 | _,_=>False
def KV {κ:Type}:List (κ×V)->List (κ×Value)->Prop:=Paired fun (p:κ×V)(q:κ×Value)=>p.1=q.1/\Fs_ p.2 q.2
def kV:Key->V
 | .inl i=>.int i
 | .inr x=>.str x
inductive HO where
 | lst (xs:List V)
 | tup (xs:List V)
 | dK (kvs:List (Key×V))|dT (kvs:List (List Key×V))
 | set (S:Int->Bool) (n:Nat)
 | ins (C dx:Addr) (fs:List (Str×V))
 | own (x:Addr)
 | xd (fs:List (Str×V))
 | met (f x:Addr)
 | rng (lo hi:Int)
 | frz (o:Obj) (u:HO)
 | tbl (ps:Array Value)
 | ext (φ:Heap->Prop)
abbrev Hp:=Addr->Option HO
def upd (H:Hp)(a:Addr)(o:HO):Hp:=fun b=>if b=a then some o else H b
theorem aa_ {H:Hp}{a:Addr}{o:HO}:upd H a o a=some o:=by unfold upd;rw [if_pos rfl]
theorem ah_ {H:Hp}{a b:Addr}{o:HO}(h:b≠a):upd H a o b=H b:=by unfold upd;rw [if_neg h]
theorem pM_ {H:Hp}{a:Addr}{o u:HO}:upd (upd H a o) a u=upd H a u:=by funext b;unfold upd;split <;> rfl
theorem LI_ {H:Hp}{a b:Addr}{o u:HO}(h:H a=some o)(h':H b=some u)(d:o≠u):a≠b:=by intro e;subst e;rw [h] at h';exact d (Aq_ h')
theorem af_ {H:Hp}{a b:Addr}{o:HO}(h:H a=some o)(h':H b=none):a≠b:=by intro e;subst e;rw [h] at h';cases h'
section
variable (P:Program)(w:World)
def FD_ (H:Hp)(h:Heap)(a:Addr):HO->Prop
 | .lst xs=>xs.length<=sizeLine/\∃ (its:List Value)(n:Nat),Fm_ xs its/\h.get? a=some { cls:=.type "list",data:=.seq its.toArray n }
 | .tup xs=>xs.length<=sizeLine/\∃ its:List Value,Fm_ xs its/\IsTup h a its.toArray
 | .dK kvs=>kvs.length<=sizeLine/\(a == sysModules)=false/\∃ vs,KV kvs vs/\h.DictOf (Fa_ P w) a vs
 | .dT kvs=>kvs.length<=sizeLine/\(a == sysModules)=false/\∃ xs:List (List Key×Addr×Value),
   Paired (fun (p:List Key×V)(q:List Key×Addr×Value)=>p.1=q.1/\H q.2.1=some (.tup (p.1.map kV))/\Fs_ p.2 q.2.2) kvs xs /\
   ∃ o es ep,h.get? a=some o/\o.ExactDict/\o.data=.dict es ep/\es.toList=xs.map (entryOfKey (tupleKind (Fa_ P w)))/\(xs.map (·.1)).Nodup
 | .set S n=>h.SetOf (intKind P w) a S n
 | .ins C dx fs=>H dx=some (.own a)/\fs.length<=1000/\dx≠a/\h.get? a=some (PySem.W.instObj C dx) /\
   ∃ mA,h.Ns1 dx mA/\(∀ f,Iw_ (fs.lookup f) (mA f))/\PySem.Within mA (fs.map (·.1))
 | .own _=>∃ o,h.get? a=some o
 | .xd fs=>∃ mA,h.Ns1 a mA/\∀ f,Iw_ (fs.lookup f) (mA f)
 | .rng lo hi=>∃ t u v,h.get? a=some { cls:=.type "range",data:=.fields #[.int lo t,.int hi u,.int 1 v] }
 | .frz o u=>h.get? a=some o/\FD_ H h a u
 | .tbl ps=>h.get? a=some { cls:=.none,data:=.fields ps }
 | .met f x=>h.get? a=some (PySem.W.methodObj (.ref f) (.ref x))
 | .ext φ=>φ h/\(∃ o,h.get? a=some o)/\∀ h1 h2:Heap,φ h1->(∀ o,h1.get? a=some o->h2.get? a=some o)->φ h2
def HOk (H:Hp)(h:Heap):Prop:=∀ a o,H a=some o->FD_ P w H h a o
end
section
variable {P:Program}{w:World}{H H':Hp}{h h':Heap}{a:Addr}{o:HO}
theorem FD_.lt (x:FD_ P w H h a o):a<h.objs.size:=by
 cases o with
 | lst xs=>obtain ⟨_,_,_,_,e⟩:=x;exact As_ e
 | tup xs=>obtain ⟨_,_,_,p⟩:=x;exact p.lt
 | dK kvs=>obtain ⟨_,_,_,_,o,_,_,e,_⟩:=x;exact As_ e
 | dT kvs=>obtain ⟨_,_,_,_,o,_,_,e,_⟩:=x;exact As_ e
 | set S n=>obtain ⟨o,_,_,_,e,_⟩:=x;exact As_ e
 | ins C dx fs=>obtain ⟨_,_,_,e,_⟩:=x;exact As_ e
 | own y=>obtain ⟨_,e⟩:=x;exact As_ e
 | xd fs=>obtain ⟨_,⟨_,_,_,e,_⟩,_⟩:=x;exact As_ e
 | rng lo hi=>obtain ⟨_,_,_,e⟩:=x;exact As_ e
 | frz ob u=>obtain ⟨e,_⟩:=x;exact As_ e
 | tbl ps=>exact As_ (show h.get? a=some _ from x)
 | met f y=>exact As_ (show h.get? a=some _ from x)
 | ext φ=>obtain ⟨_,⟨_,e⟩,_⟩:=x;exact As_ e
theorem Paired.mapP {α β:Type}{F G:α->β->Prop}:∀ {l₁:List α}{l₂:List β},Paired F l₁ l₂->(∀ a b,F a b->G a b)->Paired G l₁ l₂
 | _,_,.nil,_=>.nil
 | _,_,.cons r t,f=>.cons (f _ _ r) (Paired.mapP t f)
theorem FD_.stay (x:FD_ P w H h a o)(k:∀ b u,(b=a\/H b=some (.own a))->h.get? b=some u->h'.get? b=some u)
  (ho:∀ b,H b=some (.own a)->H' b=some (.own a)) (ht:∀ b xs,H b=some (.tup xs)->H' b=some (.tup xs)):FD_ P w H' h' a o:=by
 induction o with
 | lst xs=>obtain ⟨z,its,n,r,e⟩:=x;exact ⟨z,its,n,r,k _ _ (.inl rfl) e⟩
 | tup xs=>obtain ⟨z,its,r,ob,e,c⟩:=x;exact ⟨z,its,r,ob,k _ _ (.inl rfl) e,c⟩
 | dK kvs=>obtain ⟨z,y,vs,r,ob,es,ep,e,c⟩:=x;exact ⟨z,y,vs,r,ob,es,ep,k _ _ (.inl rfl) e,c⟩
 | dT kvs =>
  obtain ⟨z,y,xs,r,ob,es,ep,e,c⟩:=x;exact ⟨z,y,xs,Paired.mapP r fun p q z=>⟨z.1,ht _ _ z.2.1,z.2.2⟩,ob,es,ep,k _ _ (.inl rfl) e,c⟩
 | set S n=>obtain ⟨ob,es,ep,t,e,c⟩:=x;exact ⟨ob,es,ep,t,k _ _ (.inl rfl) e,c⟩
 | ins C dx fs =>
  obtain ⟨d,z,ne,e,mA,⟨od,es,ep,e2,c⟩,r⟩:=x;exact ⟨ho _ d,z,ne,k _ _ (.inl rfl) e,mA,⟨od,es,ep,k _ _ (.inr d) e2,c⟩,r⟩
 | own y=>obtain ⟨ob,e⟩:=x;exact ⟨ob,k _ _ (.inl rfl) e⟩
 | xd fs=>obtain ⟨mA,⟨od,es,ep,e,c⟩,r⟩:=x;exact ⟨mA,⟨od,es,ep,k _ _ (.inl rfl) e,c⟩,r⟩
 | rng lo hi=>obtain ⟨t,u,v,e⟩:=x;exact ⟨t,u,v,k _ _ (.inl rfl) e⟩
 | frz ob u ih=>obtain ⟨e,q⟩:=x;exact ⟨k _ _ (.inl rfl) e,ih q⟩
 | tbl ps =>
  have e:h.get? a=some { cls:=.none,data:=.fields ps }:=x;show h'.get? a=some { cls:=.none,data:=.fields ps };exact k a _ (.inl rfl) e
 | met f y =>
  have e:h.get? a=some (PySem.W.methodObj (.ref f) (.ref y)):=x;show h'.get? a=some (PySem.W.methodObj (.ref f) (.ref y));exact k a _ (.inl rfl) e
 | ext φ=>obtain ⟨p,⟨o,e⟩,st⟩:=x;exact ⟨st _ _ p fun o q=>k _ _ (.inl rfl) q,⟨o,k _ _ (.inl rfl) e⟩,st⟩
theorem HOk.lt (x:HOk P w H h)(e:H a=some o):a<h.objs.size:=(x a o e).lt
theorem HOk.fresh (x:HOk P w H h)(e:h.objs.size<=a):H a=none:=by
 cases q:H a with
 | none=>rfl
 | some u=>exact absurd (AF_ (x.lt q) e) (Bv_ _)
theorem HOk.kept (x:HOk P w H h)(k:∀ b u,h.get? b=some u->h'.get? b=some u):HOk P w H h':=fun a o e =>
 (x a o e).stay (fun b u _ q=>k b u q) (fun _ q=>q) fun _ _ q=>q
theorem HOk.laid (x:HOk P w H h)(k:∀ b u,h.get? b=some u->h'.get? b=some u)(hp:h.objs.size<=a)(new:FD_ P w (upd H a o) h' a o):HOk P w (upd H a o) h':=fun b u e=>by
 have hn:=x.fresh hp;by_cases hb:b=a
 ·subst hb;rw [aa_] at e;cases e;exact new
 ·rw [ah_ hb] at e;exact (x b u e).stay (fun c v _ q=>k c v q) (fun c q=>by rw [ah_ (af_ q hn)];exact q) fun c xs q=>by rw [ah_ (af_ q hn)];exact q
end
def Rd (H:Hp)(a:Addr)(u:HO):Prop:=H a=some u\/∃ o,H a=some (.frz o u)
theorem Rd.ok {P:Program}{w:World}{H:Hp}{h:Heap}{a:Addr}{u:HO}(r:Rd H a u)(x:HOk P w H h):FD_ P w H h a u:=by
 rcases r with r|⟨o,r⟩
 ·exact x a u r
 ·obtain ⟨_,q⟩:=x a _ r;exact q
def Mut:Option HO->Prop
 | some (.lst _)=>True
 | some (.dK _)=>True
 | some (.dT _)=>True
 | some (.set _ _)=>True
 | some (.ins _ _ _)=>True
 | some (.ext _)=>True
 | _=>False
section
variable {P:Program}{w:World}{H:Hp}{h h':Heap}{x e:Addr}{o':HO}
theorem HOk.write (ok:HOk P w H h)(mu:Mut (H x))(he:e=x\/H e=some (.own x))(k:∀ b u,b≠e->h.get? b=some u->h'.get? b=some u)(heo:∃ u,h'.get? e=some u)
  (new:FD_ P w (upd H x o') h' x o'):HOk P w (upd H x o') h':=fun b u q=>by
 have nown:∀ c y,H c=some (.own y)->c≠x:=fun c y r z=>by subst z;rw [r] at mu;exact mu
 have ntup:∀ c xs,H c=some (.tup xs)->c≠x:=fun c xs r z=>by subst z;rw [r] at mu;exact mu
 by_cases hb:b=x
 ·subst hb;rw [aa_] at q;cases q;exact new
 ·rw [ah_ hb] at q;by_cases hbe:b=e
  ·have q':H b=some (.own x):=by
    rcases he with z|z
    ·exact absurd (hbe.trans z) hb
    ·rw [hbe];exact z
   rw [q] at q';cases q';obtain ⟨v,hv⟩:=heo;exact ⟨v,by rw [hbe];exact hv⟩
  ·refine (ok b u q).stay (fun c v hc r=>k c v ?_ r) (fun c r=>by rw [ah_ (nown c b r)];exact r) fun c xs r=>by rw [ah_ (ntup c xs r)];exact r
   rcases hc with rfl|hc
   ·exact hbe
   ·rintro rfl
    rcases he with z|z
    ·exact nown c b hc z
    ·rw [hc] at z;cases z;exact hb rfl
end
structure Un (fs ex:List Addr)(H H':Hp)(h h':Heap):Prop where
 keep:∀ b o,h.get? b=some o->H b=none->b∉fs->b∉ex->h'.get? b=some o
 slot:∀ b o,h.get? b=some o->H b=none->b∈fs->b∉ex->∃ sl,h'.get? b=some { o with slots:=sl }
 free:∀ b o,h.get? b=some o->H b=none->b∉ex->H' b=none
 there:∀ b o,h.get? b=some o->b∉ex->∃ o',h'.get? b=some o'
 tups:∀ b xs,H b=some (.tup xs)->H' b=some (.tup xs)
 frzs:∀ b o u,H b=some (.frz o u)->H' b=some (.frz o u)
 tbls:∀ b ps,H b=some (.tbl ps)->∃ more,H' b=some (.tbl (ps++more))
section
variable {fs fs' ex ex':List Addr}{H H1 H2:Hp}{h h1 h2 h':Heap}{a x e:Addr}{o:HO}
theorem Un.any (u:Un fs ex H H1 h h1){b:Addr}{ob:Obj}(q:h.get? b=some ob)(n:H b=none)(hx:b∉ex):∃ sl,h1.get? b=some { ob with slots:=sl }:=by
 by_cases hb:b∈fs
 ·exact u.slot b ob q n hb hx
 ·exact ⟨ob.slots,u.keep b ob q n hb hx⟩
theorem Un.kept (k:∀ b u,h.get? b=some u->h'.get? b=some u):Un fs ex H H h h' :=
 ⟨fun b ob q _ _ _=>k b ob q,fun b ob q _ _ _=>⟨ob.slots,k b ob q⟩,fun _ _ _ n _=>n,fun b ob q _=>⟨ob,k b ob q⟩,fun _ _ q=>q,fun _ _ _ q=>q,fun _ ps q=>⟨#[],by rw [q];simp⟩⟩
theorem Un.refl:Un fs ex H H h h:=Un.kept fun _ _ q=>q
theorem Un.laid (k:∀ b u,h.get? b=some u->h'.get? b=some u)(hp:h.objs.size<=a)(hn:H a=none):Un fs ex H (upd H a o) h h' where
 keep:=fun b u q _ _ _=>k b u q
 slot:=fun b u q _ _ _=>⟨u.slots,k b u q⟩
 free:=fun b u q n _=>by rw [ah_ (AE_ (AF_ (As_ q) hp))];exact n
 there:=fun b u q _=>⟨u,k b u q⟩
 tups:=fun b xs q=>by rw [ah_ (af_ q hn)];exact q
 frzs:=fun b u xs q=>by rw [ah_ (af_ q hn)];exact q
 tbls:=fun b ps q=>⟨#[],by rw [ah_ (af_ q hn),q];simp⟩
theorem Un.write (mu:Mut (H x))(he:e=x\/H e=some (.own x))(k:∀ b u,b≠e->h.get? b=some u->h'.get? b=some u)(heo:∃ u,h'.get? e=some u):Un fs ex H (upd H x o) h h':=by
 have hx:∀ b,H b=none->b≠x:=fun b n z=>by subst z;rw [n] at mu;exact mu
 have hb:∀ b,H b=none->b≠e:=fun b n z=>by
  subst z
  rcases he with r|r
  ·exact hx b n r
  ·rw [n] at r;cases r
 have hm:∀ b u,H b=some u->¬ Mut (some u)->b≠x:=fun b u q nm z=>by subst z;rw [q] at mu;exact nm mu
 refine ⟨fun b u q n _ _=>k b u (hb b n) q,fun b u q n _ _=>⟨u.slots,k b u (hb b n) q⟩,fun b u q n _=>by rw [ah_ (hx b n)];exact n,fun b u q _=>?_,
  fun b xs q=>by rw [ah_ (hm b _ q fun z=>z)];exact q,fun b u xs q=>by rw [ah_ (hm b _ q fun z=>z)];exact q,fun b ps q=>⟨#[],by rw [ah_ (hm b _ q fun z=>z),q];simp⟩⟩
 by_cases hbe:b=e
 ·subst hbe;exact heo
 ·exact ⟨u,k b u hbe q⟩
end
def trk (h:Heap)(H:Hp):List Addr:=(List.range h.objs.size).filter fun a=>(H a).isSome
def Jd_ (h:Heap)(H:Hp):Heap:=PySem.W.hideAll h (trk h H)
theorem mU_ (h:Heap)(H:Hp):(Jd_ h H).objs.size=h.objs.size:=PySem.W.hideAll_size _ _
theorem os_ {h:Heap}{H:Hp}{b:Addr}{o:Obj}(e:h.get? b=some o)(n:H b=none):(Jd_ h H).get? b=some o :=
 Dq_ _ e fun hm=>by have q:(H b).isSome=true:=(A9_.mp hm).2;rw [n] at q;simp at q
theorem pN_ {h:Heap}{H:Hp}{b:Addr}{o:Obj}(e:(Jd_ h H).get? b=some o):h.get? b=some o/\H b=none:=by
 have e':h.get? b=some o:=Dw_ (trk h H) e;refine ⟨e',?_⟩;cases q:H b with
 | none=>rfl
 | some x =>have hm:b∈trk h H:=A9_.mpr ⟨A3_.mpr (As_ e'),by simp [q]⟩;have z:(Jd_ h H).get? b=none:=PySem.W.hideAll_none (trk h H) hm;rw [z] at e;cases e
def FN_ (g h:Heap)(L:Addr):List (Addr×Obj):=(List.range h.objs.size).filterMap fun a=>if a=L\/(g.get? a).isSome=true then none else (h.get? a).map fun o=>(a,o)
theorem dF_ {g h:Heap}{L a:Addr}{o:Obj}(h1:a≠L)(h2:g.get? a=none)(h3:h.get? a=some o):(a,o)∈FN_ g h L :=
 BU_.mpr ⟨a,A3_.mpr (As_ h3),by simp [h1,h2,h3]⟩
theorem iL_ {g h:Heap}{L:Addr}{p:Addr×Obj}(hp:p∈FN_ g h L):p.1≠L/\g.get? p.1=none/\h.get? p.1=some p.2:=by
 obtain ⟨b,_,e⟩:=BU_.mp hp;split at e
 ·cases e
 ·rename_i hn;cases q:h.get? b with
  | none=>rw [q] at e;simp at e
  | some u =>
   rw [q] at e;simp only [Ce_,Cl_] at e;subst e;refine ⟨fun z=>hn (.inl z),?_,q⟩;show g.get? b=none;cases r:g.get? b with
   | none=>rfl
   | some v=>exact (hn (.inr (by simp [r]))).elim
def rest (g h:Heap)(L d:Addr):List (Addr×Obj):=(FN_ g h L).filter fun p=>decide (p.1≠d)
theorem jj_ {g h:Heap}{L:Addr}:News g L h (FN_ g h L):=fun p hp=>let ⟨a,b,c⟩:=iL_ hp;⟨c,a,b⟩
end L2
namespace L2
open PySem PySem.Spec PyProof.Rows
structure Mod (K:PySem.W.Frag)(mg:Str->Option Value)(base:Heap):Prop where
 kin:K.In base
 glob:base.Ns mainGlobals mg
 blt:∃ mb,base.Ns builtinsNs mb/\∀ x:Str,x ≠ "__name__" -> mb x=bootBuiltins x
 nolimit:base.NoLimit
structure Cx where
 prog:Program
 w:World
 K:PySem.W.Frag
 mg:Str->Option Value
 base:Heap
 A:Around
 N:List Str
 s₀:Shared
 H₀:Hp
 env:Env
 outer:List Env
 stack:List Env
 ex:List Addr
 fn:Str->Bool
 calm:Bool
 pn:List (Addr×Obj)
 xe:Value->Shared->Prop
def frs (l:List Env):List Addr:=l.filterMap (·.frame)
abbrev Cx.fs (X:Cx):List Addr:=frs X.outer
def Vis (sc:Scope)(x:Str):Prop:=sc.names.lookup x=some .local\/sc.names.lookup x=some .cell\/sc.names.lookup x=some .free
def Loc (sc:Scope)(x:Str):Prop:=sc.names.lookup x=some .local\/sc.names.lookup x=some .cell
def Look (env:Env)(h:Heap)(m:Str->Option Value)(x:Str)(u:Value):Prop :=
 (env.kindOf x=some .local/\m x=some u)\/((env.kindOf x=some .cell\/env.kindOf x=some .free)/\∃ c,env.cells.lookup x=some c/\h.IsCell c (some u))
structure Cx.Ok (X:Cx):Prop where
 mod:Mod X.K X.mg X.base
 kind:X.env.scope.kind=.function
 glob:X.env.globals=mainGlobals
 blt:X.env.builtins=builtinsNs
 above:X.s₀.heap.objs.size<=X.env.locals
 inj:∀ x y c,X.env.cells.lookup x=some c->X.env.cells.lookup y=some c->x=y
 has:∀ x,(X.env.kindOf x=some .cell\/X.env.kindOf x=some .free)->∃ c,X.env.cells.lookup x=some c
 cab:∀ x c,X.fn x=true->X.env.cells.lookup x=some c->X.s₀.heap.objs.size<=c
 hd:X.calm=true->X.A.handled=none
 frames:X.A.frames=some X.stack
 stk:X.stack=X.outer\/(X.stack=X.env::X.outer/\X.env.frame=some X.env.locals)
 exf:∀ b∈X.ex,b≠X.env.locals/\∀ x c,X.env.cells.lookup x=some c->c≠b
 bs:∀ b o,X.base.get? b=some o->X.s₀.heap.get? b=some o/\X.H₀ b=none
 bsz:X.base.objs.size<=X.s₀.heap.objs.size
 noex:∀ b o,X.base.get? b=some o->b∉X.ex
 exfs:∀ b∈X.ex,b∉X.fs
 funs:X.s₀.heap.FunFrames X.base X.outer
 frf:∀ b∈X.fs,X.H₀ b=none
structure Inv (X:Cx)(pins:List (Addr×Obj))(σ:List (Option V))(H:Hp)(s:Shared):Prop where
 ok:X.Ok
 os:s.os=X.s₀.os
 bare:AllBare s.gens
 base:Un X.fs X.ex X.H₀ H X.s₀.heap s.heap
 loc:∃ m,s.heap.Ns X.env.locals m/\∀ (i:Nat)(x:Str)(v:V),X.N[i]?=some x->σ[i]?=some (some v)->Vis X.env.scope x->∃ u,Fs_ v u/\Look X.env s.heap m x u
 cell:∀ x c,X.env.cells.lookup x=some c->∃ v,s.heap.IsCell c v
 free:H X.env.locals=none
 freeC:∀ x c,X.env.cells.lookup x=some c->H c=none
 pin:∀ p∈X.pn++pins,s.heap.get? p.1=some p.2/\H p.1=none/\p.1≠X.env.locals/\p.1∉X.fs/\∀ v,p.2.data≠.cell v
 hok:HOk X.prog X.w H s.heap
 len:σ.length=X.N.length
section
variable {X:Cx}{pins:List (Addr×Obj)}{σ:List (Option V)}{H H':Hp}{s:Shared}{h':Heap}
theorem Cx.Ok.nofr (ok:X.Ok){b:Addr}{o:Obj}(e:X.base.get? b=some o):b∉X.fs:=fun hb=>by have:=(ok.funs.mem hb).1;rw [e] at this;cases this
theorem Inv.bs (I:Inv X pins σ H s):∀ b o,X.base.get? b=some o->s.heap.get? b=some o/\H b=none:=fun b o e =>⟨I.base.keep b o (I.ok.bs b o e).1 (I.ok.bs b o e).2 (I.ok.nofr e) (I.ok.noex b o e),I.base.free b o (I.ok.bs b o e).1 (I.ok.bs b o e).2 (I.ok.noex b o e)⟩
theorem Inv.bk (I:Inv X pins σ H s):∀ b o,X.base.get? b=some o->s.heap.get? b=some o:=fun b o e=>(I.bs b o e).1
theorem Inv.mod (I:Inv X pins σ H s):Mod X.K X.mg X.base:=I.ok.mod
theorem Inv.kIn (I:Inv X pins σ H s):X.K.In s.heap:=I.ok.mod.kin.keeps I.bk
theorem Inv.lt (I:Inv X pins σ H s):X.env.locals<s.heap.objs.size:=let ⟨_,hn,_⟩:=I.loc;hn.lt
theorem Inv.sz (I:Inv X pins σ H s):X.s₀.heap.objs.size<=s.heap.objs.size:=Ay_ I.ok.above (AR_ I.lt)
theorem Inv.nofs (I:Inv X pins σ H s){a:Addr}(h:s.heap.objs.size<=a):a∉X.fs:=fun hb=>by obtain ⟨_,o,ho,_⟩:=I.ok.funs.mem hb;exact absurd (AF_ (As_ ho) (Ay_ I.sz h)) (Bv_ _)
theorem Inv.cne (I:Inv X pins σ H s):∀ x c,X.env.cells.lookup x=some c->c≠X.env.locals:=fun x c e z=>by obtain ⟨v,o,ho,hd⟩:=I.cell x c e;obtain ⟨m,⟨o',es,ep,ho',hd',_⟩,_⟩:=I.loc;rw [z,ho'] at ho;cases ho;rw [hd'] at hd;cases hd
theorem Inv.funs (I:Inv X pins σ H s):s.heap.FunFrames X.base X.outer:=by
 have all:∀ (l:List Env),(∀ b∈frs l,b∈X.fs)->X.s₀.heap.FunFrames X.base l->s.heap.FunFrames X.base l:=by
  intro l
  induction l with
  | nil=>intro _ _;trivial
  | cons env r ih =>intro hs hl;obtain ⟨hk,⟨L,o,hf,hn,ho,hd⟩,hr⟩:=hl;have hL:L∈X.fs:=hs L (by unfold frs;rw [BK_,hf];exact At_);obtain ⟨sl,e⟩:=I.base.slot L o ho (I.ok.frf L hL) hL fun z=>I.ok.exfs L z hL;exact ⟨hk,⟨L,_,hf,hn,e,hd⟩,ih (fun b hb=>hs b (by unfold frs;rw [BK_,hf];exact An_ _ hb)) hr⟩
 exact all X.outer (fun _ hb=>hb) I.ok.funs
theorem Inv.stack (I:Inv X pins σ H s):s.heap.FunFrames X.base X.stack:=by
 rcases I.ok.stk with e|⟨e,hf⟩
 ·rw [e];exact I.funs
 ·rw [e];obtain ⟨m,hn,_⟩:=I.loc;refine .cons (by rw [I.ok.kind];decide) hf hn ?_ I.funs;exact Ew_ (Ay_ I.ok.bsz I.ok.above)
theorem Inv.stkSub (I:Inv X pins σ H s):∀ b∈frs X.stack,b∈X.env.locals::X.fs:=fun b hb=>by
 rcases I.ok.stk with e|⟨e,hf⟩
 ·rw [e] at hb;exact An_ _ hb
 ·rw [e] at hb;unfold frs at hb;rw [BK_,hf] at hb;exact hb
theorem Inv.stkFree (I:Inv X pins σ H s):∀ b∈frs X.stack,H b=none:=fun b hb=>by
 rcases Ao_.mp (I.stkSub b hb) with e|hb
 ·rw [e];exact I.free
 ·obtain ⟨_,o,ho,_⟩:=I.ok.funs.mem hb;exact I.base.free b o ho (I.ok.frf b hb) fun z=>I.ok.exfs b z hb
theorem Inv.step {g':Array GenState}{t':Nat}{d':Drawn}{ch:List Addr}(I:Inv X pins σ H s)
  (hch:∀ b∈ch,(b∈X.ex\/X.s₀.heap.objs.size<=b)/\b≠X.env.locals/\(∀ x c,X.env.cells.lookup x=some c->c≠b)/\∀ p∈X.pn++pins,p.1≠b)
  (keep:∀ b o,b≠X.env.locals->b∉X.fs->b∉ch->s.heap.get? b=some o->H b=none->h'.get? b=some o)
  (slot:∀ b o,b≠X.env.locals->b∈X.fs->b∉ch->s.heap.get? b=some o->H b=none->∃ sl,h'.get? b=some { o with slots:=sl }) (free:∀ b o,b∉ch->s.heap.get? b=some o->H b=none->H' b=none)
  (there:∀ b o,b∉ch->s.heap.get? b=some o->∃ o',h'.get? b=some o')
  (tups:∀ b xs,H b=some (.tup xs)->H' b=some (.tup xs)) (frzs:∀ b o u,H b=some (.frz o u)->H' b=some (.frz o u)) (tbls:∀ b ps,H b=some (.tbl ps)->∃ more,H' b=some (.tbl (ps++more)))
  (ns:∀ m,s.heap.Ns X.env.locals m->h'.Ns X.env.locals m) (hok:HOk X.prog X.w H' h') (hg:AllBare g') :
  Inv X pins σ H' { s with heap:=h',gens:=g',drawn:=d',toks:=t' }:=by
 have neL:∀ b o,X.s₀.heap.get? b=some o->b≠X.env.locals:=fun b o e=>AE_ (AF_ (As_ e) I.ok.above)
 have neC:∀ b o,X.s₀.heap.get? b=some o->b∉X.ex->b∉ch:=fun b o e hx hb=>by
  rcases (hch b hb).1 with z|z
  ·exact hx z
  ·exact absurd (AF_ (As_ e) z) (Bv_ _)
 have cellK:∀ x c,X.env.cells.lookup x=some c->∀ v,s.heap.IsCell c v->h'.IsCell c v:=fun x c e v ⟨o,ho,hd⟩=>by
  have nch:c∉ch:=fun z=>(hch c z).2.2.1 x c e rfl;by_cases hc:c∈X.fs
  ·obtain ⟨sl,q⟩:=slot c o (I.cne x c e) hc nch ho (I.freeC x c e);exact ⟨_,q,hd⟩
  ·exact ⟨o,keep c o (I.cne x c e) hc nch ho (I.freeC x c e),hd⟩
 refine ⟨I.ok,I.os,hg,⟨fun b o e n hb hx=>?_,fun b o e n hb hx=>?_,fun b o e n hx=>?_,fun b o e hx=>?_,fun b xs e=>tups b xs (I.base.tups b xs e),fun b o xs e=>frzs b o xs (I.base.frzs b o xs e),fun b ps e=>?_⟩,?_,fun x c e=>?_,?_,fun x c e=>?_,fun p hp=>?_,hok,I.len⟩
 ·exact keep b o (neL b o e) hb (neC b o e hx) (I.base.keep b o e n hb hx) (I.base.free b o e n hx)
 ·obtain ⟨sl,e1⟩:=I.base.slot b o e n hb hx;obtain ⟨sl',e2⟩:=slot b _ (neL b o e) hb (neC b o e hx) e1 (I.base.free b o e n hx);exact ⟨sl',e2⟩
 ·obtain ⟨o',e1⟩:=I.base.there b o e hx;exact free b o' (neC b o e hx) e1 (I.base.free b o e n hx)
 ·obtain ⟨o',e1⟩:=I.base.there b o e hx;exact there b o' (neC b o e hx) e1
 ·obtain ⟨m1,e1⟩:=I.base.tbls b ps e;obtain ⟨m2,e2⟩:=tbls b _ e1;exact ⟨m1++m2,by rw [e2,Array.append_assoc]⟩
 ·obtain ⟨m,hn,hl⟩:=I.loc;refine ⟨m,ns m hn,fun i x v e1 e2 e3=>?_⟩;obtain ⟨u,r,l⟩:=hl i x v e1 e2 e3;refine ⟨u,r,?_⟩
  rcases l with l|⟨k,c,e,z⟩
  ·exact .inl l
  ·exact .inr ⟨k,c,e,cellK x c e _ z⟩
 ·obtain ⟨v,z⟩:=I.cell x c e;exact ⟨v,cellK x c e v z⟩
 ·obtain ⟨m,⟨o,_,_,ho,_⟩,_⟩:=I.loc;exact free _ o (fun z=>(hch _ z).2.1 rfl) ho I.free
 ·obtain ⟨v,o,ho,hd⟩:=I.cell x c e;exact free c o (fun z=>(hch c z).2.2.1 x c e rfl) ho (I.freeC x c e)
 ·obtain ⟨e,n,ne,nf,d⟩:=I.pin p hp;have nch:p.1∉ch:=fun z=>(hch p.1 z).2.2.2 p hp rfl;exact ⟨keep p.1 p.2 ne nf nch e n,free p.1 p.2 nch e n,ne,nf,d⟩
theorem Inv.un {t':Nat}(I:Inv X pins σ H s)(u:Un X.fs [] H H' s.heap h')(hok:HOk X.prog X.w H' h'):Inv X pins σ H' { s with heap:=h',toks:=t' }:=by
 obtain ⟨m,⟨o,es,ep,ho,r⟩,_⟩:=id I.loc;obtain ⟨sl,hL⟩:=u.any ho I.free (by simp);exact I.step (g':=s.gens) (d':=s.drawn) (ch:=[]) (fun _ z=>nomatch z) (fun b o _ hb _ e n=>u.keep b o e n hb (by simp)) (fun b o _ hb _ e n=>u.slot b o e n hb (by simp)) (fun b o _ e n=>u.free b o e n (by simp)) (fun b o _ e=>u.there b o e (by simp)) u.tups u.frzs u.tbls (fun m' hm=>by obtain ⟨o',es',ep',ho',r'⟩:=hm;rw [ho] at ho';cases ho';exact ⟨_,es',ep',hL,r'⟩) hok I.bare
theorem Inv.call {g':Array GenState}{t':Nat}{d':Drawn}{ch:List Addr}(I:Inv X pins σ H s)(u:Un (frs X.stack) ch H H' s.heap h')(hok:HOk X.prog X.w H' h')(hg:AllBare g')
  (hch:∀ b∈ch,(b∈X.ex\/X.s₀.heap.objs.size<=b)/\b≠X.env.locals/\(∀ x c,X.env.cells.lookup x=some c->c≠b)/\∀ p∈X.pn++pins,p.1≠b) :
  Inv X pins σ H' { s with heap:=h',gens:=g',drawn:=d',toks:=t' }:=by
 obtain ⟨m,⟨o,es,ep,ho,r⟩,_⟩:=id I.loc;obtain ⟨sl,hL⟩:=u.any ho I.free fun z=>(hch _ z).2.1 rfl;exact I.step (ch:=ch) hch (fun b o hL hb hc e n=>u.keep b o e n (fun z=>(Ao_.mp (I.stkSub b z)).elim hL hb) hc) (fun b o _ _ hc e n=>u.any e n hc) (fun b o hc e n=>u.free b o e n hc) (fun b o hc e=>u.there b o e hc) u.tups u.frzs u.tbls (fun m' hm=>by obtain ⟨o',es',ep',ho',r'⟩:=hm;rw [ho] at ho';cases ho';exact ⟨_,es',ep',hL,r'⟩) hok hg
theorem Inv.turned {t':Nat}{it:Addr}(I:Inv X pins σ H s)(k:∀ b o,b≠it->s.heap.get? b=some o->h'.get? b=some o)(hn:H it=none)(hL:it≠X.env.locals)
  (h1:it∈X.ex\/X.s₀.heap.objs.size<=it) (h2:∀ x c,X.env.cells.lookup x=some c->c≠it) (h3:∀ p∈X.pn++pins,p.1≠it):Inv X pins σ H { s with heap:=h',toks:=t' }:=by
 have nit:∀ b u,H b=some u->b≠it:=fun b u e z=>by rw [z,hn] at e;cases e
 refine I.step (g':=s.gens) (d':=s.drawn) (ch:=[it]) (fun b hb=>?_) (fun b o _ _ hc e _=>k b o (fun z=>hc (by simp [z])) e) (fun b o _ _ hc e _=>⟨o.slots,k b o (fun z=>hc (by simp [z])) e⟩) (fun _ _ _ _ n=>n)
  (fun b o hc e=>⟨o,k b o (fun z=>hc (by simp [z])) e⟩) (fun _ _ e=>e) (fun _ _ _ e=>e) (fun b ps e=>⟨#[],by rw [e];simp⟩) (fun m hm=>?_) (fun b u e=>?_) I.bare
 ·have e:b=it:=by simpa using hb
  subst e;exact ⟨h1,hL,h2,h3⟩
 ·obtain ⟨o,es,ep,ho,r⟩:=hm;exact ⟨o,es,ep,k _ o (Ne.symm hL) ho,r⟩
 ·refine (I.hok b u e).stay (fun c v hc q=>k c v ?_ q) (fun _ q=>q) fun _ _ q=>q
  rcases hc with z|z
  ·rw [z];exact nit b u e
  ·exact nit c _ z
theorem Inv.tok (I:Inv X pins σ H s)(t:Nat):Inv X pins σ H { s with toks:=t }:=I.un (h':=s.heap) (t':=t) Un.refl I.hok
theorem Inv.kept {t':Nat}(I:Inv X pins σ H s)(k:∀ b u,s.heap.get? b=some u->h'.get? b=some u):Inv X pins σ H { s with heap:=h',toks:=t' }:=I.un (Un.kept k) (I.hok.kept k)
theorem Inv.laid {a:Addr}{o:HO}{t':Nat}(I:Inv X pins σ H s)(k:∀ b u,s.heap.get? b=some u->h'.get? b=some u)(hp:s.heap.objs.size<=a)(new:FD_ X.prog X.w (upd H a o) h' a o) :
  Inv X pins σ (upd H a o) { s with heap:=h',toks:=t' }:=I.un (Un.laid k hp (I.hok.fresh hp)) (I.hok.laid k hp new)
theorem Inv.write {x e:Addr}{o:HO}{t':Nat}(I:Inv X pins σ H s)(mu:Mut (H x))(he:e=x\/H e=some (.own x))(k:∀ b u,b≠e->s.heap.get? b=some u->h'.get? b=some u)(heo:∃ u,h'.get? e=some u)
  (new:FD_ X.prog X.w (upd H x o) h' x o):Inv X pins σ (upd H x o) { s with heap:=h',toks:=t' }:=I.un (Un.write mu he k heo) (I.hok.write mu he k heo new)
theorem Inv.pins_of {pins':List (Addr×Obj)}(I:Inv X pins σ H s)(h:∀ p∈pins',s.heap.get? p.1=some p.2/\H p.1=none/\p.1≠X.env.locals/\p.1∉X.fs/\∀ v,p.2.data≠.cell v):Inv X pins' σ H s :=
 ⟨I.ok,I.os,I.bare,I.base,I.loc,I.cell,I.free,I.freeC,fun p hp=>(Ax_.mp hp).elim (fun z=>I.pin p (AV_ _ z)) (h p),I.hok,I.len⟩
theorem lP_ {N:List Str}(hN:N.Nodup){i j:Nat}{x:Str}(a:N[i]?=some x)(b:N[j]?=some x):i=j:=by obtain ⟨h1,e1⟩:=Ag_.mp a;obtain ⟨h2,e2⟩:=Ag_.mp b;exact (List.getElem_inj hN).mp (e1.trans e2.symm)
theorem j2_ {M:Model}{A:Around}{E:Value->Shared->Prop}{i:Nat}{x:Str}{v:V}{u:Value}{Q:Unit->Shared->Prop}(I:Inv X pins σ H s)(hN:X.N.Nodup)(hi:X.N[i]?=some x)(hx:Loc X.env.scope x)(r:Fs_ v u)
  (h:∀ s',Inv X pins (σ.set i (some v)) H s'->(∃ a,Heap.SameBut a s.heap s'.heap/\(a=X.env.locals\/X.env.cells.lookup x=some a))->Q () s') (hf:X.fn x=true\/X.env.scope.names.lookup x=some .local:=by first|exact .inl rfl|exact .inr rfl|assumption):wpAny M A (storeName X.env x u) Q E s:=by
 obtain ⟨m,hn,hl⟩:=id I.loc;have hcls:(X.env.scope.kind == .class || (X.env.scope.kind == .module && X.env.locals != X.env.globals))=false:=by rw [I.ok.kind];rfl
 have hiσ:i<σ.length:=by rw [I.len];exact (Ag_.mp hi).1
 have cne:=I.cne
 have tracked:∀ {a:Addr}{h':Heap},(∃ o,s.heap.get? a=some o/\H a=none)->Heap.SameBut a s.heap h'->HOk X.prog X.w H h':=fun {a h'} ha hs b ob e=>by
  obtain ⟨_,_,hfree⟩:=ha;refine (I.hok b ob e).stay (fun c w' hc q=>(hs.2 c ?_).trans q) (fun _ q=>q) fun _ _ q=>q;rintro rfl
  rcases hc with rfl|hc
  ·rw [hfree] at e;cases e
  ·rw [hfree] at hc;cases hc
 rcases hx with hk|hk
 ·refine wpAny_storeName_local hk hn (fun h' hn' hs=>?_) hcls;obtain ⟨oL,_,_,hoL,_⟩:=id hn;refine h _ ⟨I.ok,I.os,I.bare,⟨fun b o e n hb hx=>?_,fun b o e n hb hx=>?_,I.base.free,fun b o e hx=>?_,I.base.tups,I.base.frzs,I.base.tbls⟩,⟨_,hn',fun j y v' e1 e2 e3=>?_⟩,fun y c e=>?_,I.free,I.freeC,fun p hp=>?_,tracked ⟨oL,hoL,I.free⟩ hs,by simpa using I.len⟩ ⟨_,hs,.inl rfl⟩
  ·exact (hs.2 b (AE_ (AF_ (As_ e) I.ok.above))).trans (I.base.keep b o e n hb hx)
  ·obtain ⟨sl,e1⟩:=I.base.slot b o e n hb hx;exact ⟨sl,(hs.2 b (AE_ (AF_ (As_ e) I.ok.above))).trans e1⟩
  ·obtain ⟨o',e1⟩:=I.base.there b o e hx;exact ⟨o',(hs.2 b (AE_ (AF_ (As_ e) I.ok.above))).trans e1⟩
  ·by_cases hj:j=i
   ·subst hj;rw [hi] at e1;cases e1;rw [Ef_ hiσ] at e2;cases e2;exact ⟨u,r,.inl ⟨hk,by simp⟩⟩
   ·rw [Ex_ (Ne.symm hj)] at e2;obtain ⟨u',r',q⟩:=hl j y v' e1 e2 e3;refine ⟨u',r',?_⟩
    rcases q with ⟨k,e⟩|⟨k,c,e,z⟩
    ·refine .inl ⟨k,?_⟩;have:y≠x:=fun e=>hj (lP_ hN e1 (e ▸ hi));simp [this,e]
    ·exact .inr ⟨k,c,e,z.sameBut hs (cne y c e)⟩
  ·obtain ⟨w',z⟩:=I.cell y c e;exact ⟨w',z.sameBut hs (cne y c e)⟩
  ·obtain ⟨e,n,ne,nf,d⟩:=I.pin p hp;exact ⟨(hs.2 p.1 ne).trans e,n,ne,nf,d⟩
 ·have hfn:X.fn x=true:=by
   rcases hf with z|z
   ·exact z
   ·rw [z] at hk;cases hk
  obtain ⟨c,hc⟩:=I.ok.has x (.inl hk);obtain ⟨w',z⟩:=I.cell x c hc;refine wpAny_storeName_cell I.ok.kind hk hc z (fun h' hc' hs=>?_);obtain ⟨oc,hoc,hocd⟩:=id z;refine h { s with heap:=h' } ⟨I.ok,I.os,I.bare,⟨fun b o e n hb hx=>?_,fun b o e n hb hx=>?_,I.base.free,fun b o e hx=>?_,I.base.tups,I.base.frzs,I.base.tbls⟩,⟨m,hn.sameBut hs (Ne.symm (cne x c hc)),fun j y v' e1 e2 e3=>?_⟩,fun y c' e=>?_,I.free,I.freeC,fun p hp=>?_,tracked ⟨oc,hoc,I.freeC x c hc⟩ hs,by simpa using I.len⟩ ⟨c,hs,.inr hc⟩
  ·exact (hs.2 b (AE_ (AF_ (As_ e) (I.ok.cab x c hfn hc)))).trans (I.base.keep b o e n hb hx)
  ·obtain ⟨sl,e1⟩:=I.base.slot b o e n hb hx;exact ⟨sl,(hs.2 b (AE_ (AF_ (As_ e) (I.ok.cab x c hfn hc)))).trans e1⟩
  ·obtain ⟨o',e1⟩:=I.base.there b o e hx;exact ⟨o',(hs.2 b (AE_ (AF_ (As_ e) (I.ok.cab x c hfn hc)))).trans e1⟩
  ·by_cases hj:j=i
   ·subst hj;rw [hi] at e1;cases e1;rw [Ef_ hiσ] at e2;cases e2;exact ⟨u,r,.inr ⟨.inl hk,c,hc,hc'⟩⟩
   ·rw [Ex_ (Ne.symm hj)] at e2;obtain ⟨u',r',q⟩:=hl j y v' e1 e2 e3;refine ⟨u',r',?_⟩
    rcases q with q|⟨k,c',e,z'⟩
    ·exact .inl q
    ·refine .inr ⟨k,c',e,z'.sameBut hs ?_⟩;rintro rfl;exact hj (lP_ hN e1 (I.ok.inj _ _ _ e hc ▸ hi))
  ·by_cases hcc:c'=c
   ·subst hcc;exact ⟨_,hc'⟩
   ·obtain ⟨w2,z2⟩:=I.cell y c' e;exact ⟨w2,z2.sameBut hs hcc⟩
  ·obtain ⟨e,n,ne,nf,d⟩:=I.pin p hp;refine ⟨(hs.2 p.1 ?_).trans e,n,ne,nf,d⟩;intro q;rw [q,hoc] at e;have q':oc=p.2:=Aq_ e;exact d w' (by rw [<-q'];exact hocd)
theorem hu_ {M:Model}{A:Around}{E:Value->Shared->Prop}{i:Nat}{x:Str}{v:V}{u:Value}{Q:Unit->Shared->Prop}(I:Inv X pins σ H s)(hN:X.N.Nodup)(hi:X.N[i]?=some x)(hx:Loc X.env.scope x)(r:Fs_ v u)
  (h:∀ s',Inv X pins (σ.set i (some v)) H s'->Q () s') (hf:X.fn x=true\/X.env.scope.names.lookup x=some .local:=by first|exact .inl rfl|exact .inr rfl|assumption):wpAny M A (storeName X.env x u) Q E s :=
 j2_ I hN hi hx r (fun s' I' _=>h s' I') hf
theorem Inv.call' {s':Shared}{ch:List Addr}(I:Inv X pins σ H s)(ho:s'.os=s.os)(u:Un (frs X.stack) ch H H' s.heap s'.heap)(hok:HOk X.prog X.w H' s'.heap)(hg:AllBare s'.gens)
  (hch:∀ b∈ch,(b∈X.ex\/X.s₀.heap.objs.size<=b)/\b≠X.env.locals/\(∀ x c,X.env.cells.lookup x=some c->c≠b)/\∀ p∈X.pn++pins,p.1≠b):Inv X pins σ H' s':=by
 obtain ⟨h',g',d',t',o'⟩:=s';have e:o'=s.os:=ho;subst e;exact I.call (g':=g') (t':=t') (d':=d') u hok hg hch
end
abbrev XK:=Value->Option Addr->Hp->Prop
abbrev St:=List (Option V)
abbrev VK:=V->Hp->Prop
abbrev TE:=St->Hp->VK->Prop
abbrev TT:=St->Hp->(Bool->Hp->Prop)->Prop
abbrev TA:=St->Hp->(List V->Hp->Prop)->Prop
structure G7_ where
 nx:St->Hp->Prop
 rt:VK
 bk:St->Hp->Prop:=fun _ _=>False
 ct:St->Hp->Prop:=fun _ _=>False
abbrev TS:=G7_->St->Hp->Prop
def EP (X:Cx)(pins:List (Addr×Obj))(σ:St)(Q:VK)(u:Value)(s':Shared):Prop:=∃ v H',Inv X pins σ H' s'/\Fs_ v u/\Q v H'
def TP (X:Cx)(pins:List (Addr×Obj))(σ:St)(Q:Bool->Hp->Prop)(b:Bool)(s':Shared):Prop:=∃ H',Inv X pins σ H' s'/\Q b H'
def AP (X:Cx)(pins:List (Addr×Obj))(σ:St)(Q:List V->Hp->Prop)(us:List Value)(s':Shared):Prop:=∃ vs H',Inv X pins σ H' s'/\Fm_ vs us/\Q vs H'
def SP (X:Cx)(pins:List (Addr×Obj))(D:G7_)(f:Flow)(s':Shared):Prop :=
 match f with
 | .next=>∃ σ' H',Inv X pins σ' H' s'/\D.nx σ' H'
 | .brk=>∃ σ' H',Inv X pins σ' H' s'/\D.bk σ' H'
 | .cont=>∃ σ' H',Inv X pins σ' H' s'/\D.ct σ' H'
 | .ret u=>∃ v σ' H',Inv X pins σ' H' s'/\Fs_ v u/\D.rt v H'
def PE (X:Cx)(e:Expr)(t:TE):Prop :=
 ∀ (pins:List (Addr×Obj))(s:Shared)(σ:St)(H:Hp)(Q:VK),Inv X pins σ H s->t σ H Q->wpAny (model X.prog X.w) X.A (eval e X.env) (EP X pins σ Q) X.xe s
def PT (X:Cx)(e:Expr)(t:TT):Prop :=
 ∀ (pins:List (Addr×Obj))(s:Shared)(σ:St)(H:Hp)(Q:Bool->Hp->Prop),Inv X pins σ H s->t σ H Q->wpAny (model X.prog X.w) X.A (isTrue e X.env (eval e X.env)) (TP X pins σ Q) X.xe s
def PW (X:Cx)(e:Expr)(t:TT):Prop :=
 ∀ (whole:Sem Value)(pins:List (Addr×Obj))(s:Shared)(σ:St)(H:Hp)(Q:Bool->Hp->Prop),Inv X pins σ H s->t σ H Q->wpAny (model X.prog X.w) X.A (isTrue e X.env whole) (TP X pins σ Q) X.xe s
theorem PW.pt {X:Cx}{e:Expr}{t:TT}(h:PW X e t):PT X e t:=h _
def PA (X:Cx)(es:List Expr)(t:TA):Prop :=
 ∀ (pos:Pos)(pins:List (Addr×Obj))(s:Shared)(σ:St)(H:Hp)(Q:List V->Hp->Prop),Inv X pins σ H s->t σ H Q->wpAny (model X.prog X.w) X.A (spliced (backTo pos (starEach es X.env))) (AP X pins σ Q) X.xe s
def PS (X:Cx)(st:Stmt)(t:TS):Prop :=
 ∀ (pins:List (Addr×Obj))(s:Shared)(σ:St)(H:Hp)(D:G7_),Inv X pins σ H s->t D σ H->wpAny (model X.prog X.w) X.A (exec st X.env) (SP X pins D) X.xe s
def PSs (X:Cx)(st:List Stmt)(t:TS):Prop :=
 ∀ (pins:List (Addr×Obj))(s:Shared)(σ:St)(H:Hp)(D:G7_),Inv X pins σ H s->t D σ H->wpAny (model X.prog X.w) X.A (execs st X.env) (SP X pins D) X.xe s
theorem thn {α:Type}{t:Sem α}{Q Q':α->Shared->Prop}{M:Model}{A:Around}{E:Value->Shared->Prop}{s:Shared}(h:wpAny M A t Q E s)(hQ:∀ a s,Q a s->Q' a s):wpAny M A t Q' E s:=Bl_ h hQ fun _ _ x=>x
end L2
namespace L2
open PySem PySem.Spec PyProof.Rows
section
variable {X:Cx}
def Jb_ (i:Nat):TE:=fun σ H Q=>∃ v,σ[i]?=some (some v)/\Q v H
def tC (v:V):TE:=fun _ H Q=>Q v H
theorem pe_ {i:Nat}{x:Str}{pos:Pos}(hN:X.N[i]?=some x)(hv:Vis X.env.scope x)(hd:(x == ("__debug__" : Str))=false:=by decide) (hcd:(x == ("__classdict__" : Str))=false:=by decide):PE X (.Name x pos) (Jb_ i):=by
 intro pins s σ H Q I h;obtain ⟨v,e,h⟩:=h;obtain ⟨m,hn,hl⟩:=I.loc;obtain ⟨u,r,l⟩:=hl i x v hN e hv;have fin:EP X pins σ Q u s:=⟨v,H,I,r,h⟩
 rcases l with ⟨hk,hm⟩|⟨hk,c,hc,hcell⟩
 ·exact wpAny_Name (wpAny_loadName_local I.ok.kind hk hn hm fin) hd
 ·rcases hk with hk|hk
  ·exact wpAny_Name (wpAny_loadName_cell I.ok.kind hk hc hcell fin) hd
  ·exact wpAny_Name (wpAny_loadName_free I.ok.kind hk hc hcell fin hcd) hd
theorem ac_ {i j pos}:PE X (.Constant (.int i) j pos) (tC (.int i)):=fun _ _ _ H _ I h=>wpAny_Constant_int ⟨.int i,H,I.tok _,⟨_,rfl⟩,h⟩
theorem Gj_ {b j pos}:PE X (.Constant (.bool b) j pos) (tC (.bl b)):=fun _ _ _ H _ I h=>Constant_bool ⟨.bl b,H,I,rfl,h⟩
theorem mV_ {j pos}:PE X (.Constant .none j pos) (tC .non):=fun _ _ _ H _ I h=>Constant_none ⟨.non,H,I,rfl,h⟩
theorem cm_ {x j pos}:PE X (.Constant (.str x) j pos) (tC (.str x)):=fun _ _ _ H _ I h=>Calls.Constant_str ⟨.str x,H,I.tok _,⟨_,rfl⟩,h⟩
def Gl (X:Cx)(x:Str):Prop:=X.env.kindOf x=some .globalImplicit
theorem fn_ {E:Value->Shared->Prop}{pins:List (Addr×Obj)}{s:Shared}{σ:St}{H:Hp}{x:Str}{u:Value}{pos:Pos}{Q:Value->Shared->Prop}(I:Inv X pins σ H s)(hg:Gl X x)(hm:X.mg x=some u)(h:Q u s)
  (hd:(x == ("__debug__" : Str))=false:=by decide):wpAny (model X.prog X.w) X.A (eval (.Name x pos) X.env) Q E s :=
 Dz_ I.ok.kind hg (Calls.loadGlobal_global (by rw [I.ok.glob];exact I.mod.glob.keeps I.bk) hm h) hd
theorem e9_ {E:Value->Shared->Prop}{pins:List (Addr×Obj)}{s:Shared}{σ:St}{H:Hp}{x:Str}{u:Value}{pos:Pos}{Q:Value->Shared->Prop}(I:Inv X pins σ H s)(hg:Gl X x)(hm:X.mg x=none)(hv:bootBuiltins x=some u)(h:Q u s)
  (hn:x ≠ "__name__" := by decide) (hd:(x == ("__debug__" : Str))=false:=by decide):wpAny (model X.prog X.w) X.A (eval (.Name x pos) X.env) Q E s:=by
 obtain ⟨mb,h1,h2⟩:=I.mod.blt;exact Dz_ I.ok.kind hg (Calls.loadGlobal_builtin (by rw [I.ok.glob];exact I.mod.glob.keeps I.bk) hm (by rw [I.ok.blt];exact h1.keeps I.bk) ((h2 x hn).trans hv) h) hd
theorem mW_ {x:Str}{v:V}{u:Value}{pos:Pos}(hg:Gl X x)(hm:X.mg x=some u)(r:Fs_ v u)(hd:(x == ("__debug__" : Str))=false:=by decide):PE X (.Name x pos) (tC v) :=
 fun _ _ _ H _ I h=>fn_ I hg hm ⟨v,H,I,r,h⟩ hd
theorem pO_ {x:Str}{v:V}{u:Value}{pos:Pos}(hg:Gl X x)(hm:X.mg x=none)(hv:bootBuiltins x=some u)(r:Fs_ v u)(hn:x ≠ "__name__" := by decide) (hd:(x == ("__debug__" : Str))=false:=by decide):PE X (.Name x pos) (tC v) :=
 fun _ _ _ H _ I h=>e9_ I hg hm hv ⟨v,H,I,r,h⟩ hn hd
variable {a b:Expr}{ta tb:TE}{pos:Pos}
def PC (X:Cx)(op:CmpOp)(a b:Expr)(t:TE):Prop :=
 ∀ (pins:List (Addr×Obj))(s:Shared)(σ:St)(H:Hp)(Q:VK),Inv X pins σ H s->t σ H Q ->
  wpAny (model X.prog X.w) X.A (eval a X.env) (fun v s₁=>wpAny (model X.prog X.w) X.A (eval b X.env) (fun u s₂=>wpAny (model X.prog X.w) X.A (compareOp op v u) (EP X pins σ Q) X.xe s₂) X.xe s₁) X.xe s
theorem Je_ (b:Expr){op:CmpOp}(h:op≠.In)(h2:op≠.NotIn):behindInMarks op b=false:=by
 have e1:(op == CmpOp.In)=false:=by cases op <;> first|rfl|exact absurd rfl h
 have e2:(op == CmpOp.NotIn)=false:=by cases op <;> first|rfl|exact absurd rfl h2
 cases b <;> simp [behindInMarks,e1,e2]
def L1_ (ta:TE):TE:=fun σ H Q=>ta σ H fun x H1=>Q (.bl (decide (x=.non))) H1
def JZ_ (ta:TE):TE:=fun σ H Q=>ta σ H fun x H1=>Q (.bl (!decide (x=.non))) H1
theorem Fs_.none_iff {x:V}{v:Value}(r:Fs_ x v):(v == Value.none)=decide (x=.non):=by
 cases x with
 | non=>cases r;rfl
 | bl _=>cases r;rfl
 | int _=>obtain ⟨t,rfl⟩:=r;rfl
 | str _=>obtain ⟨t,rfl⟩:=r;rfl
 | byt _=>obtain ⟨t,rfl⟩:=r;rfl
 | flt _=>obtain ⟨t,rfl⟩:=r;rfl
 | ref _=>cases r;rfl
 | ty _=>cases r;rfl
theorem mX_ {j pos'} (ha:PE X a ta):PC X .IsNot a (.Constant .none j pos') (JZ_ ta):=by intro pins s σ H Q I h;refine thn (ha pins s σ H _ I h) fun v s1 ⟨x,H1,I1,r1,q1⟩=>?_;exact Constant_none (isnot_none_gen ⟨.bl _,H1,I1,by rw [r1.none_iff];rfl,q1⟩)
def tB (t:TE):TT:=fun σ H Q=>t σ H fun x H1=>∃ c,x=.bl c/\Q c H1
theorem j3_ {op:CmpOp}{t:TE}(h:PC X op a b t)(h1:behindInMarks op b=false:=by first|exact Je_ _ (by decide) (by decide)|rfl):PT X (.Compare a [op] [b] pos) (tB t):=by intro pins s σ H Q I hw;refine En_ (thn (h pins s σ H _ I hw) fun v s1 h1=>thn h1 fun u s2 h2=>thn h2 fun c s3 ⟨x,H1,I1,r1,q1⟩=>?_) h1;obtain ⟨d,rfl,q⟩:=q1;cases r1;exact CR_ ⟨H1,I1,q⟩
theorem fL_ {e:Expr}{t:TE}(h:PE X e t)(he:∀ whole,isTrue e X.env whole=(do let v <-whole;standAt e.pos;holding [v] (truthy v)):=by intro _;rfl):PT X e (tB t):=by intro pins s σ H Q I hw;refine isTrue_plain (thn (h pins s σ H _ I hw) fun v s1 ⟨x,H1,I1,r1,q1⟩=>?_) (he _);obtain ⟨d,rfl,q⟩:=q1;cases r1;exact CR_ ⟨H1,I1,q⟩
variable {tA tB':TT}{rest:List Expr}
def Li_ (t u:TT):TT:=fun σ H Q=>t σ H fun c H1=>if c=true then u σ H1 Q else Q false H1
def tOr (t u:TT):TT:=fun σ H Q=>t σ H fun c H1=>if c=true then Q true H1 else u σ H1 Q
def Lp_ (t:TT):TT:=fun σ H Q=>t σ H fun c H1=>Q (!c) H1
theorem pP_ (ha:PT X a tA):PW X (.BoolOp .And [a] pos) tA:=by
 intro wh pins s σ H Q I h;refine isTrue_and (thn (ha pins s σ H Q I h) fun c s1 e=>?_);cases c with
 | true=>exact isTrue_and_nil e
 | false=>exact e
theorem iT_ (ha:PT X a tA):PW X (.BoolOp .Or [a] pos) tA:=by
 intro wh pins s σ H Q I h;refine isTrue_or (thn (ha pins s σ H Q I h) fun c s1 e=>?_);cases c with
 | false=>exact isTrue_or_nil e
 | true=>exact e
theorem qG_ (ha:PT X a tA)(hb:PW X (.BoolOp .And (b::rest) pos) tB'):PW X (.BoolOp .And (a::b::rest) pos) (Li_ tA tB'):=by
 intro wh pins s σ H Q I h;refine isTrue_and (thn (ha pins s σ H _ I h) fun c s1 ⟨H1,I1,q1⟩=>?_);cases c with
 | true=>exact hb wh pins s1 σ H1 Q I1 q1
 | false=>exact ⟨H1,I1,q1⟩
theorem Hx_ (ha:PT X a tA)(hb:PW X (.BoolOp .Or (b::rest) pos) tB'):PW X (.BoolOp .Or (a::b::rest) pos) (tOr tA tB'):=by
 intro wh pins s σ H Q I h;refine isTrue_or (thn (ha pins s σ H _ I h) fun c s1 ⟨H1,I1,q1⟩=>?_);cases c with
 | true=>exact ⟨H1,I1,q1⟩
 | false=>exact hb wh pins s1 σ H1 Q I1 q1
theorem gW_ (ha:PT X a tA):PT X (.UnaryOp .Not a pos) (Lp_ tA):=by intro pins s σ H Q I h;exact isTrue_not (ha pins s σ H (fun c H1=>Q (!c) H1) I h)
def JO_ (ta tb:TE):TE:=fun σ H Q=>ta σ H fun x H1=>∃ c,x=.bl c/\if c=true then tb σ H1 Q else Q (.bl false) H1
def LN_ (ta tb:TE):TE:=fun σ H Q=>ta σ H fun x H1=>∃ c,x=.bl c/\if c=true then Q (.bl true) H1 else tb σ H1 Q
def KE_ (ta:TE):TE:=fun σ H Q=>ta σ H fun x H1=>∃ c,x=.bl c/\Q (.bl (!c)) H1
theorem pf_ {op} {t:TE} (h:PE X a t):PE X (.BoolOp op [a] pos) t:=fun pins s σ H Q I hw=>BoolOp_one (h pins s σ H Q I hw)
theorem pg_ (ha:PE X a ta)(hb:PE X (.BoolOp .And (b::rest) pos) tb):PE X (.BoolOp .And (a::b::rest) pos) (JO_ ta tb):=by
 intro pins s σ H Q I h;refine BoolOp_and (thn (ha pins s σ H _ I h) fun v s1 ⟨x,H1,I1,r1,q1⟩=>?_);obtain ⟨c,rfl,q1⟩:=q1;cases r1;refine CR_ ?_;cases c with
 | true=>exact hb pins s1 σ H1 Q I1 q1
 | false=>exact ⟨.bl false,H1,I1,rfl,q1⟩
end
end L2
namespace L2
open PySem PySem.Spec PyProof.Rows
def SqL (K:PySem.W.Frag)(H:Hp)(a:Addr)(xs:List V):Prop :=
 Rd H a (.lst xs) \/
  ∃ (o:Obj)(its:Array Value)(n:Nat),K.lookup a=some o/\o.cls=.type "list" /\ o.dict=none/\o.data=.seq its n/\its.size<=sizeLine/\Fm_ xs its.toList
def SqT (K:PySem.W.Frag)(H:Hp)(a:Addr)(xs:List V):Prop :=
 Rd H a (.tup xs) \/
  ∃ (o:Obj)(its:Array Value)(n:Nat),K.lookup a=some o/\o.cls=.type "tuple" /\ o.data=.seq its n/\its.size<=sizeLine/\Fm_ xs its.toList
def absV:Value->Option V
 | .none=>some .non
 | .bool b=>some (.bl b)
 | .int i _=>some (.int i)
 | .str x _=>some (.str x)
 | .bytes b _=>some (.byt b)
 | .float b _=>some (.flt b)
 | .ref a=>some (.ref a)
 | .type n=>some (.ty n)
 | _=>none
theorem Fs_.abs {x:V}{u:Value}(r:Fs_ x u):absV u=some x:=by
 cases x with
 | non=>cases r;rfl
 | bl _=>cases r;rfl
 | int _=>obtain ⟨t,rfl⟩:=r;rfl
 | str _=>obtain ⟨t,rfl⟩:=r;rfl
 | byt _=>obtain ⟨t,rfl⟩:=r;rfl
 | flt _=>obtain ⟨t,rfl⟩:=r;rfl
 | ref _=>cases r;rfl
 | ty _=>cases r;rfl
theorem Fs_.inj {x y:V}{u:Value}(r:Fs_ x u)(q:Fs_ y u):x=y:=Aq_ (r.abs.symm.trans q.abs)
theorem Fm_.inj:∀ {xs ys:List V}{us:List Value},Fm_ xs us->Fm_ ys us->xs=ys
 | _,_,_,.nil,.nil=>rfl
 | _,_,_,.cons r t,.cons r' t'=>by rw [r.inj r',Fm_.inj t t']
section
variable {X:Cx}{pins:List (Addr×Obj)}{σ:St}{H:Hp}{s:Shared}{a:Addr}{xs ys:List V}
theorem SqL.of {K:PySem.W.Frag}(h:H a=some (.lst xs)):SqL K H a xs:=.inl (.inl h)
theorem SqT.of {K:PySem.W.Frag}(h:H a=some (.tup xs)):SqT K H a xs:=.inl (.inl h)
theorem Inv.list (I:Inv X pins σ H s)(h:SqL X.K H a xs):∃ its:List Value,Fm_ xs its/\PlainL s.heap a its.toArray/\xs.length<=sizeLine:=by
 rcases h with h|⟨o,its,n,hk,hc,hd,hs,hz,r⟩
 ·obtain ⟨z,its,n,r,e⟩:=h.ok I.hok;exact ⟨its,r,⟨_,n,e,rfl,rfl,rfl⟩,z⟩
 ·refine ⟨its.toList,r,⟨o,n,I.kIn a o hk,hc,hd,by simpa using hs⟩,?_⟩;have e:=r.length;simp only [Dr_] at e;lia
theorem Inv.tuple (I:Inv X pins σ H s)(h:SqT X.K H a xs):∃ its:List Value,Fm_ xs its/\IsTup s.heap a its.toArray/\xs.length<=sizeLine:=by
 rcases h with h|⟨o,its,n,hk,hc,hs,hz,r⟩
 ·obtain ⟨z,its,r,p⟩:=h.ok I.hok;exact ⟨its,r,p,z⟩
 ·refine ⟨its.toList,r,⟨o,I.kIn a o hk,hc,n,by simpa using hs⟩,?_⟩;have e:=r.length;simp only [Dr_] at e;lia
theorem Inv.list_inj (I:Inv X pins σ H s)(h:SqL X.K H a xs)(h':SqL X.K H a ys):xs=ys:=by
 obtain ⟨its,r,⟨o,n,e,_,_,d⟩,_⟩:=I.list h;obtain ⟨its',r',⟨o',n',e',_,_,d'⟩,_⟩:=I.list h';rw [e] at e';cases e';rw [d] at d';injection d' with d1 _
 have:its=its':=by simpa using congrArg Array.toList d1
 subst this;exact r.inj r'
theorem Inv.tuple_inj (I:Inv X pins σ H s)(h:SqT X.K H a xs)(h':SqT X.K H a ys):xs=ys:=by
 obtain ⟨its,r,⟨o,e,_,n,d⟩,_⟩:=I.tuple h;obtain ⟨its',r',⟨o',e',_,n',d'⟩,_⟩:=I.tuple h';rw [e] at e';cases e';rw [d] at d';injection d' with d1 _
 have:its=its':=by simpa using congrArg Array.toList d1
 subst this;exact r.inj r'
end
abbrev Cx.wish (X:Cx)(E:Value->Shared->Prop):Cx:={ X with xe:=E }
abbrev Cx.nox (X:Cx):Cx:=X.wish fun _ _=>False
theorem Cx.Ok.wish {X:Cx}(ok:X.Ok)(E:Value->Shared->Prop):(X.wish E).Ok :=
 ⟨ok.mod,ok.kind,ok.glob,ok.blt,ok.above,ok.inj,ok.has,ok.cab,ok.hd,ok.frames,ok.stk,ok.exf,ok.bs,ok.bsz,ok.noex,ok.exfs,ok.funs,ok.frf⟩
theorem Cx.Ok.unwish {X:Cx}{E:Value->Shared->Prop}(ok:(X.wish E).Ok):X.Ok :=
 ⟨ok.mod,ok.kind,ok.glob,ok.blt,ok.above,ok.inj,ok.has,ok.cab,ok.hd,ok.frames,ok.stk,ok.exf,ok.bs,ok.bsz,ok.noex,ok.exfs,ok.funs,ok.frf⟩
section
variable {X:Cx}{pins:List (Addr×Obj)}{σ:St}{H:Hp}{s:Shared}{E:Value->Shared->Prop}
theorem Inv.wish (I:Inv X pins σ H s)(E:Value->Shared->Prop):Inv (X.wish E) pins σ H s:=⟨I.ok.wish E,I.os,I.bare,I.base,I.loc,I.cell,I.free,I.freeC,I.pin,I.hok,I.len⟩
theorem Inv.unwish (I:Inv (X.wish E) pins σ H s):Inv X pins σ H s:=⟨I.ok.unwish,I.os,I.bare,I.base,I.loc,I.cell,I.free,I.freeC,I.pin,I.hok,I.len⟩
theorem SP.unwish {D:G7_}{f:Flow}{s':Shared}(h:SP (X.wish E) pins D f s'):SP X pins D f s':=by
 cases f with
 | next=>obtain ⟨σ',H',I,q⟩:=h;exact ⟨σ',H',I.unwish,q⟩
 | brk=>obtain ⟨σ',H',I,q⟩:=h;exact ⟨σ',H',I.unwish,q⟩
 | cont=>obtain ⟨σ',H',I,q⟩:=h;exact ⟨σ',H',I.unwish,q⟩
 | ret u=>obtain ⟨v,σ',H',I,r,q⟩:=h;exact ⟨v,σ',H',I.unwish,r,q⟩
theorem PSs.nox {st:List Stmt}{t:TS}(h:PSs X.nox st t):PSs X st t:=fun pins s σ H D I hw =>Bl_ (h pins s σ H D (I.wish _) hw) (fun _ _ q=>q.unwish) fun _ _ z=>False.elim z
end
section
variable {X:Cx}{st:Stmt}{rest:List Stmt}{t u:TS}{e:Expr}{te:TE}{pos:Pos}
def JN_:TS:=fun D σ H=>D.nx σ H
def Lt_ (t u:TS):TS:=fun D σ H=>t { D with nx:=u D } σ H
theorem aB_:PSs X [] JN_:=fun _ _ σ H _ I h=>CD_ ⟨σ,H,I,h⟩
theorem ai_ (h1:PS X st t)(h2:PSs X rest u):PSs X (st::rest) (Lt_ t u):=by
 intro pins s σ H D I h;refine DO_ (thn (h1 pins s σ H { D with nx:=u D } I h) fun f s1 q=>?_);cases f with
 | next =>
  obtain ⟨σ',H',I',q⟩:=q;exact h2 pins s1 σ' H' D I' q
 | ret v=>exact q
 | brk=>exact q
 | cont=>exact q
theorem ag_ (h1:PS X st t):PSs X [st] t:=by
 intro pins s σ H D I h;refine DO_ (thn (h1 pins s σ H D I h) fun f s1 q=>?_);cases f with
 | next=>exact CD_ q
 | ret v=>exact q
 | brk=>exact q
 | cont=>exact q
theorem Inv.quiet {pins:List (Addr×Obj)}{σ:St}{H:Hp}{s:Shared}(I:Inv X pins σ H s):interactive X.env=false:=by simp [interactive,I.ok.kind]
def I7_ (te:TE):TS:=fun D σ H=>te σ H fun _ H1=>D.nx σ H1
theorem pQ_ (he:PE X e te)(hs:swapsWith e none pos.line X.env=pure false:=by rfl):PS X (.Expr e pos) (I7_ te):=by intro pins s σ H D I h;exact wpAny_Expr_any (thn (he pins s σ H _ I h) fun v s1 ⟨x,H1,I1,r1,q1⟩=>⟨σ,H1,I1,q1⟩) I.quiet hs
def Ll_ (te:TE):TS:=fun D σ H=>te σ H D.rt
theorem au_ (he:PE X e te):PS X (.Return (some e) pos) (Ll_ te):=by intro pins s σ H D I h;exact wpAny_Return_some (thn (he pins s σ H _ I h) fun v s1 ⟨x,H1,I1,r1,q1⟩=>⟨x,σ,H1,I1,r1,q1⟩)
def KI_:TS:=fun D _ H=>D.rt .non H
def Ln_ (c:TT)(t u:TS):TS:=fun D σ H=>c σ H fun b H1=>if b=true then t D σ H1 else u D σ H1
theorem Fx_ {c:Expr}{a b:List Stmt}{tc:TT}(hc:PT X c tc)(ha:PSs X a t)(hb:PSs X b u):PS X (.If c a b pos) (Ln_ tc t u):=by
 intro pins s σ H D I h;refine wpAny_If (thn (hc pins s σ H _ I h) fun d s1 ⟨H1,I1,q1⟩=>?_);cases d with
 | true=>exact ha pins s1 σ H1 D I1 q1
 | false=>exact hb pins s1 σ H1 D I1 q1
def Jx_:TS:=fun _ _ _=>False
theorem ot_:PS X st Jx_:=fun _ _ _ _ _ _ h=>h.elim
theorem dq_ {sts:List Stmt}:PSs X sts Jx_:=fun _ _ _ _ _ _ h=>h.elim
end
abbrev TG:=V->St->Hp->(St->Hp->Prop)->Prop
abbrev TGs:=List V->St->Hp->(St->Hp->Prop)->Prop
def PG (X:Cx)(target:Expr)(t:TG):Prop :=
 ∀ (pins:List (Addr×Obj))(s:Shared)(σ:St)(H:Hp)(v:V)(u:Value)(Q:St->Hp->Prop),Inv X pins σ H s->Fs_ v u->t v σ H Q ->
  wpAny (model X.prog X.w) X.A (assign target X.env u) (fun _ s'=>∃ σ' H',Inv X pins σ' H' s'/\Q σ' H') X.xe s
def PGs (X:Cx)(ts:List Expr)(t:TGs):Prop :=
 ∀ (pins:List (Addr×Obj))(s:Shared)(σ:St)(H:Hp)(vs:List V)(us:List Value)(Q:St->Hp->Prop),Inv X pins σ H s->Fm_ vs us->t vs σ H Q ->
  wpAny (model X.prog X.w) X.A (assignInOrder ((assignEach ts X.env).map (·.2)) us) (fun _ s'=>∃ σ' H',Inv X pins σ' H' s'/\Q σ' H') X.xe s
abbrev Ld_:=V->V->V->Hp->(Hp->Prop)->Prop
def LO_ (X:Cx)(t:Ld_):Prop :=
 ∀ (pins:List (Addr×Obj))(s:Shared)(σ:St)(H:Hp)(o i v:V)(ov iv u:Value)(Q:Hp->Prop),Inv X pins σ H s->Fs_ o ov->Fs_ i iv->Fs_ v u->t o i v H Q ->
  wpAny (model X.prog X.w) X.A (setItem ov iv u) (fun _ s'=>∃ H',Inv X pins σ H' s'/\Q H') X.xe s
section
variable {X:Cx}{pos:Pos}
def GD_ (i:Nat):TG:=fun v σ H Q=>Q (σ.set i (some v)) H
theorem mY_ {i:Nat}{x:Str}(hN:X.N.Nodup)(hi:X.N[i]?=some x)(hx:Loc X.env.scope x)(hf:X.fn x=true\/X.env.scope.names.lookup x=some .local:=by first|exact .inl rfl|exact .inr rfl|assumption):PG X (.Name x pos) (GD_ i):=by intro pins s σ H v u Q I r h;exact wpAny_assign_Name (hu_ I hN hi hx r (fun s' I'=>⟨_,H,I',h⟩) hf)
def La_:TGs:=fun vs σ H Q=>vs=[]/\Q σ H
def JJ_ (t:TG)(u:TGs):TGs:=fun vs σ H Q=>∃ v r,vs=v::r/\t v σ H fun σ' H'=>u r σ' H' Q
theorem aC_:PGs X [] La_:=by intro pins s σ H vs us Q I r h;obtain ⟨e,h⟩:=h;subst e;cases r;exact assignInOrder_nil ⟨σ,H,I,h⟩
theorem ak_ {e:Expr}{es:List Expr}{t:TG}{u:TGs}(h1:PG X e t)(h2:PGs X es u)
  (hs:(assignEach (e::es) X.env).map (·.2)=assign e X.env::(assignEach es X.env).map (·.2):=by rfl):PGs X (e::es) (JJ_ t u):=by
 intro pins s σ H vs us Q I r h;obtain ⟨v,vr,e1,h⟩:=h;subst e1;cases r with
 | cons r rr =>rw [hs];refine Dx_ (thn (h1 pins s σ H _ _ _ I r h) fun _ s1 ⟨σ1,H1,I1,q1⟩=>?_);exact h2 pins s1 σ1 H1 _ _ Q I1 rr q1
def KN_ (K:PySem.W.Frag)(n:Nat)(t:TGs):TG:=fun v σ H Q=>∃ a xs,v=.ref a/\SqT K H a xs/\xs.length=n/\t xs σ H Q
theorem qH_ {es:List Expr}{k:Nat}{t:TGs}{n:Nat}(hc:X.calm=true)(h:PGs X es t)
  (hn:(assignEach es X.env).length=n:=by rfl) (hst:(assignEach es X.env).findIdx? (·.1)=none:=by rfl):PG X (.Tuple es k pos) (KN_ X.K n t):=by
 intro pins s σ H v u Q I r hw;obtain ⟨a,xs,e1,hq,hl,hw⟩:=hw;subst e1;cases r;obtain ⟨its,rv,ht,hz⟩:=I.tuple hq;refine assign_Tuple_tuple (I.ok.hd hc) ht (by simp [hn,<-hl,rv.length]) hst fun h' hx=>?_;have I1:Inv X pins σ H { s with heap:=h' }:=I.kept (t':=s.toks) fun b o e=>hx b o (AE_ (As_ e)) e;exact h pins _ σ H xs _ Q I1 (by simpa using rv) hw
def K9_ (to ti:TE)(t:Ld_):TG:=fun v σ H Q=>to σ H fun o H1=>ti σ H1 fun i H2=>t o i v H2 fun H3=>Q σ H3
theorem qI_ {o i:Expr}{to ti:TE}{t:Ld_}(ho:PE X o to)(hi:PE X i ti)(hs:LO_ X t)
  (ha:∀ v,assign (.Subscript o i pos) X.env v=(do
   let ov <-holding [v] (eval o X.env)
   let iv <-holding [v,ov] (eval i X.env)
   standAt pos
   holding [v,ov,iv] (setItem ov iv v)
   release [v,ov,iv] []):=by intro _;rfl):PG X (.Subscript o i pos) (K9_ to ti t):=by
 intro pins s σ H v u Q I r h;rw [ha];refine Ad_ (AZ_ (thn (ho pins s σ H _ I h) fun ov s1 ⟨x,H1,I1,r1,q1⟩=>?_));refine Ad_ (AZ_ (thn (hi pins s1 σ H1 _ I1 q1) fun iv s2 ⟨y,H2,I2,r2,q2⟩=>?_));refine Ad_ (Cy_ (Ad_ (AZ_ (thn (hs pins s2 σ H2 x y v ov iv u _ I2 r1 r2 r q2) fun _ s3 ⟨H3,I3,q3⟩=>?_))));exact wpAny_release ⟨σ,H3,I3,q3⟩
def J6_ (te:TE)(g:TG):TS:=fun D σ H=>te σ H fun x H1=>g x σ H1 D.nx
theorem fM_ {tg e:Expr}{te:TE}{g:TG}(he:PE X e te)(hg:PG X tg g)(hs:swapsWithSole [tg] e pos.line X.env=pure false:=by rfl) (hw:swappedStores [tg] e X.env=pure none:=by rfl)
  (h1:(assignEach [tg] X.env).map (·.2)=[assign tg X.env]:=by rfl):PS X (.Assign [tg] e pos) (J6_ te g):=by
 intro pins s σ H D I h;refine wpAny_Assign_stores (thn (he pins s σ H _ I h) fun v s1 ⟨x,H1,I1,r1,q1⟩=>?_) hs hw;rw [h1];exact thn (hg pins s1 σ H1 x v _ I1 r1 q1) fun _ s2 q=>q
theorem ph_ {i:Nat}{x:Str}{e:Expr}{te:TE}{pos':Pos}(hN:X.N.Nodup)(hi:X.N[i]?=some x)(hx:Loc X.env.scope x)(he:PE X e te)(hs:swapsWith e (some (.Name x pos')) pos.line X.env=pure false:=by rfl) (hf:X.fn x=true\/X.env.scope.names.lookup x=some .local:=by first|exact .inl rfl|exact .inr rfl|assumption) :
  PS X (.Assign [.Name x pos'] e pos) (J6_ te (GD_ i)):=by
 intro pins s σ H D I h;refine wpAny_Assign_Name (thn (he pins s σ H _ I h) fun v s1 ⟨y,H1,I1,r1,q1⟩=>?_) hs;exact hu_ I1 hN hi hx r1 (fun s2 I2=>⟨_,H1,I2,q1⟩) hf
def Lr_ (i j:Nat)(ta:TA):TS:=fun D σ H=>ta σ H fun vs H1=>∃ v w,vs=[v,w]/\D.nx ((σ.set i (some v)).set j (some w)) H1
theorem pi_ {i j:Nat}{x y:Str}{a b:Expr}{ta:TA}{px py pt:Pos}{kt k2 pt2} (hc:X.calm=true) (hN:X.N.Nodup) (hi:X.N[i]?=some x) (hj:X.N[j]?=some y) (hij:i≠j)
  (hx:X.env.scope.names.lookup x=some .local) (hy:X.env.scope.names.lookup y=some .local) (ha:PA X [a,b] ta)
  (hw:swappedStores [.Tuple [.Name x px,.Name y py] kt pt] (.Tuple [a,b] k2 pt2) X.env=pure (some [x,y]))
  (hs:swapsWithSole [.Tuple [.Name x px,.Name y py] kt pt] (.Tuple [a,b] k2 pt2) pos.line X.env=pure false:=by rfl) :
  PS X (.Assign [.Tuple [.Name x px,.Name y py] kt pt] (.Tuple [a,b] k2 pt2) pos) (Lr_ i j ta):=by
 intro pins s σ H D I h;rw [exec_Assign_arm];refine Ad_ (Cy_ ?_);rw [hs];refine Ad_ (Av_ ?_);rw [if_neg (by decide)];refine Ad_ (Tuple_ (thn (ha _ pins s σ H _ I h) fun us s1 ⟨vs,H1,I1,r1,q1⟩=>?_));obtain ⟨v,w,e1,q1⟩:=q1;subst e1
 obtain ⟨u1,u2,rfl,rv,rw'⟩:∃ u1 u2,us=[u1,u2]/\Fs_ v u1/\Fs_ w u2:=by
  cases r1 with
  | cons p q =>
   cases q with
   | cons p' q' =>
    cases q';exact ⟨_,_,rfl,p,p'⟩
 refine Cm_ ?_ (by show 2<=sizeLine;decide);have I2:Inv X pins σ H1 { s1 with heap:=s1.heap.push { cls:=.type "tuple",data:=.seq [u1,u2].toArray } }:=I1.kept (t':=s1.toks) fun b o e=>Aj_ _ e;rw [hw];refine Ad_ (Av_ ?_);show wpAny (model X.prog X.w) X.A (do rule "assign.swapped-stores";let items <-unpackItems (.ref s1.heap.objs.size) 2 none;assignInOrder [fun v=>bindName X.env y v,fun v=>bindName X.env x v] items.reverse;pure Flow.next) _ _ _;refine Ad_ (Db_ (Ad_ (unpackItems_tuple (items:=#[u1,u2]) (I.ok.hd hc) (IsTup.new s1.heap _) fun h' hx'=>?_)));have I3:=I2.kept (h':=h') (t':=s1.toks) fun b o e=>hx' b o (AE_ (As_ e)) e;show wpAny _ _ (assignInOrder [fun v=>bindName X.env y v,fun v=>bindName X.env x v] [u2,u1] >>= fun _=>pure Flow.next) _ _ _;refine Ad_ (Dx_ (wpAny_bindName (hu_ I3 hN hj (.inl hy) rw' (fun s2 I4=>?_) (.inr hy))));refine Dx_ (wpAny_bindName (hu_ I4 hN hi (.inl hx) rv (fun s3 I5=>assignInOrder_nil (Av_ ?_)) (.inr hx)));rw [List.set_comm _ _ (Ne.symm hij)] at I5;exact ⟨_,H1,I5,q1⟩
end
section
variable {X:Cx}{pos:Pos}
def Iz_ (c:TT)(tb:TS):TS:=fun D σ H=>∃ W:Nat->St->Hp->Prop,(∃ m,W m σ H)/\∀ m σ H,W m σ H ->
 c σ H fun b H1=>if b=true then ∃ N:St->Hp->Prop,(∀ σ' H',N σ' H'->∃ m',m'<m/\W m' σ' H')/\tb { D with nx:=N,ct:=N,bk:=D.nx } σ H1 else D.nx σ H1
theorem fN_ {c:Expr}{body:List Stmt}{tc:TT}{tb:TS}(hp:PassesOwn (model X.prog X.w) X.A X.env X.xe)(hc:PT X c tc)(hb:PSs X body tb):PS X (.While c body [] pos) (Iz_ tc tb):=by
 intro pins s σ H D I h;obtain ⟨W,⟨m0,w0⟩,turn⟩:=h;refine wpAny_While (codeAny_whileLoop (fun n s'=>∃ σ' H',Inv X pins σ' H' s'/\W n σ' H') ?_ m0 ⟨σ,H,I,w0⟩);rintro n s1 ⟨σ1,H1,I1,w1⟩;refine BZ_ hp (thn (hc pins s1 σ1 H1 _ I1 (turn n σ1 H1 w1)) fun b s2 ⟨H2,I2,q2⟩=>?_);cases b with
 | true =>
  obtain ⟨N,hN,q2⟩:=q2;rw [if_pos rfl];refine BZ_ hp (thn (hb pins s2 σ1 H2 _ I2 q2) fun f s3 q3=>?_);cases f with
  | next =>
   obtain ⟨σ3,H3,I3,n3⟩:=q3;obtain ⟨m',hm,w3⟩:=hN σ3 H3 n3;exact ⟨m',hm,σ3,H3,I3,w3⟩
  | cont =>
   obtain ⟨σ3,H3,I3,n3⟩:=q3;obtain ⟨m',hm,w3⟩:=hN σ3 H3 n3;exact ⟨m',hm,σ3,H3,I3,w3⟩
  | brk=>exact q3
  | ret v=>exact q3
 | false =>rw [if_neg AI_];exact CD_ ⟨σ1,H2,I2,q2⟩
end
structure It where
 go:Nat->Hp->Prop
 yld:Nat->Hp->V->Hp->Prop
 stop:Nat->Hp->Prop
def HJ_ (X:Cx)(pins:List (Addr×Obj))(H:Hp)(b:Addr):Prop :=
 H b=none/\b≠X.env.locals/\b∉X.fs/\(b∈X.ex\/X.s₀.heap.objs.size<=b)/\(∀ x c,X.env.cells.lookup x=some c->c≠b)/\∀ p∈X.pn++pins,p.1≠b
theorem Inv.fpOk {X:Cx}{pins:List (Addr×Obj)}{σ:St}{H H':Hp}{s:Shared}{b:Addr}(I:Inv X pins σ H s)(hb:s.heap.objs.size<=b)(hn:H' b=none):HJ_ X pins H' b:=by
 refine ⟨hn,DP_ (AF_ I.lt hb),I.nofs hb,.inr (Ay_ I.sz hb),fun x c e z=>?_,fun p hp z=>?_⟩
 ·obtain ⟨v,q⟩:=I.cell x c e;exact absurd (AF_ q.lt (by rw [z];exact hb)) (Bv_ _)
 ·exact absurd (AF_ (As_ (I.pin p hp).1) (by rw [z];exact hb)) (Bv_ _)
structure Kk_ (P:Program)(w:World)(K:PySem.W.Frag)(tg:Expr)(J:It)(fp:List Addr)(it:Addr)(tn:Nat->Heap->Prop):Prop where
 mem:it∈fp
 obj:∀ i h,tn i h->∀ b∈fp,∃ o,h.get? b=some o/\∀ v,o.data≠.cell v
 keep:∀ i h h',tn i h->(∀ b∈fp,∀ o,h.get? b=some o->h'.get? b=some o)->tn i h'
 item:∀ (X:Cx),X.prog=P->X.w=w->X.K=K->X.calm=true->∀ (i:Nat)(pins:List (Addr×Obj))(s:Shared)(σ:St)(H:Hp)(E:Value->Shared->Prop),Inv X pins σ H s->(∀ b∈fp,HJ_ X pins H b)->tn i s.heap->J.go i H ->
  wpAny (model P w) X.A (pyNext (.ref it)) (fun r s1=>∃ u,r=some u /\
   wpAny (model P w) X.A (letOwnedTupleGo tg (.ref it) u) (fun _ s2=>∃ x H',Inv X pins σ H' s2/\Fs_ x u/\J.yld i H x H'/\tn (i+1) s2.heap/\∀ b∈fp,H' b=none) E s1) E s
 done:∀ (X:Cx),X.prog=P->X.w=w->X.K=K->X.calm=true->∀ (i:Nat)(pins:List (Addr×Obj))(s:Shared)(σ:St)(H:Hp)(E:Value->Shared->Prop),Inv X pins σ H s->(∀ b∈fp,HJ_ X pins H b)->tn i s.heap->J.stop i H ->
  wpAny (model P w) X.A (pyNext (.ref it)) (fun r s1=>r=none/\Inv X pins σ H s1) E s
 self:∀ (A:Around)(i:Nat)(s:Shared)(Q:Value->Shared->Prop)(E:Value->Shared->Prop),tn i s.heap->Q (.ref it) s->wpAny (model P w) A (pyIter (.ref it)) Q E s
abbrev TI:=St->Hp->(It->Hp->Prop)->Prop
def PIE (X:Cx)(pins:List (Addr×Obj))(σ:St)(tg:Expr)(R:It->Hp->Prop)(itv:Value)(s2:Shared):Prop :=
 ∃ (it:Addr)(fp:List Addr)(tn:Nat->Heap->Prop)(J:It)(H':Hp),itv=.ref it/\Inv X pins σ H' s2/\Kk_ X.prog X.w X.K tg J fp it tn/\tn 0 s2.heap/\(∀ b∈fp,HJ_ X pins H' b)/\R J H'
def PI (X:Cx)(tg iter:Expr)(wi:TI):Prop :=
 ∀ (pins:List (Addr×Obj))(s:Shared)(σ:St)(H:Hp)(R:It->Hp->Prop),Inv X pins σ H s->wi σ H R ->
  wpAny (model X.prog X.w) X.A (eval iter X.env) (fun v s1=>wpAny (model X.prog X.w) X.A (pyIter v) (PIE X pins σ tg R) X.xe s1) X.xe s
theorem IT_ {M:Model}{A:Around}{E:Value->Shared->Prop}{s:Shared}{tg:Expr}{it:Addr}{u:Value}{o:Obj}{n:String}{vs:Array Value}{Q:Unit->Shared->Prop}(ho:s.heap.get? it=some o)(hc:o.cls=.type n)(hd:o.data=.fields vs)
    (hn:["enumerate", "zip", "dict_itemiterator", "dict_reverseitemiterator", "odict_iterator", "itertools.zip_longest", "itertools.pairwise"].contains n=false) (hQ:Q () s):wpAny M A (letOwnedTupleGo tg (.ref it) u) Q E s:=by
  unfold letOwnedTupleGo
  cases tg <;> first
    | exact Av_ hQ
    | (cases u <;> first
        | exact Av_ hQ
        | (refine Ad_ (wpAny_load ho ?_)
           rw [hc,hd];show wpAny M A (if (["enumerate", "zip", "dict_itemiterator", "dict_reverseitemiterator", "odict_iterator", "itertools.zip_longest", "itertools.pairwise"].contains n && vs[0]? == some (rawInt _))=true then _ else _) Q E s;rw [if_neg (by intro h;rw [hn,Bool.false_and] at h;cases h)];exact Av_ hQ))
def Itl (K:PySem.W.Frag)(a:Addr):It :=
 ⟨fun i H=>∃ xs x,SqL K H a xs/\xs[i]?=some x,fun i H x H'=>H'=H/\∀ xs,SqL K H a xs->xs[i]?=some x,fun i H=>∃ xs,SqL K H a xs/\xs.length<=i⟩
def Itt (K:PySem.W.Frag)(a:Addr):It :=
 ⟨fun i H=>∃ xs x,SqT K H a xs/\xs[i]?=some x,fun i H x H'=>H'=H/\∀ xs,SqT K H a xs->xs[i]?=some x,fun i H=>∃ xs,SqT K H a xs/\xs.length<=i⟩
def Itr (lo:Int)(n:Nat):It:=⟨fun i _=>i<n,fun i H x H'=>H'=H/\x=.int (lo+i),fun i _=>n<=i⟩
theorem mZ_ {P:Program}{w:World}{K:PySem.W.Frag}{tg:Expr}(a it:Addr):Kk_ P w K tg (Itl K a) [it] it (fun i h=>h.IsListIter it a i) where
 mem:=by simp
 obj:=fun i h st b hb=>by
  have e:b=it:=by simpa using hb
  subst e;obtain ⟨o,e,c,d⟩:=st;exact ⟨o,e,fun v z=>by rw [d] at z;cases z⟩
 keep:=fun i h h' st k=>st.at fun o e=>k it (by simp) o e
 item:=by intro X hP hw hK hc i pins s σ H E I hf st hg;subst hP hw hK;obtain ⟨xs,x,hq,hx⟩:=hg;obtain ⟨its,rv,p,hz⟩:=I.list hq;obtain ⟨u,hu,ru⟩:=rv.get hx;obtain ⟨f0,f1,f2,f3,f4,f5⟩:=hf it (by simp);refine By_ st p.isList (x:=u) (by simpa using hu) fun h' st' sb=>?_;have I1:Inv X pins σ H { s with heap:=h' }:=I.turned (t':=s.toks) (fun b o hb e=>(sb.2 b hb).trans e) f0 f1 f3 f4 f5;obtain ⟨o,e,c,d⟩:=id st';exact ⟨u,rfl,IT_ (s:={ s with heap:=h' }) e c d (by decide) ⟨x,H,I1,ru,⟨rfl,fun ys hy=>by rw [I.list_inj hy hq];exact hx⟩,st',fun b hb=>(hf b hb).1⟩⟩
 done:=by intro X hP hw hK hc i pins s σ H E I hf st hg;subst hP hw hK;obtain ⟨xs,hq,hx⟩:=hg;obtain ⟨its,rv,p,hz⟩:=I.list hq;obtain ⟨f0,f1,f2,f3,f4,f5⟩:=hf it (by simp);have hl:=rv.length;exact C7_ (I.ok.hd hc) st p.isList (by simp;lia) fun h' eb=>⟨rfl,I.turned (t':=s.toks) (fun b o hb e=>eb b o hb e) f0 f1 f3 f4 f5⟩
 self:=fun _ _ _ _ _ st h=>Eo_ st h
theorem ms_ {P:Program}{w:World}{K:PySem.W.Frag}{tg:Expr}(a it:Addr):Kk_ P w K tg (Itt K a) [it] it (fun i h=>h.IsTupleIter it a i) where
 mem:=by simp
 obj:=fun i h st b hb=>by
  have e:b=it:=by simpa using hb
  subst e;obtain ⟨o,e,c,d⟩:=st;exact ⟨o,e,fun v z=>by rw [d] at z;cases z⟩
 keep:=fun i h h' st k=>st.at fun o e=>k it (by simp) o e
 item:=by intro X hP hw hK hc i pins s σ H E I hf st hg;subst hP hw hK;obtain ⟨xs,x,hq,hx⟩:=hg;obtain ⟨its,rv,p,hz⟩:=I.tuple hq;obtain ⟨u,hu,ru⟩:=rv.get hx;obtain ⟨f0,f1,f2,f3,f4,f5⟩:=hf it (by simp);refine wpAny_pyNext_tuple_item st (show s.heap.IsTuple a its.toArray from p) (x:=u) (by simpa using hu) fun h' st' sb=>?_;have I1:Inv X pins σ H { s with heap:=h' }:=I.turned (t':=s.toks) (fun b o hb e=>(sb.2 b hb).trans e) f0 f1 f3 f4 f5;obtain ⟨o,e,c,d⟩:=id st';exact ⟨u,rfl,IT_ (s:={ s with heap:=h' }) e c d (by decide) ⟨x,H,I1,ru,⟨rfl,fun ys hy=>by rw [I.tuple_inj hy hq];exact hx⟩,st',fun b hb=>(hf b hb).1⟩⟩
 done:=by intro X hP hw hK hc i pins s σ H E I hf st hg;subst hP hw hK;obtain ⟨xs,hq,hx⟩:=hg;obtain ⟨its,rv,p,hz⟩:=I.tuple hq;obtain ⟨f0,f1,f2,f3,f4,f5⟩:=hf it (by simp);have hl:=rv.length;exact wpAny_pyNext_tuple_end (I.ok.hd hc) st (show s.heap.IsTuple a its.toArray from p) (by simp;lia) fun h' eb=>⟨rfl,I.turned (t':=s.toks) (fun b o hb e=>eb b o hb e) f0 f1 f3 f4 f5⟩
 self:=fun _ _ _ _ _ st h=>wpAny_pyIter_tupleiter st h
theorem mt_ {P:Program}{w:World}{K:PySem.W.Frag}{tg:Expr}(it:Addr)(lo:Int)(n:Nat):Kk_ P w K tg (Itr lo n) [it] it (fun i h=>IsRangeIter h it (lo+(i:Nat)*1) ((n:Int)-(i:Nat)) 1) where
 mem:=by simp
 obj:=fun i h st b hb=>by
  have e:b=it:=by simpa using hb
  subst e;exact ⟨_,st,fun v z=>by have z':Data.fields _=Data.cell v:=z;cases z'⟩
 keep:=fun i h h' st k=>k it (by simp) _ st
 item:=by intro X hP hw hK hc i pins s σ H E I hf st hg;subst hP hw hK;obtain ⟨f0,f1,f2,f3,f4,f5⟩:=hf it (by simp);have W:=Walks.range (prog:=X.prog) (w:=X.w) (I.ok.hd hc) it lo 1 n;refine W.item i s _ _ hg st fun v h' tk hv st' kk=>?_;obtain ⟨t,rfl⟩:=hv;have I1:Inv X pins σ H { s with heap:=h',toks:=tk }:=I.turned (fun b o hb e=>kk b o (by simpa using hb) e) f0 f1 f3 f4 f5;refine ⟨_,rfl,IT_ (s:={ s with heap:=h',toks:=tk }) (n := "range_iterator") st' rfl rfl (by decide) ⟨.int (lo+i),H,I1,⟨t,?_⟩,⟨rfl,rfl⟩,st',fun b hb=>(hf b hb).1⟩⟩;rw [Int.mul_one]
 done:=by intro X hP hw hK hc i pins s σ H E I hf st hg;subst hP hw hK;obtain ⟨f0,f1,f2,f3,f4,f5⟩:=hf it (by simp);exact wpAny_pyNext_range_end (I.ok.hd hc) st (by have:n<=i:=hg;lia) fun h' eb=>⟨rfl,I.turned (t':=s.toks) (fun b o hb e=>eb b o hb e) f0 f1 f3 f4 f5⟩
 self:=fun _ _ _ _ _ st h=>wpAny_pyIter_rangeiter st h
end L2
namespace L2
open PySem PySem.Spec PyProof.Rows
section
variable {X:Cx}{tg:Expr}
def IS_ (K:PySem.W.Frag)(tl:TE):TI:=fun σ H R=>tl σ H fun x H1=>∃ a,x=.ref a/\(∃ xs,SqL K H1 a xs)/\R (Itl K a) H1
def K7_ (K:PySem.W.Frag)(tl:TE):TI:=fun σ H R=>tl σ H fun x H1=>∃ a,x=.ref a/\(∃ xs,SqT K H1 a xs)/\R (Itt K a) H1
theorem pR_ {l:Expr}{tl:TE}(hl:PE X l tl):PI X tg l (IS_ X.K tl):=by
 intro pins s σ H R I h;refine thn (hl pins s σ H _ I h) fun v s1 ⟨x,H1,I1,r1,q1⟩=>?_;obtain ⟨a,e,⟨xs,hq⟩,q⟩:=q1;subst e;cases r1;obtain ⟨its,rv,p,hz⟩:=I1.list hq;refine B4_ p.isList ?_;refine ⟨s1.heap.objs.size,[s1.heap.objs.size],_,_,H1,rfl,I1.kept (t':=s1.toks) fun b o e=>Aj_ _ e,mZ_ a _,⟨_,AD_ _ rfl,rfl,rfl⟩,fun b hb=>?_,q⟩;have e:b=s1.heap.objs.size:=by simpa using hb
 subst e;exact I1.fpOk (Af_ _) (I1.hok.fresh (Af_ _))
theorem qJ_ {l:Expr}{tl:TE}(hl:PE X l tl):PI X tg l (K7_ X.K tl):=by
 intro pins s σ H R I h;refine thn (hl pins s σ H _ I h) fun v s1 ⟨x,H1,I1,r1,q1⟩=>?_;obtain ⟨a,e,⟨xs,hq⟩,q⟩:=q1;subst e;cases r1;obtain ⟨its,rv,p,hz⟩:=I1.tuple hq;refine wpAny_pyIter_tuple (show s1.heap.IsTuple a its.toArray from p) ?_;refine ⟨s1.heap.objs.size,[s1.heap.objs.size],_,_,H1,rfl,I1.kept (t':=s1.toks) fun b o e=>Aj_ _ e,ms_ a _,⟨_,AD_ _ rfl,rfl,rfl⟩,fun b hb=>?_,q⟩;have e:b=s1.heap.objs.size:=by simpa using hb
 subst e;exact I1.fpOk (Af_ _) (I1.hok.fresh (Af_ _))
theorem lQ_ {pins:List (Addr×Obj)}{σ:St}{H:Hp}{s:Shared}{R:It->Hp->Prop}{E:Value->Shared->Prop}{lo hi:Int}{t u v:Tok}{tk:Nat}(I:Inv X pins σ H s)(h1:-(2 ^ 62)<=lo)(h2:lo<2 ^ 62)(h3:-(2 ^ 62)<=hi)(h4:hi<2 ^ 62)
  (q:R (Itr lo (hi-lo).toNat) H):wpAny (model X.prog X.w) X.A (pyIter (.ref s.heap.objs.size)) (PIE X pins σ tg R) E { s with heap:=s.heap.push { cls:=.type "range",data:=.fields #[.int lo t,.int hi u,.int 1 v] },toks:=tk }:=by
 refine wpAny_pyIter_range (IsRange.new ..) (small_one h1 h2 h3 h4) ?_;have I1:Inv X pins σ H { s with heap:=s.heap.push { cls:=.type "range",data:=.fields #[.int lo t,.int hi u,.int 1 v] },toks:=tk }:=I.kept fun b o e=>Aj_ _ e
 refine ⟨(s.heap.push { cls:=.type "range",data:=.fields #[.int lo t,.int hi u,.int 1 v] }).objs.size,[(s.heap.push { cls:=.type "range",data:=.fields #[.int lo t,.int hi u,.int 1 v] }).objs.size],_,_,H,rfl,
  I1.kept (t':=tk) fun b o e=>Aj_ _ e,mt_ _ lo (hi-lo).toNat,?_,fun b hb=>?_,q⟩
 ·have e1:lo+((0:Nat):Int)*1=lo:=by simp
  have e2:(((hi-lo).toNat:Nat):Int)-((0:Nat):Int)=Builtin.Range.rangeSize lo hi 1:=by rw [rangeSize_one];split <;> lia
  show IsRangeIter _ _ (lo+((0:Nat):Int)*1) ((((hi-lo).toNat:Nat):Int)-((0:Nat):Int)) 1;rw [e1,e2];exact AD_ _ rfl
 ·have e:b=(s.heap.push { cls:=.type "range",data:=.fields #[.int lo t,.int hi u,.int 1 v] }).objs.size:=by simpa using hb
  subst e;exact I1.fpOk (Af_ _) (I1.hok.fresh (Af_ _))
def JW_ (ta:TA):TI:=fun σ H R=>ta σ H fun vs H1=>∃ j:Int,vs=[.int j] /\ -(2 ^ 62)<=j/\j<2 ^ 62/\R (Itr 0 j.toNat) H1
def JR_ (ta:TA):TI:=fun σ H R=>ta σ H fun vs H1=>∃ i j:Int,vs=[.int i,.int j]/\(-(2 ^ 62)<=i/\i<2 ^ 62 /\ -(2 ^ 62)<=j/\j<2 ^ 62)/\R (Itr i (j-i).toNat) H1
theorem aE_ {a:Expr}{ta:TA}{p pos:Pos}(hg:Gl X "range") (hm:X.mg "range" = none) (ha:PA X [a] ta) (hs:starEach [a] X.env=[(false,eval a X.env)]:=by rfl):PI X tg (.Call (.Name "range" p) [a] [] pos) (JW_ ta):=by
 intro pins s σ H R I h;refine Call_ (e9_ I hg hm boot_range (Bs_ (thn (ha pos pins s σ H _ I h) fun us s1 ⟨vs,H1,I1,r1,q1⟩=>?_) hs rfl));obtain ⟨j,e,q1,q2,q⟩:=q1;subst e;cases r1 with
 | cons r rr =>
  cases rr;obtain ⟨t,rfl⟩:=r;exact call_range_1 (lQ_ I1 (by lia) (by lia) q1 q2 (by simpa using q))
theorem m0_ {a b:Expr}{ta:TA}{p pos:Pos}(hg:Gl X "range") (hm:X.mg "range" = none) (ha:PA X [a,b] ta) (hs:starEach [a,b] X.env=[(false,eval a X.env),(false,eval b X.env)]:=by rfl) (hs2:starEach [b] X.env=[(false,eval b X.env)]:=by rfl) :
  PI X tg (.Call (.Name "range" p) [a,b] [] pos) (JR_ ta):=by
 intro pins s σ H R I h;refine Call_ (e9_ I hg hm boot_range (Bs_ (thn (ha pos pins s σ H _ I h) fun us s1 ⟨vs,H1,I1,r1,q1⟩=>?_) (by rw [hs,hs2]) (by rw [hs2];rfl)));obtain ⟨i,j,e,⟨q1,q2,q3,q4⟩,q⟩:=q1;subst e;cases r1 with
 | cons r rr =>
  cases rr with
  | cons r' rr =>
   cases rr;obtain ⟨t,rfl⟩:=r;obtain ⟨t',rfl⟩:=r';exact call_range_2 (lQ_ I1 q1 q2 q3 q4 q)
def LQ_ (wi:TI)(g:TG)(tb:TS):TS:=fun D σ H=>wi σ H fun J H1=>∃ W:Nat->Nat->St->Hp->Prop,(∃ m,W 0 m σ H1)/\∀ i m σ H,W i m σ H ->
 (J.stop i H/\D.nx σ H)\/(J.go i H/\∃ N:St->Hp->Prop,(∀ σ' H',N σ' H'->∃ m',m'<m/\W (i+1) m' σ' H')/\∀ x H',J.yld i H x H'->g x σ H' fun σ2 H2=>tb { D with nx:=N,ct:=N,bk:=D.nx } σ2 H2)
def Hn_ (fp:List Addr)(h:Heap):List (Addr×Obj):=fp.filterMap fun b=>(h.get? b).map fun o=>(b,o)
theorem eP_ {fp:List Addr}{h:Heap}{b:Addr}{o:Obj}(hb:b∈fp)(e:h.get? b=some o):(b,o)∈Hn_ fp h:=BU_.mpr ⟨b,hb,by rw [e];rfl⟩
theorem m1_ {fp:List Addr}{h:Heap}{p:Addr×Obj}(hp:p∈Hn_ fp h):p.1∈fp/\h.get? p.1=some p.2:=by
 obtain ⟨b,hb,e⟩:=BU_.mp hp;cases q:h.get? b with
 | none=>rw [q] at e;cases e
 | some o =>rw [q] at e;have e':(b,o)=p:=Aq_ e;subst e';exact ⟨hb,q⟩
theorem Inv.pinned {pins:List (Addr×Obj)}{σ:St}{H:Hp}{s:Shared}{fp:List Addr}(I:Inv X pins σ H s)(hf:∀ b∈fp,HJ_ X pins H b)(ho:∀ b∈fp,∃ o,s.heap.get? b=some o/\∀ v,o.data≠.cell v):Inv X (pins++Hn_ fp s.heap) σ H s :=
 I.pins_of fun p hp=>(Ax_.mp hp).elim (fun z=>I.pin p (AM_ _ z)) fun z=>by obtain ⟨hb,e⟩:=m1_ z;obtain ⟨f0,f1,f2,_⟩:=hf p.1 hb;obtain ⟨o,e',d⟩:=ho p.1 hb;rw [e] at e';cases e';exact ⟨e,f0,f1,f2,d⟩
theorem Inv.unpinned {pins pl:List (Addr×Obj)}{σ:St}{H:Hp}{s:Shared}(I:Inv X (pins++pl) σ H s):Inv X pins σ H s:=I.pins_of fun p hp=>I.pin p (AM_ _ (AV_ _ hp))
theorem aV_ {iter:Expr}{body:List Stmt}{wi:TI}{g:TG}{tb:TS}{pos:Pos}(hp:PassesOwn (model X.prog X.w) X.A X.env X.xe)(hc:X.calm=true)(hi:PI X tg iter wi)(hg:PG X tg g)(hb:PSs X body tb)
  (hs:∀ x,foldedSetIterable iter X.env x=pure x:=by intro _;rfl):PS X (.For tg iter body [] pos) (LQ_ wi g tb):=by
 intro pins s σ H D I h;refine wpAny_For (thn (hi pins s σ H _ I h) fun v s1 h1=>thn h1 fun itv s2 h2=>?_) hs;obtain ⟨it,fp,tn,J,H2,e,I2,T,st2,f2,W,⟨m0,w0⟩,turn⟩:=h2;subst e
 have stat:∀ {H':Hp},(∀ b∈fp,H' b=none)->∀ b∈fp,HJ_ X pins H' b:=fun hn b hb=>⟨hn b hb,(f2 b hb).2⟩;refine codeAny_forLoop_any (fun n s'=>∃ i σ' H',Inv X pins σ' H' s'/\tn i s'.heap/\(∀ b∈fp,H' b=none)/\W i n σ' H') ?_ m0 ⟨0,σ,H2,I2,st2,fun b hb=>(f2 b hb).1,w0⟩;rintro n s3 ⟨i,σ3,H3,I3,st3,fr3,w3⟩
 rcases turn i n σ3 H3 w3 with ⟨stop,qn⟩|⟨go,N,hN,step⟩
 ·refine BZ_ hp (thn (T.done X rfl rfl rfl hc i pins s3 σ3 H3 X.xe I3 (stat fr3) st3 stop) fun r s4 ⟨hr,I4⟩=>?_);subst hr;exact CD_ ⟨σ3,H3,I4,qn⟩
 ·refine BZ_ hp (thn (T.item X rfl rfl rfl hc i pins s3 σ3 H3 X.xe I3 (stat fr3) st3 go) fun r s4 ⟨u,hr,h4⟩=>?_);subst hr;refine BZ_ hp (thn h4 fun _ s5 ⟨x,H5,I5,r5,y5,st5,fr5⟩=>?_);have I5':=I5.pinned (stat fr5) (T.obj _ _ st5);refine BZ_ hp (thn (hg _ s5 σ3 H5 x u _ I5' r5 (step x H5 y5)) fun _ s6 ⟨σ6,H6,I6,q6⟩=>?_);refine BZ_ hp (thn (hb _ s6 σ6 H6 _ I6 q6) fun f s7 q7=>?_);have again:∀ {σ7:St}{H7:Hp},Inv X (pins++Hn_ fp s5.heap) σ7 H7 s7->N σ7 H7->∃ m,m<n/\∃ i σ' H',Inv X pins σ' H' s7/\tn i s7.heap/\(∀ b∈fp,H' b=none)/\W i m σ' H':=fun {σ7 H7} I7 n7=>by obtain ⟨m',hm,w7⟩:=hN σ7 H7 n7;refine ⟨m',hm,i+1,σ7,H7,I7.unpinned,T.keep _ _ _ st5 fun b hb o e=>(I7.pin (b,o) (AM_ _ (AM_ _ (eP_ hb e)))).1,fun b hb=>?_,w7⟩;obtain ⟨o,e,d⟩:=T.obj _ _ st5 b hb;exact (I7.pin (b,o) (AM_ _ (AM_ _ (eP_ hb e)))).2.1
  cases f with
  | next=>obtain ⟨σ7,H7,I7,n7⟩:=q7;exact again I7 n7
  | cont=>obtain ⟨σ7,H7,I7,n7⟩:=q7;exact again I7 n7
  | brk=>obtain ⟨σ7,H7,I7,q7⟩:=q7;exact ⟨σ7,H7,I7.unpinned,q7⟩
  | ret v=>obtain ⟨x7,σ7,H7,I7,r7,q7⟩:=q7;exact ⟨x7,σ7,H7,I7.unpinned,r7,q7⟩
end
theorem ou_ {K:PySem.W.Frag}{a:Addr}{xs:List V}{g:TG}{tb:TS}{D:G7_}{σ:St}{H:Hp}(Pv:Nat->St->Hp->Prop)(h0:Pv 0 σ H)(hl:∀ i σ H,i<=xs.length->Pv i σ H->SqL K H a xs)
  (hs:∀ i x σ H,xs[i]?=some x->Pv i σ H->g x σ H fun σ2 H2=>tb { D with nx:=Pv (i+1),ct:=Pv (i+1),bk:=D.nx } σ2 H2) (hd:∀ σ H,Pv xs.length σ H->D.nx σ H) :
  ∃ W:Nat->Nat->St->Hp->Prop,(∃ m,W 0 m σ H)/\∀ i m σ H,W i m σ H ->
   ((Itl K a).stop i H/\D.nx σ H)\/((Itl K a).go i H/\∃ N:St->Hp->Prop,(∀ σ' H',N σ' H'->∃ m',m'<m/\W (i+1) m' σ' H')/\∀ x H',(Itl K a).yld i H x H'->g x σ H' fun σ2 H2=>tb { D with nx:=N,ct:=N,bk:=D.nx } σ2 H2):=by
 refine ⟨fun i m σ H=>m=xs.length-i/\i<=xs.length/\Pv i σ H,⟨xs.length,by simp,AA_ _,h0⟩,?_⟩;rintro i m σ H ⟨rfl,hi,p⟩;have q:=hl i σ H hi p;by_cases hlt:i<xs.length
 ·refine .inr ⟨⟨xs,xs[i],q,by simp [hlt]⟩,Pv (i+1),fun σ' H' p'=>⟨xs.length-(i+1),by lia,rfl,hlt,p'⟩,fun x H' y=>?_⟩;obtain ⟨e,y⟩:=y;subst e;exact hs i x σ _ (y xs q) p
 ·have e:i=xs.length:=by lia
  subst e;exact .inl ⟨⟨xs,q,Af_ _⟩,hd σ H p⟩
theorem m2_ {lo:Int}{n:Nat}{g:TG}{tb:TS}{D:G7_}{σ:St}{H:Hp}(Pv:Nat->St->Hp->Prop)(h0:Pv 0 σ H)
  (hs:∀ i σ H,i<n->Pv i σ H->g (.int (lo+i)) σ H fun σ2 H2=>tb { D with nx:=Pv (i+1),ct:=Pv (i+1),bk:=D.nx } σ2 H2) (hd:∀ σ H,Pv n σ H->D.nx σ H) :
  ∃ W:Nat->Nat->St->Hp->Prop,(∃ m,W 0 m σ H)/\∀ i m σ H,W i m σ H ->
   ((Itr lo n).stop i H/\D.nx σ H)\/((Itr lo n).go i H/\∃ N:St->Hp->Prop,(∀ σ' H',N σ' H'->∃ m',m'<m/\W (i+1) m' σ' H')/\∀ x H',(Itr lo n).yld i H x H'->g x σ H' fun σ2 H2=>tb { D with nx:=N,ct:=N,bk:=D.nx } σ2 H2):=by
 refine ⟨fun i m σ H=>m=n-i/\i<=n/\Pv i σ H,⟨n,by simp,AA_ _,h0⟩,?_⟩;rintro i m σ H ⟨rfl,hi,p⟩;by_cases hlt:i<n
 ·refine .inr ⟨hlt,Pv (i+1),fun σ' H' p'=>⟨n-(i+1),by lia,rfl,hlt,p'⟩,fun x H' y=>?_⟩;obtain ⟨e,y⟩:=y;subst e y;exact hs i σ _ hlt p
 ·have e:i=n:=by lia
  subst e;exact .inl ⟨Af_ _,hd σ H p⟩
end L2
namespace L2
open PySem PySem.Spec PyProof.Rows
abbrev R2:=V->V->Hp->VK->Prop
def OpR (X:Cx)(f:Value->Value->Sem Value)(r:R2):Prop :=
 ∀ (pins:List (Addr×Obj))(s:Shared)(σ:St)(H:Hp)(x y:V)(v u:Value)(Q:VK),Inv X pins σ H s->Fs_ x v->Fs_ y u->r x y H Q ->
  wpAny (model X.prog X.w) X.A (f v u) (EP X pins σ Q) X.xe s
def UnR (X:Cx)(f:Value->Sem Value)(r:V->Hp->VK->Prop):Prop :=
 ∀ (pins:List (Addr×Obj))(s:Shared)(σ:St)(H:Hp)(x:V)(v:Value)(Q:VK),Inv X pins σ H s->Fs_ x v->r x H Q ->
  wpAny (model X.prog X.w) X.A (f v) (EP X pins σ Q) X.xe s
def FW_ (X:Cx)(f:Value)(r:List V->Hp->VK->Prop):Prop :=
 ∀ (pins:List (Addr×Obj))(s:Shared)(σ:St)(H:Hp)(xs:List V)(us:List Value)(Q:VK),Inv X pins σ H s->Fm_ xs us->r xs H Q ->
  wpAny (model X.prog X.w) X.A (call f us) (EP X pins σ Q) X.xe s
def tOp (r:R2)(ta tb:TE):TE:=fun σ H Q=>ta σ H fun x H1=>tb σ H1 fun y H2=>r x y H2 Q
def tUn (r:V->Hp->VK->Prop)(ta:TE):TE:=fun σ H Q=>ta σ H fun x H1=>r x H1 Q
def rI (C:Int->Int->Prop)(g:Int->Int->V):R2:=fun x y H Q=>∃ i j,x=.int i/\y=.int j/\C i j/\Q (g i j) H
def rI0 (g:Int->Int->V):R2:=fun x y H Q=>∃ i j,x=.int i/\y=.int j/\Q (g i j) H
def rU (g:Int->V):V->Hp->VK->Prop:=fun x H Q=>∃ i,x=.int i/\Q (g i) H
section
variable {X:Cx}{a b c:Expr}{ta tb tc:TE}{pos:Pos}
theorem binT (ha:PE X a ta)(hb:PE X b tb){pins:List (Addr×Obj)}{s:Shared}{σ:St}{H:Hp}{R:V->V->Hp->Prop}(I:Inv X pins σ H s)
  (h:ta σ H fun x H1=>tb σ H1 fun y H2=>R x y H2) {Q:Value->Shared->Prop} {f:Value->Value->Sem Value}
  (hf:∀ v u s2 x y H2,Inv X pins σ H2 s2->Fs_ x v->Fs_ y u->R x y H2->wpAny (model X.prog X.w) X.A (f v u) Q X.xe s2) :
  wpAny (model X.prog X.w) X.A (eval a X.env) (fun v s₁=>wpAny (model X.prog X.w) X.A (eval b X.env) (fun u s₂=>wpAny (model X.prog X.w) X.A (f v u) Q X.xe s₂) X.xe s₁) X.xe s:=by
 refine thn (ha pins s σ H _ I h) fun v s1 ⟨x,H1,I1,r1,q1⟩=>?_;refine thn (hb pins s1 σ H1 _ I1 q1) fun u s2 ⟨y,H2,I2,r2,q2⟩=>?_;exact hf v u s2 x y H2 I2 r1 r2 q2
theorem EZ_ {op:Operator}{r:R2}(ho:OpR X (binaryOp op) r)(ha:PE X a ta)(hb:PE X b tb):PE X (.BinOp a op b pos) (tOp r ta tb):=by intro pins s σ H Q I h;exact wpAny_BinOp (binT ha hb I h fun v u s2 x y H2 I2 rx ry q=>ho pins s2 σ H2 x y v u Q I2 rx ry q)
theorem LH_ {op:UnaryOp}{r:V->Hp->VK->Prop}(ho:UnR X (unaryOp op) r)(ha:PE X a ta):PE X (.UnaryOp op a pos) (tUn r ta):=by intro pins s σ H Q I h;exact UnaryOp_ (thn (ha pins s σ H _ I h) fun v s1 ⟨x,H1,I1,r1,q1⟩=>ho pins s1 σ H1 x v Q I1 r1 q1)
theorem opI {f:Value->Value->Sem Value}{C:Int->Int->Prop}{g:Int->Int->Int}
  (rule:∀ (i j:Int)(t u:Tok)(s:Shared)(Q:Value->Shared->Prop)(E:Value->Shared->Prop),C i j->Q (.int (g i j) s.toks) { s with toks:=s.toks+1 }->wpAny (model X.prog X.w) X.A (f (.int i t) (.int j u)) Q E s) :
  OpR X f (rI C fun i j=>.int (g i j)):=by
 intro pins s σ H x y v u Q I rx ry h;obtain ⟨i,j,rfl,rfl,hc,q⟩:=h;obtain ⟨t,rfl⟩:=rx;obtain ⟨t',rfl⟩:=ry;exact rule i j t t' s _ _ hc ⟨.int (g i j),H,I.tok _,⟨_,rfl⟩,q⟩
theorem opI0 {f:Value->Value->Sem Value}{g:Int->Int->Int}
  (rule:∀ (i j:Int)(t u:Tok)(s:Shared)(Q:Value->Shared->Prop)(E:Value->Shared->Prop),Q (.int (g i j) s.toks) { s with toks:=s.toks+1 }->wpAny (model X.prog X.w) X.A (f (.int i t) (.int j u)) Q E s) :
  OpR X f (rI0 fun i j=>.int (g i j)):=by
 intro pins s σ H x y v u Q I rx ry h;obtain ⟨i,j,rfl,rfl,q⟩:=h;obtain ⟨t,rfl⟩:=rx;obtain ⟨t',rfl⟩:=ry;exact rule i j t t' s _ _ ⟨.int (g i j),H,I.tok _,⟨_,rfl⟩,q⟩
theorem opB0 {f:Value->Value->Sem Value}{g:Int->Int->Bool}
  (rule:∀ (i j:Int)(t u:Tok)(s:Shared)(Q:Value->Shared->Prop)(E:Value->Shared->Prop),Q (.bool (g i j)) s->wpAny (model X.prog X.w) X.A (f (.int i t) (.int j u)) Q E s) :
  OpR X f (rI0 fun i j=>.bl (g i j)):=by
 intro pins s σ H x y v u Q I rx ry h;obtain ⟨i,j,rfl,rfl,q⟩:=h;obtain ⟨t,rfl⟩:=rx;obtain ⟨t',rfl⟩:=ry;exact rule i j t t' s _ _ ⟨.bl (g i j),H,I,rfl,q⟩
def Lw_ (i j:Int):Prop:=0<=j/\j<=1000000/\i.natAbs<2 ^ 64
def KD_ (i j:Int):Prop:=(-(2 ^ 64)<i/\i<2 ^ 64)\/(-(2 ^ 64)<j/\j<2 ^ 64)
theorem KD_.ok {i j:Int}(h:KD_ i j):IntMulOk i j:=by
 rcases h with ⟨h1,h2⟩|⟨h1,h2⟩
 ·exact .of_left (intBits_le_64 h1 h2)
 ·exact .of_right (intBits_le_64 h1 h2)
theorem aY_:OpR X (binaryOp .Add) (rI0 fun i j=>.int (i+j)):=opI0 fun _ _ _ _ _ _ _ q=>add_int q
theorem gX_:OpR X (binaryOp .Sub) (rI0 fun i j=>.int (i-j)):=opI0 fun _ _ _ _ _ _ _ q=>sub_int q
theorem lR_:OpR X (binaryOp .Mult) (rI KD_ fun i j=>.int (i*j)):=opI fun _ _ _ _ _ _ _ hc q=>mul_int q hc.ok
theorem aK_:OpR X (binaryOp .Mod) (rI (fun _ j=>0<j) fun i j=>.int (i%j)):=opI fun i j _ _ _ _ _ hc q=>by have h1:(0:Int)<j:=hc;exact mod_int' (by lia) (by rw [Int.fmod_eq_emod_of_nonneg i (by lia)];exact q)
theorem pj_:OpR X (binaryOp .Pow) (rI Lw_ fun i j=>.int (i ^ j.toNat)):=opI fun _ _ _ _ _ _ _ hc q=>pow_int_small hc.1 hc.2.1 hc.2.2 q
theorem unI {f:Value->Sem Value}{g:Int->Int}
  (rule:∀ (i:Int)(t:Tok)(s:Shared)(Q:Value->Shared->Prop)(E:Value->Shared->Prop),Q (.int (g i) s.toks) { s with toks:=s.toks+1 }->wpAny (model X.prog X.w) X.A (f (.int i t)) Q E s) :
  UnR X f (rU fun i=>.int (g i)):=by
 intro pins s σ H x v Q I rx h;obtain ⟨i,rfl,q⟩:=h;obtain ⟨t,rfl⟩:=rx;exact rule i t s _ _ ⟨.int (g i),H,I.tok _,⟨_,rfl⟩,q⟩
theorem qK_:UnR X (unaryOp .USub) (rU fun i=>.int (-i)):=unI fun _ _ _ _ _ q=>neg_int q
end
def scal:V->V->Bool
 | .non,.non=>true | .non,.int _=>true | .int _,.non=>true | .non,.bl _=>true | .bl _,.non=>true | .non,.str _=>true | .str _,.non=>true
 | .int _,.int _=>true | .bl _,.bl _=>true | .str _,.str _=>true | .byt _,.byt _=>true
 | .int _,.str _=>true | .str _,.int _=>true | .bl _,.str _=>true | .str _,.bl _=>true
 | _,_=>false
def rEq:R2:=fun x y H Q=>scal x y=true/\Q (.bl (decide (x=y))) H
def rNe:R2:=fun x y H Q=>scal x y=true/\Q (.bl (!decide (x=y))) H
theorem m3_ {i j:Int}:decide (V.int i=V.int j)=(i == j):=by rw [B0_];simp
theorem pk_ {i j:Bool}:decide (V.bl i=V.bl j)=(i == j):=by rw [B0_];simp
theorem m4_ {i j:Str}:decide (V.str i=V.str j)=(i == j):=by rw [B0_];simp
theorem m5_ {i j:Array UInt8}:decide (V.byt i=V.byt j)=(i.toList == j.toList):=by rw [B0_];cases i;cases j;simp
section
variable {X:Cx}{a b c:Expr}{ta tb tc:TE}{pos:Pos}
theorem a4_ {pins:List (Addr×Obj)}{σ:St}{H:Hp}{s:Shared}{Q:VK}{k k':Bool}(I:Inv X pins σ H s)(q:Q (.bl k) H)(e:k=k'):EP X pins σ Q (.bool k') s:=by subst e;exact ⟨.bl k,H,I,rfl,q⟩
theorem FZ_:OpR X (compareOp .Eq) rEq:=by
 intro pins s σ H x y v u Q I rx ry h;obtain ⟨hs,q⟩:=h;cases x with
 | non =>
  cases rx;cases y with
  | non=>cases ry;exact PySem.EqNone.eq_none_none (a4_ I q (by simp))
  | bl j=>cases ry;exact PySem.EqNone.eq_none_bool (a4_ I q (by simp))
  | int j=>obtain ⟨t',rfl⟩:=ry;exact PySem.EqNone.eq_none_int (a4_ I q (by simp))
  | str j=>obtain ⟨t',rfl⟩:=ry;exact PySem.EqNone.eq_none_str (a4_ I q (by simp))
  | _=>exact absurd (show false=true from hs) AI_
 | bl i =>
  cases rx;cases y with
  | non=>cases ry;exact PySem.EqNone.eq_bool_none (a4_ I q (by simp))
  | bl j=>cases ry;exact eq_bool (a4_ I q pk_)
  | str j=>obtain ⟨t',rfl⟩:=ry;exact PySem.EqMixed.eq_bool_str (a4_ I q (by simp))
  | _=>exact absurd (show false=true from hs) AI_
 | int i =>
  obtain ⟨t,rfl⟩:=rx;cases y with
  | non=>cases ry;exact PySem.EqNone.eq_int_none (a4_ I q (by simp))
  | int j=>obtain ⟨t',rfl⟩:=ry;exact eq_int (a4_ I q m3_)
  | str j=>obtain ⟨t',rfl⟩:=ry;exact PySem.EqMixed.eq_int_str (a4_ I q (by simp))
  | _=>exact absurd (show false=true from hs) AI_
 | str i =>
  obtain ⟨t,rfl⟩:=rx;cases y with
  | non=>cases ry;exact PySem.EqNone.eq_str_none (a4_ I q (by simp))
  | bl j=>cases ry;exact PySem.EqMixed.eq_str_bool (a4_ I q (by simp))
  | int j=>obtain ⟨t',rfl⟩:=ry;exact PySem.EqMixed.eq_str_int (a4_ I q (by simp))
  | str j=>obtain ⟨t',rfl⟩:=ry;exact eq_str (a4_ I q m4_)
  | _=>exact absurd (show false=true from hs) AI_
 | byt i =>
  obtain ⟨t,rfl⟩:=rx;cases y with
  | byt j=>obtain ⟨t',rfl⟩:=ry;exact PySem.W.eq_bytes (a4_ I q m5_)
  | _=>exact absurd (show false=true from hs) AI_
 | _=>cases y <;> exact absurd (show false=true from hs) AI_
theorem IU_:OpR X (compareOp .NotEq) rNe:=by
 intro pins s σ H x y v u Q I rx ry h;obtain ⟨hs,q⟩:=h;cases x with
 | non =>
  cases rx;cases y with
  | non=>cases ry;exact PySem.EqNone.ne_none_none (a4_ I q (by simp))
  | bl j=>cases ry;exact PySem.EqNone.ne_none_bool (a4_ I q (by simp))
  | int j=>obtain ⟨t',rfl⟩:=ry;exact PySem.EqNone.ne_none_int (a4_ I q (by simp))
  | str j=>obtain ⟨t',rfl⟩:=ry;exact PySem.EqNone.ne_none_str (a4_ I q (by simp))
  | _=>exact absurd (show false=true from hs) AI_
 | bl i =>
  cases rx;cases y with
  | non=>cases ry;exact PySem.EqNone.ne_bool_none (a4_ I q (by simp))
  | bl j=>cases ry;exact ne_bool (a4_ I q (congrArg not pk_))
  | str j=>obtain ⟨t',rfl⟩:=ry;exact PySem.EqMixed.ne_bool_str (a4_ I q (by simp))
  | _=>exact absurd (show false=true from hs) AI_
 | int i =>
  obtain ⟨t,rfl⟩:=rx;cases y with
  | non=>cases ry;exact PySem.EqNone.ne_int_none (a4_ I q (by simp))
  | int j=>obtain ⟨t',rfl⟩:=ry;exact ne_int (a4_ I q (congrArg not m3_))
  | str j=>obtain ⟨t',rfl⟩:=ry;exact PySem.EqMixed.ne_int_str (a4_ I q (by simp))
  | _=>exact absurd (show false=true from hs) AI_
 | str i =>
  obtain ⟨t,rfl⟩:=rx;cases y with
  | non=>cases ry;exact PySem.EqNone.ne_str_none (a4_ I q (by simp))
  | bl j=>cases ry;exact PySem.EqMixed.ne_str_bool (a4_ I q (by simp))
  | int j=>obtain ⟨t',rfl⟩:=ry;exact PySem.EqMixed.ne_str_int (a4_ I q (by simp))
  | str j=>obtain ⟨t',rfl⟩:=ry;exact ne_str (a4_ I q (congrArg not m4_))
  | _=>exact absurd (show false=true from hs) AI_
 | byt i =>
  obtain ⟨t,rfl⟩:=rx;cases y with
  | byt j=>obtain ⟨t',rfl⟩:=ry;exact PySem.W.ne_bytes (a4_ I q (congrArg not m5_))
  | _=>exact absurd (show false=true from hs) AI_
 | _=>cases y <;> exact absurd (show false=true from hs) AI_
theorem Im_:OpR X (compareOp .Lt) (rI0 fun i j=>.bl (decide (i<j))):=opB0 fun _ _ _ _ _ _ _ q=>lt_int q
theorem HR_:OpR X (compareOp .Gt) (rI0 fun i j=>.bl (decide (j<i))):=opB0 fun _ _ _ _ _ _ _ q=>gt_int q
theorem LA_:OpR X (compareOp .GtE) (rI0 fun i j=>.bl (decide (j<=i))):=opB0 fun _ _ _ _ _ _ _ q=>ge_int q
theorem E9_ (b:Expr){op:CmpOp}(h:op≠.In:=by decide) (h2:op≠.NotIn:=by decide):behindInMarks op b=false:=by
 have e1:(op == CmpOp.In)=false:=by cases op <;> first|rfl|exact absurd rfl h
 have e2:(op == CmpOp.NotIn)=false:=by cases op <;> first|rfl|exact absurd rfl h2
 cases b <;> simp [behindInMarks,e1,e2]
theorem en_ {op:CmpOp}{r:R2}(ho:OpR X (compareOp op) r)(ha:PE X a ta)(hb:PE X b tb)(hm:behindInMarks op b=false):PE X (.Compare a [op] [b] pos) (tOp r ta tb):=by intro pins s σ H Q I h;exact wpAny_Compare1 (binT ha hb I h fun v u s2 x y H2 I2 rx ry q=>ho pins s2 σ H2 x y v u Q I2 rx ry q) hm
def If_ (t:TE):TT:=fun σ H Q=>t σ H fun x H'=>∃ k,x=.bl k/\Q k H'
theorem aq_ {op:CmpOp}{r:R2}(ho:OpR X (compareOp op) r)(ha:PE X a ta)(hb:PE X b tb)(hm:behindInMarks op b=false):PT X (.Compare a [op] [b] pos) (If_ (tOp r ta tb)):=by
 intro pins s σ H Q I h;refine En_ (thn (ha pins s σ H _ I h) fun v s1 ⟨x,H1,I1,r1,q1⟩=>thn (hb pins s1 σ H1 _ I1 q1) fun u s2 ⟨y,H2,I2,r2,q2⟩ =>thn (ho pins s2 σ H2 x y v u _ I2 r1 r2 q2) fun c s3 ⟨z,H3,I3,r3,k,e,q3⟩=>?_) hm;subst e;cases r3;exact CR_ ⟨H3,I3,q3⟩
theorem Hw_:(sizeLine:Nat)<2 ^ 63:=by rw [CV_];decide
theorem cI_:OpR X (binaryOp .Add) (fun x y H Q=>∃ i j,x=.str i/\y=.str j/\i.length+j.length<=sizeLine/\Q (.str (i++j)) H):=by intro pins s σ H x y v u Q I rx ry h;obtain ⟨i,j,rfl,rfl,hz,q⟩:=h;obtain ⟨t,rfl⟩:=rx;obtain ⟨t',rfl⟩:=ry;exact add_str (fun t' tk=>⟨.str (i++j),H,I.tok _,⟨_,rfl⟩,q⟩) hz
theorem F9_ {x:V}{us:List Value}(r:Fm_ [x] us):∃ u,us=[u]/\Fs_ x u:=by
 cases r with
 | cons r1 r2=>cases r2;exact ⟨_,rfl,r1⟩
theorem GO_ {x y:V}{us:List Value}(r:Fm_ [x,y] us):∃ u w',us=[u,w']/\Fs_ x u/\Fs_ y w':=by
 cases r with
 | cons r1 r2 =>
  cases r2 with
  | cons r3 r4=>cases r4;exact ⟨_,_,rfl,r1,r3⟩
theorem jk_:FW_ X (.builtin "abs") (fun xs H Q=>∃ i,xs=[.int i]/\Q (.int (if i<0 then -i else i)) H):=by intro pins s σ H xs us Q I r h;obtain ⟨i,rfl,q⟩:=h;obtain ⟨u,rfl,t,rfl⟩:=F9_ r;exact call_abs_int fun u tk=>⟨.int (if i<0 then -i else i),H,I.tok _,⟨_,rfl⟩,q⟩
theorem m6_ (hc:X.calm=true):FW_ X (.builtin "max") (fun xs H Q=>∃ i j,xs=[.int i,.int j]/\Q (.int (if j > i then j else i)) H):=by
 intro pins s σ H xs us Q I r h;obtain ⟨i,j,rfl,q⟩:=h;obtain ⟨u,w',rfl,⟨t,rfl⟩,⟨t',rfl⟩⟩:=GO_ r;refine max_two_ints (I.ok.hd hc) fun h' tk k=>⟨_,H,I.kept k,?_,q⟩;by_cases hj:j > i
 ·rw [if_pos hj,if_pos hj];exact ⟨_,rfl⟩
 ·rw [if_neg hj,if_neg hj];exact ⟨_,rfl⟩
theorem m7_ (hc:X.calm=true):FW_ X (.builtin "min") (fun xs H Q=>∃ i j,xs=[.int i,.int j]/\Q (.int (if j<i then j else i)) H):=by
 intro pins s σ H xs us Q I r h;obtain ⟨i,j,rfl,q⟩:=h;obtain ⟨u,w',rfl,⟨t,rfl⟩,⟨t',rfl⟩⟩:=GO_ r;refine min_two_ints (I.ok.hd hc) fun h' tk k=>⟨_,H,I.kept k,?_,q⟩;by_cases hj:j<i
 ·rw [if_pos hj,if_pos hj];exact ⟨_,rfl⟩
 ·rw [if_neg hj,if_neg hj];exact ⟨_,rfl⟩
theorem hJ_:FW_ X (.type "int") (fun xs H Q=>(∃ i,xs=[.int i]/\Q (.int i) H)\/∃ k,xs=[.bl k]/\Q (.int (if k then 1 else 0)) H):=by
 intro pins s σ H xs us Q I r h
 rcases h with ⟨i,rfl,q⟩|⟨k,rfl,q⟩
 ·obtain ⟨u,rfl,t,rfl⟩:=F9_ r;exact call_int_int ⟨.int i,H,I,⟨_,rfl⟩,q⟩
 ·obtain ⟨u,rfl,r1⟩:=F9_ r;cases r1;exact call_int_bool ⟨.int (if k then 1 else 0),H,I.tok _,⟨_,rfl⟩,q⟩
theorem gY_:FW_ X (.type "str") (fun xs H Q=>∃ i,xs=[.int i]/\i.natAbs.log2<1920/\Q (.str (toString i)) H):=by intro pins s σ H xs us Q I r h;obtain ⟨i,rfl,hz,q⟩:=h;obtain ⟨u,rfl,t,rfl⟩:=F9_ r;exact PySem.P.str_of_int hz ⟨.str _,H,I.tok _,⟨_,rfl⟩,q⟩
end
end L2
namespace L2
open PySem PySem.Spec PyProof.Rows
section
variable {prog:Program}{w:World}{A:Around}{E:Value->Shared->Prop}{s:Shared}{K:PySem.W.Frag}{x dx C f:Addr}{mA:Str->Option Value}{name:Str}{v:Value}
end
theorem Iw_.some_of {v:V}{o:Option Value}(r:Iw_ (some v) o):∃ u,o=some u/\Fs_ v u:=by
 cases o with
 | none=>exact (show False from r).elim
 | some u=>exact ⟨u,rfl,r⟩
section
variable {P:Program}{w:World}{H H':Hp}{h h':Heap}{a C dx:Addr}{fs fs':List (Str×V)}
end
structure Cls (K:PySem.W.Frag)(C:Addr):Prop where
 pg:PySem.W.plainGet K C Str.empty=true
 hd:PySem.W.hasDictIn K C=true
 po:PySem.W.plainOver K C=true
 sa:PySem.W.findIn K (.ref C) "__setattr__" = some (some (.builtin "object.__setattr__"))
theorem Cls.get {K:PySem.W.Frag}{C:Addr}(c:Cls K C)(f:Str):PySem.W.plainGet K C f=true:=c.pg
section
variable {X:Cx}{pins:List (Addr×Obj)}{σ:St}{H:Hp}{s:Shared}{a C dx:Addr}{fs:List (Str×V)}{f:Str}{v:V}{A:Around}{E:Value->Shared->Prop}
end
section
variable {X:Cx}{o e value:Expr}{f:Str}{pos pos' tpos:Pos}{ta tv:TE}
end
section
variable {X:Cx}{pins:List (Addr×Obj)}{σ:St}{H:Hp}{s:Shared}{A:Around}{E:Value->Shared->Prop}{Q:Value->Shared->Prop}{c:Value}{b:Bool}
end
end L2
namespace L2
open PySem PySem.Spec PyProof.Rows
structure Gb_ (k:Nat)(A:Around):Prop where
 hd:A.handled=none
 dp:A.depth+3*k+5<recursionLimit
 un:A.units+16*k+200<cLine
theorem Gb_.mono {j k:Nat}{A:Around}(r:Gb_ k A)(h:j<=k):Gb_ j A:=⟨r.hd,by have:=r.dp;lia,by have:=r.un;lia⟩
theorem Gb_.deeper {k:Nat}{A:Around}(r:Gb_ (k+1) A)(env:Env):Gb_ k (A.deeper env) :=
 ⟨r.hd,by have:=r.dp;show A.depth+1+3*k+5<_;lia,by have:=r.un;show A.units+3+16*k+200<_;lia⟩
theorem Gb_.depth {k:Nat}{A:Around}(r:Gb_ k A):A.depth<recursionLimit:=by have:=r.dp;lia
theorem Gb_.units {k:Nat}{A:Around}(r:Gb_ k A):A.units+64<cLine:=by have:=r.un;lia
def Kr_:TA:=fun _ H Q=>Q [] H
def Ie_ (ta:TE)(tr:TA):TA:=fun σ H Q=>ta σ H fun x H1=>tr σ H1 fun xs H2=>Q (x::xs) H2
section
variable {X:Cx}{e:Expr}{es:List Expr}{te:TE}{t:TA}{pos:Pos}
theorem ab_:PA X [] Kr_:=fun _ _ _ _ H Q I h=>CS_ ⟨[],H,I,.nil,h⟩
theorem pS_ (ha:PE X e te)(hr:PA X es t)(hs:starEach (e::es) X.env=(false,eval e X.env)::starEach es X.env:=by rfl):PA X (e::es) (Ie_ te t):=by intro pos pins s σ H Q I h;rw [hs];show wpAny _ _ (spliced ((false,eval e X.env)::backTo pos (starEach es X.env))) _ _ s;refine Cf_ (thn (ha pins s σ H _ I h) fun u s1 ⟨x,H1,I1,r1,q1⟩=>?_);exact thn (hr pos pins s1 σ H1 _ I1 q1) fun us s2 ⟨xs,H2,I2,r2,q2⟩=>⟨x::xs,H2,I2,.cons r1 r2,q2⟩
def Lj_ (t:TA):TE:=fun σ H Q=>t σ H fun xs H1=>xs.length<=sizeLine/\∀ p,H1 p=none->Q (.ref p) (upd H1 p (.tup xs))
def Lf_ (t:TA):TE:=fun σ H Q=>t σ H fun xs H1=>xs.length<=sizeLine/\∀ p,H1 p=none->Q (.ref p) (upd H1 p (.lst xs))
theorem ax_ {x1} (h:PA X es t):PE X (.Tuple es x1 pos) (Lj_ t):=by intro pins s σ H Q I hq;refine wpAny_Tuple_spliced (thn (h pos pins s σ H _ I hq) fun us s1 ⟨xs,H1,I1,r,z,q⟩=>⟨by rw [<-r.length];exact z,?_⟩);have hf:H1 s1.heap.objs.size=none:=I1.hok.fresh (Af_ _);refine ⟨.ref s1.heap.objs.size,upd H1 s1.heap.objs.size (.tup xs),I1.laid (t':=s1.toks) (fun b u e=>Aj_ _ e) (Af_ _) ?_,rfl,q _ hf⟩;exact ⟨z,us,r,⟨_,AD_ _ rfl,rfl,_,rfl⟩⟩
theorem a5_ (h:PA X es t):PE X (.List es pos) (Lf_ t):=by intro pins s σ H Q I hq;refine wpAny_List_spliced (thn (h pos pins s σ H _ I hq) fun us s1 ⟨xs,H1,I1,r,z,q⟩=>⟨by rw [<-r.length];exact z,?_⟩);have hf:H1 s1.heap.objs.size=none:=I1.hok.fresh (Af_ _);refine ⟨.ref s1.heap.objs.size,upd H1 s1.heap.objs.size (.lst xs),I1.laid (t':=s1.toks) (fun b u e=>Aj_ _ e) (Af_ _) ?_,rfl,q _ hf⟩;exact ⟨z,us,0,r,AD_ _ rfl⟩
end
abbrev Sp:=List V->Hp->VK->XK->Prop
abbrev CXT:=List Env->Hp->Shared->XK->Value->Shared->Prop
structure KP_ (P:Program)(w:World)(K:PySem.W.Frag)(mg:Str->Option Value)(base:Heap)(A:Around)(outer:List Env)(s:Shared)(H:Hp):Prop where
 frames:A.frames=some outer
 mod:Mod K mg base
 bs:∀ b o,base.get? b=some o->s.heap.get? b=some o/\H b=none
 bsz:base.objs.size<=s.heap.objs.size
 funs:s.heap.FunFrames base outer
 frf:∀ b∈frs outer,H b=none
 hok:HOk P w H s.heap
 bare:AllBare s.gens
def CE (outer:List Env)(P:Program)(w:World)(H:Hp)(s:Shared)(Q:VK)(u:Value)(s':Shared):Prop :=
 ∃ v H',s'.os=s.os/\AllBare s'.gens/\Un (frs outer) [] H H' s.heap s'.heap/\HOk P w H' s'.heap/\Fs_ v u/\Q v H'
def CR (CX:CXT)(outer:List Env)(P:Program)(w:World)(H:Hp)(s:Shared)(Q:VK)(E:XK)(r:Result)(s':Shared):Prop :=
 match r with
 | .ok (.ret u)=>CE outer P w H s Q u s'
 | .ok _=>False
 | .error e=>CX outer H s E e s'
structure H5_ (P:Program)(w:World)(K:PySem.W.Frag)(mg:Str->Option Value)(base:Heap)(CX:CXT)(k:Nat)(f:Addr)(fd:FuncData)(ps:List Str)(sp:Sp):Prop where
 len:∀ vs H Q E,sp vs H Q E->vs.length=ps.length
 run:∀ (A:Around)(outer:List Env)(s:Shared)(H:Hp)(args:Args)(us:List Value)(vs:List V)(Q:VK)(E:XK),Gb_ k A->KP_ P w K mg base A outer s H->BindsTo s fd args (ps.zip us)->Fm_ vs us->sp vs H Q E ->
  codeAny (model P w) A (.call (.ref f) args) (CR CX outer P w H s Q E) s
theorem H5_.imp {P:Program}{w:World}{K:PySem.W.Frag}{mg:Str->Option Value}{base:Heap}{CX:CXT}{k:Nat}{f:Addr}{fd:FuncData}{ps:List Str}{sp sp':Sp}(F:H5_ P w K mg base CX k f fd ps sp)
  (h:∀ vs H Q E,sp' vs H Q E->sp vs H Q E):H5_ P w K mg base CX k f fd ps sp' :=
 ⟨fun vs H Q E q=>F.len vs H Q E (h _ _ _ _ q),fun A outer s H args us vs Q E hr he hb hv hs=>F.run A outer s H args us vs Q E hr he hb hv (h _ _ _ _ hs)⟩
section
variable {X:Cx}{pins:List (Addr×Obj)}{σ:St}{H:Hp}{s s':Shared}
theorem Inv.env0 (I:Inv X pins σ H s):KP_ X.prog X.w X.K X.mg X.base X.A X.stack s H :=
 ⟨I.ok.frames,I.ok.mod,I.bs,Ay_ I.ok.bsz I.sz,I.stack,I.stkFree,I.hok,I.bare⟩
theorem Inv.after {Q:VK}{u:Value}(I:Inv X pins σ H s)(h:CE X.stack X.prog X.w H s Q u s'):EP X pins σ Q u s':=by obtain ⟨v,H',os,bare,un,hok,r,q⟩:=h;obtain ⟨hh,g,d,t,os'⟩:=s';obtain rfl:os'=s.os:=os;exact ⟨v,H',I.call (h':=hh) (g':=g) (d':=d) (t':=t) (ch:=[]) un hok bare (fun b z=>absurd z (by simp)),r,q⟩
end
def Hv_ (sp:Sp)(dvs:List V)(E:XK)(t:TA):TE:=fun σ H Q=>t σ H fun vs H1=>sp (vs++dvs) H1 Q E
def Ht_ (K:PySem.W.Frag)(fd:FuncData)(ps:List Str)(ds:List Value):Prop :=
 ∀ (s:Shared)(us:List Value),K.In s.heap->(us++ds).length=ps.length->BindsTo s fd ⟨us,[]⟩ (ps.zip (us++ds))
theorem Ht_.all {K:PySem.W.Frag}{fd:FuncData}{ps:List Str}(h:∀ us:List Value,us.length=ps.length->bindArgs fd ⟨us,[]⟩=pure (ps.zip us)):Ht_ K fd ps []:=fun s us _ hl=>by rw [Bd_] at hl ⊢;exact .of_eq (h us hl)
def Hr_ (CX:CXT)(X:Cx)(E:XK):Prop:=∀ (pins:List (Addr×Obj))(σ:St)(H:Hp)(s:Shared)(e:Value)(s':Shared),Inv X pins σ H s->CX X.stack H s E e s'->X.xe e s'
section
variable {X:Cx}{CX:CXT}{k:Nat}{f C:Addr}{fd:FuncData}{ps:List Str}{sp:Sp}{dvs:List V}{ds:List Value}{E:XK}{x m:Str}{p pos apos:Pos}{e o:Expr}{es:List Expr}{ta:TE}{t:TA}
theorem qL_ {pins:List (Addr×Obj)}{σ:St}{H:Hp}{s:Shared}{Q:VK}{us:List Value}{vs:List V}(F:H5_ X.prog X.w X.K X.mg X.base CX k f fd ps sp)(hr:Gb_ k X.A)(hb:Ht_ X.K fd ps ds)(hd:Fm_ dvs ds)(hx:Hr_ CX X E)
  (I:Inv X pins σ H s) (r:Fm_ vs us) (h:sp (vs++dvs) H Q E):wpAny (model X.prog X.w) X.A (call (.ref f) us) (EP X pins σ Q) X.xe s:=by
 have r2:Fm_ (vs++dvs) (us++ds):=r.append hd;have hl:(us++ds).length=ps.length:=by rw [<-r2.length];exact F.len _ _ _ _ h
 refine Dc_ (BV_ (F.run X.A X.stack s H ⟨us,[]⟩ (us++ds) (vs++dvs) Q E hr I.env0 (hb s us I.kIn hl) r2 h) fun r s' hq=>?_);cases r with
 | error e=>exact hx pins σ H s e s' I hq
 | ok fl =>
  cases fl with
  | ret u=>exact I.after hq
  | next=>exact False.elim hq
  | brk=>exact False.elim hq
  | cont=>exact False.elim hq
theorem m8_ (F:H5_ X.prog X.w X.K X.mg X.base CX k f fd ps sp)(hr:Gb_ k X.A)(hg:Gl X x)(hm:X.mg x=some (.ref f))(hk:PySem.W.keepIn X.K (.ref f)=true)(hb:Ht_ X.K fd ps ds)(hd:Fm_ dvs ds)(hx:Hr_ CX X E)
  (ha:PA X (e::es) t) (hdb:(x == ("__debug__" : Str))=false:=by decide) (he:starEach (e::es) X.env=(false,eval e X.env)::starEach es X.env:=by rfl) (hpl:(backTo pos (starEach es X.env)).any (·.1)=false:=by rfl) :
  PE X (.Call (.Name x p) (e::es) [] pos) (Hv_ sp dvs E t):=by
 intro pins s σ H Q I h;refine Bt_ (fn_ I hg hm ?_ hdb);refine CH_ (h₀:=X.base) I.ok.mod.kin hk (thn (ha pos pins s σ H _ I h) fun us s1 ⟨vs,H1,I1,r,q⟩=>⟨I1.kIn,?_⟩) he hpl;exact qL_ F hr hb hd hx I1 r q
end
section
variable {X:Cx}{CX:CXT}{k:Nat}{f C:Addr}{fd:FuncData}{ps ks:List Str}{sp:Sp}{E:XK}{x m:Str}{p pos apos kpos:Pos}{e o:Expr}{es:List Expr}{kws:List Keyword}{te ta:TE}{t tk:TA}{nm:Option Str}
variable {g:List Value->List Value->List Value}{gV:List V->List V->List V}
end
structure E2_ (N P:List Str)(sc:Scope):Prop where
 kind:sc.kind=.function
 co:sc.isCoroutine=false
 gen:sc.isGenerator=false
 nd:N.Nodup
 pre:N.take P.length=P
 par:∀ x∈P,sc.names.lookup x=some .local\/sc.names.lookup x=some .cell
 nofree:∀ y∈sc.names,y.2≠.free
theorem j4_ {kindOf:Str->Option NameKind}{x:Str}:∀ {binds:List (Str×Value)}{m:Str->Option Value},(∀ v,(x,v)∉binds)->bindL kindOf binds m x=m x
 | [],_,_=>rfl
 | (n,v)::r,m,h=>by
  unfold bindL;rw [j4_ fun w hw=>h w (An_ _ hw)];split
  ·have:x≠n:=by rintro rfl;exact h v At_
   simp [this]
  ·rfl
theorem j5_ {kindOf:Str->Option NameKind}{x:Str}:∀ {binds:List (Str×Value)}{m:Str->Option Value},(∀ v,(x,v)∉binds)->bindC kindOf binds m x=m x
 | [],_,_=>rfl
 | (n,v)::r,m,h=>by
  unfold bindC;rw [j5_ fun w hw=>h w (An_ _ hw)];split
  ·rfl
  ·have:x≠n:=by rintro rfl;exact h v At_
   simp [this]
theorem j6_ {kindOf:Str->Option NameKind}{x:Str}{v:Value}:∀ {P:List Str}{vs:List Value}{i:Nat}{m:Str->Option Value},P.Nodup->P[i]?=some x->vs[i]?=some v->kindOf x=some .local ->
  bindL kindOf (P.zip vs) m x=some v
 | [],_,_,_,_,h,_,_=>by simp at h
 | _::_,[],_,_,_,_,h,_=>by simp at h
 | p::P,w::vs,0,m,nd,h1,h2,hk=>by
  simp at h1 h2;subst h1;subst h2;show bindL kindOf ((p,w)::P.zip vs) m p=_;unfold bindL;rw [j4_ fun v hv=>(AW_.mp nd).1 (Dd_ hv).1,if_pos hk];simp
 | p::P,w::vs,i+1,m,nd,h1,h2,hk=>by show bindL kindOf ((p,w)::P.zip vs) m x=_;unfold bindL;exact j6_ (i:=i) (AW_.mp nd).2 (by simpa using h1) (by simpa using h2) hk
theorem j7_ {kindOf:Str->Option NameKind}{x:Str}{v:Value}:∀ {P:List Str}{vs:List Value}{i:Nat}{m:Str->Option Value},P.Nodup->P[i]?=some x->vs[i]?=some v->kindOf x≠some .local ->
  bindC kindOf (P.zip vs) m x=some v
 | [],_,_,_,_,h,_,_=>by simp at h
 | _::_,[],_,_,_,_,h,_=>by simp at h
 | p::P,w::vs,0,m,nd,h1,h2,hk=>by
  simp at h1 h2;subst h1;subst h2;show bindC kindOf ((p,w)::P.zip vs) m p=_;unfold bindC;rw [j5_ fun v hv=>(AW_.mp nd).1 (Dd_ hv).1,if_neg hk];simp
 | p::P,w::vs,i+1,m,nd,h1,h2,hk=>by show bindC kindOf ((p,w)::P.zip vs) m x=_;unfold bindC;exact j7_ (i:=i) (AW_.mp nd).2 (by simpa using h1) (by simpa using h2) hk
def start (N:List Str)(vs:List V):St:=vs.map some++List.replicate (N.length-vs.length) none
def HE_ (CX:CXT)(P:Program)(w:World)(K:PySem.W.Frag)(mg:Str->Option Value)(base:Heap)(N:List Str)(qual:Str)(scope:Scope)(f:Addr)(cd:Value)(A:Around)(outer:List Env)(s:Shared)(H:Hp)(E:XK):Cx where
 prog:=P
 w:=w
 K:=K
 mg:=mg
 base:=base
 A:=A.deeper (envOfC qual scope s.heap.objs.size f cd)
 N:=N
 s₀:=s
 H₀:=H
 env:=envOfC qual scope s.heap.objs.size f cd
 outer:=outer
 stack:=envOfC qual scope s.heap.objs.size f cd::outer
 ex:=[]
 calm:=true
 fn:=fun _=>true
 pn:=[]
 xe:=fun e s'=>wpAny (model P w) (A.deeper (envOfC qual scope s.heap.objs.size f cd)) (leaving (envOfC qual scope s.heap.objs.size f cd) e) (fun _ s''=>CX outer H s E e s'') (fun e' s''=>CX outer H s E e' s'') s'
theorem lS_ {sc:Scope}{n:Nat}{x:Str}(h:sc.names.lookup x=some .cell):∃ c,(cellsFrom n sc.names []).lookup x=some c:=by have q:=CW_ sc.names n [] (.inl h);exact DQ_.mp q
theorem j8_ {CX:CXT}{P:Program}{w:World}{K:PySem.W.Frag}{mg:Str->Option Value}{base:Heap}{N ps:List Str}{qual:Str}{scope:Scope}{f:Addr}{cd:Value}{A:Around}{outer:List Env}{s s1:Shared}{H:Hp}{E:XK}{us:List Value}{vs:List V}
  (S:E2_ N ps scope) (hd:A.handled=none) (e0:KP_ P w K mg base A outer s H) (hl:vs.length=ps.length) (r:Fm_ vs us)
  (x:InCallC s s.heap.objs.size (bindL (envOfC qual scope s.heap.objs.size f cd).kindOf (ps.zip us) fun _=>none) (cellsFrom (s.heap.objs.size+1) scope.names []) (bindC (envOfC qual scope s.heap.objs.size f cd).kindOf (ps.zip us) fun _=>none) s1) :
  Inv (HE_ CX P w K mg base N qual scope f cd A outer s H E) [] (start N vs) H s1:=by
 have hpl:ps.length<=N.length:=by have:=congrArg List.length S.pre;rw [AO_] at this;lia
 obtain ⟨h1,tk,rfl,hk⟩:=x.done;have noA:∀ b:Addr,b∉(HE_ CX P w K mg base N qual scope f cd A outer s H E).ex:=fun b z=>absurd (show b∈([]:List Addr) from z) (by simp)
 refine ⟨⟨e0.mod,S.kind,rfl,rfl,Af_ _,fun y z c h1 h2=>?_,fun y hy=>?_,fun y c _ h=>?_,fun _=>hd,Around.frames_deeper e0.frames,.inr ⟨rfl,rfl⟩,fun b z=>absurd z (noA b),e0.bs,e0.bsz,fun b _ _=>noA b,fun b z=>absurd z (noA b),e0.funs,e0.frf⟩,
  rfl,e0.bare,Un.kept hk,⟨_,x.toInCall.ns,fun i y v h1 h2 h3=>?_⟩,fun y c h=>⟨_,x.cell y c h⟩,e0.hok.fresh (Af_ _),fun y c h=>?_,fun p hp=>absurd (show p∈([]:List (Addr×Obj)) from hp) (by simp),e0.hok.kept hk,?_⟩
 ·exact name_of_addr x.apart (Bn_ h1) (Bn_ h2)
 ·have hy:scope.names.lookup y=some .cell\/scope.names.lookup y=some .free:=hy
  rcases hy with hy|hy
  ·exact lS_ hy
  ·exact absurd rfl (S.nofree _ (Bn_ hy))
 ·exact AR_ (x.above y c (Bn_ h))
 ·have hi:i<vs.length:=by
   unfold start at h2;by_cases hi:i<vs.length
   ·exact hi
   ·rw [A2_ (by simpa using hi)] at h2;rw [D5_] at h2;split at h2 <;> cases h2
  have ha:vs[i]?=some v:=by
   unfold start at h2;rw [AP_ (by simpa using hi),Ae_] at h2;cases e:vs[i]? with
   | none=>rw [e] at h2;cases h2
   | some a=>rw [e] at h2;cases h2;rfl
  obtain ⟨u,hu,rv⟩:=r.get ha;have hp:ps[i]?=some y:=by rw [<-S.pre,List.getElem?_take_of_lt (by lia)];exact h1
  have ndP:ps.Nodup:=by rw [<-S.pre];exact S.nd.sublist (List.take_sublist _ _)
  refine ⟨u,rv,?_⟩
  rcases S.par y (Ak_ hp) with k|k
  ·exact .inl ⟨k,j6_ ndP hp hu k⟩
  ·obtain ⟨c,e⟩:=lS_ (n:=s.heap.objs.size+1) k;refine .inr ⟨.inl k,c,e,?_⟩;have q:=x.cell y c e;rw [j7_ ndP hp hu (by show scope.names.lookup y≠_;rw [k];decide)] at q;exact q
 ·exact e0.hok.fresh (AR_ (x.above y c (Bn_ h)))
 ·unfold start;show _=N.length;rw [Ah_,Ab_,Ep_];lia
theorem KS_ {CX:CXT}{P:Program}{w:World}{K:PySem.W.Frag}{mg:Str->Option Value}{base:Heap}{k:Nat}{f:Addr}{name qual:Str}{params:Arguments}{body:List Stmt}{scope:Scope}{dV kV doc pm cdv ct oc:Value}{an od:Option Addr}
  {osl:Array (Option Value)} {N ps:List Str} {sp:Sp} (lk:K.lookup f=some ⟨oc,od,.func (PySem.W.fnOf name qual params body scope dV kV doc pm an cdv ct),osl⟩) (hcd:PySem.W.codeIn K cdv qual=true) (S:E2_ N ps scope)
  (len:∀ vs H Q E,sp vs H Q E->vs.length=ps.length)
  (hbody:∀ (A:Around)(outer:List Env)(s:Shared)(H:Hp)(vs:List V)(Q:VK)(E:XK),Gb_ k (A.deeper (envOfC qual scope s.heap.objs.size f cdv))->sp vs H Q E ->
   ∃ t,PSs (HE_ CX P w K mg base N qual scope f cdv A outer s H E) body t/\t { nx:=fun _ H'=>Q .non H',rt:=Q } (start N vs) H) :
  H5_ P w K mg base CX (k+1) f (PySem.W.fnOf name qual params body scope dV kV doc pm an cdv ct) ps sp:=by
 refine ⟨len,fun A outer s H args us vs Q E hr e0 hb r hsp=>?_⟩;have hl:=len _ _ _ _ hsp;have KX:K.In s.heap:=e0.mod.kin.keeps fun b o e=>(e0.bs b o e).1;have lim:s.heap.NoLimit:=e0.mod.nolimit.keeps fun b o e=>(e0.bs b o e).1
 have hkind:∀ y∈ps.zip us,scope.names.lookup y.1=some .local\/(scope.names.lookup y.1=some .cell/\((cellsFrom (s.heap.objs.size+1) scope.names []).lookup y.1).isSome=true):=fun ⟨n,v⟩ hy=>by
  rcases S.par n (Dd_ hy).1 with q|q
  ·exact .inl q
  ·exact .inr ⟨q,CW_ _ _ _ (.inl q)⟩
 refine Eq_ hr.depth (KX _ _ lk) rfl S.co S.gen rfl (PySem.W.codeRec_of KX hcd) (hb _ _ _ _ ?_);refine DA_ S.kind hkind fun env he s1 x=>?_;subst he;refine ⟨lim.keeps x.toInCall.keep,codeAny_func ?_⟩;obtain ⟨t,ht,hq⟩:=hbody A outer s H vs Q E (hr.deeper _) hsp;have I:Inv (HE_ CX P w K mg base N qual scope f cdv A outer s H E) [] (start N vs) H s1:=j8_ S hr.hd e0 hl r x;refine Bl_ (ht [] s1 (start N vs) H _ I hq) (fun fl s' hs=>?_) fun e s' hs=>hs
 have fin:∀ {σ':St}{H':Hp}{v:V}{u:Value},Inv (HE_ CX P w K mg base N qual scope f cdv A outer s H E) [] σ' H' s'->Fs_ v u->Q v H'->CE outer P w H s Q u s' :=
  fun {σ' H' v u} J rv q=>⟨v,H',J.os,J.bare,J.base,J.hok,rv,q⟩
 cases fl with
 | ret u =>
  obtain ⟨v,σ',H',J,rv,q⟩:=hs;exact fin J rv q
 | next =>
  obtain ⟨σ',H',J,q⟩:=hs;exact fin (v:=V.non) (u:=Value.none) J rfl q
 | brk =>
  obtain ⟨_,_,_,q⟩:=hs;exact False.elim q
 | cont =>obtain ⟨_,_,_,q⟩:=hs;exact False.elim q
end L2
namespace L2
open PySem PySem.Spec PyProof.Rows
section
variable {X:Cx}{x:Str}{p pos:Pos}{e:Expr}{es:List Expr}{t:TA}{id T:String}{r:List V->Hp->VK->Prop}
def tCB (r:List V->Hp->VK->Prop)(t:TA):TE:=fun σ H Q=>t σ H fun vs H1=>r vs H1 Q
theorem ov_ (hc:FW_ X (.builtin id) r)(hg:Gl X x)(hm:X.mg x=none)(hv:bootBuiltins x=some (.builtin id))(ha:PA X (e::es) t)(hn:x ≠ "__name__" := by decide) (hdb:(x == ("__debug__" : Str))=false:=by decide)
  (he:starEach (e::es) X.env=(false,eval e X.env)::starEach es X.env:=by rfl) (hpl:(backTo pos (starEach es X.env)).any (·.1)=false:=by rfl):PE X (.Call (.Name x p) (e::es) [] pos) (tCB r t):=by
 intro pins s σ H Q I h;refine Bt_ (e9_ I hg hm hv ?_ hn hdb);exact PyProof.Rows.callWith_builtin1 (thn (ha pos pins s σ H _ I h) fun us s1 ⟨vs,H1,I1,r1,q1⟩=>hc pins s1 σ H1 vs us Q I1 r1 q1) he hpl
theorem m9_ (hc:FW_ X (.type T) r)(hg:Gl X x)(hm:X.mg x=none)(hv:bootBuiltins x=some (.type T))(ha:PA X (e::es) t)(hn:x ≠ "__name__" := by decide) (hdb:(x == ("__debug__" : Str))=false:=by decide)
  (he:starEach (e::es) X.env=(false,eval e X.env)::starEach es X.env:=by rfl) (hpl:(backTo pos (starEach es X.env)).any (·.1)=false:=by rfl):PE X (.Call (.Name x p) (e::es) [] pos) (tCB r t):=by
 intro pins s σ H Q I h;refine Bt_ (e9_ I hg hm hv ?_ hn hdb);exact Bs_ (thn (ha pos pins s σ H _ I h) fun us s1 ⟨vs,H1,I1,r1,q1⟩=>hc pins s1 σ H1 vs us Q I1 r1 q1) he hpl
end
end L2
namespace HT
open PySem PyProof.Rows
section
open PySem.SeqAt
open PySem.AutoSeq1 (wpAny_loadPart')
open PySem.MeetsSeq PySem.MeetsSeq2 PySem.MeetsSeq3
end
section
variable {prog:Program}{w:World}{A:Around}{E:Value->Shared->Prop}{s:Shared}
def sIx (n d:Nat):Option Int->Nat
 | none=>d
 | some v=>if v<0 then (v+(n:Int)).toNat else min v.toNat n
theorem sIx_none (n d:Nat):sIx n d none=d:=rfl
theorem sIx_nat (n d k:Nat):sIx n d (some (k:Int))=min k n:=by show (if (k:Int)<0 then ((k:Int)+(n:Int)).toNat else min (k:Int).toNat n)=min k n;rw [if_neg (by lia),AC_]
end
end HT
namespace L2
open PySem PySem.Spec PyProof.Rows
abbrev TO:=St->Hp->(Option Int->Hp->Prop)->Prop
def PO (X:Cx)(e:Option Expr)(t:TO):Prop :=
 ∀ (pins:List (Addr×Obj))(s:Shared)(σ:St)(H:Hp)(Q:Option Int->Hp->Prop),Inv X pins σ H s->t σ H Q ->
  wpAny (model X.prog X.w) X.A (evalPart e X.env) (fun u s'=>∃ o H',Inv X pins σ H' s'/\IsPart u o/\Q o H') X.xe s
def HC_:TO:=fun _ H Q=>Q none H
def J4_ (t:TE):TO:=fun σ H Q=>t σ H fun x H1=>∃ i,x=.int i/\Q (some i) H1
theorem mu_ {ns:List Int}:∀ {us:List Value},Fm_ (ns.map V.int) us->IntsAre us ns:=by
 induction ns with
 | nil=>intro us r;rw [Co_] at r;cases r;exact .nil
 | cons n ns ih =>
  intro us r;rw [AB_] at r;cases r with
  | cons r1 r2 =>obtain ⟨t,e⟩:=r1;subst e;exact .cons n t (ih r2)
section
variable {X:Cx}{e:Expr}{te:TE}{lo hi:Option Expr}{tl th:TO}{pos p2:Pos}
theorem gr_:PO X none HC_:=by intro pins s σ H Q I h;rw [evalPart_none];exact Av_ ⟨none,H,I,.none,h⟩
theorem gs_ (h:PE X e te):PO X (some e) (J4_ te):=by intro pins s σ H Q I hw;rw [evalPart_some];refine thn (h pins s σ H _ I hw) fun u s1 ⟨x,H1,I1,r1,q1⟩=>?_;obtain ⟨i,rfl,q⟩:=q1;obtain ⟨t,rfl⟩:=r1;exact ⟨some i,H1,I1,.int i t,q⟩
def SlR (X:Cx)(r:V->Option Int->Option Int->Hp->VK->Prop):Prop :=
 ∀ (pins:List (Addr×Obj))(s:Shared)(σ:St)(H:Hp)(x:V)(v vl vu:Value)(lo hi:Option Int)(sl:Addr)(Q:VK),Inv X pins σ H s->Fs_ x v->s.heap.IsSliceOf sl vl vu .none->IsPart vl lo->IsPart vu hi->r x lo hi H Q ->
  ∃ T id,typeLookup (.type T) "__getitem__" = pure (some (.builtin id))/\s.TypeIs v T/\wpAny (model X.prog X.w) X.A (getItem v (.ref sl)) (EP X pins σ Q) X.xe s
def tSl (r:V->Option Int->Option Int->Hp->VK->Prop)(te:TE)(tl th:TO):TE:=fun σ H Q=>te σ H fun x H1=>tl σ H1 fun l H2=>th σ H2 fun u H3=>r x l u H3 Q
theorem eQ_ {r:V->Option Int->Option Int->Hp->VK->Prop}(hr:SlR X r)(he:PE X e te)(hl:PO X lo tl)(hu:PO X hi th):PE X (.Subscript e (.Slice lo hi none p2) pos) (tSl r te tl th):=by intro pins s σ H Q I h;refine Subscript_ (thn (he pins s σ H _ I h) fun v s1 ⟨x,H1,I1,r1,q1⟩=>?_);refine wpAny_Slice (thn (hl pins s1 σ H1 _ I1 q1) fun vl s2 ⟨l,H2,I2,pl,q2⟩=>thn (hu pins s2 σ H2 _ I2 q2) fun vu s3 ⟨u,H3,I3,pu,q3⟩=>?_);rw [evalPart_none];refine Av_ ?_;have I4:Inv X pins σ H3 { s3 with heap:=s3.heap.push { cls:=.type "slice",data:=.fields #[vl,vu,.none] } }:=I3.kept (t':=s3.toks) fun b ob q=>Aj_ _ q;obtain ⟨T,id,hT,ht,hg⟩:=hr pins { s3 with heap:=s3.heap.push { cls:=.type "slice",data:=.fields #[vl,vu,.none] } } σ H3 x v vl vu l u s3.heap.objs.size Q I4 r1 (Heap.IsSliceOf.new ..) pl pu q3;show wpAny (model X.prog X.w) X.A (subscriptTail e (.Slice lo hi none p2) v (.ref s3.heap.objs.size)) (EP X pins σ Q) X.xe { s3 with heap:=s3.heap.push { cls:=.type "slice",data:=.fields #[vl,vu,.none] } };exact tail_any (ops:=[.ref s3.heap.objs.size,v]) ht hT hg (by with_unfolding_all rfl)
def Ii_ (xs:List V)(lo hi:Option Int):List V:=(xs.drop (HT.sIx xs.length 0 lo)).take (HT.sIx xs.length xs.length hi-HT.sIx xs.length 0 lo)
theorem lc_ (xs:List V)(lo hi:Option Int):(Ii_ xs lo hi).length<=xs.length:=by unfold Ii_;rw [AO_,Ct_];lia
end
end L2
namespace L2
open PySem PySem.Spec PyProof.Rows
def ixN (n:Nat)(i:Int):Option Nat:=if 0<=i then (if i<n then some i.toNat else none) else if -(n:Int)<=i then some (i+n).toNat else none
def atI {α:Type}(xs:List α)(i:Int):Option α:=(ixN xs.length i).bind fun j=>xs[j]?
theorem na_ {n:Nat}{i:Int}{j:Nat}(h:ixN n i=some j):seqIndex? i n=some j/\j<n /\ -(n:Int)<=i/\i<n:=by
 unfold ixN at h;by_cases h0:0<=i
 ·rw [if_pos h0] at h;by_cases h1:i<n
  ·rw [if_pos h1] at h;have e:i.toNat=j:=Aq_ h;exact ⟨by rw [Eg_ h0 h1,e],by lia,by lia,h1⟩
  ·rw [if_neg h1] at h;cases h
 ·rw [if_neg h0] at h;by_cases h1:-(n:Int)<=i
  ·rw [if_pos h1] at h;have e:(i+n).toNat=j:=Aq_ h;exact ⟨by rw [EQ_ (by lia) h1,e],by lia,h1,by lia⟩
  ·rw [if_neg h1] at h;cases h
theorem ld_ {α:Type}{xs:List α}{i:Int}{v:α}(h:atI xs i=some v):∃ j,seqIndex? i xs.length=some j/\xs[j]?=some v/\j<xs.length /\ -(xs.length:Int)<=i/\i<xs.length:=by
 unfold atI at h;cases e:ixN xs.length i with
 | none=>rw [e] at h;cases h
 | some j =>rw [e] at h;obtain ⟨h1,h2,h3,h4⟩:=na_ e;exact ⟨j,h1,h,h2,h3,h4⟩
theorem le_ {α:Type}{xs:List α}{j:Nat}{v:α}(h:xs[j]?=some v):atI xs (j:Int)=some v:=by
 have hj:j<xs.length:=(Ag_.mp h).1;have e:ixN xs.length (j:Int)=some j:=by unfold ixN;rw [if_pos (by lia),if_pos (by lia)];simp
 unfold atI;rw [e];exact h
def JT_ (b:Expr):Prop:=∀ o i,subscripted b false o i=operate [o,i] (getItem o i)
def IxR (X:Cx)(r:R2):Prop :=
 ∀ (value slice:Expr)(pins:List (Addr×Obj))(s:Shared)(σ:St)(H:Hp)(x y:V)(v u:Value)(Q:VK),Inv X pins σ H s->Fs_ x v->Fs_ y u->r x y H Q ->
  subscripted slice false v u=operate [v,u] (getItem v u)->wpAny (model X.prog X.w) X.A (subscriptTail value slice v u) (EP X pins σ Q) X.xe s
def MtR (X:Cx)(id:String)(r:V->List V->Hp->VK->Prop):Prop :=
 ∀ (pins:List (Addr×Obj))(s:Shared)(σ:St)(H:Hp)(x:V)(xs:List V)(v:Value)(us:List Value)(Q:VK),Inv X pins σ H s->Fs_ x v->Fm_ xs us->r x xs H Q ->
  wpAny (model X.prog X.w) X.A (call (.builtin id) (v::us)) (EP X pins σ Q) X.xe s
section
variable {X:Cx}{a b:Expr}{ta tb:TE}{pos:Pos}
theorem E0_ {r:R2}(hr:IxR X r)(ha:PE X a ta)(hb:PE X b tb)(hs:JT_ b):PE X (.Subscript a b pos) (tOp r ta tb):=by intro pins s σ H Q I h;exact Subscript_ (binT ha hb I h fun v u s2 x y H2 I2 rx ry q=>hr a b pins s2 σ H2 x y v u Q I2 rx ry q (hs _ _))
def LU_ (K:PySem.W.Frag):R2:=fun x y H Q=>∃ p xs i v,x=.ref p/\y=.int i/\SqL K H p xs/\atI xs i=some v/\Q v H
def K8_ (K:PySem.W.Frag):R2:=fun x y H Q=>∃ p xs i v,x=.ref p/\y=.int i/\SqT K H p xs/\atI xs i=some v/\Q v H
def Lh_:R2:=fun x y H Q=>∃ z i c,x=.str z/\y=.int i/\z.length<=sizeLine/\atI z.cps.toList i=some c/\Q (.str ⟨#[c]⟩) H
theorem nb_:IxR X (LU_ X.K):=by
 intro value slice pins s σ H x y v u Q I rx ry h hs;obtain ⟨p,xs,i,z,rfl,rfl,hq,he,q⟩:=h;cases rx;obtain ⟨t,rfl⟩:=ry;obtain ⟨its,r,pl,hz⟩:=I.list hq;obtain ⟨j,h1,h2,h3,h4,h5⟩:=ld_ he;obtain ⟨w,ew,rw'⟩:=r.get h2;have hl:=r.length;have hn:=Hw_;have fin:EP X pins σ Q w s:=⟨z,H,I,rw',q⟩;by_cases h0:0<=i
 ·have hj:i.toNat=j:=by rw [Eg_ h0 h5] at h1;exact Aq_ h1
  exact item_listR pl.isList h0 (by lia) (by rw [hj];simpa using ew) fin hs
 ·have hj:(i+(its.toArray.size:Int)).toNat=j:=by rw [EQ_ (by lia) h4] at h1;rw [Am_,<-hl];exact Aq_ h1
  exact Eh_ (x:=w) pl.isList.typeIs slot_list_getitem.lookup
   (wpAny_getItem_list_neg (Q:=fun r s'=>r=w/\EP X pins σ Q r s') pl.isList (by lia) (by rw [Am_] <;> lia) (by lia) (by rw [hj];simpa using ew) ⟨rfl,fin⟩) hs
theorem pl_:IxR X (K8_ X.K):=by
 intro value slice pins s σ H x y v u Q I rx ry h hs;obtain ⟨p,xs,i,z,rfl,rfl,hq,he,q⟩:=h;cases rx;obtain ⟨t,rfl⟩:=ry;obtain ⟨its,r,pl,hz⟩:=I.tuple hq;obtain ⟨j,h1,h2,h3,h4,h5⟩:=ld_ he;obtain ⟨w,ew,rw'⟩:=r.get h2;have hl:=r.length;have hn:=Hw_;have fin:EP X pins σ Q w s:=⟨z,H,I,rw',q⟩
 exact Eh_ (x:=w) pl.typeIs slot_tuple_getitem.lookup
  (getItem_tuple (j:=j) (Q:=fun r s'=>r=w/\EP X pins σ Q r s') pl (by lia) (by lia) (by rw [Am_,<-hl];exact h1) (by simpa using ew) ⟨rfl,fin⟩) hs
theorem lT_:IxR X Lh_:=by
 intro value slice pins s σ H x y v u Q I rx ry h hs;obtain ⟨z,i,c,rfl,rfl,hz,he,q⟩:=h;obtain ⟨t,rfl⟩:=rx;obtain ⟨t',rfl⟩:=ry;obtain ⟨j,h1,h2,h3,h4,h5⟩:=ld_ he;have hl:z.cps.toList.length=z.length:=by simp [Str.length]
 rw [hl] at h1 h4 h5;have hn:=Hw_;exact tail_any (typeIs_str s z t) slot_str_getitem.lookup (getItem_str (c:=c) (by have e1:decide (i < -(2 ^ 63:Int))=false:=Az_ (by lia);have e2:decide (i ≥ 2 ^ 63)=false:=Az_ (by lia);rw [e1,e2,Bool.or_false]) (by rw [h1];simpa using h2) ⟨.str ⟨#[c]⟩,H,I.tok _,⟨_,rfl⟩,q⟩) hs
theorem mv_ (its:List Value)(n j:Nat)(u:Value):Obj.mapSeq (·.setIfInBounds j u) { cls:=.type "list",data:=.seq its.toArray n }={ cls:=.type "list",data:=.seq (its.set j u).toArray n }:=by simp [Obj.mapSeq]
theorem Inv.lst {pins:List (Addr×Obj)}{σ:St}{H:Hp}{s:Shared}{p:Addr}{xs:List V}(I:Inv X pins σ H s)(h:H p=some (.lst xs)) :
  ∃ (its:List Value)(n:Nat),Fm_ xs its/\s.heap.get? p=some { cls:=.type "list",data:=.seq its.toArray n }/\xs.length<=sizeLine:=by
 obtain ⟨z,its,n,r,e⟩:=I.hok p _ h;exact ⟨its,n,r,e,z⟩
theorem Inv.lstUpd {pins:List (Addr×Obj)}{σ:St}{H:Hp}{s:Shared}{p:Addr}{xs ys:List V}{its its':List Value}{n n':Nat}{f:Obj->Obj}(I:Inv X pins σ H s)(h:H p=some (.lst xs))
  (ho:s.heap.get? p=some { cls:=.type "list",data:=.seq its.toArray n }) (hf:f { cls:=.type "list",data:=.seq its.toArray n }={ cls:=.type "list",data:=.seq its'.toArray n' }) (r:Fm_ ys its') (hz:ys.length<=sizeLine) (t:Nat) :
  Inv X pins σ (upd H p (.lst ys)) { s with heap:=s.heap.update p f,toks:=t }:=by
 have e:(s.heap.update p f).get? p=some { cls:=.type "list",data:=.seq its'.toArray n' }:=by rw [Cp_ f ho (by rw [hf] <;> rfl),hf]
 refine I.write (x:=p) (e:=p) (by rw [h];trivial) (.inl rfl) (fun b u hb q=>(AX_ _ _ (Ne.symm hb)).trans q) ⟨_,e⟩ ?_;exact ⟨hz,its',n',r,e⟩
def JV_:V->V->V->Hp->(Hp->Prop)->Prop:=fun o i v H Q=>∃ p xs k j,o=.ref p/\i=.int k/\H p=some (.lst xs)/\ixN xs.length k=some j/\Q (upd H p (.lst (xs.set j v)))
theorem ow_:LO_ X JV_:=by
 intro pins s σ H o i v ov iv u Q I ro ri rv h;obtain ⟨p,xs,k,j,rfl,rfl,hp,hj,q⟩:=h;cases ro;obtain ⟨t,rfl⟩:=ri;obtain ⟨its,n,r,ho,hz⟩:=I.lst hp;obtain ⟨h1,h2,h3,h4⟩:=na_ hj;have hl:=r.length;have hn:=Hw_
 have I':Inv X pins σ (upd H p (.lst (xs.set j v))) { s with heap:=s.heap.update p (Obj.mapSeq (·.setIfInBounds j u)) } :=
  I.lstUpd hp ho (mv_ its n j u) (r.set rv j) (by rw [Bq_];exact hz) s.toks
 by_cases h0:0<=k
 ·have hk:k.toNat=j:=by rw [Eg_ h0 h4] at h1;exact Aq_ h1
  exact PySem.W.ki_setAt ho h0 (by lia) (by rw [Am_,<-hl];exact h4) (by rw [hk];exact ⟨_,I',q⟩)
 ·have hk:(k+(its.toArray.size:Int)).toNat=j:=by rw [EQ_ (by lia) h3] at h1;rw [Am_,<-hl];exact Aq_ h1
  exact PySem.W.ki_setBack ho (by lia) (by rw [Am_,<-hl];exact h3) (by lia) (by rw [hk];exact ⟨_,I',q⟩)
theorem j9_ (lo hi:Option Int)(n:Nat):(sliceBounds lo hi none n).1=((HT.sIx n 0 lo:Nat):Int)/\(sliceBounds lo hi none n).2.1=((HT.sIx n n hi:Nat):Int)/\(sliceBounds lo hi none n).2.2=1:=by
 refine ⟨?_,?_,rfl⟩
 ·cases lo with
  | none=>simp [sliceBounds,HT.sIx]
  | some i =>
   simp only [sliceBounds,HT.sIx,Option.getD_none,show (1:Int) > 0 by decide,if_true];by_cases h:i<0
   ·simp only [h,if_true] <;> lia
   ·simp only [h,C1_] <;> lia
 ·cases hi with
  | none=>simp [sliceBounds,HT.sIx]
  | some i =>
   simp only [sliceBounds,HT.sIx,Option.getD_none,show (1:Int) > 0 by decide,if_true];by_cases h:i<0
   ·simp only [h,if_true] <;> lia
   ·simp only [h,C1_] <;> lia
theorem jl_ (its:List Value)(lo hi:Option Int):slicePick its.toArray lo hi none=((its.drop (HT.sIx its.length 0 lo)).take (HT.sIx its.length its.length hi-HT.sIx its.length 0 lo)).toArray:=by obtain ⟨h1,h2,h3⟩:=j9_ lo hi its.toArray.size;unfold slicePick;rw [h1,h2,h3];simp only [sliceRange_one,pick_run,Am_] <;> rfl
def rSlL (K:PySem.W.Frag):V->Option Int->Option Int->Hp->VK->Prop:=fun x lo hi H Q=>∃ a xs,x=.ref a/\SqL K H a xs/\∀ p,H p=none->Q (.ref p) (upd H p (.lst (Ii_ xs lo hi)))
theorem pT_:SlR X (rSlL X.K):=by intro pins s σ H x v vl vu lo hi sl Q I rx hs pl pu h;obtain ⟨a,xs,rfl,hx,q⟩:=h;cases rx;obtain ⟨its,r,ht,hz⟩:=I.list hx;have hlen:=r.length;refine ⟨"list",_,slot_list_getitem.lookup,ht.isList.typeIs,?_⟩;refine wpAny_getItem_list_slice ht.isList hs pl pu .none (by simp) ?_ (by rw [Am_] <;> lia);rw [jl_,<-hlen];refine ⟨.ref s.heap.objs.size,_,I.laid (t':=s.toks) (o:=.lst (Ii_ xs lo hi)) (fun b ob q=>Aj_ _ q) (Af_ _) ?_,rfl,q _ (I.hok.fresh (Af_ _))⟩;exact ⟨Ay_ (lc_ xs lo hi) hz,_,0,(r.drop (HT.sIx xs.length 0 lo)).take (HT.sIx xs.length xs.length hi-HT.sIx xs.length 0 lo),AD_ _ rfl⟩
def Gd_:V->Bool
 | .non=>true
 | .bl _=>true
 | .int _=>true
 | .str _=>true
 | _=>false
def eqV:V->V->Bool
 | .non,.non=>true
 | .bl a,.bl b=>a == b
 | .bl a,.int b=>(if a then 1 else 0) == b
 | .int a,.bl b=>a == (if b then 1 else 0)
 | .int a,.int b=>a == b
 | .str a,.str b=>a == b
 | _,_=>false
theorem qM_ {A:Around}{s:Shared}{y x:V}{u v:Value}(ry:Fs_ y u)(rx:Fs_ x v)(fy:Gd_ y=true)(fx:Gd_ x=true):SeqAt.EqAt A s u v (eqV y x):=by
 cases y with
 | non =>
  cases ry;cases x with
  | non=>cases rx;exact De_ _
  | bl b=>cases rx;exact SeqAt.EqAt.none_bool b
  | int b=>obtain ⟨t,rfl⟩:=rx;exact SeqAt.EqAt.none_int b t
  | str b=>obtain ⟨t,rfl⟩:=rx;exact SeqAt.EqAt.none_str b t
  | _=>exact absurd (show false=true from fx) AI_
 | bl a =>
  cases ry;cases x with
  | non=>cases rx;exact SeqAt.EqAt.bool_none a
  | bl b=>cases rx;exact Ey_ a b
  | int b=>obtain ⟨t,rfl⟩:=rx;exact SeqAt.EqAt.bool_int a b t
  | str b=>obtain ⟨t,rfl⟩:=rx;exact SeqAt.EqAt.bool_str a b t
  | _=>exact absurd (show false=true from fx) AI_
 | int a =>
  obtain ⟨t',rfl⟩:=ry;cases x with
  | non=>cases rx;exact SeqAt.EqAt.int_none a t'
  | bl b=>cases rx;exact SeqAt.EqAt.int_bool a t' b
  | int b=>obtain ⟨t,rfl⟩:=rx;exact SeqAt.EqAt.int_int a t' b t
  | str b=>obtain ⟨t,rfl⟩:=rx;exact SeqAt.EqAt.int_str a t' b t
  | _=>exact absurd (show false=true from fx) AI_
 | str a =>
  obtain ⟨t',rfl⟩:=ry;cases x with
  | non=>cases rx;exact SeqAt.EqAt.str_none a t'
  | bl b=>cases rx;exact SeqAt.EqAt.str_bool a t' b
  | int b=>obtain ⟨t,rfl⟩:=rx;exact SeqAt.EqAt.str_int a t' b t
  | str b=>obtain ⟨t,rfl⟩:=rx;exact SeqAt.EqAt.str_str a t' b t
  | _=>exact absurd (show false=true from fx) AI_
 | _=>exact absurd (show false=true from fy) AI_
def eqU (x:V)(u:Value):Bool:=match u with
 | .none=>eqV .non x
 | .bool b=>eqV (.bl b) x
 | .int i _=>eqV (.int i) x
 | .str z _=>eqV (.str z) x
 | _=>false
theorem nc_ {x y:V}{u:Value}(r:Fs_ y u)(f:Gd_ y=true):eqU x u=eqV y x:=by
 cases y with
 | non=>cases r;rfl
 | bl b=>cases r;rfl
 | int i=>obtain ⟨t,rfl⟩:=r;rfl
 | str z=>obtain ⟨t,rfl⟩:=r;rfl
 | _=>exact absurd (show false=true from f) AI_
theorem hK_ {x:V}:∀ {xs:List V}{us:List Value},Fm_ xs us->xs.all Gd_=true->us.any (eqU x)=xs.any fun y=>eqV y x
 | _,_,.nil,_=>rfl
 | y::xs,u::us,.cons r t,f=>by rw [DB_,Cu_] at f;rw [B2_,B2_,nc_ r f.1,hK_ t f.2]
theorem eR_ {A:Around}{s:Shared}{x:V}{v:Value}(rx:Fs_ x v)(fx:Gd_ x=true):∀ {xs:List V}{us:List Value},Fm_ xs us->xs.all Gd_=true->∀ u∈us,SeqAt.EqAt A s u v (eqU x u)
 | _,_,.nil,_=>fun u hu=>by cases hu
 | y::xs,u::us,.cons r t,f=>fun u' hu=>by
  rw [DB_,Cu_] at f
  rcases Ao_.mp hu with rfl|hu
  ·rw [nc_ r f.1];exact qM_ r rx f.1 fx
  ·exact eR_ rx fx t f.2 u' hu
def inV (x:V)(xs:List V):Bool:=xs.any fun y=>eqV y x
def rIn (K:PySem.W.Frag)(neg:Bool):R2:=fun x y H Q=>∃ p xs,y=.ref p/\(SqL K H p xs\/SqT K H p xs)/\Gd_ x=true/\xs.all Gd_=true/\Q (.bl (if neg then !inV x xs else inV x xs)) H
theorem nd_:OpR X (compareOp .In) (rIn X.K false):=by
 intro pins s σ H x y v u Q I rx ry h;obtain ⟨p,xs,rfl,hq,fx,fs,q⟩:=h;cases ry
 rcases hq with hq|hq
 ·obtain ⟨its,r,pl,hz⟩:=I.list hq;refine SeqAt.in_listAt (eqU x) pl.isList (fun w hw=>eR_ rx fx r fs w (by simpa using hw)) ⟨.bl _,H,I,rfl,?_⟩;rw [show its.toArray.any (eqU x)=its.any (eqU x) by simp,hK_ r fs];exact q
 ·obtain ⟨its,r,pl,hz⟩:=I.tuple hq;refine SeqAt.in_tupleAt (eqU x) pl (fun w hw=>eR_ rx fx r fs w (by simpa using hw)) ⟨.bl _,H,I,rfl,?_⟩;rw [show its.toArray.any (eqU x)=its.any (eqU x) by simp,hK_ r fs];exact q
theorem ka_:OpR X (compareOp .NotIn) (rIn X.K true):=by
 intro pins s σ H x y v u Q I rx ry h;obtain ⟨p,xs,rfl,hq,fx,fs,q⟩:=h;cases ry
 rcases hq with hq|hq
 ·obtain ⟨its,r,pl,hz⟩:=I.list hq;refine SeqAt.notIn_listAt (eqU x) pl.isList (fun w hw=>eR_ rx fx r fs w (by simpa using hw)) ⟨.bl _,H,I,rfl,?_⟩;rw [show its.toArray.any (eqU x)=its.any (eqU x) by simp,hK_ r fs];exact q
 ·obtain ⟨its,r,pl,hz⟩:=I.tuple hq;refine SeqAt.notIn_tupleAt (eqU x) pl (fun w hw=>eR_ rx fx r fs w (by simpa using hw)) ⟨.bl _,H,I,rfl,?_⟩;rw [show its.toArray.any (eqU x)=its.any (eqU x) by simp,hK_ r fs];exact q
theorem gZ_:FW_ X (.builtin "len") (fun xs H Q=>∃ p ys,xs=[.ref p]/\(SqL X.K H p ys\/SqT X.K H p ys)/\Q (.int ys.length) H):=by
 intro pins s σ H xs us Q I r h;obtain ⟨p,ys,rfl,hq,q⟩:=h;obtain ⟨u,rfl,rx⟩:=F9_ r;cases rx;have hn:=Hw_
 rcases hq with hq|hq
 ·obtain ⟨its,r',pl,hz⟩:=I.list hq;have hlen:=r'.length;exact Calls.call_len_list pl.isList (by simp only [Am_] <;> lia) ⟨.int ys.length,H,I.tok _,⟨s.toks+1,by rw [Am_,hlen]⟩,q⟩
 ·obtain ⟨its,r',pl,hz⟩:=I.tuple hq;have hlen:=r'.length;exact len_tuple pl (by simp only [Am_] <;> lia) ⟨.int ys.length,H,I.tok _,⟨s.toks+1,by rw [Am_,hlen]⟩,q⟩
theorem kb_:FW_ X (.type "list") (fun xs H Q=>∃ p ys,xs=[.ref p]/\(SqL X.K H p ys\/SqT X.K H p ys)/\∀ l,H l=none->Q (.ref l) (upd H l (.lst ys))):=by
 intro pins s σ H xs us Q I r h;obtain ⟨p,ys,rfl,hq,q⟩:=h;obtain ⟨u,rfl,rx⟩:=F9_ r;cases rx
 have fin:∀ (its:List Value),Fm_ ys its->ys.length<=sizeLine->∀ (h':Heap)(c':Nat),(∀ b o',s.heap.get? b=some o'->h'.get? b=some o') ->
   h'.get? s.heap.objs.size=some { cls:=.type "list",dict:=none,data:=.seq its.toArray c',slots:=#[] }->EP X pins σ Q (.ref s.heap.objs.size) { s with heap:=h' }:=fun its r' hz h' c' kp e =>
  ⟨.ref s.heap.objs.size,_,I.laid (t':=s.toks) kp (Af_ _) (show FD_ X.prog X.w _ h' _ (.lst ys) from ⟨hz,its,c',r',e⟩),rfl,q _ (I.hok.fresh (Af_ _))⟩
 rcases hq with hq|hq
 ·obtain ⟨its,r',pl,hz⟩:=I.list hq;have hlen:=r'.length;obtain ⟨o,ho,hc,n,hd⟩:=pl.isList;exact call_list_seq p (.inl rfl) ho hc hd (fun h' c' kp e=>fin its r' hz h' c' kp e) (by simp only [Am_] <;> lia)
 ·obtain ⟨its,r',pl,hz⟩:=I.tuple hq;have hlen:=r'.length;obtain ⟨o,ho,hc,n,hd⟩:=pl;exact call_list_seq p (.inr rfl) ho hc hd (fun h' c' kp e=>fin its r' hz h' c' kp e) (by simp only [Am_] <;> lia)
def tyV (K:PySem.W.Frag)(T:String)(x:V)(H:Hp):Prop:=match x with
 | .str _=>T = "str"
 | .int _=>T = "int"
 | .ref p=>(T = "list" /\ ∃ xs,SqL K H p xs)\/(T = "tuple" /\ ∃ o,K.lookup p=some o/\o.cls=.type "tuple" /\ o.dict=none) \/
   (T = "dict" /\ ((∃ kvs,H p=some (.dK kvs))\/∃ kvs,H p=some (.dT kvs)))\/(T = "set" /\ ∃ S n,H p=some (.set S n))
 | _=>False
theorem pm_ {pins:List (Addr×Obj)}{σ:St}{H:Hp}{s:Shared}{T:String}{x:V}{v:Value}(I:Inv X pins σ H s)(r:Fs_ x v)(ty:tyV X.K T x H) :
  s.TypeIs v T/\∀ a,v=.ref a->∃ ob,s.heap.get? a=some ob/\ob.dict=none:=by
 cases x with
 | str z =>
  obtain ⟨t,rfl⟩:=r;cases (show T = "str" from ty);exact ⟨typeIs_str s z t,fun _ e=>nomatch e⟩
 | int i =>
  obtain ⟨t,rfl⟩:=r;cases (show T = "int" from ty);exact ⟨typeIs_int s i t,fun _ e=>nomatch e⟩
 | ref p =>
  cases r
  rcases ty with ⟨rfl,xs,hq⟩|⟨rfl,o,hk,hc,hd⟩|⟨rfl,hk⟩|⟨rfl,S,n,hk⟩
  ·obtain ⟨its,_,pl,_⟩:=I.list hq;refine ⟨pl.isList.typeIs,fun a e=>?_⟩;cases e;obtain ⟨o,n,e,c,hd,_⟩:=pl;exact ⟨o,e,hd⟩
  ·refine ⟨⟨o,I.kIn p o hk,hc⟩,fun a e=>?_⟩;cases e;exact ⟨o,I.kIn _ o hk,hd⟩
  ·have z:∃ o,s.heap.get? p=some o/\o.ExactDict:=by
    rcases hk with ⟨kvs,hk⟩|⟨kvs,hk⟩
    ·obtain ⟨_,_,_,_,o,_,_,e,ex,_⟩:=I.hok p _ hk;exact ⟨o,e,ex⟩
    ·obtain ⟨_,_,_,_,o,_,_,e,ex,_⟩:=I.hok p _ hk;exact ⟨o,e,ex⟩
   obtain ⟨o,e,ex⟩:=z;refine ⟨⟨o,e,ex.1⟩,fun a e2=>?_⟩;cases e2;exact ⟨o,e,ex.2.1⟩
  ·obtain ⟨o,_,_,_,e,ex,_⟩:=I.hok p _ hk;refine ⟨⟨o,e,ex.1⟩,fun a e2=>?_⟩;cases e2;exact ⟨o,e,ex.2.1⟩
 | _=>exact False.elim ty
def Lu_ (K:PySem.W.Frag)(T:String)(r:V->List V->Hp->VK->Prop)(to:TE):TE:=fun σ H Q=>to σ H fun x H1=>tyV K T x H1/\r x [] H1 Q
def tBM (K:PySem.W.Frag)(T:String)(r:V->List V->Hp->VK->Prop)(to:TE)(t:TA):TE:=fun σ H Q=>to σ H fun x H1=>tyV K T x H1/\t σ H1 fun xs H2=>r x xs H2 Q
variable {o e:Expr}{es:List Expr}{to:TE}{t:TA}{name:Str}{apos cpos:Pos}{T id:String}{r:V->List V->Hp->VK->Prop}
theorem pn_ (pa:PlainAttrs T)(slot:Slot T name id)(hty:typeOf (.builtin id)=pure (.type "method_descriptor")) (hm:MtR X id r) (ho:PE X o to)
  (hbase:attributeBase o name X.env (eval o X.env)=eval o X.env:=by rfl) (hline:(apos.endLine == cpos.line)=true:=by rfl):PE X (.Call (.Attribute o name apos) [] [] cpos) (Lu_ X.K T r to):=by
 intro pins s σ H Q I h;refine D6_ hbase hline (thn (ho pins s σ H _ I h) fun v s1 ⟨x,H1,I1,r1,ty,q1⟩=>?_);obtain ⟨h1,h2⟩:=pm_ I1 r1 ty;exact ⟨T,id,pa,slot,hty,h1,h2,BS_ rfl (EH_ (hm pins s1 σ H1 x [] v [] Q I1 r1 .nil q1))⟩
theorem FQ_ (pa:PlainAttrs T)(slot:Slot T name id)(hty:typeOf (.builtin id)=pure (.type "method_descriptor")) (hm:MtR X id r) (ho:PE X o to) (ha:PA X (e::es) t)
  (hbase:attributeBase o name X.env (eval o X.env)=eval o X.env:=by rfl)
  (hfew:((backTo cpos (starEach (e::es) X.env)).all (fun x=>!x.1) && (backToKw cpos (keywordEach [] X.env)).all (fun x=>x.1.isSome)
   && decide ((e::es).length+([]:List Keyword).length+(if ([]:List Keyword).isEmpty then 0 else 1)<30))=true:=by rfl)
  (hline:(apos.endLine == cpos.line)=true:=by rfl) (hs:starEach (e::es) X.env=(false,eval e X.env)::starEach es X.env:=by rfl) (hplain:(backTo cpos (starEach es X.env)).any (·.1)=false:=by rfl) :
  PE X (.Call (.Attribute o name apos) (e::es) [] cpos) (tBM X.K T r to t):=by
 intro pins s σ H Q I h;refine wpAny_Call_method_late hbase hfew hline rfl (thn (ho pins s σ H _ I h) fun v s1 ⟨x,H1,I1,r1,ty,q1⟩=>?_);obtain ⟨h1,h2⟩:=pm_ I1 r1 ty;refine ⟨T,id,pa,slot,hty,h1,h2,?_⟩;have hA:=ha cpos pins s1 σ H1 _ I1 q1;rw [hs] at hA ⊢;refine BS_ (by show (false || (backTo cpos (starEach es X.env)).any (·.1))=false;rw [hplain] <;> rfl) (Cv_ ?_);exact thn hA fun us s2 ⟨vs,H2,I2,r2,q2⟩=>hm pins s2 σ H2 x vs v us Q I2 r1 r2 q2
end
end L2
namespace L2
open PySem PySem.Spec PyProof.Rows
def MtM (X:Cx)(id:String)(r:V->List V->Hp->VK->Prop):Prop :=
 ∀ (pins:List (Addr×Obj))(s:Shared)(σ:St)(H:Hp)(x:V)(xs:List V)(v:Value)(us:List Value)(Q:VK),Inv X pins σ H s->Fs_ x v->Fm_ xs us->r x xs H Q ->
  wpAny (model X.prog X.w) X.A (call (.builtin id) (v::us)) (EP X pins σ Q) X.xe s
theorem Fm_.one:∀ {x:V}{us:List Value},Fm_ [x] us->∃ u,us=[u]/\Fs_ x u
 | _,_,.cons r .nil=>⟨_,rfl,r⟩
theorem Fm_.two:∀ {x y:V}{us:List Value},Fm_ [x,y] us->∃ u v,us=[u,v]/\Fs_ x u/\Fs_ y v
 | _,_,_,.cons r (.cons q .nil)=>⟨_,_,rfl,r,q⟩
theorem Fm_.zero:∀ {us:List Value},Fm_ [] us->us=[]
 | _,.nil=>rfl
theorem Fm_.dropLast {xs:List V}{us:List Value}(h:Fm_ xs us):Fm_ xs.dropLast us.dropLast:=by
 induction h with
 | nil=>exact .nil
 | cons r t ih =>
  cases t with
  | nil=>exact .nil
  | cons q t'=>exact .cons r ih
theorem Fm_.eraseIdx:∀ {xs:List V}{us:List Value}(i:Nat),Fm_ xs us->Fm_ (xs.eraseIdx i) (us.eraseIdx i)
 | _,_,_,.nil=>.nil
 | _,_,0,.cons _ t=>t
 | _,_,i+1,.cons r t=>.cons r (Fm_.eraseIdx i t)
theorem Fm_.reverse {xs:List V}{us:List Value}(h:Fm_ xs us):Fm_ xs.reverse us.reverse:=by
 induction h with
 | nil=>exact .nil
 | cons r t ih=>rw [List.reverse_cons,List.reverse_cons];exact Fm_.append ih (.cons r .nil)
theorem kc_ {α:Type}:∀ (l:List α)(i:Nat),(l.eraseIdx i).length<=l.length
 | [],_=>Af_ _
 | _::_,0=>Ei_ _
 | _::r,i+1=>BL_ (kc_ r i)
section
variable {X:Cx}{pins:List (Addr×Obj)}{σ:St}{H:Hp}{s:Shared}{l b:Addr}{xs ys zs:List V}
theorem Inv.lset {its its':List Value}{n:Nat}{f:Array Value->Array Value}{t':Nat}(I:Inv X pins σ H s)(hH:H l=some (.lst xs))
  (e:s.heap.get? l=some { cls:=.type "list",data:=.seq its.toArray n }) (hf:f its.toArray=its'.toArray) (hv:Fm_ ys its') (hz:ys.length<=sizeLine) :
  Inv X pins σ (upd H l (.lst ys)) { s with heap:=s.heap.update l (Obj.mapSeq f),toks:=t' }:=by
 have q:=PySem.IsL.update e f;rw [hf] at q;refine I.write (x:=l) (e:=l) (by rw [hH];exact trivial) (.inl rfl) (fun b' u hb hu=>(AX_ s.heap (Obj.mapSeq f) (Ne.symm hb)).trans hu) ⟨_,q⟩ ?_;exact ⟨hz,its',_,hv,q⟩
theorem Inv.lnew {its:List Value}{t':Nat}(I:Inv X pins σ H s)(hv:Fm_ ys its)(hz:ys.length<=sizeLine) :
  Inv X pins σ (upd H s.heap.objs.size (.lst ys)) { s with heap:=s.heap.push { cls:=.type "list",data:=.seq its.toArray },toks:=t' } :=
 I.laid (fun _ _ q=>Aj_ _ q) (Af_ _) ⟨hz,its,0,hv,AD_ _ rfl⟩
theorem Inv.fresh (I:Inv X pins σ H s):H s.heap.objs.size=none:=I.hok.fresh (Af_ _)
theorem Inv.lstM (I:Inv X pins σ H s)(hH:H l=some (.lst xs)):xs.length<=sizeLine/\∃ (its:List Value)(n:Nat),Fm_ xs its/\xs.length=its.length/\s.heap.get? l=some { cls:=.type "list",data:=.seq its.toArray n }:=by obtain ⟨z,its,n,r,e⟩:=I.hok l _ hH;exact ⟨z,its,n,r,r.length,e⟩
theorem Jg_ {n:Nat}(h:n<=sizeLine):Builtin.List.listTooLong n=false:=by unfold Builtin.List.listTooLong;exact Az_ (by lia)
end
section
variable {X:Cx}
def HD_:V->List V->Hp->VK->Prop:=fun x vs H Q=>∃ l xs y,x=.ref l/\vs=[y]/\H l=some (.lst xs)/\xs.length<sizeLine/\Q .non (upd H l (.lst (xs++[y])))
theorem aT_:MtM X "list.append" HD_:=by intro pins s σ H x vs v us Q I rx rv h;obtain ⟨l,xs,y,rfl,rfl,hH,hz,q⟩:=h;cases rx;obtain ⟨u,rfl,ru⟩:=rv.one;obtain ⟨z,its,n,r,hl,e⟩:=I.lstM hH;refine CQ_ F.slot_list_append ⟨_,e,rfl⟩ F.entry_list_append (F.args_list_append_2 _ _) (PySem.list_append l its.toArray n u (by rw [Am_];lia)) ⟨e,?_⟩;refine ⟨.non,_,I.lset (its':=its++[u]) hH e (by simp) (r.append (.cons ru .nil)) ?_,rfl,q⟩;rw [Ah_,A4_];lia
def HI_:V->List V->Hp->VK->Prop:=fun x vs H Q=>∃ l b xs zs,x=.ref l/\vs=[.ref b]/\H l=some (.lst xs)/\H b=some (.lst zs)/\xs.length+zs.length<=sizeLine/\Q .non (upd H l (.lst (xs++zs)))
theorem ne_:MtM X "list.extend" HI_:=by
 intro pins s σ H x vs v us Q I rx rv h;obtain ⟨l,b,xs,zs,rfl,rfl,hH,hB,hz,q⟩:=h;cases rx;obtain ⟨u,rfl,ru⟩:=rv.one;cases ru;obtain ⟨z,its,n,r,hl,e⟩:=I.lstM hH;obtain ⟨z2,its2,n2,r2,hl2,e2⟩:=I.lstM hB;have hsz:its.toArray.size+its2.toArray.size<=sizeLine:=by rw [Am_,Am_];lia
 have hlong:¬ (!its.toArray.isEmpty && Builtin.List.listTooLong (its.toArray.size+its2.toArray.size))=true:=by rw [Jg_ hsz,Bool.and_false];exact AI_
 refine CQ_ F.slot_list_extend ⟨_,e,rfl⟩ F.entry_list_extend (F.args_list_extend_2 _ _)
  (AutoSeq1.list_extend_list_list_0 l its.toArray n b its2.toArray n2 hlong (by rw [Am_];lia) (by lia)) ⟨e,e2,?_⟩
 refine ⟨.non,_,I.lset (its':=its++its2) hH e (by simp) (r.append r2) ?_,rfl,q⟩;rw [Ah_];lia
def L2_:V->List V->Hp->VK->Prop:=fun x vs H Q=>∃ l xs y,x=.ref l/\vs=[]/\H l=some (.lst xs)/\xs[xs.length-1]?=some y/\Q y (upd H l (.lst xs.dropLast))
def IK_:V->List V->Hp->VK->Prop:=fun x vs H Q=>∃ l xs i k y,x=.ref l/\vs=[.int i]/\H l=some (.lst xs) /\ -(2 ^ 63)<=i/\i<2 ^ 63/\seqIndex? i xs.length=some k/\xs[k]?=some y/\Q y (upd H l (.lst (xs.eraseIdx k)))
theorem ox_:MtM X "list.pop" IK_:=by
 intro pins s σ H x vs v us Q I rx rv h;obtain ⟨l,xs,i,k,y,rfl,rfl,hH,h1,h2,hk,hy,q⟩:=h;cases rx;obtain ⟨u,rfl,ru⟩:=rv.one;obtain ⟨t,rfl⟩:=ru;obtain ⟨z,its,n,r,hl,e⟩:=I.lstM hH;obtain ⟨w,hw,rw'⟩:=r.get hy
 refine CQ_ F.slot_list_pop ⟨_,e,rfl⟩ F.entry_list_pop (F.args_list_pop_2 _ _)
  (MeetsSeq.list_pop_at l its.toArray n i t k w (fitsIndex_both h1 h2) (by rw [Am_,<-hl];exact hk) (by rw [<-Array.getElem?_toList];exact hw) (by rw [Am_];lia)) ⟨e,?_⟩
 refine ⟨y,_,I.lset (its':=its.eraseIdx k) hH e ?_ (r.eraseIdx k) ?_,rw',q⟩
 ·show its.toArray.eraseIdxIfInBounds k=(its.eraseIdx k).toArray;rw [List.eraseIdxIfInBounds_toArray]
 ·have:=kc_ xs k;lia
def G9_:V->List V->Hp->VK->Prop:=fun x vs H Q=>∃ l xs,x=.ref l/\vs=[]/\H l=some (.lst xs)/\Q .non (upd H l (.lst xs.reverse))
theorem mw_:MtM X "list.reverse" G9_:=by intro pins s σ H x vs v us Q I rx rv h;obtain ⟨l,xs,rfl,rfl,hH,q⟩:=h;cases rx;have hus:=rv.zero;subst hus;obtain ⟨z,its,n,r,hl,e⟩:=I.lstM hH;refine CQ_ F.slot_list_reverse ⟨_,e,rfl⟩ F.entry_list_reverse (F.args_list_reverse_1 _) (AutoSeq1.list_reverse_list_0 l its.toArray n (by rw [Am_];lia)) ⟨e,?_⟩;refine ⟨.non,_,I.lset (its':=its.reverse) hH e (by simp) r.reverse ?_,rfl,q⟩;rw [Cc_];lia
def Jy_:V->List V->Hp->VK->Prop:=fun x vs H Q=>∃ l xs,x=.ref l/\vs=[]/\H l=some (.lst xs)/\Q .non (upd H l (.lst []))
def Lm_:R2:=fun x y H Q=>∃ l b xs zs,x=.ref l/\y=.ref b/\H l=some (.lst xs)/\H b=some (.lst zs)/\xs.length+zs.length<=sizeLine/\∀ p,H p=none->Q (.ref p) (upd H p (.lst (xs++zs)))
theorem iU_:OpR X (binaryOp .Add) Lm_:=by
 intro pins s σ H x y v u Q I rx ry h;obtain ⟨l,b,xs,zs,rfl,rfl,hH,hB,hz,q⟩:=h;cases rx;cases ry;obtain ⟨z,its,n,r,hl,e⟩:=I.lstM hH;obtain ⟨z2,its2,n2,r2,hl2,e2⟩:=I.lstM hB;refine PySem.P.add_list e e2 ?_ (by rw [Am_,Am_];lia);have ea:its.toArray++its2.toArray=(its++its2).toArray:=by simp
 rw [ea];exact ⟨.ref _,_,I.lnew (t':=s.toks) (r.append r2) (by rw [Ah_];lia),rfl,q _ I.fresh⟩
def LY_:R2:=fun x y H Q=>∃ l k xs,x=.ref l/\y=.int k/\H l=some (.lst xs) /\ -(2 ^ 63)<=k/\k<2 ^ 63/\xs.length*k.toNat<=sizeLine /\
 ∀ p,H p=none->Q (.ref p) (upd H p (.lst (List.replicate k.toNat xs).flatten))
end
section
variable {prog:Program}{w:World}{A:Around}{E:Value->Shared->Prop}{s:Shared}
end
section
variable {X:Cx}
end
end L2
namespace Att
open PySem PySem.W PySem.Calls PyProof.Rows
theorem hL_ {P:Params}{h:Heap}:∀ (ns:List Int)(vs:List Value),WellAll P h vs (ns.map WData.int)->IntsAre vs ns:=by
 intro ns
 induction ns with
 | nil =>
  intro vs w;rw [Co_] at w;cases w;exact .nil
 | cons n ns ih =>
  intro vs w;rw [AB_] at w;cases w with
  | cons a b =>
   cases a;exact .cons _ _ (ih _ b)
theorem nf_ {l:OpenLaw}{n:Nat}(hn:l.most=some n){P:Params}{h:Heap}{args:List WData}{vals:List Value}
  (hpre:l.row.toRowW.claim.pre args=true) (hwl:WellAll P h vals args) :
  ∃ a vs ns,vals=[Value.ref a]/\args=[WData.list (ns.map WData.int)]/\h.get? a=some { cls:=.type "list",data:=.seq vs.toArray }/\IntsAre vs ns/\ns.length<=n:=by
 have hsh:WShape.hasAll [] args [.list .int]=true:=(pre_splitW hpre).1;have hc:l.pre.holds [] { args:=args }=true:=(pre_splitW hpre).2;obtain ⟨d,r,rfl,h1,h2⟩:=hasAllW_cons hsh;obtain rfl:=hasAllW_nil h2;obtain ⟨xs,rfl,h3⟩:=hasW_list h1;obtain ⟨ns,rfl⟩:=items_int h3
 have hlen:ns.length<=n:=by
  unfold OpenLaw.pre at hc;have h4:(WTm.not (.lt (.lit (.int (n:Int))) (.len (.arg 0)))).holds [] { args:=[.list (ns.map .int)] }=true:=by have h4:=(holds_andW hc).1;rw [hn] at h4;exact h4
  have h5:=condW_of h4 (w_not (w_lt w_lit (w_len_list (w_arg rfl))));rw [Ab_] at h5;refine Nat.le_of_not_lt fun q=>?_;have q':(n:Int)<((ns.length:Nat):Int):=by lia
  first
   | (rw [AQ_ q'] at h5;exact absurd h5 (by decide))
   | (simp at h5;lia)
 cases hwl with
 | cons w1 w2 =>
  cases w2;cases w1 with
  | list ho hall=>exact ⟨_,_,ns,rfl,rfl,ho,hL_ ns _ hall,hlen⟩
theorem ng_ (l:OpenLaw)(args:List WData):l.row.toRowW.claim.post args (.bool true) args=true :=
 postW_of (r:=l.row.toRowW) (X:=(true == true))
  (show WShape.has [] (.bool true) .bool=true by first|rfl|decide|simp [WShape.has,WShape.arms,WShape.armsAll])
  (show (WTm.eq .res (.lit (.bool true))).value [] { args:=args,res:=some (.bool true),after:=args }=some (.bool (true == true)) from w_eq_bool (w_res rfl) w_lit) rfl
theorem attach_call {l:OpenLaw}{n:Nat}{q:Program}{loose:List Str}{XP:(Str->Option Value)->Heap->Prop}{YP:World->Heap->Prop}{d:DefRec}
  (hn:l.most=some n) (hdf:d.params.defaults=[])
  (call:∀ (w:World)(s₀ s₁:Shared)(mg mb:Str->Option Value)(fa:Addr)(o:Obj)(pm cd doc:Value)(a:Addr)(vs:List Value)(ns:List Int),
   Ground q loose [] XP w s₀ mg mb s₁.heap->YP w s₁.heap ->
   s₁.heap.get? fa=some o->o.data=.func (docDef d.name d.params d.body d.scope pm cd doc)->s₁.heap.CodeRec cd d.name->mg d.name=some (.ref fa) ->
   s₁.heap.get? a=some { cls:=.type "list",data:=.seq vs.toArray }->IntsAre vs ns->ns.length<=n->s₁.gens = #[] ->
   codeAny (model l.prog w) callerA (.call (.ref fa) ⟨[.ref a],[]⟩) (fun r s'=>r=.ok (.ret (.bool true))/\OldK s₁.heap s'.heap/\s'.os=s₁.os/\AllBare s'.gens) s₁) :
  WalkO q loose XP YP l.row.toRowW d [] (fun f vs=>PySem.call f vs):=by
 intro w s₀ s₁ mg mb G Y fa o pm cd doc dV kV ho hd hcd hD hmg hg args vals as hpre hlay hrd hwl hlo;obtain rfl:dV=.none:=Dflts.none hD hdf;obtain rfl:kV=.none:=Dflts.noKw hD;obtain ⟨a,vs,ns,rfl,rfl,hobj,hints,hlen⟩:=nf_ hn hpre hwl;refine enter_call (BV_ (call w s₀ s₁ mg mb fa o pm cd doc a vs ns G Y ho (fd_plain hd) hcd hmg hobj hints hlen hg) fun r s' hq=>?_);obtain ⟨rfl,h2,h3,h4⟩:=hq;exact ⟨.inl ⟨.bool true,.bool true,[],rfl,fun _=>rfl,.bool true,ng_ l _,fun _=>⟨List.Pairwise.nil,fun _ hm=>(nomatch hm)⟩⟩,h2,h3,h4⟩
section
variable {prog:Program}{w:World}{A:Around}{E:Value->Shared->Prop}{s:Shared}{K:Frag}
end
end Att
namespace L2
open PySem PySem.Spec PyProof.Rows
theorem kd_:∀ {vs:List Value}{ns:List Int},IntsAre vs ns->Fm_ (ns.map V.int) vs
 | _,_,.nil=>.nil
 | _,_,.cons n t h=>.cons ⟨t,rfl⟩ (kd_ h)
def Lg_ (H:Hp):Prop:=∀ b,H b=none\/∃ o xs,H b=some (.frz o (.lst xs))
theorem oy_ {P:Program}{w:World}{K:PySem.W.Frag}{mg mb:Str->Option Value}{CX:CXT}{k:Nat}{fa a:Addr}{fd:FuncData}{x:Str}{sp:Sp}{s₁:Shared}{vs:List Value}{ns:List Int}
  (KX:K.In s₁.heap) (hns:s₁.heap.Ns mainGlobals mg) (hb:s₁.heap.Ns builtinsNs mb) (hbb:∀ x:Str,x ≠ "__name__" -> mb x=bootBuiltins x) (hlim:s₁.heap.NoLimit) (hg:s₁.gens = #[])
  (ha:s₁.heap.get? a=some { cls:=.type "list",data:=.seq vs.toArray }) (hi:IntsAre vs ns) (hl:ns.length<=sizeLine) (hr:Gb_ k callerA)
  (F:∀ base:Heap,K.In base->base.Ns mainGlobals mg->H5_ P w K mg base CX k fa fd [x] sp) (hbind:∀ (s:Shared)(u:Value),BindsTo s fd ⟨[u],[]⟩ [(x,u)])
  (hsp:∀ H:Hp,Lg_ H->SqL K H a (ns.map V.int)->sp [.ref a] H (fun v _=>v=.bl true) fun _ _ _=>False)
  (hCX:∀ H e s',CX [] H s₁ (fun _ _ _=>False) e s'->False) :
  codeAny (model P w) callerA (.call (.ref fa) ⟨[.ref a],[]⟩) (fun r s'=>r=.ok (.ret (.bool true))/\OldK s₁.heap s'.heap/\s'.os=s₁.os/\AllBare s'.gens) s₁:=by
 have rv:=kd_ hi;have lenV:=hi.length
 have core:∀ H:Hp,Lg_ H->SqL K H a (ns.map V.int)->HOk P w H s₁.heap->(∀ b,H b≠none->b=a)->(H a≠none->K.lookup a=none) ->
   codeAny (model P w) callerA (.call (.ref fa) ⟨[.ref a],[]⟩) (fun r s'=>r=.ok (.ret (.bool true))/\OldK s₁.heap s'.heap/\s'.os=s₁.os/\AllBare s'.gens) s₁:=by
  intro H hO hS hok hA hK;have base_of:∀ {b:Addr}{o:Obj},s₁.heap.get? b=some o->H b=none->(Jd_ s₁.heap H).get? b=some o:=fun e n=>os_ e n
  have noA:∀ {b:Addr}{o:Obj}{es:Array DictEntry}{ep:Nat},s₁.heap.get? b=some o->o.data=.dict es ep->H b=none:=fun {b o es ep} e d=>by
   cases q:H b with
   | none=>rfl
   | some u =>have e':b=a:=hA b (by rw [q];simp);subst e';rw [ha] at e;cases e;have d':Data.seq vs.toArray _=Data.dict es ep:=d;cases d'
  have nsK:∀ {b:Addr}{m:Str->Option Value},s₁.heap.Ns b m->(Jd_ s₁.heap H).Ns b m:=fun {b m} ⟨o,es,ep,e,d,r⟩=>⟨o,es,ep,base_of e (noA e d),d,r⟩
  have hKb:K.In (Jd_ s₁.heap H):=fun b o e=>base_of (KX b o e) (by
   cases q:H b with
   | none=>rfl
   | some u =>have e':b=a:=hA b (by rw [q];simp);subst e';rw [hK (by rw [q];simp)] at e;cases e)
  have hM:Mod K mg (Jd_ s₁.heap H):=⟨hKb,nsK hns,⟨mb,nsK hb,hbb⟩,let ⟨mc,h1,h2⟩:=hlim;⟨mc,nsK h1,h2⟩⟩;have e0:KP_ P w K mg (Jd_ s₁.heap H) callerA [] s₁ H:=⟨rfl,hM,fun b o e=>pN_ e,Nat.le_of_eq (mU_ _ _),trivial,fun b hb=>absurd (show b∈([]:List Addr) from hb) (by simp),hok,.of_eq hg⟩;refine BV_ ((F _ hKb (nsK hns)).run callerA [] s₁ H ⟨[.ref a],[]⟩ [.ref a] [.ref a] _ _ hr e0 (hbind s₁ (.ref a)) (.cons rfl .nil) (hsp H hO hS)) fun r s' h=>?_;cases r with
  | error e=>exact (hCX H e s' h).elim
  | ok fl =>
   cases fl with
   | next=>exact False.elim h
   | brk=>exact False.elim h
   | cont=>exact False.elim h
   | ret u =>
    obtain ⟨v,H',os,bare,un,hok',r',q⟩:=h;have q':v=.bl true:=q;subst q';obtain rfl:u=Value.bool true:=r';refine ⟨rfl,OldK.of_keep fun b o e=>?_,os,bare⟩;cases q:H b with
    | none=>exact un.keep b o e q (by intro z;exact absurd (show b∈([]:List Addr) from z) (by simp)) (by simp)
    | some u =>
     rcases hO b with z|⟨ob,xs,z⟩
     ·rw [q] at z;cases z
     ·have z2:=un.frzs b ob _ z;obtain ⟨e1,_⟩:=hok b _ z;obtain ⟨e2,_⟩:=hok' b _ z2;rw [e] at e1;cases e1;exact e2
 cases hk:K.lookup a with
 | some o =>
  have e:=KX a o hk;rw [ha] at e;cases e;refine core (fun _=>none) (fun _=>.inl rfl) (.inr ⟨_,vs.toArray,_,hk,rfl,rfl,rfl,by rw [Am_,lenV];exact hl,by simpa using rv⟩) (fun b u z=>by have z':(none:Option HO)=some u:=z;cases z') (fun b z=>absurd rfl z) fun z=>absurd rfl z
 | none =>
  refine core (fun b=>if b=a then some (.frz { cls:=.type "list",data:=.seq vs.toArray } (.lst (ns.map V.int))) else none) (fun b=>?_) (.inl (.inr ⟨{ cls:=.type "list",data:=.seq vs.toArray },if_pos rfl⟩)) (fun b u z=>?_) (fun b z=>?_) fun _=>hk
  ·by_cases hb:b=a
   ·exact .inr ⟨_,_,if_pos hb⟩
   ·exact .inl (if_neg hb)
  ·by_cases hb:b=a
   ·have z':=(if_pos hb).symm.trans z;cases z';subst hb;exact ⟨ha,by rw [Ab_];exact hl,vs,_,rv,ha⟩
   ·have z':=(if_neg hb).symm.trans z;cases z'
  ·by_cases hb:b=a
   ·exact hb
   ·exact absurd (if_neg hb) z
end L2
namespace L2
open PySem PySem.Spec PyProof.Rows
theorem pU_ {l:PySem.W.OpenLaw}{n k:Nat}{q:Program}{loose:List Str}{XP:(Str->Option Value)->Heap->Prop}{YP:World->Heap->Prop}{d:DefRec}{K:Params->PySem.W.Frag}{CX:World->CXT}{sp:World->Sp}{x:Str}
  (hn:l.most=some n) (hn2:n<=sizeLine) (hdf:d.params.defaults=[]) (hr:Gb_ k callerA)
  (hY:∀ (w:World)(h:Heap),YP w h->(K w.params).In h)
  (F:∀ (w:World)(mg:Str->Option Value)(fa:Addr)(h:Heap),(K w.params).In h->h.Ns mainGlobals mg->mg d.name=some (.ref fa) ->
   ∃ fd:FuncData,(∀ (s:Shared)(u:Value),BindsTo s fd ⟨[u],[]⟩ [(x,u)]) /\
    ∀ base:Heap,(K w.params).In base->base.Ns mainGlobals mg->H5_ l.prog w (K w.params) mg base (CX w) k fa fd [x] (sp w))
  (hsp:∀ (w:World)(H:Hp)(a:Addr)(ns:List Int),ns.length<=n->Lg_ H->SqL (K w.params) H a (ns.map V.int)->sp w [.ref a] H (fun v _=>v=.bl true) fun _ _ _=>False)
  (hCX:∀ (w:World)(H:Hp)(s:Shared)(e:Value)(s':Shared),CX w [] H s (fun _ _ _=>False) e s'->False) :
  PySem.W.WalkO q loose XP YP l.row.toRowW d [] (fun f vs=>PySem.call f vs):=by
 refine Att.attach_call hn hdf fun w s₀ s₁ mg mb fa o pm cd doc a vs ns G Y ho hd hcd hmg hobj hints hlen hg=>?_;have KX:=hY w _ Y;obtain ⟨fd,hb,hF⟩:=F w mg fa _ KX G.T.g hmg;exact oy_ KX G.T.g G.T.b G.T.builtins G.T.nolimit hg hobj hints (Ay_ hlen hn2) hr hF hb (fun H hO hS=>hsp w H a ns hlen hO hS) fun H e s'=>hCX w H s₁ e s'
end L2
namespace L2
open PySem PySem.Spec PyProof.Rows
def F8_ (s:Stmt):Arguments:=match s with
 | .FunctionDef _ a _ _ _ _ _ _ _ _=>a
 | _=>{ posonlyargs:=[],args:=[],vararg:=none,kwonlyargs:=[],kw_defaults:=[],kwarg:=none,defaults:=[] }
def FO_ (s:Stmt):List Stmt:=match s with
 | .FunctionDef _ _ b _ _ _ _ _ _ _=>b
 | _=>[]
def EW_ (s:Stmt):Scope:=match s with
 | .FunctionDef _ _ _ _ _ _ sc _ _ _=>sc
 | _=>{ kind:=.function,names:=[],isGenerator:=false,isCoroutine:=false }
abbrev CX0:CXT:=fun _ _ _ _ _ _=>False
abbrev E0:XK:=fun _ _ _=>False
theorem LJ_ {X:Cx}:Hr_ CX0 X E0:=fun _ _ _ _ _ _ _ h=>h.elim
structure Fun (K:PySem.W.Frag)(x qual:Str)(st:Stmt)(f:Addr)(fd:FuncData):Prop where
 ex:∃ (oc:Value)(od:Option Addr)(kV doc pm:Value)(an:Option Addr)(cdv ct:Value)(osl:Array (Option Value)),
  fd=PySem.W.fnOf x qual (F8_ st) (FO_ st) (EW_ st) .none kV doc pm an cdv ct/\K.lookup f=some ⟨oc,od,.func fd,osl⟩/\PySem.W.codeIn K cdv qual=true
 kp:PySem.W.keepIn K (.ref f)=true
section
variable {P:Program}{w:World}{K:PySem.W.Frag}{mg:Str->Option Value}{base:Heap}
theorem Fun.ok {x qual:Str}{st:Stmt}{f:Addr}{fd:FuncData}{N ps:List Str}{k:Nat}{sp:Sp}(F:Fun K x qual st f fd)(S:E2_ N ps (EW_ st))(len:∀ vs H Q E,sp vs H Q E->vs.length=ps.length)
  (hbody:∀ (cdv:Value)(A:Around)(outer:List Env)(s:Shared)(H:Hp)(vs:List V)(Q:VK)(E:XK),Gb_ k (A.deeper (envOfC qual (EW_ st) s.heap.objs.size f cdv))->sp vs H Q E ->
   ∃ t,PSs (HE_ CX0 P w K mg base N qual (EW_ st) f cdv A outer s H E).nox (FO_ st) t/\t { nx:=fun _ H'=>Q .non H',rt:=Q } (start N vs) H):H5_ P w K mg base CX0 (k+1) f fd ps sp:=by
 obtain ⟨oc,od,kV,doc,pm,an,cdv,ct,osl,rfl,lk,hcd⟩:=F.ex;refine KS_ lk hcd S len fun A outer s H vs Q E hr hsp=>?_;obtain ⟨t,h,q⟩:=hbody cdv A outer s H vs Q E hr hsp;exact ⟨t,h.nox,q⟩
theorem Fun.binds {x qual:Str}{st:Stmt}{f:Addr}{fd:FuncData}{ps:List Str}(F:Fun K x qual st f fd)
  (h:∀ (kV doc pm:Value)(an:Option Addr)(cdv ct:Value)(us:List Value),us.length=ps.length->bindArgs (PySem.W.fnOf x qual (F8_ st) (FO_ st) (EW_ st) .none kV doc pm an cdv ct) ⟨us,[]⟩=pure (ps.zip us)):Ht_ K fd ps []:=by
 obtain ⟨oc,od,kV,doc,pm,an,cdv,ct,osl,rfl,lk,hcd⟩:=F.ex;exact .all (h kV doc pm an cdv ct)
theorem qN_ {x qual:Str}{st:Stmt}{f:Addr}{oc:Value}{od an:Option Addr}{osl:Array (Option Value)}{kV doc pm cdv ct:Value}(l:K.lookup f=some ⟨oc,od,.func (PySem.W.fnOf x qual (F8_ st) (FO_ st) (EW_ st) .none kV doc pm an cdv ct),osl⟩)
  (c:PySem.W.codeIn K cdv qual=true) (k:PySem.W.keepIn K (.ref f)=true):Fun K x qual st f (PySem.W.fnOf x qual (F8_ st) (FO_ st) (EW_ st) .none kV doc pm an cdv ct):=⟨⟨oc,od,kV,doc,pm,an,cdv,ct,osl,rfl,l,c⟩,k⟩
end
theorem EY_ {n:Nat}(h:n<=1000):n<sizeLine:=BC_ h (by decide)
section
variable {X:Cx}
end
theorem ite2 {c A B:Prop}[Decidable c](h1:c->A)(h2:¬ c->B):if c then A else B:=by
 by_cases h:c
 ·rw [if_pos h];exact h1 h
 ·rw [if_neg h];exact h2 h
def EX_ (H H':Hp):Prop:=∀ b o,H b=some o->H' b=some o
theorem EX_.refl (H:Hp):EX_ H H:=fun _ _ h=>h
theorem EX_.trans {H H1 H2:Hp}(a:EX_ H H1)(b:EX_ H1 H2):EX_ H H2:=fun c o h=>b c o (a c o h)
theorem EX_.free {H H':Hp}(e:EX_ H H'){l:Addr}(h:H' l=Option.none):H l=Option.none:=by
 cases q:H l with
 | none=>rfl
 | some o =>rw [e l o q] at h;cases h
theorem EX_.seq {K:PySem.W.Frag}{H H':Hp}{a:Addr}{xs:List V}(e:EX_ H H')(h:SqL K H a xs):SqL K H' a xs:=by
 rcases h with (h|⟨o,h⟩)|h
 ·exact .inl (.inl (e _ _ h))
 ·exact .inl (.inr ⟨o,e _ _ h⟩)
 ·exact .inr h
end L2
namespace L2
open PySem PySem.Spec PyProof.Rows
def HF_ (H:Hp):V->Option String
 | .non=>some "NoneType"
 | .bl _=>some "bool"
 | .int _=>some "int"
 | .str _=>some "str"
 | .ref p=>match H p with
  | some (.lst _)=>some "list"
  | some (.tup _)=>some "tuple"
  | _=>none
 | _=>none
def LX_ (a b:String):Bool:=a == b || (a == "bool" && b == "int")
def GU_ (T:String):Prop:=T = "int" \/ T = "bool" \/ T = "tuple" \/ T = "list" \/ T = "str"
section
variable {X:Cx}
theorem lU_:FW_ X (.builtin "isinstance") (fun xs H Q=>∃ x T k,xs=[x,.ty T]/\GU_ T/\HF_ H x=some k/\Q (.bl (LX_ k T)) H):=by
 intro pins s σ H xs us Q I r h;obtain ⟨x,T,k,rfl,hT,hk,q⟩:=h;obtain ⟨u,w',rfl,rx,ry⟩:=GO_ r;cases (show w'=Value.type T from ry);have fin:∀ {b:Bool}{s':Shared},b=LX_ k T->Inv X pins σ H s'->EP X pins σ Q (.bool b) s':=fun {b s'} e J=>⟨.bl b,H,J,rfl,by rw [e];exact q⟩;cases x with
 | non =>
  cases (show u=Value.none from rx);cases hk
  rcases hT with rfl|rfl|rfl|rfl|rfl
  ·exact IsiPair.NoneType_int (fin (by decide) (I.tok _))
  ·exact IsiPair.NoneType_bool (fin (by decide) (I.tok _))
  ·exact IsiPair.NoneType_tuple (fin (by decide) (I.tok _))
  ·exact IsiPair.NoneType_list (fin (by decide) (I.tok _))
  ·exact IsiPair.NoneType_str (fin (by decide) (I.tok _))
 | bl b =>
  cases (show u=Value.bool b from rx);cases hk
  rcases hT with rfl|rfl|rfl|rfl|rfl
  ·exact IsiPair.bool_int (fin (by decide) I)
  ·exact IsiPair.bool_bool (fin (by decide) I)
  ·exact IsiPair.bool_tuple (fin (by decide) (I.tok _))
  ·exact IsiPair.bool_list (fin (by decide) (I.tok _))
  ·exact IsiPair.bool_str (fin (by decide) (I.tok _))
 | int i =>
  obtain ⟨t,rfl⟩:=(show ∃ t,u=Value.int i t from rx);cases hk
  rcases hT with rfl|rfl|rfl|rfl|rfl
  ·exact IsiPair.int_int (fin (by decide) I)
  ·exact IsiPair.int_bool (fin (by decide) (I.tok _))
  ·exact IsiPair.int_tuple (fin (by decide) (I.tok _))
  ·exact IsiPair.int_list (fin (by decide) (I.tok _))
  ·exact IsiPair.int_str (fin (by decide) (I.tok _))
 | str z =>
  obtain ⟨t,rfl⟩:=(show ∃ t,u=Value.str z t from rx);cases hk
  rcases hT with rfl|rfl|rfl|rfl|rfl
  ·exact IsiPair.str_int (fin (by decide) (I.tok _))
  ·exact IsiPair.str_bool (fin (by decide) (I.tok _))
  ·exact IsiPair.str_tuple (fin (by decide) (I.tok _))
  ·exact IsiPair.str_list (fin (by decide) (I.tok _))
  ·exact IsiPair.str_str (fin (by decide) I)
 | ref p =>
  cases (show u=Value.ref p from rx);cases e:H p with
  | none=>simp [HF_,e] at hk
  | some o =>
   cases o with
   | lst ys =>
    have hk':k = "list" := by simp [HF_,e] at hk;exact hk.symm
    subst hk';obtain ⟨its,n,rr,ho,hz⟩:=I.lst e
    rcases hT with rfl|rfl|rfl|rfl|rfl
    ·exact IsiPair.list_int ho rfl (fin (by decide) (I.tok _))
    ·exact IsiPair.list_bool ho rfl (fin (by decide) (I.tok _))
    ·exact IsiPair.list_tuple ho rfl (fin (by decide) (I.tok _))
    ·exact IsiPair.list_list ho rfl (fin (by decide) I)
    ·exact IsiPair.list_str ho rfl (fin (by decide) (I.tok _))
   | tup ys =>
    have hk':k = "tuple" := by simp [HF_,e] at hk;exact hk.symm
    subst hk';obtain ⟨its,rr,⟨ob,ho,hc,_⟩,hz⟩:=I.tuple (xs:=ys) (.inl (.inl e))
    rcases hT with rfl|rfl|rfl|rfl|rfl
    ·exact IsiPair.tuple_int ho hc (fin (by decide) (I.tok _))
    ·exact IsiPair.tuple_bool ho hc (fin (by decide) (I.tok _))
    ·exact IsiPair.tuple_tuple ho hc (fin (by decide) I)
    ·exact IsiPair.tuple_list ho hc (fin (by decide) (I.tok _))
    ·exact IsiPair.tuple_str ho hc (fin (by decide) (I.tok _))
   | _=>simp [HF_,e] at hk
 | _=>cases hk
def J5_:V->List V->Hp->VK->Prop:=fun x xs H Q=>∃ i,x=.int i/\xs=[]/\Q (.int (Builtin.Int.intBits i:Nat)) H
theorem pV_:MtR X "int.bit_length" J5_:=by intro pins s σ H x xs v us Q I rx rs h;obtain ⟨i,rfl,rfl,q⟩:=h;obtain ⟨t,rfl⟩:=rx;cases rs;exact call_gives F.slot_int_bit_length (typeIs_int s i t) F.entry_int_bit_length (F.args_int_bit_length_1 _) (AutoIntG2.int_bit_length_int_0 i t) ⟨.int (Builtin.Int.intBits i:Nat),H,I.tok _,⟨_,rfl⟩,q⟩
def JM_ (i j:Int):Prop:=Builtin.Int.intBits i+Builtin.Int.intBits j<=134217728
theorem bS_:OpR X (binaryOp .Mult) (rI JM_ fun i j=>.int (i*j)):=opI fun i j _ _ _ _ _ hc q=>mul_int q (mulOk_of_bits (Af_ _) (Af_ _) hc)
def J7_ (i j:Int):Prop:=0<j/\j.natAbs.log2<9000
theorem av_:OpR X (binaryOp .FloorDiv) (rI J7_ fun i j=>.int (i/j)):=opI fun i j _ _ _ _ _ hc q=>by have h1:(0:Int)<j:=hc.1;exact floordiv_int (by lia) (by rw [Int.fdiv_eq_ediv_of_nonneg i (by lia)];exact q) (.inl (DR_ hc.2))
def J1_ (i j:Int):Prop:=j≠0/\j.natAbs.log2<9000
theorem lV_:OpR X (binaryOp .FloorDiv) (rI J1_ fun i j=>.int (i.fdiv j)):=opI fun i j _ _ _ _ _ hc q =>floordiv_int hc.1 q (.inl (DR_ hc.2))
def LR_:List V->List V->Bool
 | [],[]=>true
 | x::xs,y::ys=>eqV x y && LR_ xs ys
 | _,_=>false
end
end L2
namespace L2
open PySem PySem.Spec PyProof.Rows
def Fn0 (K:PySem.W.Frag)(mg:Str->Option Value)(x:Str)(st:Stmt):Prop:=∃ f fd,Fun K x x st f fd/\mg x=some (.ref f)
theorem qO_ {K:PySem.W.Frag}{mg:Str->Option Value}{h:Heap}(X:K.In h)(G:h.Ns mainGlobals mg){x:Str}{st:Stmt}{f:Addr}{oc:Value}{od an:Option Addr}{osl:Array (Option Value)}{kV doc pm cdv ct:Value}
  (a:PySem.W.nsIn K mainGlobals x=some (some (.ref f))) (l:K.lookup f=some ⟨oc,od,.func (PySem.W.fnOf x x (F8_ st) (FO_ st) (EW_ st) .none kV doc pm an cdv ct),osl⟩) (c:PySem.W.codeIn K cdv x=true) (k:PySem.W.keepIn K (.ref f)=true):Fn0 K mg x st :=
 ⟨f,_,qN_ l c k,EF_ X G a⟩
def Cal (P:Program)(w:World)(K:PySem.W.Frag)(mg:Str->Option Value)(base:Heap)(x:Str)(ps:List Str)(k:Nat)(sp:Sp):Prop :=
 ∃ f fd,mg x=some (.ref f)/\PySem.W.keepIn K (.ref f)=true/\Ht_ K fd ps []/\H5_ P w K mg base CX0 k f fd ps sp
theorem aR_ {P:Program}{w:World}{K:PySem.W.Frag}{mg:Str->Option Value}{base:Heap}{x:Str}{st:Stmt}{N ps:List Str}{k:Nat}{sp:Sp}(F:Fn0 K mg x st)(S:E2_ N ps (EW_ st))
  (hb:∀ (kV doc pm:Value)(an:Option Addr)(cdv ct:Value)(us:List Value),us.length=ps.length->bindArgs (PySem.W.fnOf x x (F8_ st) (FO_ st) (EW_ st) .none kV doc pm an cdv ct) ⟨us,[]⟩=pure (ps.zip us))
  (len:∀ vs H Q E,sp vs H Q E->vs.length=ps.length)
  (hbody:∀ (f:Addr)(cdv:Value)(A:Around)(outer:List Env)(s:Shared)(H:Hp)(vs:List V)(Q:VK)(E:XK),Gb_ k (A.deeper (envOfC x (EW_ st) s.heap.objs.size f cdv))->sp vs H Q E ->
   ∃ t,PSs (HE_ CX0 P w K mg base N x (EW_ st) f cdv A outer s H E).nox (FO_ st) t/\t { nx:=fun _ H'=>Q .non H',rt:=Q } (start N vs) H):Cal P w K mg base x ps (k+1) sp:=by
 obtain ⟨f,fd,F,m⟩:=F;exact ⟨f,fd,m,F.kp,F.binds hb,F.ok S len fun cdv A outer s H vs Q E=>hbody f cdv A outer s H vs Q E⟩
section
variable {X:Cx}{x:Str}{ps:List Str}{k:Nat}{sp:Sp}{e:Expr}{es:List Expr}{t:TA}{p pos:Pos}
theorem oz_ (C:Cal X.prog X.w X.K X.mg X.base x ps k sp)(hr:Gb_ k X.A)(hg:Gl X x)(ha:PA X (e::es) t)(hdb:(x == ("__debug__" : Str))=false:=by decide)
  (he:starEach (e::es) X.env=(false,eval e X.env)::starEach es X.env:=by rfl) (hpl:(backTo pos (starEach es X.env)).any (·.1)=false:=by rfl):PE X (.Call (.Name x p) (e::es) [] pos) (Hv_ sp [] E0 t):=by
 obtain ⟨f,fd,m,kp,b,F⟩:=C;exact m8_ F hr hg m kp b .nil LJ_ ha hdb he hpl
theorem pW_ {i:Int}(hm:∃ t,X.mg x=some (.int i t))(hg:Gl X x)(hd:(x == ("__debug__" : Str))=false:=by decide):PE X (.Name x pos) (tC (.int i)):=by obtain ⟨t,hm⟩:=hm;exact mW_ hg hm ⟨t,rfl⟩ hd
end
theorem qP_ {K:PySem.W.Frag}{mg:Str->Option Value}{h:Heap}(X:K.In h)(G:h.Ns mainGlobals mg){x:Str}{i:Int}{t:Tok}(a:PySem.W.nsIn K mainGlobals x=some (some (.int i t))):∃ t,mg x=some (.int i t):=⟨t,EF_ X G a⟩
theorem EX_.upd {H H':Hp}{a:Addr}{o:HO}(e:EX_ H H')(h:H a=none):EX_ H (upd H' a o):=fun b o' q=>by rw [ah_ (af_ q h)];exact e b o' q
theorem EX_.new {H:Hp}{a:Addr}{o:HO}(h:H a=none):EX_ H (L2.upd H a o):=(EX_.refl H).upd h
end L2
namespace L2
open PySem PySem.Spec PyProof.Rows
def JU_:R2:=fun x y H Q=>∃ p xs i v,x=.ref p/\y=.int i/\H p=some (.tup xs)/\atI xs i=some v/\Q v H
def JX_:R2:=fun x y H Q=>∃ p xs i v,x=.ref p/\y=.int i/\H p=some (.lst xs)/\atI xs i=some v/\Q v H
theorem am_ {X:Cx}:IxR X JU_:=by intro value slice pins s σ H x y v u Q I rx ry h hs;obtain ⟨p,xs,i,z,e1,e2,hp,ha,q⟩:=h;exact pl_ value slice pins s σ H x y v u Q I rx ry ⟨p,xs,i,z,e1,e2,.inl (.inl hp),ha,q⟩ hs
theorem ao_ {X:Cx}:IxR X JX_:=by intro value slice pins s σ H x y v u Q I rx ry h hs;obtain ⟨p,xs,i,z,e1,e2,hp,ha,q⟩:=h;exact nb_ value slice pins s σ H x y v u Q I rx ry ⟨p,xs,i,z,e1,e2,.inl (.inl hp),ha,q⟩ hs
def Kz_:R2:=fun x y H Q=>∃ a b xs ys,x=.ref a/\y=.ref b/\H a=some (.tup xs)/\H b=some (.tup ys)/\xs.all Gd_=true/\ys.all Gd_=true/\Q (.bl (LR_ xs ys)) H
def JS_:List V->Hp->VK->Prop:=fun xs H Q=>∃ p ys,xs=[V.ref p]/\(H p=some (.lst ys)\/H p=some (.tup ys))/\Q (.int ys.length) H
theorem ap_ {X:Cx}:FW_ X (.builtin "len") JS_:=by intro pins s σ H xs us Q I r h;obtain ⟨p,ys,e,hp,q⟩:=h;exact gZ_ pins s σ H xs us Q I r ⟨p,ys,e,hp.imp (fun z=>.inl (.inl z)) (fun z=>.inl (.inl z)),q⟩
theorem po_ {X:Cx}{x:Str}{n:String}{pos:Pos}(hg:Gl X x)(hm:X.mg x=none)(hv:bootBuiltins x=some (.type n))(hn:x ≠ "__name__" := by decide) (hd:(x == ("__debug__" : Str))=false:=by decide):PE X (.Name x pos) (tC (.ty n)) :=
 pO_ hg hm hv rfl hn hd
theorem FC_ {α:Type}{x:α}{xs:List α}:atI (x::xs) 0=some x:=by simp [atI,ixN]
theorem Fw_ {α:Type}{x y:α}{xs:List α}:atI (x::y::xs) 1=some y:=by
 have h:(1:Int)<(xs.length:Int)+1+1:=by lia
 simp [atI,ixN,h]
theorem Gi_ {α:Type}{x y z:α}{xs:List α}:atI (x::y::z::xs) 2=some z:=by
 have h:(2:Int)<(xs.length:Int)+1+1+1:=by lia
 simp [atI,ixN,h]
theorem c0_ {α:Type}{xs:List α}{i:Int}{v:α}(h0:0<=i)(h:xs[i.toNat]?=some v):atI xs i=some v:=by
 have hl:i.toNat<xs.length:=(Ag_.mp h).1;have hl':i<xs.length:=by lia
 unfold atI ixN;rw [if_pos h0,if_pos hl'];exact h
theorem qQ_ (n:Nat):ixN (n+1) 0=some 0:=by
 have:(0:Int)<(n:Int)+1:=by lia
 simp [ixN,this]
theorem hM_ {c:TT}{tb:TS}{D:G7_}{σ:St}{H:Hp}(Pv:St->Hp->Prop)(μ:St->Hp->Nat)(h0:Pv σ H)
  (hs:∀ σ H,Pv σ H->c σ H fun b H1=>if b=true then ∃ N:St->Hp->Prop,(∀ σ' H',N σ' H'->∃ m',m'<μ σ H/\m'=μ σ' H'/\Pv σ' H')/\tb { D with nx:=N,ct:=N,bk:=D.nx } σ H1 else D.nx σ H1):Iz_ c tb D σ H :=
 ⟨fun m σ H=>m=μ σ H/\Pv σ H,⟨_,rfl,h0⟩,by rintro m σ H ⟨rfl,p⟩;exact hs σ H p⟩
theorem N_ok {Pv:St->Hp->Prop}{μ:St->Hp->Nat}{k:Nat}:∀ σ' H',(Pv σ' H'/\μ σ' H'<k)->∃ m',m'<k/\m'=μ σ' H'/\Pv σ' H':=fun _ _ ⟨a,b⟩=>⟨_,b,rfl,a⟩
def Hd_ (J:It)(g:TG)(tb:TS)(D:G7_)(σ:St)(H:Hp):Prop:=∃ W:Nat->Nat->St->Hp->Prop,(∃ m,W 0 m σ H)/\∀ i m σ H,W i m σ H ->
 (J.stop i H/\D.nx σ H)\/(J.go i H/\∃ N:St->Hp->Prop,(∀ σ' H',N σ' H'->∃ m',m'<m/\W (i+1) m' σ' H')/\∀ x H',J.yld i H x H'->g x σ H' fun σ2 H2=>tb { D with nx:=N,ct:=N,bk:=D.nx } σ2 H2)
theorem pX_ {wi:TI}{g:TG}{tb:TS}{D:G7_}{σ:St}{H:Hp}:LQ_ wi g tb D σ H=wi σ H fun J H1=>Hd_ J g tb D σ H1:=rfl
theorem fO_ {lo:Int}{n:Nat}{g:TG}{tb:TS}{D:G7_}{σ:St}{H:Hp}(Pv:Nat->St->Hp->Prop)(h0:Pv 0 σ H)
  (hs:∀ i σ H,i<n->Pv i σ H->g (.int (lo+i)) σ H fun σ2 H2=>tb { D with nx:=Pv (i+1),ct:=Pv (i+1),bk:=D.nx } σ2 H2) (hd:∀ σ H,Pv n σ H->D.nx σ H):Hd_ (Itr lo n) g tb D σ H:=m2_ Pv h0 hs hd
theorem gt_ {K:PySem.W.Frag}{a:Addr}{xs:List V}{g:TG}{tb:TS}{D:G7_}{σ:St}{H:Hp}(Pv:Nat->St->Hp->Prop)(h0:Pv 0 σ H)(hl:∀ i σ H,i<=xs.length->Pv i σ H->SqL K H a xs)
  (hs:∀ i x σ H,xs[i]?=some x->Pv i σ H->g x σ H fun σ2 H2=>tb { D with nx:=Pv (i+1),ct:=Pv (i+1),bk:=D.nx } σ2 H2) (hd:∀ σ H,Pv xs.length σ H->D.nx σ H):Hd_ (Itl K a) g tb D σ H:=ou_ Pv h0 hl hs hd
def FP_:Expr->Bool
 | .Starred .. => false
 | _=>true
theorem aw_ {e:Expr}{es:List Expr}{env:Env}(h:FP_ e=true):starEach (e::es) env=(false,eval e env)::starEach es env:=by
 cases e <;> first|rfl|exact absurd (show false=true from h) AI_
def E8_:List Expr->Bool
 | []=>true
 | e::es=>FP_ e && E8_ es
theorem bK_ {pos:Pos}{env:Env}:∀ {es:List Expr},E8_ es=true->(backTo pos (starEach es env)).any (·.1)=false
 | [],_=>rfl
 | e::es,h=>by
  have h':FP_ e=true/\E8_ es=true:=by simpa [E8_] using h
  rw [aw_ h'.1];show (false || (backTo pos (starEach es env)).any (·.1))=false;rw [bK_ h'.2];rfl
def II_:Expr->Bool
 | .ListComp .. => true
 | .SetComp .. => true
 | .DictComp .. => true
 | _=>false
theorem hN_ {e:Expr}{t:Option Expr}{n:Nat}{env:Env}(h:II_ e=false):swapsWith e t n env=pure false:=by
 cases e <;> first|rfl|exact absurd (show true=false from h) Bool.noConfusion
section
variable {X:Cx}{x:Str}{ps:List Str}{k:Nat}{sp:Sp}{e:Expr}{es:List Expr}{te:TE}{t:TA}{p pos:Pos}{id:String}{r:List V->Hp->VK->Prop}
theorem pa_c (ha:PE X e te)(hr:PA X es t)(hs:FP_ e=true:=by rfl):PA X (e::es) (Ie_ te t):=pS_ ha hr (aw_ hs)
theorem al_ (C:Cal X.prog X.w X.K X.mg X.base x ps k sp)(hr:Gb_ k X.A)(hg:Gl X x)(ha:PA X (e::es) t)(hs:E8_ (e::es)=true:=by rfl) (hdb:(x == ("__debug__" : Str))=false:=by decide) :
  PE X (.Call (.Name x p) (e::es) [] pos) (Hv_ sp [] E0 t) :=
 have h':FP_ e=true/\E8_ es=true:=by simpa [E8_] using hs
 oz_ C hr hg ha hdb (aw_ h'.1) (bK_ h'.2)
theorem an_ (hc:FW_ X (.builtin id) r)(hg:Gl X x)(hm:X.mg x=none)(hv:bootBuiltins x=some (.builtin id))(ha:PA X (e::es) t)(hs:E8_ (e::es)=true:=by rfl) (hn:x ≠ "__name__" := by decide) (hdb:(x == ("__debug__" : Str))=false:=by decide) :
  PE X (.Call (.Name x p) (e::es) [] pos) (tCB r t) :=
 have h':FP_ e=true/\E8_ es=true:=by simpa [E8_] using hs
 ov_ hc hg hm hv ha hn hdb (aw_ h'.1) (bK_ h'.2)
theorem aj_ {i:Nat}{pos':Pos}(hN:X.N.Nodup)(hi:X.N[i]?=some x)(hx:X.env.scope.names.lookup x=some .local)(he:PE X e te)(hs:II_ e=false:=by rfl):PS X (.Assign [.Name x pos'] e pos) (J6_ te (GD_ i)) :=
 ph_ hN hi (.inl hx) he (hN_ hs) (.inr hx)
theorem ae_ {i:Nat}(hN:X.N.Nodup)(hi:X.N[i]?=some x)(hx:X.env.scope.names.lookup x=some .local):PG X (.Name x pos) (GD_ i):=mY_ hN hi (.inl hx) (.inr hx)
theorem aI_ (he:PE X e te)(hs:II_ e=false:=by rfl):PS X (.Expr e pos) (I7_ te):=pQ_ he (hN_ hs)
theorem pv1 (i:Nat)(hN:X.N[i]?=some x:=by rfl) (hv:X.env.scope.names.lookup x=some .local:=by rfl) (hd:(x == ("__debug__" : Str))=false:=by decide) (hcd:(x == ("__classdict__" : Str))=false:=by decide):PE X (.Name x pos) (Jb_ i):=pe_ hN (.inl hv) hd hcd
end
def tCut (t:TS):TS:=fun D σ H=>∃ M:St->Hp->Prop,t { D with nx:=M } σ H/\∀ σ' H',M σ' H'->D.nx σ' H'
theorem iV_ {X:Cx}{st:Stmt}{t:TS}(h:PS X st t):PS X st (tCut t):=by
 intro pins s σ H D I hq;obtain ⟨M,h1,h2⟩:=hq;refine thn (h pins s σ H _ I h1) fun f s' q=>?_;cases f with
 | next=>obtain ⟨σ',H',I',m⟩:=q;exact ⟨σ',H',I',h2 _ _ m⟩
 | brk=>exact q
 | cont=>exact q
 | ret u=>exact q
theorem aL_:bootBuiltins "len" = some (.builtin "len"):=by rfl'
theorem nh_:bootBuiltins "abs" = some (.builtin "abs"):=by rfl'
theorem qR_:bootBuiltins "max" = some (.builtin "max"):=by rfl'
theorem qS_:bootBuiltins "min" = some (.builtin "min"):=by rfl'
theorem fP_:bootBuiltins "isinstance" = some (.builtin "isinstance"):=by rfl'
theorem dr_:bootBuiltins "sorted" = some (.builtin "sorted"):=by rfl'
theorem ni_:bootBuiltins "int" = some (.type "int"):=by rfl'
theorem oA_:bootBuiltins "tuple" = some (.type "tuple"):=by rfl'
theorem dc_:bootBuiltins "list" = some (.type "list"):=by rfl'
theorem pp_:bootBuiltins "str" = some (.type "str"):=by rfl'
theorem ke_:bootBuiltins "enumerate" = some (.type "enumerate"):=by rfl'
end L2
namespace L2
open PySem PySem.Spec PyProof.Rows
def Hi_ (cells:List (Str×Addr)):List (Str×NameKind)->List (Str×Addr)->List (Str×Addr)
 | [],acc=>acc
 | (n,k)::r,acc=>if k == .free then Hi_ cells r ((n,(cells.lookup n).getD 0)::acc) else Hi_ cells r acc
theorem mx_ {env:Env}:∀ (names:List (Str×NameKind))(acc:List (Str×Addr)),(∀ p∈names,p.2=.free->∃ c,env.cells.lookup p.1=some c) ->
  (forIn (m:=Sem) names acc fun x r=>(match x with|(name,kind)=>if (kind == NameKind.free)=true then do let a <-cellOf env name;pure (ForInStep.yield ((name,a)::r)) else pure (ForInStep.yield r)))=pure (Hi_ env.cells names acc):=by
 intro names
 induction names with
 | nil=>intro acc _;rfl
 | cons p r ih =>
  intro acc h;obtain ⟨n,k⟩:=p;rw [List.forIn_cons];by_cases hk:(k == NameKind.free)=true
  ·obtain ⟨c,hc⟩:=h (n,k) At_ (by simpa using hk);have e1:cellOf env n=pure c:=by unfold cellOf;rw [hc]
   simp only [hk,if_true,e1];have:=ih ((n,c)::acc) fun p hp=>h p (An_ _ hp);show _=pure (Hi_ env.cells ((n,k)::r) acc);rw [Hi_,if_pos hk,hc];exact this
  ·simp only [hk];have:=ih acc fun p hp=>h p (An_ _ hp);show _=pure (Hi_ env.cells ((n,k)::r) acc);rw [Hi_,if_neg hk];exact this
theorem gu_ {scope:Scope}{env:Env}(h:∀ p∈scope.names,p.2=.free->∃ c,env.cells.lookup p.1=some c):closureFor scope env=pure (Hi_ env.cells scope.names []):=by unfold closureFor;exact Eq.trans (congrArg (fun z=>z >>= fun s=>pure s) (mx_ (env:=env) scope.names [] h)) rfl
theorem jm_ {cells:List (Str×Addr)}:∀ (names:List (Str×NameKind))(acc:List (Str×Addr)),(∀ p∈names,p.2=.free->∃ c,cells.lookup p.1=some c)->(∀ q∈acc,cells.lookup q.1=some q.2)->∀ q∈Hi_ cells names acc,cells.lookup q.1=some q.2
 | [],acc,_,h=>h
 | (n,k)::r,acc,h1,h2=>by
  rw [Hi_];by_cases hk:(k == NameKind.free)=true
  ·rw [if_pos hk];refine jm_ r _ (fun p hp=>h1 p (An_ _ hp)) fun q hq=>?_
   rcases Ao_.mp hq with rfl|hq
   ·obtain ⟨c,hc⟩:=h1 (n,k) At_ (by simpa using hk);rw [hc];rfl
   ·exact h2 q hq
  ·rw [if_neg hk];exact jm_ r _ (fun p hp=>h1 p (An_ _ hp)) h2
theorem jn_ {cells:List (Str×Addr)}{x:Str}:∀ (names:List (Str×NameKind))(acc:List (Str×Addr)),((x,NameKind.free)∈names\/∃ c,(x,c)∈acc)->∃ c,(x,c)∈Hi_ cells names acc
 | [],acc,h=>h.elim (fun z=>absurd z (by simp)) id
 | (n,k)::r,acc,h=>by
  rw [Hi_];by_cases hk:(k == NameKind.free)=true
  ·rw [if_pos hk];refine jn_ r _ ?_
   rcases h with h|⟨c,hc⟩
   ·rcases Ao_.mp h with e|h
    ·cases e;exact .inr ⟨_,At_⟩
    ·exact .inl h
   ·exact .inr ⟨c,An_ _ hc⟩
  ·rw [if_neg hk];refine jn_ r _ ?_
   rcases h with h|h
   ·rcases Ao_.mp h with e|h
    ·cases e;exact absurd rfl hk
    ·exact .inl h
   ·exact .inr h
theorem c1_ {x:Str}{c:Addr}:∀ {l:List (Str×Addr)},(x,c)∈l->∃ c',l.lookup x=some c'
 | (n,d)::r,h=>by
  rw [BQ_];cases e:x == n with
  | true=>exact ⟨d,rfl⟩
  | false =>
   rcases Ao_.mp h with z|h
   ·cases z;simp at e
   ·exact c1_ h
theorem hO_ {cells:List (Str×Addr)}{q:Str×Addr}:∀ (names:List (Str×NameKind))(acc:List (Str×Addr)),q∈Hi_ cells names acc->(q.1,NameKind.free)∈names\/q∈acc
 | [],acc,h=>.inr h
 | (n,k)::r,acc,h=>by
  rw [Hi_] at h;by_cases hk:(k == NameKind.free)=true
  ·rw [if_pos hk] at h;have hk':k=.free:=by simpa using hk
   rcases hO_ r _ h with h|h
   ·exact .inl (An_ _ h)
   ·rcases Ao_.mp h with rfl|h
    ·exact .inl (by rw [hk'];exact At_)
    ·exact .inr h
  ·rw [if_neg hk] at h;exact (hO_ r _ h).imp (An_ _) id
theorem dd_ {x:Str}{c:Addr}:∀ (names:List (Str×NameKind))(h:Heap)(acc:List (Str×Addr)),(x,c)∈cellsFrom h.objs.size names acc->(x,c)∈acc\/(h.objs.size<=c/\(pushCells h names).IsCell c none/\(x,NameKind.cell)∈names)
 | [],_,_,h=>.inl h
 | (n,k)::r,hp,acc,h=>by
  unfold cellsFrom at h;unfold pushCells;by_cases hk:(k == NameKind.cell)=true
  ·rw [if_pos hk] at h ⊢;have hk':k=.cell:=by simpa using hk
   have h':(x,c)∈cellsFrom (hp.push { cls:=.type "cell",data:=.cell none }).objs.size r ((n,hp.objs.size)::acc):=by rw [B7_];exact h
   rcases dd_ r _ _ h' with h|⟨h1,h2,h3⟩
   ·rcases Ao_.mp h with e|h
    ·cases e;exact .inr ⟨Af_ _,⟨_,Df_ r _ _ _ (AD_ _ rfl),rfl⟩,by rw [hk'];exact At_⟩
    ·exact .inl h
   ·rw [B7_] at h1;exact .inr ⟨by lia,h2,An_ _ h3⟩
  ·rw [if_neg hk] at h ⊢;exact (dd_ r hp acc h).imp id fun ⟨h1,h2,h3⟩=>⟨h1,h2,An_ _ h3⟩
theorem dG_ {x:Str}:∀ (names:List (Str×NameKind))(n:Nat)(acc:List (Str×Addr)),((x,NameKind.cell)∈names\/∃ c,(x,c)∈acc)->∃ c,(x,c)∈cellsFrom n names acc
 | [],_,acc,h=>h.elim (fun z=>absurd z (by simp)) id
 | (y,k)::r,n,acc,h=>by
  unfold cellsFrom;by_cases hk:(k == NameKind.cell)=true
  ·rw [if_pos hk];refine dG_ r _ _ ?_
   rcases h with h|⟨c,hc⟩
   ·rcases Ao_.mp h with e|h
    ·cases e;exact .inr ⟨_,At_⟩
    ·exact .inl h
   ·exact .inr ⟨c,An_ _ hc⟩
  ·rw [if_neg hk];refine dG_ r _ _ ?_
   rcases h with h|h
   ·rcases Ao_.mp h with e|h
    ·cases e;exact absurd rfl hk
    ·exact .inl h
   ·exact .inr h
theorem dH_ {lo:Nat}:∀ (names:List (Str×NameKind))(n:Nat)(acc:List (Str×Addr)),(∀ x c,(x,c)∈acc->c<n)->(∀ x y c,lo<=c->(x,c)∈acc->(y,c)∈acc->x=y)->∀ x y c,lo<=c->(x,c)∈cellsFrom n names acc->(y,c)∈cellsFrom n names acc->x=y
 | [],_,_,_,h=>h
 | (z,k)::r,n,acc,h1,h2=>by
  unfold cellsFrom;by_cases hk:(k == NameKind.cell)=true
  ·rw [if_pos hk];refine dH_ r _ _ (fun x c hm=>?_) fun x y c hc hx hy=>?_
   ·rcases Ao_.mp hm with e|hm
    ·cases e;exact DS_ _
    ·exact BI_ (h1 x c hm)
   ·rcases Ao_.mp hx with e|hx <;> rcases Ao_.mp hy with e'|hy
    ·cases e;cases e';rfl
    ·cases e;exact absurd (h1 _ _ hy) (Bv_ _)
    ·cases e';exact absurd (h1 _ _ hx) (Bv_ _)
    ·exact h2 x y c hc hx hy
  ·rw [if_neg hk];exact dH_ r n acc h1 h2
def Gg_ (scope:Scope)(env:Env)(n:Nat):List (Str×Addr):=cellsFrom (n+1) scope.names (Hi_ env.cells scope.names [])
def cxC (X:Cx)(N':List Str)(scope:Scope)(s:Shared)(H:Hp)(ex:List Addr):Cx :=
 { X with N:=N',s₀:=s,H₀:=H,env:=compEnvC scope (Gg_ scope X.env s.heap.objs.size) s.heap.objs.size X.env,outer:=X.stack,ex:=ex,fn:=fun x=>decide ((x,NameKind.cell)∈scope.names) }
def pick (σ:St)(ix:List (Option Nat)):St:=ix.map fun o=>match o with|some i=>(match σ[i]? with|some v=>v|none=>none)|none=>none
structure Scp (psc:Scope)(PN N':List Str)(ix:List (Option Nat))(scope:Scope):Prop where
 kind:scope.kind=.function
 names:∀ x∈scope.names,x.2=.local->scope.names.lookup x.1=some .local
 uni:∀ x∈scope.names,x.2=.free->scope.names.lookup x.1=some .free
 apart:∀ x∈scope.names,x.2=.cell->(x.1,NameKind.free)∉scope.names
 free:∀ x∈scope.names,x.2=.free->psc.names.lookup x.1=some .cell\/psc.names.lookup x.1=some .free
 len:ix.length=N'.length
 at_:∀ (j i:Nat)(x:Str),N'[j]?=some x->ix[j]?=some (some i)->PN[i]?=some x/\(x,NameKind.free)∈scope.names
section
variable {X:Cx}{pins:List (Addr×Obj)}{σ:St}{H:Hp}{s:Shared}{N':List Str}{ix:List (Option Nat)}{scope:Scope}{fp:List Addr}
theorem c2_ {env:Env}:∀ {names:List (Str×NameKind)}{x:Str},names.lookup x=some .free ->
  (names.map fun (n,k)=>if (k == NameKind.free && env.scope.kind == .function && env.kindOf n == some .cell) then (n,NameKind.cell) else (n,k)).lookup x=some .cell \/
  (names.map fun (n,k)=>if (k == NameKind.free && env.scope.kind == .function && env.kindOf n == some .cell) then (n,NameKind.cell) else (n,k)).lookup x=some .free
 | [],_,h=>by simp at h
 | (n,k)::r,x,h=>by
  have ih:=@c2_ env r x;simp only [AB_];cases hx:x == n with
  | true =>
   simp only [BQ_,hx] at h;cases h;by_cases hc:(NameKind.free == NameKind.free && env.scope.kind == .function && env.kindOf n == some .cell)=true
   ·rw [if_pos hc];simp [BQ_,hx]
   ·rw [if_neg hc];simp [BQ_,hx]
  | false =>
   simp only [BQ_,hx] at h;by_cases hc:(k == NameKind.free && env.scope.kind == .function && env.kindOf n == some .cell)=true
   ·rw [if_pos hc];simp only [BQ_,hx];exact ih h
   ·rw [if_neg hc];simp only [BQ_,hx];exact ih h
theorem hP_ {scope:Scope}{env:Env}{x:Str}(h:scope.names.lookup x=some .free):(relabel scope env).names.lookup x=some .cell\/(relabel scope env).names.lookup x=some .free:=c2_ h
theorem kf_ {scope:Scope}{env:Env}{x:Str}(h:(relabel scope env).names.lookup x=some .cell\/(relabel scope env).names.lookup x=some .free):(x,NameKind.cell)∈scope.names\/(x,NameKind.free)∈scope.names:=by
 have:∃ k,(x,k)∈(relabel scope env).names/\(k=.cell\/k=.free):=by
  rcases h with h|h
  ·exact ⟨_,Bn_ h,.inl rfl⟩
  ·exact ⟨_,Bn_ h,.inr rfl⟩
 obtain ⟨k,hm,hk⟩:=this;obtain ⟨⟨n,k'⟩,hm',e⟩:=Al_.mp hm
 dsimp only at e
 split at e
 ·rename_i hc;cases e;have:k'=.free:=by simp at hc;exact hc.1.1
  rw [this] at hm';exact .inr hm'
 ·cases e
  rcases hk with rfl|rfl
  ·exact .inl hm'
  ·exact .inr hm'
theorem oB_ (I:Inv X pins σ H s)(S:Scp X.env.scope X.N N' ix scope)(hf:∀ b∈fp,HJ_ X pins H b)(hfl:∀ b∈fp,b<s.heap.objs.size)(t':Nat) :
  Inv (cxC X N' scope s H fp) [] (pick σ ix) H { s with heap:=pushCells (s.heap.push { cls:=.type "dict",data:=.dict #[] }) scope.names,toks:=t' }:=by
 have hn:(pushCells (s.heap.push { cls:=.type "dict",data:=.dict #[] }) scope.names).Ns s.heap.objs.size fun _=>none:=(Heap.Ns.new s.heap (.type "dict")).keeps (Df_ _ _);have hk:∀ b o,s.heap.get? b=some o->(pushCells (s.heap.push { cls:=.type "dict",data:=.dict #[] }) scope.names).get? b=some o:=fun b o e=>Df_ _ _ b o (Aj_ _ e);have hfr:∀ p∈scope.names,p.2=NameKind.free->∃ c,X.env.cells.lookup p.1=some c:=fun p hp e=>I.ok.has p.1 (S.free p hp e);have clm:∀ q∈Hi_ X.env.cells scope.names [],X.env.cells.lookup q.1=some q.2:=jm_ scope.names [] hfr (by simp)
 have spec:∀ x c,(Gg_ scope X.env s.heap.objs.size).lookup x=some c->(X.env.cells.lookup x=some c/\(x,NameKind.free)∈scope.names) \/
   (s.heap.objs.size<c/\(pushCells (s.heap.push { cls:=.type "dict",data:=.dict #[] }) scope.names).IsCell c none/\(x,NameKind.cell)∈scope.names):=fun x c e=>by
  have hm:(x,c)∈cellsFrom (s.heap.push { cls:=.type "dict",data:=.dict #[] }).objs.size scope.names (Hi_ X.env.cells scope.names []):=by rw [B7_];exact Bn_ e
  rcases dd_ scope.names _ _ hm with h|⟨h1,h2,h3⟩
  ·exact .inl ⟨clm _ h,(hO_ scope.names [] h).elim id (fun z=>absurd z (by simp))⟩
  ·rw [B7_] at h1;exact .inr ⟨h1,h2,h3⟩
 have hasC:∀ x,((relabel scope X.env).names.lookup x=some .cell\/(relabel scope X.env).names.lookup x=some .free)->∃ c,(Gg_ scope X.env s.heap.objs.size).lookup x=some c:=fun x hx=>by have:∃ c,(x,c)∈Gg_ scope X.env s.heap.objs.size:=dG_ scope.names _ _ ((kf_ hx).imp id fun z=>jn_ scope.names [] (.inl z));obtain ⟨c,hc⟩:=this;exact c1_ hc
 have cold:∀ x c,X.env.cells.lookup x=some c->c<s.heap.objs.size:=fun x c e=>let ⟨v,q⟩:=I.cell x c e;q.lt
 refine ⟨⟨I.ok.mod,S.kind,I.ok.glob,I.ok.blt,Af_ _,fun x y c e1 e2=>?_,hasC,fun x c z e=>?_,I.ok.hd,I.ok.frames,.inl rfl,
  fun b hb=>⟨AE_ (hfl b hb),fun x c e=>?_⟩,I.bs,Ay_ I.ok.bsz I.sz,fun b o e hb=>?_,fun b hb z=>?_,I.stack,I.stkFree⟩,
  rfl,I.bare,Un.kept hk,⟨_,hn,fun j x v e1 e2 e3=>?_⟩,fun x c e=>?_,I.hok.fresh (Af_ _),fun x c e=>?_,fun p hp=>?pn,I.hok.kept hk,?_⟩
 case pn =>obtain ⟨q1,q2,q3,q4,q5⟩:=I.pin p (AV_ _ (show p∈X.pn from (Ax_.mp hp).elim id fun z=>nomatch z));exact ⟨hk _ _ q1,q2,AE_ (As_ q1),fun z=>(Ao_.mp (I.stkSub _ z)).elim q3 q4,q5⟩
 ·by_cases hc:c<s.heap.objs.size+1
  ·rcases spec x c e1 with ⟨q1,_⟩|⟨q1,_⟩
   ·rcases spec y c e2 with ⟨q2,_⟩|⟨q2,_⟩
    ·exact I.ok.inj x y c q1 q2
    ·exact absurd q2 (Cw_.mpr (Nat.le_of_lt_succ hc))
   ·exact absurd q1 (Cw_.mpr (Nat.le_of_lt_succ hc))
  ·exact dH_ (lo:=s.heap.objs.size+1) scope.names _ _ (fun x c hm=>BI_ (cold x c (clm _ hm))) (fun x y c hc hx _=>absurd (cold x c (clm _ hx)) (Cw_.mpr (Ay_ (Ei_ _) hc))) x y c (Cw_.mp hc) (Bn_ e1) (Bn_ e2)
 ·have z':(x,NameKind.cell)∈scope.names:=AG_ z
  rcases spec x c e with ⟨_,q⟩|⟨q,_⟩
  ·exact absurd q (S.apart _ z' rfl)
  ·exact AR_ q
 ·rcases spec x c e with ⟨q,_⟩|⟨q,_⟩
  ·exact (hf b hb).2.2.2.2.1 x c q
  ·exact fun z=>absurd (hfl b hb) (Cw_.mpr (z ▸ AR_ q))
 ·exact (hf b hb).2.2.2.1.elim (fun z=>I.ok.noex b o e z) fun z=>absurd (AF_ (As_ e) I.ok.bsz) (Cw_.mpr z)
 ·have hb2:=hf b hb
  rcases Ao_.mp (I.stkSub b z) with q|q
  ·exact hb2.2.1 q
  ·exact hb2.2.2.1 q
 ·have e4:∃ i,ix[j]?=some (some i)/\σ[i]?=some (some v):=by
   have e2':(pick σ ix)[j]?=some (some v):=e2;unfold pick at e2';rw [Ae_] at e2';cases q:ix[j]? with
   | none=>rw [q] at e2';cases e2'
   | some o =>
    rw [q] at e2';cases o with
    | none=>cases e2'
    | some i =>
     refine ⟨i,rfl,?_⟩;cases z:σ[i]? with
     | none=>simp [z] at e2'
     | some y=>simp [z] at e2';rw [e2']
  obtain ⟨i,e4,e5⟩:=e4;obtain ⟨a1,a2⟩:=S.at_ j i x e1 e4;have a3:=S.free _ a2 rfl;obtain ⟨m0,hn0,hl0⟩:=I.loc;obtain ⟨u,r,l⟩:=hl0 i x v a1 e5 (.inr a3);refine ⟨u,r,?_⟩
  rcases l with ⟨k1,_⟩|⟨k1,c,hcl,hce⟩
  ·have k1':X.env.scope.names.lookup x=some .local:=k1
   rcases a3 with z|z <;> (rw [k1'] at z;cases z)
  ·
   have e3':(relabel scope X.env).names.lookup x=some .local\/(relabel scope X.env).names.lookup x=some .cell\/(relabel scope X.env).names.lookup x=some .free:=e3;have k3:=hP_ (env:=X.env) (S.uni _ a2 rfl);obtain ⟨c',hc'⟩:=hasC x k3
   rcases spec x c' hc' with ⟨q,_⟩|⟨_,_,q⟩
   ·rw [hcl] at q;cases q;exact .inr ⟨k3,c,hc',hce.keeps hk⟩
   ·exact absurd a2 (S.apart _ q rfl)
 ·rcases spec x c e with ⟨q,_⟩|⟨q,q2,_⟩
  ·obtain ⟨v,q'⟩:=I.cell x c q;exact ⟨v,q'.keeps hk⟩
  ·exact ⟨none,q2⟩
 ·rcases spec x c e with ⟨q,_⟩|⟨q,_⟩
  ·exact I.freeC x c q
  ·exact I.hok.fresh (AR_ q)
 ·show (pick σ ix).length=N'.length;unfold pick;rw [Ab_];exact S.len
end
section
variable {prog:Program}{w:World}{A:Around}{R:Result->Shared->Prop}{s:Shared}
def IF_ (ifs:List Expr)(env:Env):Sem Bool:=forIn ifs true fun c r=>if r=true then do let ok <-isTrue c env (eval c env);pure (ForInStep.yield ok) else pure (ForInStep.yield r)
theorem kg_ {elt target iter:Expr}{ifs:List Expr}{scope:Scope}{pos:Pos}{it acc:Value}{env:Env}(I:Nat->Shared->Prop)
  (turn:∀ n s,I n s->wpAny (model prog w) A (pyNext it) (fun r s₁=>match r with
   | none=>R (.ok .next) s₁
   | some v=>wpAny (model prog w) A (letOwnedTupleGo target it v) (fun _ s₁'=>wpAny (model prog w) A (assign target env v) (fun _ s₂=>wpAny (model prog w) A (IF_ ifs env) (fun ok s₃ =>
     if ok=true then wpAny (model prog w) A (eval elt env) (fun x s₄=>wpAny (model prog w) A (call (.builtin "list.append") [acc,x]) (fun _ s₅=>∃ m,m<n/\I m s₅) (fun _ _=>False) s₄) (fun _ _=>False) s₃
     else ∃ m,m<n/\I m s₃) (fun _ _=>False) s₂) (fun _ _=>False) s₁') (fun _ _=>False) s₁) (fun _ _=>False) s)
  (n:Nat) (h:I n s):codeAny (model prog w) A (.compLoop (.ListComp elt [⟨target,iter,ifs,0⟩] scope pos) 0 it acc env) R s:=by
 refine codeAny_loop rfl I (fun n s hI=>?_) n h;show wpAny _ _ ((compTurn (.ListComp elt [⟨target,iter,ifs,0⟩] scope pos) 0 it acc env).onRaise (fun x=>do noteFrame x env;theTreesLotGoes x)) _ _ s;refine wpAny_noted ?_;rw [compTurn_list];refine Ad_ (Cy_ (Ad_ (Bl_ (turn n s hI) (fun r s₁ h₁=>?_) fun _ _ h'=>h'.elim)));cases r with
 | none=>exact Av_ h₁
 | some v =>
  refine Ad_ (Bl_ h₁ (fun _ s₁' h₁'=>?_) fun _ _ h'=>h'.elim);refine Ad_ (Bl_ h₁' (fun _ s₂ h₂=>Ad_ (Bl_ h₂ (fun ok s₃ h₃=>?_) fun _ _ h'=>h'.elim)) fun _ _ h'=>h'.elim);cases ok with
  | false=>exact Av_ ⟨rfl,h₃⟩
  | true =>exact Ad_ (Ad_ (Bl_ h₃ (fun x s₄ h₄=>Ad_ (Bl_ h₄ (fun _ s₅ h₅=>Av_ (Av_ ⟨rfl,h₅⟩)) fun _ _ h'=>h'.elim)) fun _ _ h'=>h'.elim))
end
theorem lf_ {M:Model}{A:Around}{E:Value->Shared->Prop}{s:Shared}{scope:Scope}{globals:Addr}{cl:List (Str×Addr)}{qual:Str}{env:Env}{Q:Env->Shared->Prop}
  (hQ:Q { scope:=scope,locals:=s.heap.objs.size,globals:=globals,cells:=cellsFrom (s.heap.objs.size+1) scope.names cl,qual:=qual,func:=none,code:=env.code,frame:=env.frame,builtins:=env.builtins } { s with heap:=pushCells (s.heap.push { cls:=.type "dict",data:=.dict #[] }) scope.names }) :
  wpAny M A (newFunctionEnv scope globals cl [] qual none .none (some env)) Q E s:=by
 simp only [newFunctionEnv,Option.isSome_some,if_true];refine Ad_ (wpAny_alloc ?_);refine Ad_ (wpAny_layCells _ (fun name kind cells=>by cases hkc:kind == NameKind.cell <;> simp [hkc]) _ _ _ _ ?_);rw [show ({ s with heap:=s.heap.push { cls:=.type "dict",data:=.dict #[] } }:Shared).heap.objs.size=s.heap.objs.size+1 from B7_ ..];exact Ad_ (Av_ (Av_ hQ))
def PF (X:Cx)(ifs:List Expr)(t:TT):Prop :=
 ∀ (pins:List (Addr×Obj))(s:Shared)(σ:St)(H:Hp)(Q:Bool->Hp->Prop),Inv X pins σ H s->t σ H Q->wpAny (model X.prog X.w) X.A (IF_ ifs X.env) (TP X pins σ Q) X.xe s
def Kl_:TT:=fun _ H Q=>Q true H
theorem cn_ {X:Cx}:PF X [] Kl_:=fun _ _ _ H _ I h=>wpAny_tests_nil ⟨H,I,h⟩
theorem ec_ {X:Cx}{c:Expr}{t:TT}(h:PT X c t):PF X [c] t:=fun pins s σ H Q I q=>wpAny_tests_one (h pins s σ H Q I q)
def Gw_ (J:It)(g:TG)(tt:TT)(te:TE)(σ:St)(H:Hp)(Q:VK):Prop:=∀ D,H D=none->∃ W:Nat->Nat->St->Hp->Prop,(∃ m,W 0 m σ (upd H D (.lst [])))/\∀ i m σ H,W i m σ H ->
 (J.stop i H/\Q (.ref D) H)\/(J.go i H/\∃ N:St->Hp->Prop,(∀ σ' H',N σ' H'->∃ m',m'<m/\W (i+1) m' σ' H')/\∀ x H',J.yld i H x H'->g x σ H' fun σ2 H2=>tt σ2 H2 fun b H3 =>if b=true then te σ2 H3 fun v H4=>∃ xs,H4 D=some (.lst xs)/\xs.length<sizeLine/\N σ2 (upd H4 D (.lst (xs++[v]))) else N σ2 H3)
def Ik_ (ix:List (Option Nat))(wi:TI)(g:TG)(tt:TT)(te:TE):TE:=fun σ H Q=>wi σ H fun J H1=>Gw_ J g tt te (pick σ ix) H1 Q
section
variable {X:Cx}{N':List Str}{ix:List (Option Nat)}{scope:Scope}{tg iter elt:Expr}{ifs:List Expr}{wi:TI}{g:TG}{tt:TT}{te:TE}{pos:Pos}
structure KH_ (C:Cx->Prop)(P:Program)(w:World)(K:PySem.W.Frag)(tg:Expr)(J:It)(fp:List Addr)(it:Addr)(tn:Nat->Heap->Prop):Prop where
 obj:∀ i h,tn i h->∀ b∈fp,∃ o,h.get? b=some o/\∀ v,o.data≠.cell v
 keep:∀ i h h',tn i h->(∀ b∈fp,∀ o,h.get? b=some o->h'.get? b=some o)->tn i h'
 item:∀ (X:Cx),X.prog=P->X.w=w->X.K=K->C X->∀ (i:Nat)(pins:List (Addr×Obj))(s:Shared)(σ:St)(H:Hp)(E:Value->Shared->Prop),Inv X pins σ H s->(∀ b∈fp,HJ_ X pins H b)->tn i s.heap->J.go i H ->
  wpAny (model P w) X.A (pyNext (.ref it)) (fun r s1=>∃ u,r=some u/\wpAny (model P w) X.A (letOwnedTupleGo tg (.ref it) u) (fun _ s2=>∃ x H',Inv X pins σ H' s2/\Fs_ x u/\J.yld i H x H'/\tn (i+1) s2.heap/\∀ b∈fp,H' b=none) E s1) E s
 done:∀ (X:Cx),X.prog=P->X.w=w->X.K=K->C X->∀ (i:Nat)(pins:List (Addr×Obj))(s:Shared)(σ:St)(H:Hp)(E:Value->Shared->Prop),Inv X pins σ H s->(∀ b∈fp,HJ_ X pins H b)->tn i s.heap->J.stop i H ->
  wpAny (model P w) X.A (pyNext (.ref it)) (fun r s1=>r=none/\Inv X pins σ H s1) E s
 self:∀ (A:Around)(i:Nat)(s:Shared)(Q:Value->Shared->Prop)(E:Value->Shared->Prop),tn i s.heap->Q (.ref it) s->wpAny (model P w) A (pyIter (.ref it)) Q E s
def PIc (C:Cx->Prop)(X:Cx)(tg iter:Expr)(wi:TI):Prop:=∀ (pins:List (Addr×Obj))(s:Shared)(σ:St)(H:Hp)(R:It->Hp->Prop),Inv X pins σ H s->wi σ H R ->
 wpAny (model X.prog X.w) X.A (eval iter X.env) (fun v s1=>wpAny (model X.prog X.w) X.A (pyIter v) (fun itv s2=>∃ (it:Addr)(fp:List Addr)(tn:Nat->Heap->Prop)(J:It)(H':Hp),itv=.ref it/\Inv X pins σ H' s2/\KH_ C X.prog X.w X.K tg J fp it tn/\tn 0 s2.heap/\(∀ b∈fp,HJ_ X pins H' b)/\R J H') X.xe s1) X.xe s
theorem PI.c {X:Cx}{tg iter:Expr}{wi:TI}(h:PI X tg iter wi):PIc (fun X=>X.calm=true) X tg iter wi:=fun pins s σ H R I q=>thn (h pins s σ H R I q) fun _ _ h1=>thn h1 fun _ _ ⟨it,fp,tn,J,H',e,I2,T,z⟩=>⟨it,fp,tn,J,H',e,I2,⟨T.obj,T.keep,T.item,T.done,T.self⟩,z⟩
theorem hQ_ {C:Cx->Prop}(hc:∀ s H ex,C (cxC X N' scope s H ex))(hxe:X.xe=fun _ _=>False)(S:Scp X.env.scope X.N N' ix scope)(hi:PIc C X tg iter wi)(hg:∀ s H ex,PG (cxC X N' scope s H ex) tg g)(ht:∀ s H ex,PF (cxC X N' scope s H ex) ifs tt)(he:∀ s H ex,PE (cxC X N' scope s H ex) elt te)
  {pins:List (Addr×Obj)} {s:Shared} {σ:St} {H:Hp} {Q:VK} (I:Inv X pins σ H s) (h:Ik_ ix wi g tt te σ H Q) {Post:Value->Addr->Result->Shared->Prop}
  (fin':∀ (D C:Addr)(H':Hp)(s':Shared),Inv X pins σ H' s'->HJ_ X pins H' C->(∃ m,s'.heap.Ns C m)->Q (.ref D) H'->Post (.ref D) C (.ok .next) s') :
  wpAny (model X.prog X.w) X.A (eval iter X.env) (fun x s₁=>wpAny (model X.prog X.w) X.A (pyIter x) (fun it s₂=>wpAny (model X.prog X.w) X.A (newList []) (fun acc s₃ =>wpAny (model X.prog X.w) X.A (newFunctionEnv scope X.env.globals (Hi_ X.env.cells scope.names []) [] X.env.qual none .none (some X.env)) (fun cenv s₄ =>codeAny (model X.prog X.w) X.A (.compStart (.ListComp elt [⟨tg,iter,ifs,0⟩] scope pos) 0 it acc { cenv with scope:=relabel scope X.env }) (Post acc cenv.locals) s₄) X.xe s₃) X.xe s₂) X.xe s₁) X.xe s:=by
 refine thn (hi pins s σ H _ I h) fun v s1 h1=>thn h1 fun itv s2 h2=>?_;obtain ⟨it,fp,tn,J,H2,e,I2,T,st2,f2,go⟩:=h2;subst e;refine Cm_ ?_;have hD:H2 s2.heap.objs.size=none:=I2.hok.fresh (Af_ _)
 have I3:Inv X pins σ (upd H2 s2.heap.objs.size (.lst [])) { s2 with heap:=s2.heap.push { cls:=.type "list",dict:=none,data:=.seq ([]:List Value).toArray } } :=
  I2.laid (t':=s2.toks) (fun b u e=>Aj_ _ e) (Af_ _) ⟨AA_ _,[],0,.nil,AD_ _ rfl⟩
 obtain ⟨W,⟨m0,w0⟩,turn⟩:=go s2.heap.objs.size hD;have fpl:∀ b∈fp,b<s2.heap.objs.size:=fun b hb=>let ⟨o,e,_⟩:=T.obj _ _ st2 b hb;As_ e;have tF:∀ {α:Type}{t:Sem α}{Q':α->Shared->Prop}{s':Shared},wpAny (model X.prog X.w) X.A t Q' X.xe s'->wpAny (model X.prog X.w) X.A t Q' (fun _ _=>False) s':=fun hw=>hxe ▸ hw;generalize hH3:upd H2 s2.heap.objs.size (.lst [])=H3 at I3 w0;generalize hs3:({ s2 with heap:=s2.heap.push { cls:=.type "list",dict:=none,data:=.seq ([]:List Value).toArray } }:Shared)=s3 at I3 ⊢;have h23:∀ b o,s2.heap.get? b=some o->s3.heap.get? b=some o:=fun b o e=>by rw [<-hs3];exact Aj_ _ e
 have sz3:s2.heap.objs.size<=s3.heap.objs.size:=by rw [<-hs3];show _<=(s2.heap.push _).objs.size;rw [B7_];exact Ei_ _
 have fpl3:∀ b∈fp,b<s3.heap.objs.size:=fun b hb=>AF_ (fpl b hb) sz3;have f3:∀ b∈fp,HJ_ X pins H3 b:=fun b hb=>⟨by rw [<-hH3,ah_ (AE_ (fpl b hb))];exact (f2 b hb).1,(f2 b hb).2⟩;refine lf_ ?_;generalize hh1:pushCells (s3.heap.push { cls:=.type "dict",data:=.dict #[] }) scope.names=h1;have hk:∀ b o,s3.heap.get? b=some o->h1.get? b=some o:=fun b o e=>by rw [<-hh1];exact Df_ _ _ b o (Aj_ _ e)
 have I4:Inv (cxC X N' scope s3 H3 fp) [] (pick σ ix) H3 { s3 with heap:=h1 }:=by rw [<-hh1];exact oB_ I3 S f3 fpl3 s3.toks
 have st4:tn 0 h1:=T.keep _ _ _ st2 fun b hb o e=>hk b o (h23 b o e);have fin:∀ {σ':St}{H':Hp}{s':Shared},Inv (cxC X N' scope s3 H3 fp) [] σ' H' s'->Q (.ref s2.heap.objs.size) H'->Post (.ref s2.heap.objs.size) s3.heap.objs.size (.ok .next) s':=fun {σ' H' s'} J q=>by obtain ⟨m,hn,_⟩:=J.loc;have K1:Inv X pins σ H' s':=I3.call' J.os J.base J.hok J.bare fun b hb=>⟨(f3 b hb).2.2.2.1,(f3 b hb).2.1,(f3 b hb).2.2.2.2.1,(f3 b hb).2.2.2.2.2⟩;exact fin' _ _ H' s' K1 (I3.fpOk (b:=s3.heap.objs.size) (Af_ _) (show H' s3.heap.objs.size=none from J.free)) ⟨m,hn⟩ q
 have loop:codeAny (model X.prog X.w) X.A (.compLoop (.ListComp elt [⟨tg,iter,ifs,0⟩] scope pos) 0 (.ref it) (.ref s2.heap.objs.size) (compEnvC scope (Gg_ scope X.env s3.heap.objs.size) s3.heap.objs.size X.env)) (Post (.ref s2.heap.objs.size) s3.heap.objs.size) { s3 with heap:=h1 }:=by
  refine kg_ (fun n s'=>∃ i σ' H',Inv (cxC X N' scope s3 H3 fp) [] σ' H' s'/\tn i s'.heap/\(∀ b∈fp,H' b=none)/\W i n σ' H') ?_ m0 ⟨0,_,H3,I4,st4,fun b hb=>(f3 b hb).1,w0⟩;rintro n s5 ⟨i,σ5,H5,I5,st5,fr5,w5⟩;have stat:∀ {H':Hp},(∀ b∈fp,H' b=none)->∀ b∈fp,HJ_ (cxC X N' scope s3 H3 fp) [] H' b:=fun hn b hb=>⟨hn b hb,(I5.ok.exf b hb).1,I5.ok.exfs b hb,.inl hb,(I5.ok.exf b hb).2,fun p hp=>(f3 b hb).2.2.2.2.2 p (AV_ _ (show p∈X.pn from (Ax_.mp hp).elim id fun z=>nomatch z))⟩
  rcases turn i n σ5 H5 w5 with ⟨stop,qn⟩|⟨go,N,hN,step⟩
  ·refine thn (tF (T.done (cxC X N' scope s3 H3 fp) rfl rfl rfl (hc _ _ _) i [] s5 σ5 H5 X.xe I5 (stat fr5) st5 stop)) fun r s6 ⟨hr,I6⟩=>?_;subst hr;exact fin I6 qn
  ·refine thn (tF (T.item (cxC X N' scope s3 H3 fp) rfl rfl rfl (hc _ _ _) i [] s5 σ5 H5 X.xe I5 (stat fr5) st5 go)) fun r s6 ⟨u,hr,h6⟩=>?_;subst hr;refine thn (tF h6) fun _ s7 ⟨x,H7,I7,r7,y7,st7,fr7⟩=>?_;have I7':=I7.pinned (stat fr7) (T.obj _ _ st7);have again:∀ {σ':St}{H':Hp}{s':Shared},Inv (cxC X N' scope s3 H3 fp) ([]++Hn_ fp s7.heap) σ' H' s'->N σ' H'->∃ m,m<n/\∃ i σ' H',Inv (cxC X N' scope s3 H3 fp) [] σ' H' s'/\tn i s'.heap/\(∀ b∈fp,H' b=none)/\W i m σ' H':=fun {σ' H' s'} J n10=>by obtain ⟨m',hm,w10⟩:=hN σ' H' n10;refine ⟨m',hm,i+1,σ',H',J.unpinned,T.keep _ _ _ st7 fun b hb o e=>(J.pin (b,o) (AM_ _ (AM_ _ (eP_ hb e)))).1,fun b hb=>?_,w10⟩;obtain ⟨o,e,d⟩:=T.obj _ _ st7 b hb;exact (J.pin (b,o) (AM_ _ (AM_ _ (eP_ hb e)))).2.1
   refine thn (tF (hg s3 H3 fp _ s7 σ5 H7 x u _ I7' r7 (step x H7 y7))) fun _ s8 ⟨σ8,H8,I8,q8⟩=>?_;refine thn (tF (ht s3 H3 fp _ s8 σ8 H8 _ I8 q8)) fun ok s8' ⟨H8',I8',q8'⟩=>?_;cases ok with
   | false=>exact again I8' (by simpa using q8')
   | true =>rw [if_pos rfl] at q8' ⊢;refine thn (tF (he s3 H3 fp _ s8' σ8 H8' _ I8' q8')) fun v s9 ⟨y,H9,I9,r9,xs,hl9,hz9,n9⟩=>?_;exact thn (tF (aT_ (X:=cxC X N' scope s3 H3 fp) _ s9 σ8 H9 (.ref s2.heap.objs.size) [y] (.ref s2.heap.objs.size) [v] (fun _ H'=>N σ8 H') I9 rfl (.cons r9 .nil) ⟨s2.heap.objs.size,xs,y,rfl,rfl,hl9,hz9,n9⟩)) fun _ s10 ⟨_,H10,I10,_,n10⟩=>again I10 n10
 exact codeAny_compStart_list loop (T.self _ 0 _ _ _ st4 loop)
theorem bd_ (hc:X.calm=true)(hxe:X.xe=fun _ _=>False)(S:Scp X.env.scope X.N N' ix scope)(hi:PI X tg iter wi)(hg:∀ s H ex,PG (cxC X N' scope s H ex) tg g)(ht:∀ s H ex,PF (cxC X N' scope s H ex) ifs tt)(he:∀ s H ex,PE (cxC X N' scope s H ex) elt te)
  (hs:∀ x,foldedSetIterable iter X.env x=pure x:=by intro _;rfl):PE X (.ListComp elt [⟨tg,iter,ifs,0⟩] scope pos) (Ik_ ix wi g tt te):=by
 intro pins s σ H Q I h;rw [eval_ListComp];refine CI_ (use:=none) rfl hs (gu_ fun p hp e=>I.ok.has p.1 (S.free p hp e)) S.kind S.names (hQ_ (C:=fun X=>X.calm=true) (fun _ _ _=>hc) hxe S hi.c hg ht he I h fun D C H' s' K1 F ⟨m,hn⟩ q=>?_);refine ⟨m,hn,fun h' sb=>?_⟩;obtain ⟨g0,g1,g2,g3,g4,g5⟩:=F;exact ⟨.ref D,H',K1.turned (t':=s'.toks) (fun b o hb e=>sb.extBut b o hb e) g0 g1 g3 g4 g5,rfl,q⟩
theorem gv_ {i:Nat}{y:Str}{py spos:Pos}(hc:X.calm=true)(hxe:X.xe=fun _ _=>False)(hN:X.N.Nodup)(hy:X.N[i]?=some y)(hl:X.env.scope.names.lookup y=some .local)
  (hsw:swapsWith (.ListComp elt [⟨tg,iter,ifs,0⟩] scope pos) (some (.Name y py)) spos.line X.env=pure true)
  (S:Scp X.env.scope X.N N' ix scope) (hi:PI X tg iter wi) (hg:∀ s H ex,PG (cxC X N' scope s H ex) tg g) (ht:∀ s H ex,PF (cxC X N' scope s H ex) ifs tt) (he:∀ s H ex,PE (cxC X N' scope s H ex) elt te)
  (hs:∀ x,foldedSetIterable iter X.env x=pure x:=by intro _;rfl):PS X (.Assign [.Name y py] (.ListComp elt [⟨tg,iter,ifs,0⟩] scope pos) spos) (J6_ (Ik_ ix wi g tt te) (GD_ i)):=by
 intro pins s σ H D I h;rw [exec_Assign_Name_used _ _ _ _ hsw];refine Ad_ (Cy_ (Ad_ ?_));show wpAny _ X.A (do let _ <-comprehension (.ListComp elt [⟨tg,iter,ifs,0⟩] scope pos) scope X.env _ (newList []) false (eval iter X.env) (some (assign (.Name y py) X.env))) _ _ s
 refine Ad_ (Bl_ (CI_ (use:=some (assign (.Name y py) X.env)) (Q:=fun _ s'=>SP X pins D .next s') rfl hs (gu_ fun p hp e=>I.ok.has p.1 (S.free p hp e)) S.kind S.names
  (hQ_ (C:=fun X=>X.calm=true) (fun _ _ _=>hc) hxe S hi.c hg ht he I h fun L C H' s' K1 F ⟨m,hn⟩ q=>?_)) (fun _ s' hq=>Av_ (Av_ hq)) fun _ _ e=>e)
 show wpAny _ X.A (assign (.Name y py) X.env (.ref L)) _ _ _;obtain ⟨g0,g1,g2,g3,g4,g5⟩:=F;refine wpAny_assign_Name (j2_ K1 hN hy (.inl hl) (v:=.ref L) rfl (fun s2 I2 ⟨a,sb,ha⟩=>?_) (.inr hl))
 have hCa:C≠a:=by
  rcases ha with rfl|ha
  ·exact g1
  ·exact fun z=>g4 _ _ ha z.symm
 refine ⟨m,hn.sameBut sb hCa,fun h' sb'=>?_⟩;exact ⟨_,H',I2.turned (t':=s2.toks) (fun b o hb e=>sb'.extBut b o hb e) g0 g1 g3 g4 g5,q⟩
end
def Ge_ (psc:Scope)(PN N':List Str)(ix:List (Option Nat))(scope:Scope):Bool :=
 scope.kind == .function &&
 scope.names.all (fun x=>x.2 != .local || scope.names.lookup x.1 == some .local) &&
 scope.names.all (fun x=>x.2 != .free || scope.names.lookup x.1 == some .free) &&
 scope.names.all (fun x=>x.2 != .cell || !scope.names.contains (x.1,NameKind.free)) &&
 scope.names.all (fun x=>x.2 != .free || (psc.names.lookup x.1 == some .cell || psc.names.lookup x.1 == some .free)) &&
 ix.length == N'.length &&
 (List.range N'.length).all (fun j=>match ix[j]?,N'[j]? with|some (some i),some x=>PN[i]? == some x && scope.names.contains (x,NameKind.free)|_,_=>true)
theorem a6_ {psc:Scope}{PN N':List Str}{ix:List (Option Nat)}{scope:Scope}(h:Ge_ psc PN N' ix scope=true):Scp psc PN N' ix scope:=by
 unfold Ge_ at h;simp only [Cu_,List.all_eq_true,beq_iff_eq,Bool.or_eq_true,Ez_,ne_eq,C8_,Bool.not_eq_true',A3_] at h;obtain ⟨⟨⟨⟨⟨⟨h1,h2⟩,h3⟩,h4⟩,h5⟩,h6⟩,h7⟩:=h;refine ⟨h1,fun x hx e=>(h2 x hx).resolve_left fun z=>z e,fun x hx e=>(h3 x hx).resolve_left fun z=>z e,fun x hx e hm=>?_,fun x hx e=>(h5 x hx).resolve_left fun z=>z e,h6,fun j i x e1 e2=>?_⟩
 ·have:=(h4 x hx).resolve_left fun z=>z e;rw [C8_.mpr hm] at this;cases this
 ·have hj:j<N'.length:=(Ag_.mp e1).1;have:=h7 j hj;rw [e1,e2] at this;simp only [Cu_,beq_iff_eq,C8_] at this;exact this
section
variable {X:Cx}{x:Str}{pos:Pos}{i:Nat}{e:Expr}{te:TE}
theorem pvc (i:Nat)(hN:X.N[i]?=some x:=by rfl) (hv:X.env.scope.names.lookup x=some .cell:=by rfl) (hd:(x == ("__debug__" : Str))=false:=by decide) (hcd:(x == ("__classdict__" : Str))=false:=by decide):PE X (.Name x pos) (Jb_ i):=pe_ hN (.inr (.inl hv)) hd hcd
theorem de_ {pos':Pos}(hN:X.N.Nodup)(hi:X.N[i]?=some x)(hx:X.env.scope.names.lookup x=some .cell)(hf:X.fn x=true)(he:PE X e te)(hs:swapsWith e (some (.Name x pos')) pos.line X.env=pure false):PS X (.Assign [.Name x pos'] e pos) (J6_ te (GD_ i)) :=
 ph_ hN hi (.inr hx) he hs (.inl hf)
theorem hv_ (hN:X.N.Nodup)(hi:X.N[i]?=some x)(hx:X.env.scope.names.lookup x=some .cell)(hf:X.fn x=true):PG X (.Name x pos) (GD_ i):=mY_ hN hi (.inr hx) (.inl hf)
end
end L2
namespace L2
open PySem PySem.Spec PyProof.Rows
theorem ay_ {X:Cx}{K:PySem.W.Frag}{tg l:Expr}{tl:TE}(hK:X.K=K)(hl:PE X l tl):PI X tg l (IS_ K tl):=hK ▸ pR_ hl
theorem nj_ {X:Cx}{K:PySem.W.Frag}{tg l:Expr}{tl:TE}(hK:X.K=K)(hl:PE X l tl):PI X tg l (K7_ K tl):=hK ▸ qJ_ hl
theorem oC_ {X:Cx}{K:PySem.W.Frag}(hK:X.K=K):IxR X (LU_ K):=hK ▸ nb_
inductive Dt where
 | non|bl (b:Bool)|int (i:Int)|str (x:Str)|tup (xs:List Dt)|lst (xs:List Dt)
mutual
def Rep (H:Hp):V->Dt->Prop
 | v,.non=>v=.non
 | v,.bl b=>v=.bl b
 | v,.int i=>v=.int i
 | v,.str x=>v=.str x
 | v,.tup ds=>∃ p xs,v=.ref p/\H p=some (.tup xs)/\Fg_ H xs ds
 | v,.lst ds=>∃ p xs,v=.ref p/\H p=some (.lst xs)/\Fg_ H xs ds
def Fg_ (H:Hp):List V->List Dt->Prop
 | xs,[]=>xs=[]
 | xs,d::ds=>∃ x r,xs=x::r/\Rep H x d/\Fg_ H r ds
end
mutual
theorem Rep.mono {H H':Hp}(e:EX_ H H'):∀ {v:V}(d:Dt),Rep H v d->Rep H' v d
 | v,.non,h=>h
 | v,.bl b,h=>h
 | v,.int i,h=>h
 | v,.str x,h=>h
 | v,.tup ds,⟨p,xs,h1,h2,h3⟩=>⟨p,xs,h1,e _ _ h2,Fg_.mono e ds h3⟩
 | v,.lst ds,⟨p,xs,h1,h2,h3⟩=>⟨p,xs,h1,e _ _ h2,Fg_.mono e ds h3⟩
theorem Fg_.mono {H H':Hp}(e:EX_ H H'):∀ {xs:List V}(ds:List Dt),Fg_ H xs ds->Fg_ H' xs ds
 | xs,[],h=>h
 | xs,d::ds,⟨x,r,h1,h2,h3⟩=>⟨x,r,h1,Rep.mono e d h2,Fg_.mono e ds h3⟩
end
mutual
theorem Rep.inj {H:Hp}:∀ {v:V}(d e:Dt),Rep H v d->Rep H v e->d=e
 | v,.non,e,h,h'=>by
  cases h;cases e <;> first|rfl|(simp [Rep] at h')
 | v,.bl b,e,h,h'=>by
  cases h;cases e <;> simp [Rep] at h' <;> simp [h']
 | v,.int i,e,h,h'=>by
  cases h;cases e <;> simp [Rep] at h' <;> simp [h']
 | v,.str x,e,h,h'=>by
  cases h;cases e <;> simp [Rep] at h' <;> simp [h']
 | v,.tup ds,e,⟨p,xs,h1,h2,h3⟩,h'=>by
  subst h1;cases e with
  | tup es =>
   obtain ⟨p',xs',g1,g2,g3⟩:=h';cases g1;rw [h2] at g2;cases g2;rw [Fg_.inj ds es h3 g3]
  | lst es =>
   obtain ⟨p',xs',g1,g2,g3⟩:=h';cases g1;rw [h2] at g2;cases g2
  | _=>simp [Rep] at h'
 | v,.lst ds,e,⟨p,xs,h1,h2,h3⟩,h'=>by
  subst h1;cases e with
  | tup es =>
   obtain ⟨p',xs',g1,g2,g3⟩:=h';cases g1;rw [h2] at g2;cases g2
  | lst es =>
   obtain ⟨p',xs',g1,g2,g3⟩:=h';cases g1;rw [h2] at g2;cases g2;rw [Fg_.inj ds es h3 g3]
  | _=>simp [Rep] at h'
theorem Fg_.inj {H:Hp}:∀ {xs:List V}(ds es:List Dt),Fg_ H xs ds->Fg_ H xs es->ds=es
 | xs,[],es,h,h'=>by
  cases h;cases es with
  | nil=>rfl
  | cons e es=>obtain ⟨x,r,g,_⟩:=h';cases g
 | xs,d::ds,es,⟨x,r,h1,h2,h3⟩,h'=>by
  subst h1;cases es with
  | nil=>cases h'
  | cons e es =>obtain ⟨x',r',g1,g2,g3⟩:=h';cases g1;rw [Rep.inj d e h2 g2,Fg_.inj ds es h3 g3]
end
theorem Fg_.length {H:Hp}:∀ {xs:List V}{ds:List Dt},Fg_ H xs ds->xs.length=ds.length
 | xs,[],h=>by cases h;rfl
 | xs,d::ds,⟨x,r,h1,h2,h3⟩=>by subst h1;simp [Fg_.length h3]
theorem Fg_.get {H:Hp}:∀ {xs:List V}{ds:List Dt}{i:Nat}{d:Dt},Fg_ H xs ds->ds[i]?=some d->∃ x,xs[i]?=some x/\Rep H x d
 | xs,[],i,d,h,e=>by simp at e
 | xs,d'::ds,0,d,⟨x,r,h1,h2,h3⟩,e=>by
  subst h1;simp at e;subst e;exact ⟨x,rfl,h2⟩
 | xs,d'::ds,i+1,d,⟨x,r,h1,h2,h3⟩,e=>by subst h1;obtain ⟨y,hy,hr⟩:=Fg_.get (i:=i) (d:=d) h3 (by simpa using e);exact ⟨y,by simpa using hy,hr⟩
theorem Fg_.append {H:Hp}:∀ {xs:List V}{ds:List Dt}{ys:List V}{es:List Dt},Fg_ H xs ds->Fg_ H ys es->Fg_ H (xs++ys) (ds++es)
 | xs,[],ys,es,h,g=>by cases h;exact g
 | xs,d::ds,ys,es,⟨x,r,h1,h2,h3⟩,g=>by subst h1;exact ⟨x,r++ys,rfl,h2,Fg_.append h3 g⟩
mutual
def deq:Dt->Dt->Option Bool
 | .non,.non=>some true
 | .bl a,.bl b=>some (a == b)
 | .int a,.int b=>some (a == b)
 | .str a,.str b=>some (a == b)
 | .tup xs,.tup ys=>deqs xs ys
 | .lst xs,.lst ys=>if xs.length=ys.length then deqs xs ys else some false
 | _,_=>none
def deqs:List Dt->List Dt->Option Bool
 | [],[]=>some true
 | x::xs,y::ys=>match deq x y,deqs xs ys with
  | some a,some b=>some (a && b)
  | _,_=>none
 | _,_=>some false
end
mutual
def dep:Dt->Nat
 | .tup ds=>deps ds+1
 | .lst ds=>deps ds+1
 | _=>0
def deps:List Dt->Nat
 | []=>0
 | d::ds=>max (dep d) (deps ds)
end
def eAt (ds es:List Dt)(j:Nat):Bool:=match ds[j]?,es[j]? with
 | some d,some e=>(deq d e).getD false
 | _,_=>false
theorem b7_:∀ (ds es:List Dt)(b:Bool),deqs ds es=some b->((List.range (min ds.length es.length)).all (eAt ds es) && ds.length == es.length)=b
 | [],[],b,h=>by cases h;rfl
 | [],_::_,b,h=>by cases h;simp
 | _::_,[],b,h=>by cases h;simp
 | d::ds,e::es,b,h=>by
  rw [deqs] at h;cases h1:deq d e with
  | none=>rw [h1] at h;cases h
  | some a =>
   cases h2:deqs ds es with
   | none=>rw [h1,h2] at h;cases h
   | some c =>
    rw [h1,h2] at h;cases h;rw [<-b7_ ds es c h2];simp only [AH_,Nat.succ_min_succ,List.range_succ_eq_map,DB_,List.all_map,Bool.and_assoc];congr 1
    ·simp [eAt,h1]
    ·congr 1;simp
mutual
theorem jo_:∀ (d:Dt)(b:Bool),deq d d=some b->b=true
 | .non,b,h=>by cases h;rfl
 | .bl a,b,h=>by simp [deq] at h;exact h
 | .int a,b,h=>by simp [deq] at h;exact h
 | .str a,b,h=>by simp [deq] at h;exact h
 | .tup xs,b,h=>hR_ xs b h
 | .lst xs,b,h=>by rw [deq,if_pos rfl] at h;exact hR_ xs b h
theorem hR_:∀ (ds:List Dt)(b:Bool),deqs ds ds=some b->b=true
 | [],b,h=>by cases h;rfl
 | d::ds,b,h=>by
  rw [deqs] at h;cases h1:deq d d with
  | none=>rw [h1] at h;cases h
  | some a =>
   cases h2:deqs ds ds with
   | none=>rw [h1,h2] at h;cases h
   | some c =>rw [h1,h2] at h;cases h;rw [jo_ d a h1,hR_ ds c h2];rfl
end
def Vw (K:PySem.W.Frag)(H J:Hp):Prop:=(∀ q xs,J q=some (.tup xs)->SqT K H q xs)/\∀ q xs,J q=some (.lst xs)->SqL K H q xs
theorem Vw.refl {K:PySem.W.Frag}{H:Hp}:Vw K H H:=⟨fun _ _ h=>.inl (.inl h),fun _ _ h=>.inl (.inl h)⟩
section
variable {X:Cx}{pins:List (Addr×Obj)}{σ:St}{H:Hp}{s:Shared}
mutual
theorem iW_ (I:Inv X pins σ H s){J:Hp}(hJ:Vw X.K H J):∀ (d e:Dt){A:Around}{x y:V}{u v:Value}{b:Bool},Rep J x d->Rep J y e->Fs_ x u->Fs_ y v->deq d e=some b->A.units+dep d<cLine->SeqAt.EqAt A s u v b
 | .non,e,A,x,y,u,v,b,hx,hy,rx,ry,hb,hu=>by
  cases e <;> first|(cases hb;cases hx;cases hy;cases rx;cases ry;exact De_ _)|(simp [deq] at hb)
 | .bl a,e,A,x,y,u,v,b,hx,hy,rx,ry,hb,hu=>by
  cases e <;> first|(cases hb;cases hx;cases hy;cases rx;cases ry;exact Ey_ _ _)|(simp [deq] at hb)
 | .int a,e,A,x,y,u,v,b,hx,hy,rx,ry,hb,hu=>by
  cases e <;> first|(cases hb;cases hx;cases hy;obtain ⟨t,rfl⟩:=rx;obtain ⟨t',rfl⟩:=ry;exact SeqAt.EqAt.int_int _ _ _ _)|(simp [deq] at hb)
 | .str a,e,A,x,y,u,v,b,hx,hy,rx,ry,hb,hu=>by
  cases e <;> first|(cases hb;cases hx;cases hy;obtain ⟨t,rfl⟩:=rx;obtain ⟨t',rfl⟩:=ry;exact SeqAt.EqAt.str_str _ _ _ _)|(simp [deq] at hb)
 | .tup ds,e,A,x,y,u,v,b,hx,hy,rx,ry,hb,hu=>by
  cases e with
  | tup es =>
   obtain ⟨p,xs,e1,hp,hr⟩:=id hx;obtain ⟨q,ys,e2,hq,hs⟩:=id hy;subst e1 e2;cases rx;cases ry;by_cases hpq:p=q
   ·subst hpq;have:=Rep.inj _ _ hx hy;cases this;rw [jo_ _ b hb];exact De_ _
   ·obtain ⟨its,r1,pl1,_⟩:=I.tuple (hJ.1 _ _ hp);obtain ⟨its',r2,pl2,_⟩:=I.tuple (hJ.1 _ _ hq);have l1:=r1.length;have l2:=r2.length;have g1:=hr.length;have g2:=hs.length;have hu':A.in1.units+deps ds<cLine:=by have:A.units+(deps ds+1)<cLine:=hu;rw [A7_];lia
    have hb':deqs ds es=some b:=hb;rw [<-b7_ ds es b hb'];have:=SeqAt.RcAt.tuples (e:=eAt ds es) (A:=A) (s:=s) pl1 pl2 (BC_ (B8_ _ _) hu) (fun j h1 h2=>by have:=fo_ I hJ ds es hr hs r1 r2 hb' hu' j (by simpa using h1) (by simpa using h2);simpa using this);simp only [Am_,<-l1,<-l2,g1,g2] at this;exact Dy_ hpq this
  | _=>simp [deq] at hb
 | .lst ds,e,A,x,y,u,v,b,hx,hy,rx,ry,hb,hu=>by
  cases e with
  | lst es =>
   obtain ⟨p,xs,e1,hp,hr⟩:=id hx;obtain ⟨q,ys,e2,hq,hs⟩:=id hy;subst e1 e2;cases rx;cases ry;by_cases hpq:p=q
   ·subst hpq;have:=Rep.inj _ _ hx hy;cases this;rw [jo_ _ b hb];exact De_ _
   ·obtain ⟨its,r1,pl1,_⟩:=I.list (hJ.2 _ _ hp);obtain ⟨its',r2,pl2,_⟩:=I.list (hJ.2 _ _ hq);have l1:=r1.length;have l2:=r2.length;have g1:=hr.length;have g2:=hs.length;have hu0:A.units<cLine:=BC_ (B8_ _ _) hu;have hu':A.in1.units+deps ds<cLine:=by have:A.units+(deps ds+1)<cLine:=hu;rw [A7_];lia
    rw [deq] at hb;by_cases hl:ds.length=es.length
    ·rw [if_pos hl] at hb;rw [<-b7_ ds es b hb];have:=SeqAt.RcAt.lists (e:=eAt ds es) (A:=A) (s:=s) pl1.isList pl2.isList (by simp only [Am_];lia) hu0 (fun j h1 h2=>by have:=fo_ I hJ ds es hr hs r1 r2 hb hu' j (by simpa using h1) (by simpa using h2);simpa using this);simp only [Am_,<-l1,g1] at this;refine Dy_ hpq ?_;have e3:min ds.length es.length=ds.length:=by lia
     rw [e3,hl];simpa [hl] using this
    ·rw [if_neg hl] at hb;cases hb;exact Dy_ hpq (SeqAt.RcAt.lists_lengths pl1.isList pl2.isList (by simp only [Am_,Ez_,ne_eq];lia) hu0)
  | _=>simp [deq] at hb
theorem fo_ (I:Inv X pins σ H s){J:Hp}(hJ:Vw X.K H J):∀ (ds es:List Dt){A:Around}{xs ys:List V}{us vs:List Value}{b:Bool},Fg_ J xs ds->Fg_ J ys es->Fm_ xs us->Fm_ ys vs->deqs ds es=some b->A.units+deps ds<cLine ->
  ∀ (j:Nat)(h1:j<us.length)(h2:j<vs.length),SeqAt.EqAt A s us[j] vs[j] (eAt ds es j)
 | [],es,A,xs,ys,us,vs,b,hx,hy,rx,ry,hb,hu,j,h1,h2=>by
  cases hx;cases rx;exact absurd h1 (Nat.not_lt_zero _)
 | d::ds,es,A,xs,ys,us,vs,b,⟨x,r,e1,hd,hr⟩,hy,rx,ry,hb,hu,j,h1,h2=>by
  subst e1;cases es with
  | nil =>
   cases hy;cases ry;exact absurd h2 (Nat.not_lt_zero _)
  | cons e es =>
   obtain ⟨y,r',e2,he,hs⟩:=hy;subst e2;cases rx with
   | cons rx rxs =>
    cases ry with
    | cons ry rys =>
     rw [deqs] at hb;cases g1:deq d e with
     | none=>rw [g1] at hb;cases hb
     | some a =>
      cases g2:deqs ds es with
      | none=>rw [g1,g2] at hb;cases hb
      | some c =>
       have hm:A.units+max (dep d) (deps ds)<cLine:=hu;cases j with
       | zero =>
        have:=iW_ I hJ d e (A:=A) hd he rx ry g1 (by lia);simpa [eAt,g1] using this
       | succ j =>have:=fo_ I hJ ds es (A:=A) hr hs rxs rys g2 (by lia) j (by simpa using h1) (by simpa using h2);simpa [eAt] using this
end
def Lx_ (K:PySem.W.Frag):R2:=fun x y H Q=>∃ J p q d e b,Vw K H J/\x=.ref p/\y=.ref q/\Rep J x d/\Rep J y e/\deq d e=some b/\dep d<=60/\Q (.bl b) H
theorem qT_ {K:PySem.W.Frag}(hK:X.K=K)(hu:X.A.units+64<cLine):OpR X (compareOp .Eq) (Lx_ K):=by
 subst hK;intro pins s σ H x y v u Q I rx ry h;obtain ⟨J,p,q,d,e,b,hJ,e1,e2,hx,hy,hb,hd,k⟩:=h;subst e1 e2;cases rx;cases ry;have fin:EP X pins σ Q (.bool b) s:=⟨.bl b,H,I,rfl,k⟩;cases d with
 | tup ds =>
  cases e with
  | tup es =>
   obtain ⟨_,xs,z,hp,hr⟩:=hx;cases z;obtain ⟨_,ys,z,hq,hs⟩:=hy;cases z;obtain ⟨its,r1,pl1,_⟩:=I.tuple (hJ.1 _ _ hp);obtain ⟨its',r2,pl2,_⟩:=I.tuple (hJ.1 _ _ hq);have l1:=r1.length;have l2:=r2.length;have g1:=hr.length;have g2:=hs.length;have hd':deps ds+1<=60:=hd;have hu':X.A.in1.units+deps ds<cLine:=by rw [A7_];lia
   have hb':deqs ds es=some b:=hb;refine SeqAt.eq_tupleAt (e:=eAt ds es) pl1 pl2 (by lia) (fun j h1 h2=>by have:=fo_ I hJ ds es hr hs r1 r2 hb' hu' j (by simpa using h1) (by simpa using h2);simpa using this) ?_;simp only [Am_,<-l1,<-l2,g1,g2];rw [b7_ ds es b hb'];exact fin
  | _=>simp [deq] at hb
 | lst ds =>
  cases e with
  | lst es =>
   obtain ⟨_,xs,z,hp,hr⟩:=hx;cases z;obtain ⟨_,ys,z,hq,hs⟩:=hy;cases z;obtain ⟨its,r1,pl1,_⟩:=I.list (hJ.2 _ _ hp);obtain ⟨its',r2,pl2,_⟩:=I.list (hJ.2 _ _ hq);have l1:=r1.length;have l2:=r2.length;have g1:=hr.length;have g2:=hs.length;have hd':deps ds+1<=60:=hd;have hu':X.A.in1.units+deps ds<cLine:=by rw [A7_];lia
   rw [deq] at hb;by_cases hl:ds.length=es.length
   ·rw [if_pos hl] at hb;refine SeqAt.eq_listAt (e:=eAt ds es) pl1.isList pl2.isList (by simp only [Am_];lia) (by lia) (fun j h1 h2=>by have:=fo_ I hJ ds es hr hs r1 r2 hb hu' j (by simpa using h1) (by simpa using h2);simpa using this) ?_;have e3:=b7_ ds es b hb;have e4:min ds.length es.length=ds.length:=by lia
    rw [e4,hl] at e3;simp only [DT_,Bool.and_true] at e3;simp only [Am_,<-l1,g1,hl,e3];exact fin
   ·rw [if_neg hl] at hb;cases hb;exact SeqAt.eq_list_lengthsAt pl1.isList pl2.isList (by simp only [Am_,Ez_,ne_eq];lia) (by lia) fin
  | _=>simp [deq] at hb
 | _=>simp [Rep] at hx
def Lb_:R2:=fun x y H Q=>∃ p q d e b,x=.ref p/\y=.ref q/\Rep H x d/\Rep H y e/\deq d e=some b/\dep d<=60/\Q (.bl b) H
theorem pq_ (hu:X.A.units+64<cLine):OpR X (compareOp .Eq) Lb_:=fun pins s σ H x y v u Q I rx ry ⟨p,q,d,e,b,h⟩=>qT_ rfl hu pins s σ H x y v u Q I rx ry ⟨H,p,q,d,e,b,Vw.refl,h⟩
def Ls_ (K:PySem.W.Frag):R2:=fun x y H Q=>∃ J p q d e b,Vw K H J/\x=.ref p/\y=.ref q/\Rep J x d/\Rep J y e/\deq d e=some b/\dep d<=60/\Q (.bl (!b)) H
theorem qU_ {K:PySem.W.Frag}(hK:X.K=K)(hu:X.A.units+64<cLine):OpR X (compareOp .NotEq) (Ls_ K):=by
 subst hK;intro pins s σ H x y v u Q I rx ry h;obtain ⟨J,p,q,d,e,b,hJ,e1,e2,hx,hy,hb,hd,k⟩:=h;subst e1 e2;cases rx;cases ry;have fin:EP X pins σ Q (.bool (!b)) s:=⟨.bl (!b),H,I,rfl,k⟩;cases d with
 | tup ds =>
  cases e with
  | tup es =>
   obtain ⟨_,xs,z,hp,hr⟩:=hx;cases z;obtain ⟨_,ys,z,hq,hs⟩:=hy;cases z;obtain ⟨its,r1,pl1,_⟩:=I.tuple (hJ.1 _ _ hp);obtain ⟨its',r2,pl2,_⟩:=I.tuple (hJ.1 _ _ hq);have l1:=r1.length;have l2:=r2.length;have g1:=hr.length;have g2:=hs.length;have hd':deps ds+1<=60:=hd;have hu':X.A.in1.units+deps ds<cLine:=by rw [A7_];lia
   have hb':deqs ds es=some b:=hb;refine SeqAt.RcNeAt.tuples (e:=eAt ds es) pl1 pl2 (by lia) (fun j h1 h2=>by have:=fo_ I hJ ds es hr hs r1 r2 hb' hu' j (by simpa using h1) (by simpa using h2);simpa using this) _ _ _ _ ?_;simp only [Am_,<-l1,<-l2,g1,g2];rw [b7_ ds es b hb'];exact fin
  | _=>simp [deq] at hb
 | lst ds =>
  cases e with
  | lst es =>
   obtain ⟨_,xs,z,hp,hr⟩:=hx;cases z;obtain ⟨_,ys,z,hq,hs⟩:=hy;cases z;obtain ⟨its,r1,pl1,_⟩:=I.list (hJ.2 _ _ hp);obtain ⟨its',r2,pl2,_⟩:=I.list (hJ.2 _ _ hq);have l1:=r1.length;have l2:=r2.length;have g1:=hr.length;have g2:=hs.length;have hd':deps ds+1<=60:=hd;have hu':X.A.in1.units+deps ds<cLine:=by rw [A7_];lia
   rw [deq] at hb;by_cases hl:ds.length=es.length
   ·rw [if_pos hl] at hb;refine SeqAt.RcNeAt.lists (e:=eAt ds es) pl1.isList pl2.isList (by simp only [Am_];lia) (by lia) (fun j h1 h2=>by have:=fo_ I hJ ds es hr hs r1 r2 hb hu' j (by simpa using h1) (by simpa using h2);simpa using this) _ _ _ _ ?_;have e3:=b7_ ds es b hb;have e4:min ds.length es.length=ds.length:=by lia
    rw [e4,hl] at e3;simp only [DT_,Bool.and_true] at e3;simp only [Am_,<-l1,g1,hl,e3];exact fin
   ·rw [if_neg hl] at hb;cases hb;exact SeqAt.RcNeAt.lists_lengths pl1.isList pl2.isList (by simp only [Am_,Ez_,ne_eq];lia) (by lia) _ _ _ _ fin
  | _=>simp [deq] at hb
 | _=>simp [Rep] at hx
def Le_:R2:=fun x y H Q=>∃ p q d e b,x=.ref p/\y=.ref q/\Rep H x d/\Rep H y e/\deq d e=some b/\dep d<=60/\Q (.bl (!b)) H
theorem kh_ (hu:X.A.units+64<cLine):OpR X (compareOp .NotEq) Le_:=fun pins s σ H x y v u Q I rx ry ⟨p,q,d,e,b,h⟩=>qU_ rfl hu pins s σ H x y v u Q I rx ry ⟨H,p,q,d,e,b,Vw.refl,h⟩
end
end L2
namespace L2
open PySem PySem.Spec PyProof.Rows
section
variable {X:Cx}{pins:List (Addr×Obj)}{σ:St}{H:Hp}{s:Shared}{h':Heap}
theorem Inv.turnedL {t':Nat}{ch:List Addr}(I:Inv X pins σ H s)(k:∀ b o,b∉ch->s.heap.get? b=some o->h'.get? b=some o)(hf:∀ b∈ch,HJ_ X pins H b):Inv X pins σ H { s with heap:=h',toks:=t' }:=by
 have nit:∀ b u,H b=some u->b∉ch:=fun b u e z=>by rw [(hf b z).1] at e;cases e
 refine I.step (g':=s.gens) (d':=s.drawn) (ch:=ch) (fun b hb=>?_) (fun b o _ _ hc e _=>k b o hc e) (fun b o _ _ hc e _=>⟨o.slots,k b o hc e⟩) (fun _ _ _ _ n=>n)
  (fun b o hc e=>⟨o,k b o hc e⟩) (fun _ _ e=>e) (fun _ _ _ e=>e) (fun b ps e=>⟨#[],by rw [e];simp⟩) (fun m hm=>?_) (fun b u e=>?_) I.bare
 ·obtain ⟨g0,g1,g2,g3,g4,g5⟩:=hf b hb;exact ⟨g3,g1,g4,g5⟩
 ·obtain ⟨o,es,ep,ho,r⟩:=hm;exact ⟨o,es,ep,k _ o (fun z=>(hf _ z).2.1 rfl) ho,r⟩
 ·refine (I.hok b u e).stay (fun c v hc q=>k c v ?_ q) (fun _ q=>q) fun _ _ q=>q
  rcases hc with z|z
  ·rw [z];exact nit b u e
  ·exact nit c _ z
end
def Itz (K:PySem.W.Frag)(a b:Addr):It :=
  ⟨fun i H=>∃ xs ys x y,SqL K H a xs/\SqL K H b ys/\xs[i]?=some x/\ys[i]?=some y,
   fun i H v H'=>∃ T x y,v=.ref T/\H T=none/\H'=upd H T (.tup [x,y])/\(∀ xs,SqL K H a xs->xs[i]?=some x)/\(∀ ys,SqL K H b ys->ys[i]?=some y),
   fun i H=>∃ xs ys,SqL K H a xs/\SqL K H b ys/\(xs.length<=i\/ys.length<=i)⟩
def LT_ (K:PySem.W.Frag)(ta:TA):TI:=fun σ H R=>ta σ H fun vs H1=>∃ a b,vs=[.ref a,.ref b]/\(∃ xs,SqL K H1 a xs)/\(∃ ys,SqL K H1 b ys)/\R (Itz K a b) H1
section
variable {X:Cx}{elts:List Expr}{kt:Nat}{tpos:Pos}
end
def LZ_ (K:PySem.W.Frag):List V->Hp->VK->Prop:=fun xs H Q=>∃ (p:Addr)(ns:List Int),xs=[V.ref p]/\SqL K H p (ns.map V.int)/\Q (.int ns.sum) H
def IP_:List V->Hp->VK->Prop:=fun xs H Q=>∃ p ys,xs=[V.ref p]/\(H p=some (.lst ys)\/H p=some (.tup ys))/\∀ l,H l=none->Q (.ref l) (upd H l (.lst ys))
theorem bL_ {X:Cx}:FW_ X (.type "list") IP_:=by intro pins s σ H xs us Q I r h;obtain ⟨p,ys,e,hp,q⟩:=h;exact kb_ pins s σ H xs us Q I r ⟨p,ys,e,hp.imp (fun z=>.inl (.inl z)) (fun z=>.inl (.inl z)),q⟩
theorem aX_ {X:Cx}{x:Str}{e:Expr}{es:List Expr}{t:TA}{p pos:Pos}{n:String}{r:List V->Hp->VK->Prop}(hc:FW_ X (.type n) r)(hg:Gl X x)(hm:X.mg x=none)(hv:bootBuiltins x=some (.type n))(ha:PA X (e::es) t)(hs:E8_ (e::es)=true:=by rfl) (hn:x ≠ "__name__" := by decide) (hdb:(x == ("__debug__" : Str))=false:=by decide) :
  PE X (.Call (.Name x p) (e::es) [] pos) (tCB r t) :=
 have h':FP_ e=true/\E8_ es=true:=by simpa [E8_] using hs
 m9_ hc hg hm hv ha hn hdb (aw_ h'.1) (bK_ h'.2)
end L2
namespace L2
open PySem PySem.Spec PyProof.Rows
def GK_ (B H:Hp):Hp:=fun b=>match B b with|some _=>none|none=>H b
def GN_ (B:Hp)(D:Addr)(H:Hp):Hp:=fun b=>if b=D then none else GK_ B H b
theorem a0_ {B H:Hp}{b:Addr}{o:HO}(h:GK_ B H b=some o):B b=none/\H b=some o:=by
 unfold GK_ at h;cases e:B b with
 | some z=>rw [e] at h;cases h
 | none=>rw [e] at h;exact ⟨rfl,h⟩
theorem df_ {B H:Hp}{b:Addr}(h:B b=none):GK_ B H b=H b:=by unfold GK_;rw [h]
theorem nk_ {B H:Hp}{D b:Addr}{o:HO}(h:GN_ B D H b=some o):b≠D/\B b=none/\H b=some o:=by
 unfold GN_ at h;by_cases e:b=D
 ·rw [if_pos e] at h;cases h
 ·rw [if_neg e] at h;exact ⟨e,a0_ h⟩
theorem bB_ {B H:Hp}{D b:Addr}(e:b≠D)(h:B b=none):GN_ B D H b=H b:=by unfold GN_;rw [if_neg e,df_ h]
theorem be_ {B H:Hp}:EX_ (GK_ B H) H:=fun b o h=>(a0_ h).2
theorem jp_ {B H:Hp}{D:Addr}:EX_ (GN_ B D H) (GK_ B H):=fun b o h=>by obtain ⟨h1,h2,h3⟩:=nk_ h;rw [df_ h2];exact h3
theorem fQ_ {B H H':Hp}{D:Addr}(e:EX_ H H'):EX_ (GN_ B D H) (GN_ B D H'):=fun b o h=>by obtain ⟨h1,h2,h3⟩:=nk_ h;rw [bB_ h1 h2];exact e _ _ h3
theorem ki_ {B H H':Hp}(e:EX_ H H'):EX_ (GK_ B H) (GK_ B H'):=fun b o h=>by obtain ⟨h1,h2⟩:=a0_ h;rw [df_ h1];exact e _ _ h2
theorem jq_ {B H:Hp}{D:Addr}{o:HO}:GN_ B D (upd H D o)=GN_ B D H:=by
 funext b;unfold GN_ GK_;by_cases e:b=D
 ·rw [if_pos e,if_pos e]
 ·rw [if_neg e,if_neg e,ah_ e]
theorem pY_ {H H3:Hp}{D:Addr}(hs:EX_ H H3)(hD:H D=none):EX_ H (GN_ (fun _=>none) D H3):=fun b o h=>by rw [bB_ (af_ h hD) rfl];exact hs _ _ h
theorem bv_ {J:It}{g:TG}{te:TE}{σ:St}{H:Hp}{Q:VK}(n:Nat)(B:Hp)(Pσ:St->Prop)(ds:List Dt)(hB:EX_ B H)(h0:Pσ σ)(hlen:ds.length=n)(hz:n<=1000)
  (hgo:∀ i H',i<n->EX_ H H'->J.go i H') (hst:∀ H',EX_ H H'->J.stop n H')
  (hs:∀ D i x d σ' H' H'',H D=none->(∃ o,H' D=some o)->EX_ H H'->i<n->ds[i]?=some d->J.yld i H' x H''->Pσ σ'->∀ R:St->V->Hp->Prop,
   (∀ σ2 v H3,Pσ σ2->EX_ H' H3->Rep (GN_ B D H3) v d->R σ2 v H3)->g x σ' H'' fun σ2 H2=>te σ2 H2 fun v H3=>R σ2 v H3)
  (hd:∀ D H',H D=none->EX_ H H'->Rep (GK_ B H') (.ref D) (.lst ds)->Q (.ref D) H'):Gw_ J g Kl_ te σ H Q:=by
 intro D hD;have hBD:B D=none:=hB.free hD;refine ⟨fun i m σ' H'=>m=n-i/\i<=n/\Pσ σ'/\EX_ H H'/\∃ ys,H' D=some (.lst ys)/\Fg_ (GN_ B D H') ys (ds.take i)/\ys.length=i,⟨n,by simp,AA_ _,h0,EX_.new hD,[],aa_,rfl,rfl⟩,?_⟩;rintro i m σ' H' ⟨rfl,hi,hp,hs',ys,hys,hr,hl⟩;by_cases hlt:i<n
 ·refine .inr ⟨hgo i H' hlt hs',fun σ2 H2=>Pσ σ2/\EX_ H H2/\∃ ys,H2 D=some (.lst ys)/\Fg_ (GN_ B D H2) ys (ds.take (i+1))/\ys.length=i+1,fun σ2 H2 ⟨a,b,c⟩=>⟨n-(i+1),by lia,rfl,hlt,a,b,c⟩,fun x H'' hy=>?_⟩;have hdi:ds[i]?=some ds[i]:=by simp [hlen,hlt]
  simp only [Kl_,if_true];refine hs D i x ds[i] σ' H' H'' hD ⟨_,hys⟩ hs' hlt hdi hy hp _ fun σ2 v H3 hp2 s3 hv=>?_;refine ⟨ys,s3 _ _ hys,by rw [hl];exact EY_ (by lia),hp2,(hs'.trans s3).upd hD,ys++[v],aa_,?_,by simp [hl]⟩;rw [jq_];have e:ds.take (i+1)=ds.take i++[ds[i]]:=by rw [Be_,hdi];rfl
  rw [e];exact (Fg_.mono (fQ_ s3) _ hr).append ⟨v,[],rfl,hv,rfl⟩
 ·have e:i=n:=by lia
  subst e;refine .inl ⟨hst H' hs',hd D H' hD hs' ⟨D,ys,rfl,?_,?_⟩⟩
  ·rw [df_ hBD];exact hys
  ·rw [AT_ (by lia)] at hr;exact Fg_.mono jp_ _ hr
theorem Fg_.of_get {H:Hp}{xs:List V}{ds:List Dt}{i:Nat}{x:V}(h:Fg_ H xs ds)(e:xs[i]?=some x):∃ d,ds[i]?=some d/\Rep H x d:=by
 have hi:i<xs.length:=(Ag_.mp e).1;have hi':i<ds.length:=by rw [<-h.length];exact hi
 obtain ⟨y,hy,hr⟩:=h.get (i:=i) (d:=ds[i]) (by simp [hi']);rw [e] at hy;cases hy;exact ⟨ds[i],by simp [hi'],hr⟩
theorem aJ_ {X:Cx}{K:PySem.W.Frag}{es:List Expr}{k:Nat}{t:TGs}{n:Nat}{pos:Pos}(hK:X.K=K)(hc:X.calm=true)(h:PGs X es t)
  (hn:(assignEach es X.env).length=n:=by rfl) (hst:(assignEach es X.env).findIdx? (·.1)=none:=by rfl):PG X (.Tuple es k pos) (KN_ K n t):=hK ▸ qH_ hc h hn hst
end L2
namespace L2
open PySem PySem.Spec PyProof.Rows
def Pl2 (h:Heap)(e:Addr):Prop:=∃ o vs,h.get? e=some o/\o.data=.fields vs/\vs[2]?=some .none
def GL_ (base:Heap)(l:List Env)(e:Addr)(cls a0 fl:Value)(h:Heap):Prop:=base.StaysIn h/\base.get? e=none/\h.FunFrames base l/\h.TracedAtW base e cls a0 fl/\Pl2 h e
abbrev Fly (base:Heap)(l:List Env)(e:Addr)(cls a0:Value)(h:Heap):Prop:=GL_ base l e cls a0 .none h
theorem GL_.there {base:Heap}{l:List Env}{e:Addr}{cls a0 fl:Value}{h:Heap}(x:GL_ base l e cls a0 fl h):∃ ob,h.get? e=some ob/\ob.cls=cls:=x.2.2.2.1.there
section
variable {M:Model}{A:Around}{E:Value->Shared->Prop}{s:Shared}{base:Heap}{env:Env}{outer:List Env}{L e:Addr}{Q:Unit->Shared->Prop}
theorem kj_ {oe:Obj}{vs:Array Value}{head a0:Value}{hn:Bool}(fr:A.frames=some (env::outer))(ff:s.heap.FunFrames base (env::outer))(ef:env.frame=some L)(he:s.heap.get? e=some oe)(kb:base.StaysIn s.heap)(en:base.get? e=none)
  (hd:oe.data=.fields vs) (sz:1<vs.size) (h0:vs[0]?=some a0) (h2:vs[2]?=some .none) (k:∀ g,GL_ base (env::outer) e oe.cls a0 (rawInt L) g->s.heap.UpToSlots g->Q () { s with heap:=g }) :
  wpAny M A (do let a <-frameOf env;let pl <-entryPlaceOf L hn;let b <-EntryCells.newEntry head a .none (rawInt L) .none pl;setField (.ref e) 1 b) Q E s:=by
 have out:e∉(env::outer).filterMap (·.frame):=fun z=>by obtain ⟨_,o,q,nf⟩:=ff.mem z;cases he.symm.trans q;exact nf _ hd
 refine Ad_ (wpAny_frameOf_fun fr ff ef fun g sg=>Ad_ (wpAny_entryPlaceOf fun pl hp=>?_));unfold EntryCells.newEntry newFields;refine Ad_ (Cm_ ?_ (hp.sizeOk5 _ _ _ _ _));generalize hob:({ cls:=.type "traceback",dict:=none,data:=.fields ([head,Value.ref L,.none,rawInt L,.none]++(if pl.isEmpty then List.replicate 6 Value.none else pl)).toArray }:Obj)=ob;have ge:g.get? e=some oe:=(sg.2.1 e out).trans he;have Te:g.objs.size≠e:=DP_ (As_ ge);have pe:=Aj_ ob ge;refine Cq_ pe hd sz ?_;have d3:=CJ_ hd (·.setIfInBounds 1 (Value.ref g.objs.size));have e3:=Cp_ (Obj.mapFields (·.setIfInBounds 1 (Value.ref g.objs.size))) pe (C9_ d3);have fo:ob.isFreed=false:=by rw [<-hob];rfl
 have T3:=(AX_ (g.push ob) (Obj.mapFields (·.setIfInBounds 1 (Value.ref g.objs.size))) (Ne.symm Te)).trans (AD_ g fo);have kp:∀ b o,b≠e->g.get? b=some o->((g.push ob).update e (Obj.mapFields (·.setIfInBounds 1 (Value.ref g.objs.size)))).get? b=some o:=fun b o ne q=>by rw [AX_ _ _ (Ne.symm ne)];exact Aj_ ob q
 have nr:∀ b o,s.heap.get? b=some o->(∀ us,o.data≠.fields us)->b≠e:=fun b o q nf z=>by rw [z] at q;cases he.symm.trans q;exact nf _ hd
 have kbg:base.StaysIn g:=fun b o q=>(sg.2.1 b fun z=>by rw [(ff.mem z).1] at q;cases q).trans (kb b o q);have up:s.heap.UpToSlots ((g.push ob).update e (Obj.mapFields (·.setIfInBounds 1 (Value.ref g.objs.size)))):=fun b o q nf=>(sg.2.2 b o q).elim fun sl z=>⟨sl,kp b _ (nr b o q nf) z⟩;refine k _ ⟨fun b o q=>kp b o (fun z=>by rw [z,en] at q;cases q) (kbg b o q),en,ff.of_keeps fun b o q nf=>(up b o q nf).elim fun sl z=>⟨_,z,rfl⟩,⟨_,_,g.objs.size,ob,_,e3,⟨Obj.cls_mapFields _ _,?_⟩,d3,?_,kbg.fresh,Te,T3,by rw [<-hob],?_⟩,_,_,e3,d3,?_⟩ up
 ·rw [Da_ (by decide)];exact h0
 ·simp [sz]
 ·first|(simp;done)|(rcases hp with rfl|⟨_,_,_,_,_,_,_,rfl⟩ <;> simp)
 ·rw [Da_ (by decide)];exact h2
theorem lW_ {oe:Obj}{vs:Array Value}{a0:Value}(fr:A.frames=some (env::outer))(ef:env.frame=some L)(kb:base.StaysIn s.heap)(en:base.get? e=none)(ff:s.heap.FunFrames base (env::outer))(he:s.heap.get? e=some oe)(hd:oe.data=.fields vs)(h0:vs[0]?=some a0)(h2:vs[2]?=some .none)
  (h1:vs[1]?=some .none\/∃ T oT ts,vs[1]?=some (.ref T)/\base.get? T=none/\T≠e/\s.heap.get? T=some oT/\oT.data=.fields ts/\ts[3]?=some .none) (k:∀ g,GL_ base (env::outer) e oe.cls a0 (rawInt L) g->s.heap.UpToSlots g->Q () { s with heap:=g }) :
  wpAny M A (noteFrame (.ref e) env) Q E s:=by
 unfold noteFrame;simp only [ef]
 rcases h1 with h1|⟨T,oT,ts,h1,nT,Te,hT,dT,h3⟩
 ·refine Ad_ (B6_ he hd h1 ?_);rw [if_neg (by decide)];exact kj_ fr ff ef he kb en hd (B3_.mp h1).1 h0 h2 k
 ·refine Ad_ (B6_ he hd h1 ?_);rw [if_pos (show (Value.ref T != Value.none)=true by simp)];refine Ad_ (B6_ hT dT h3 ?_);rw [if_neg (show ¬ (Value.none == rawInt L)=true by simp [rawInt])];refine Ad_ (Cq_ hT dT (B3_.mp h3).1 ?_);have oth:∀ b,b≠T->(s.heap.update T (Obj.mapFields (·.setIfInBounds 3 Value.none))).get? b=s.heap.get? b:=fun b hb=>AX_ _ _ (Ne.symm hb);have nr:∀ b o,s.heap.get? b=some o->(∀ us,o.data≠.fields us)->b≠T:=fun b o q nf z=>by rw [z] at q;cases hT.symm.trans q;exact nf _ dT
  have up:s.heap.UpToSlots (s.heap.update T (Obj.mapFields (·.setIfInBounds 3 Value.none))):=fun b o q nf=>⟨o.slots,(oth b (nr b o q nf)).trans q⟩;exact kj_ fr (ff.of_keeps fun b o q nf=>⟨o,(oth b (nr b o q nf)).trans q,rfl⟩) ef ((oth e (Ne.symm Te)).trans he) (fun b o q=>(oth b fun z=>by rw [z,nT] at q;cases q).trans (kb b o q)) en hd (B3_.mp h1).1 h0 h2 fun g x1 x2=>k g x1 (up.trans x2)
theorem fR_ {l:List Env}{cls a0 fl:Value}(x:GL_ base l e cls a0 fl s.heap)(k:∀ g,Fly base l e cls a0 g->s.heap.UpToSlots g->Q () { s with heap:=g }):wpAny M A (setFlight (.ref e) none) Q E s:=by
 obtain ⟨kb,en,ff,⟨oe,vs,T,oT,ts,he,hc,hd,h1,nT,Te,hT,dT,h3⟩,p2⟩:=x;have s3:3<ts.size:=(B3_.mp h3).1;unfold setFlight;refine Ad_ (B6_ he hd h1 ?_);rw [if_pos (show (Value.ref T != Value.none)=true by simp)];refine Cq_ hT dT s3 ?_;have oth:∀ b,b≠T->(s.heap.update T (Obj.mapFields (·.setIfInBounds 3 ((none:Option Addr).elim Value.none fun f=>rawInt f)))).get? b=s.heap.get? b:=fun b hb=>AX_ _ _ (Ne.symm hb);have nr:∀ b o,s.heap.get? b=some o->(∀ us,o.data≠.fields us)->b≠T:=fun b o q nf z=>by rw [z] at q;cases hT.symm.trans q;exact nf _ dT
 refine k _ ⟨fun b o q=>(oth b fun z=>by rw [z,nT] at q;cases q).trans (kb b o q),en,ff.of_keeps fun b o q nf=>⟨o,(oth b (nr b o q nf)).trans q,rfl⟩,⟨oe,vs,T,_,_,(oth e (Ne.symm Te)).trans he,hc,hd,h1,nT,Te,Cp_ _ hT (C9_ (CJ_ dT _)),CJ_ dT _,by simp [s3]⟩,?_⟩ fun b o q nf=>⟨o.slots,(oth b (nr b o q nf)).trans q⟩;obtain ⟨o,us,z1,z2,z3⟩:=p2;exact ⟨o,us,(oth e (Ne.symm Te)).trans z1,z2,z3⟩
theorem kk_ {cls a0:Value}(fr:A.frames=some (env::outer))(ef:env.frame=some L)(x:Fly base (env::outer) e cls a0 s.heap)(k:∀ g,GL_ base (env::outer) e cls a0 (rawInt L) g->s.heap.UpToSlots g->Q () { s with heap:=g }):wpAny M A (noteFrame (.ref e) env) Q E s:=by obtain ⟨kb,en,ff,⟨oe,vs,T,oT,ts,he,⟨hc,h0⟩,hd,h1,nT,Te,hT,dT,h3⟩,o,us,z1,z2,z3⟩:=x;subst hc;cases he.symm.trans z1;cases hd.symm.trans z2;exact lW_ fr ef kb en ff he hd h0 z3 (.inr ⟨T,oT,ts,h1,nT,Te,hT,dT,h3⟩) k
theorem GL_.less {cls a0 fl:Value}{h:Heap}(x:GL_ base (env::outer) e cls a0 fl h):GL_ base outer e cls a0 fl h:=⟨x.1,x.2.1,x.2.2.1.2.2,x.2.2.2⟩
theorem qV_ {cls a0:Value}(fr:A.frames=some (env::outer))(ef:env.frame=some L)(x:Fly base (env::outer) e cls a0 s.heap)(k:∀ g,Fly base outer e cls a0 g->s.heap.UpToSlots g->Q () { s with heap:=g }):wpAny M A (leaving env (.ref e)) Q E s:=by unfold leaving;exact Ad_ (kk_ fr ef x fun g y1 y2=>fR_ (s:={ s with heap:=g }) y1 fun g2 z1 z2=>k g2 z1.less (y2.trans z2))
theorem oD_ {h:Heap}{cls:Value}{args:List Value}(fr:A.frames=some (env::outer))(ef:env.frame=some L)(kb:base.StaysIn h)(ff:h.FunFrames base (env::outer))(x:Heap.MadeExcOf h s.heap e cls args)
  (k:∀ g t,Fly base outer e cls (.ref t) g->s.heap.UpToSlots g->Q () { s with heap:=g }):wpAny M A (leaving env (.ref e)) Q E s:=by
 obtain ⟨t,he,tn,ht⟩:=x.there
 have en:base.get? e=none:=by
  cases q:base.get? e with
  | none=>rfl
  | some o=>have:=kb e o q;rw [x.new] at this;cases this
 unfold leaving;exact Ad_ (lW_ fr ef (fun b o q=>x.keeps b o (kb b o q)) en (ff.of_keeps fun b o q _=>⟨o,x.keeps b o q,rfl⟩) he rfl rfl rfl (.inl rfl) fun g y1 y2=>fR_ (s:={ s with heap:=g }) y1 fun g2 z1 z2=>k g2 t z1.less (y2.trans z2))
end
end L2
namespace L2
open PySem PySem.Spec PyProof.Rows
def CXR (P:Program)(w:World):CXT:=fun outer H s E e s' =>
 ∃ (ea:Addr)(C a0:Value)(B:Heap)(H':Hp),e=.ref ea/\s'.os=s.os/\AllBare s'.gens/\Un (frs outer) [] H H' s.heap s'.heap/\HOk P w H' s'.heap /\
  Fly B outer ea C a0 s'.heap/\s.heap.get? ea=none/\(∀ b o,s.heap.get? b=some o->b∉frs outer->∃ u,B.get? b=some u)/\(∀ b o,H' b=some o->∃ u,B.get? b=some u)/\E C none H'
theorem FD_.obj {P:Program}{w:World}{H:Hp}{h:Heap}{a:Addr}{o:HO}(x:FD_ P w H h a o):∃ u,h.get? a=some u:=by
 cases o with
 | lst xs=>obtain ⟨_,_,_,_,e⟩:=x;exact ⟨_,e⟩
 | tup xs=>obtain ⟨_,_,_,ob,e,_⟩:=x;exact ⟨_,e⟩
 | dK kvs=>obtain ⟨_,_,_,_,o,_,_,e,_⟩:=x;exact ⟨_,e⟩
 | dT kvs=>obtain ⟨_,_,_,_,o,_,_,e,_⟩:=x;exact ⟨_,e⟩
 | set S n=>obtain ⟨o,_,_,_,e,_⟩:=x;exact ⟨_,e⟩
 | ins C dx fs=>obtain ⟨_,_,_,e,_⟩:=x;exact ⟨_,e⟩
 | own y=>exact x
 | xd fs=>obtain ⟨_,⟨_,_,_,e,_⟩,_⟩:=x;exact ⟨_,e⟩
 | rng lo hi=>obtain ⟨_,_,_,e⟩:=x;exact ⟨_,e⟩
 | frz ob u=>obtain ⟨e,_⟩:=x;exact ⟨_,e⟩
 | tbl ps=>exact ⟨_,show h.get? a=some _ from x⟩
 | met f y=>exact ⟨_,show h.get? a=some _ from x⟩
 | ext φ=>obtain ⟨_,e,_⟩:=x;exact e
theorem hw_ {P:Program}{w:World}{l:List Env}{H H':Hp}{h h1 h2 B:Heap}(u:Un (frs l) [] H H' h h1)(hok:HOk P w H' h1)(s1:B.StaysIn h1)(s2:B.StaysIn h2)(ff:h1.FunFrames B l)(sm:h1.UpToSlots h2)
  (b1:∀ b o,h.get? b=some o->b∉frs l->∃ u,B.get? b=some u) (b2:∀ b o,H' b=some o->∃ u,B.get? b=some u):Un (frs l) [] H H' h h2/\HOk P w H' h2:=by
 have same:∀ {b o},(∃ v,B.get? b=some v)->h1.get? b=some o->h2.get? b=some o:=fun {b o} ⟨v,e⟩ q=>by have:=s1 b v e;rw [q] at this;cases this;exact s2 b _ e
 refine ⟨⟨fun b o q n hb hx=>same (b1 b o q hb) (u.keep b o q n hb hx),fun b o q n hb hx=>?_,u.free,fun b o q hx=>?_,u.tups,u.frzs,u.tbls⟩,fun a o e=>?_⟩
 ·obtain ⟨sl,e⟩:=u.slot b o q n hb hx;obtain ⟨_,ob,e2,nf⟩:=ff.mem hb;rw [e] at e2;cases e2;obtain ⟨sl',e3⟩:=sm b _ e nf;exact ⟨sl',e3⟩
 ·by_cases hb:b∈frs l
  ·obtain ⟨_,ob,e2,nf⟩:=ff.mem hb;obtain ⟨sl',e3⟩:=sm b _ e2 nf;exact ⟨_,e3⟩
  ·obtain ⟨v,e⟩:=b1 b o q hb;exact ⟨v,s2 b v e⟩
 ·refine (hok a o e).stay (fun b v hb q=>same ?_ q) (fun _ q=>q) fun _ _ q=>q
  rcases hb with rfl|hb
  ·exact b2 _ _ e
  ·exact b2 _ _ hb
structure ExC (K:PySem.W.Frag)(C:Addr):Prop where
 obj:∀ {h:Heap},K.In h->∃ bm N nm q bs hdct sn sub ab col dd k0 k1 k2 k3 k5 mN,h.get? C=some (excClassObj nm q C N bs bm hdct sn sub ab col dd k0 k1 k2 k3 k5 "ValueError.__new__")/\h.Ns N mN/\mN "__init__" = none /\
  OwnTail h [.type "ValueError",.type "Exception",.type "BaseException",.type "object"] bm
theorem qW_ {K:PySem.W.Frag}{C:Addr}(q:PySem.W.excIn K C [.type "ValueError",.type "Exception",.type "BaseException",.type "object"] "ValueError.__new__" = true):ExC K C:=by
 refine ⟨fun {h} XI=>?_⟩;unfold PySem.W.excIn at q;split at q
 ·rename_i dd cd sl ho;split at q
  ·rename_i C' bm k0 k1 k2 k3 n k5 hm hs;simp only [Cu_,beq_iff_eq,Bool.not_eq_true'] at q;obtain ⟨⟨⟨⟨⟨q1,q2⟩,q3⟩,q4⟩,q5⟩,q6⟩:=q;subst q1 q2;obtain ⟨nm,bs,mro,ns,qn,hd,sn,sub,ab,col,del⟩:=cd
   dsimp only at hm q3 q5 q6
   subst hm q3;have hsl:sl = #[k0,k1,k2,k3,some (.builtin "ValueError.__new__"),k5]:=by obtain ⟨l⟩:=sl;exact congrArg Array.mk hs
   subst hsl;exact ⟨bm,ns,nm,qn,bs,hd,sn,sub,ab,col,dd,k0,k1,k2,k3,k5,_,XI _ _ ho,.of_isNs (PySem.W.isNs_of_in XI q5),PySem.W.nsMap_none_of_in XI q5 q6,PySem.W.tail_of_in XI q4⟩
  ·cases q
 ·cases q
theorem lg_ {M:Model}{A:Around}{EE:Value->Shared->Prop}{s:Shared}{env:Env}{fv:Value}{e₀:Expr}{rest:List Expr}{cpos:Pos}{Q:Args->Shared->Prop}(he:starEach (e₀::rest) env=(false,eval e₀ env)::starEach rest env)
  (h:wpAny M A (spliced (backTo cpos (starEach (e₀::rest) env))) (fun vs s'=>Q ⟨vs,[]⟩ s') EE s):wpAny M A (evalArgs fv true (backTo cpos (starEach (e₀::rest) env)) []) Q EE s:=by
 rw [he] at h ⊢;exact Cv_ h
def JD_ (C:Addr)(E:XK)(ta:TA):TS:=fun _ σ H=>ta σ H fun vs H1=>vs.length<=sizeLine/\E (.ref C) none H1
section
variable {P:Program}{w:World}{K:PySem.W.Frag}{mg:Str->Option Value}{base:Heap}{N:List Str}{qual:Str}{scope:Scope}{f:Addr}{cd:Value}{A:Around}{outer:List Env}{s₀:Shared}{H₀:Hp}{E:XK}
theorem jr_ {x:Str}{C:Addr}{np cpos pos:Pos}{e₀:Expr}{rest:List Expr}{ta:TA}(OC:ExC K C)(hm:mg x=some (.ref C))(hh:A.handled=none)(hg:Gl (HE_ (CXR P w) P w K mg base N qual scope f cd A outer s₀ H₀ E) x)
  (ha:PA (HE_ (CXR P w) P w K mg base N qual scope f cd A outer s₀ H₀ E) (e₀::rest) ta) (hd:(x == ("__debug__" : Str))=false:=by decide)
  (he:starEach (e₀::rest) (envOfC qual scope s₀.heap.objs.size f cd)=(false,eval e₀ (envOfC qual scope s₀.heap.objs.size f cd))::starEach rest (envOfC qual scope s₀.heap.objs.size f cd):=by rfl)
  (hpl:(backTo cpos (starEach rest (envOfC qual scope s₀.heap.objs.size f cd))).any (·.1)=false:=by rfl) :
  PS (HE_ (CXR P w) P w K mg base N qual scope f cd A outer s₀ H₀ E) (.Raise (some (.Call (.Name x np) (e₀::rest) [] cpos)) none pos) (JD_ C E ta):=by
 intro pins s σ H D I h;obtain ⟨bm,Nn,nm,q,bs,hdct,sn,sub,ab,col,dd,k0,k1,k2,k3,k5,mN,hC,hN,hni,TL⟩:=OC.obj I.mod.kin
 refine wpAny_Raise_call_subT (C:=C) (nm:=nm) (q:=q) (N:=Nn) (bs:=bs) (bm:=bm) (hdct:=hdct) (sn:=sn) (sub:=sub) (ab:=ab) (col:=col) (dd:=dd) (k0:=k0) (k1:=k1) (k2:=k2) (k3:=k3) (k5:=k5)
  F.excBase_ValueError (mN:=mN) (TL.hasType F.excBase_ValueError.hasBase) hh ?_ hni (fn_ I hg hm ⟨rfl,?_⟩ hd)
 ·show (backTo cpos (starEach (e₀::rest) (envOfC qual scope s₀.heap.objs.size f cd))).any (·.1)=false;rw [he];exact hpl
 have z:=ha cpos pins s σ H _ I h;refine lg_ he (thn z fun us s2 ⟨vs,H1,I1,r,hz,hE⟩=>⟨rfl,by rw [<-r.length];exact hz,I1.bk _ _ hC,hN.keeps I1.bk,TL.keeps I1.bk,fun h' e hx=>?_⟩);have hin:∀ env∈(envOfC qual scope s₀.heap.objs.size f cd::outer),∀ b,env.frame=some b->b∈frs (envOfC qual scope s₀.heap.objs.size f cd::outer):=fun env he b hb=>BU_.mpr ⟨env,he,hb⟩;have stk:s2.heap.FunFrames base (envOfC qual scope s₀.heap.objs.size f cd::outer):=I1.stack;have hl:=PySem.W.funFrames_hide stk hin;refine oD_ (base:=PySem.W.hideAll s2.heap (frs (envOfC qual scope s₀.heap.objs.size f cd::outer))) I1.ok.frames rfl (fun b o q=>Dw_ _ q) hl hx fun h'' t x1 x4=>?_;have b2:∀ b o,H1 b=some o->∃ u,(PySem.W.hideAll s2.heap (frs (envOfC qual scope s₀.heap.objs.size f cd::outer))).get? b=some u:=fun b o e=>by obtain ⟨u,hu⟩:=(I1.hok b o e).obj;refine ⟨u,Dq_ _ hu fun z=>?_⟩;rw [I1.stkFree b z] at e;cases e
 have b1:∀ b o,s₀.heap.get? b=some o->b∉frs outer->∃ u,(PySem.W.hideAll s2.heap (frs (envOfC qual scope s₀.heap.objs.size f cd::outer))).get? b=some u:=fun b o e nb=>by
  obtain ⟨u,hu⟩:=I1.base.there b o e (fun z=>nomatch z);refine ⟨u,Dq_ _ hu fun z=>?_⟩
  rcases Ao_.mp (I1.stkSub b z) with z|z
  ·exact absurd z (AE_ (AF_ (As_ e) I1.ok.above))
  ·exact nb z
 obtain ⟨un,ok⟩:=hw_ (l:=outer) I1.base I1.hok (fun b o q=>Dw_ _ q) x1.1 hl.2.2 ((Heap.UpToSlots.of_keeps hx.keeps).trans x4) b1 b2;refine ⟨e,.ref C,.ref t,_,H1,rfl,I1.os,I1.bare,un,ok,x1,?_,b1,b2,hE⟩;cases q:s₀.heap.get? e with
 | none=>rfl
 | some o =>obtain ⟨u,hu⟩:=I1.base.there e o q (fun z=>nomatch z);rw [hx.new] at hu;cases hu
theorem KR_:Hr_ (CXR P w) (HE_ (CXR P w) P w K mg base N qual scope f cd A outer s₀ H₀ E) E:=by
 intro pins σ H s e s' I ⟨ea,C,a0,B,H',e0,os,bare,un,hok,fl,new,b1,b2,hE⟩;subst e0;refine qV_ (base:=B) I.ok.frames rfl fl fun h'' x1 x2=>?_;obtain ⟨un2,ok2⟩:=hw_ (l:=envOfC qual scope s₀.heap.objs.size f cd::outer) un hok fl.1 x1.1 fl.2.2.1 x2 b1 b2;have J:=I.call (h':=h'') (g':=s'.gens) (d':=s'.drawn) (t':=s'.toks) (ch:=[]) un2 ok2 bare (fun b z=>nomatch z);refine ⟨ea,C,a0,B,H',rfl,os.trans I.os,bare,J.base,ok2,x1,?_,fun b o e nb=>?_,b2,hE⟩
 ·cases q:s₀.heap.get? ea with
  | none=>rfl
  | some o =>obtain ⟨u,hu⟩:=I.base.there ea o q (fun z=>nomatch z);rw [new] at hu;cases hu
 ·obtain ⟨u,hu⟩:=I.base.there b o e (fun z=>nomatch z);refine b1 b u hu fun z=>?_
  rcases Ao_.mp (I.stkSub b z) with z|z
  ·exact absurd z (AE_ (AF_ (As_ e) I.ok.above))
  ·exact nb z
end
def IH_ (P:Program)(w:World)(K:PySem.W.Frag)(mg:Str->Option Value)(base:Heap)(x:Str)(ps:List Str)(k:Nat)(sp:Sp):Prop :=
 ∃ f fd,mg x=some (.ref f)/\PySem.W.keepIn K (.ref f)=true/\Ht_ K fd ps []/\H5_ P w K mg base (CXR P w) k f fd ps sp
theorem lh_ {P:Program}{w:World}{K:PySem.W.Frag}{mg:Str->Option Value}{base:Heap}{x:Str}{st:Stmt}{N ps:List Str}{k:Nat}{sp:Sp}(F:Fn0 K mg x st)(S:E2_ N ps (EW_ st))
  (hb:∀ (kV doc pm:Value)(an:Option Addr)(cdv ct:Value)(us:List Value),us.length=ps.length->bindArgs (PySem.W.fnOf x x (F8_ st) (FO_ st) (EW_ st) .none kV doc pm an cdv ct) ⟨us,[]⟩=pure (ps.zip us))
  (len:∀ vs H Q E,sp vs H Q E->vs.length=ps.length)
  (hbody:∀ (f:Addr)(cdv:Value)(A:Around)(outer:List Env)(s:Shared)(H:Hp)(vs:List V)(Q:VK)(E:XK),Gb_ k (A.deeper (envOfC x (EW_ st) s.heap.objs.size f cdv))->sp vs H Q E ->
   ∃ t,PSs (HE_ (CXR P w) P w K mg base N x (EW_ st) f cdv A outer s H E) (FO_ st) t/\t { nx:=fun _ H'=>Q .non H',rt:=Q } (start N vs) H):IH_ P w K mg base x ps (k+1) sp:=by
 obtain ⟨f,fd,F,m⟩:=F;refine ⟨f,fd,m,F.kp,F.binds hb,?_⟩;obtain ⟨oc,od,kV,doc,pm,an,cdv,ct,osl,rfl,lk,hcd⟩:=F.ex;exact KS_ lk hcd S len fun A outer s H vs Q E hr hsp=>hbody f cdv A outer s H vs Q E hr hsp
abbrev Cx.suite (X:Cx)(e:Value):Cx:={ X with A:=X.A.mark (some e),calm:=false,xe:=fun _ _=>False }
section
variable {X:Cx}{pins:List (Addr×Obj)}{σ:List (Option V)}{H:Hp}{s:Shared}
theorem Inv.suite (I:Inv X pins σ H s)(e:Value):Inv (X.suite e) pins σ H s :=
 ⟨⟨I.ok.mod,I.ok.kind,I.ok.glob,I.ok.blt,I.ok.above,I.ok.inj,I.ok.has,I.ok.cab,(fun z=>nomatch z),I.ok.frames,I.ok.stk,I.ok.exf,I.ok.bs,I.ok.bsz,I.ok.noex,I.ok.exfs,I.ok.funs,I.ok.frf⟩,I.os,I.bare,I.base,I.loc,I.cell,I.free,I.freeC,I.pin,I.hok,I.len⟩
def exO (C:Value)(a:Addr):HO:=.ext fun h=>∃ o,h.get? a=some o/\o.cls=C
end
structure HnC (K:PySem.W.Frag)(C:Addr):Prop where
 ty:PySem.W.typeIn K (.ref C)=some (.type "type")
 cl:(PySem.W.clsIn K C).isSome=true
 ex:PySem.W.mroIn K C (.type "BaseException")=some true
theorem kl_ {K:PySem.W.Frag}{M:Model}{h:Heap}{C:Addr}(X:K.In h)(e:(PySem.W.clsIn K C).isSome=true):PySem.W.Looks M h (isType (.ref C)) true:=by
 unfold PySem.W.clsIn at e;split at e
 ·rename_i ho;intro A' Q' E' s' k q;unfold isType loadHead;exact Ad_ (wpAny_loadPart (k _ _ (X _ _ ho)) (Av_ q))
 ·cases e
theorem li_ {K:PySem.W.Frag}{prog:Program}{w:World}{A:Around}{EE:Value->Shared->Prop}{s:Shared}{ea C Py:Addr}{Q:Bool->Shared->Prop}(X:K.In s.heap)(HC:HnC K Py)(hsub:PySem.W.mroIn K C (.ref Py)=some true)
  (ho:∃ o,s.heap.get? ea=some o/\o.cls=.ref C) (h:Q true s):wpAny (model prog w) A (excMatches (.ref ea) (.ref Py)) Q EE s:=by
 obtain ⟨hh,g,d,t,os⟩:=s;obtain ⟨ob,ho,hc⟩:=ho;have L1:=PySem.W.looks_typeIn (M:=model prog w) X HC.ty;have L2:=kl_ (M:=model prog w) X HC.cl;have L3:=EI_ (M:=model prog w) X HC.ex;have L4:PySem.W.Looks (model prog w) hh (typeOf (.ref ea)) (.ref C):=hc ▸ (PySem.W.Looks.ld ho).andThen .now;have L5:=EI_ (M:=model prog w) X hsub;have L6:PySem.W.Looks (model prog w) hh (isSubtype (.type "type") (.type "tuple")) false:=PySem.W.Looks.of_pure tc_notTuple;unfold excMatches isInstance isExcClass
 repeat lk
 exact h
def G7_.unb (D:G7_)(i:Nat):G7_:={ nx:=fun σ H=>D.nx (σ.set i none) H,rt:=D.rt,bk:=fun σ H=>D.bk (σ.set i none) H,ct:=fun σ H=>D.ct (σ.set i none) H }
def LW_ (K:PySem.W.Frag)(Py:Addr)(sp:Sp)(ta:TA)(i:Nat)(ts:TS):TS:=fun D σ H=>ta σ H fun vs H1=>sp vs H1 (fun _ _=>False) fun c _ H2 =>∃ C,c=.ref C/\PySem.W.mroIn K C (.ref Py)=some true/\∀ ea,H2 ea=none->ts (D.unb i) (σ.set i (some (.ref ea))) (upd H2 ea (exO (.ref C) ea))
theorem my_ {X:Cx}{x:Str}{ps:List Str}{k:Nat}{sp:Sp}{E:XK}{e₀:Expr}{es:List Expr}{ta:TA}{p cpos:Pos}{pins:List (Addr×Obj)}{σ:St}{H:Hp}{s:Shared}{EE:Value->Shared->Prop}{Q:Value->Shared->Prop}
  (C:IH_ X.prog X.w X.K X.mg X.base x ps k sp) (hr:Gb_ k X.A) (hg:Gl X x) (ha:PA (X.wish EE) (e₀::es) ta) (I:Inv X pins σ H s) (h:ta σ H fun vs H1=>sp vs H1 (fun _ _=>False) E)
  (hE:∀ H1 s1 e s',Inv X pins σ H1 s1->CXR X.prog X.w X.stack H1 s1 E e s'->EE e s') (hdb:(x == ("__debug__" : Str))=false) (he:starEach (e₀::es) X.env=(false,eval e₀ X.env)::starEach es X.env) (hpl:(backTo cpos (starEach es X.env)).any (·.1)=false) :
  wpAny (model X.prog X.w) X.A (eval (.Call (.Name x p) (e₀::es) [] cpos) X.env) Q EE s:=by
 obtain ⟨f,fd,hm,hkp,hb,F⟩:=C;refine Bt_ (fn_ I hg hm ?_ hdb);refine CH_ (h₀:=X.base) I.ok.mod.kin hkp ?_ he hpl;have z:=ha cpos pins s σ H _ (I.wish EE) h;refine thn z fun us s1 z1=>?_;obtain ⟨vs,H1,I1,r,q⟩:=z1;refine ⟨I1.kIn,?_⟩
 replace I1:Inv X pins σ H1 s1:=I1.unwish
 have r2:Fm_ (vs++[]) (us++[]):=r.append .nil;have q2:sp (vs++[]) H1 (fun _ _=>False) E:=by rw [Bd_];exact q
 have hl:(us++[]).length=ps.length:=by rw [<-r2.length];exact F.len _ _ _ _ q2
 refine Dc_ (BV_ (F.run X.A X.stack s1 H1 ⟨us,[]⟩ (us++[]) (vs++[]) _ _ hr I1.env0 (hb s1 us I1.kIn hl) r2 q2) fun res s' hq=>?_);cases res with
 | ok fl =>
  cases fl with
  | ret u=>obtain ⟨_,_,_,_,_,_,_,z⟩:=hq;exact z.elim
  | next=>exact False.elim hq
  | brk=>exact False.elim hq
  | cont=>exact False.elim hq
 | error e=>exact hE H1 s1 e s' I1 hq
abbrev calmed (A:Around):Around:={ A with handled:=none }
end L2
namespace L2
open PySem PySem.Spec PyProof.Rows
theorem Gb_.suite {k:Nat}{A:Around}{h:Option Value}(r:Gb_ k A):Gb_ k (calmed (A.mark h)):=⟨rfl,r.dp,r.un⟩
section
variable {X:Cx}{x:Str}{ps:List Str}{k:Nat}{sp:Sp}{e:Expr}{es:List Expr}{t:TA}{p pos:Pos}{E:XK}
theorem lX_ (C:IH_ X.prog X.w X.K X.mg X.base x ps k sp)(hr:Gb_ k X.A)(hx:Hr_ (CXR X.prog X.w) X E)(hg:Gl X x)(ha:PA X (e::es) t)(hs:E8_ (e::es)=true:=by rfl) (hdb:(x == ("__debug__" : Str))=false:=by decide) :
  PE X (.Call (.Name x p) (e::es) [] pos) (Hv_ sp [] E t):=by
 obtain ⟨f,fd,m,kp,b,F⟩:=C;have h':FP_ e=true/\E8_ es=true:=by simpa [E8_] using hs
 exact m8_ F hr hg m kp b .nil hx ha hdb (aw_ h'.1) (bK_ h'.2)
end
structure KitE (K:PySem.W.Frag)(C:Addr):Prop where
 cl:(PySem.W.clsIn K C).isSome=true
 ga:PySem.W.findIn K (.ref C) "__getattribute__" = some (some (.builtin "BaseException.__getattribute__"))
 gh:PySem.W.findIn K (.ref C) "__getattr__" = some none
 at_:PySem.W.findIn K (.ref C) "__class__" = some (some (.builtin "object.__class__"))
 get:PySem.W.specialIn K (.builtin "object.__class__") "__get__" = some (some (.builtin "getset_descriptor.__get__"))
 set:PySem.W.takesIn K (.builtin "object.__class__")=some true
 obj:PySem.W.mroIn K C (.type "object")=some true
 exc:PySem.W.mroIn K C (.type "BaseException")=some true
def L3_ (x:Addr)(D:Value)(h:Heap):Prop:=∃ o,h.get? x=some o/\o.cls=D
theorem L3_.ty {x:Addr}{D:Value}{M:Model}{h:Heap}(p:L3_ x D h):PySem.W.Looks M h (typeOf (.ref x)) D:=by obtain ⟨o,h1,h2⟩:=p;exact h2 ▸ (PySem.W.Looks.ld h1).andThen .now
def Ky_ (K:PySem.W.Frag):List V->Hp->VK->Prop:=fun xs H Q=>∃ (ea C:Addr)(c:V)(b:Bool),xs=[.ref ea,c]/\H ea=some (exO (.ref C) ea)/\KitE K C /\
 ((∃ T,c=.ty T/\PySem.W.kitOne K (.ref C) (.type T)=some b)\/(∃ D,c=.ref D/\PySem.W.kitOne K (.ref C) (.ref D)=some b)\/∃ (tp:Addr)(ys:List Addr),c=.ref tp/\H tp=some (.tup (ys.map V.ref))/\PySem.W.kitAny K (.ref C) (ys.map Value.ref)=some b)/\Q (.bl b) H
def KA_ (i j k:Nat)(ta:TA):TS:=fun D σ H=>ta σ H fun vs H1=>∃ v w y,vs=[v,w,y]/\D.nx (((σ.set i (some v)).set j (some w)).set k (some y)) H1
end L2
namespace L2
open PySem PySem.Spec PyProof.Rows
def Itd (hi:Int)(n:Nat):It:=⟨fun i _=>i<n,fun i H x H'=>H'=H/\x=.int (hi-i),fun i _=>n<=i⟩
def Kn_ (ta:TA):TI:=fun σ H R=>ta σ H fun vs H1=>∃ i j:Int,vs=[.int i,.int j,.int (-1)]/\(0<=j/\j<=i/\i<2 ^ 30)/\R (Itd i (i-j).toNat) H1
def Lk_:V->Option Int->Option Int->Hp->VK->Prop:=fun x lo hi H Q=>∃ a xs,x=.ref a/\H a=some (.lst xs)/\∀ p,H p=none->Q (.ref p) (upd H p (.lst (Ii_ xs lo hi)))
theorem hx_ {X:Cx}:SlR X Lk_:=by intro pins s σ H x v vl vu lo hi sl Q I rx hs pl pu h;obtain ⟨a,xs,e,hx,q⟩:=h;exact pT_ pins s σ H x v vl vu lo hi sl Q I rx hs pl pu ⟨a,xs,e,.inl (.inl hx),q⟩
theorem oE_ (xs:List V)(k:Nat)(h:k<=xs.length):Ii_ xs (some (k:Int)) none=xs.drop k:=by unfold Ii_;rw [HT.sIx_nat,HT.sIx_none,CE_ h];exact AT_ (by simp)
theorem nl_ (xs:List V)(k:Nat)(h:k<=xs.length):Ii_ xs none (some (k:Int))=xs.take k:=by unfold Ii_;rw [HT.sIx_nat,HT.sIx_none,CE_ h];simp
end L2
namespace L2
open PySem PySem.Spec PyProof.Rows
theorem oF_ {X:Cx}{body:List Stmt}{h₀:ExceptHandler}{hs:List ExceptHandler}{t:TS}{pos:Pos}(hb:∀ EE,PSs (X.wish EE) body t):PS X (.Try body (h₀::hs) [] [] pos) t:=by
 intro pins s σ H D I h;refine wpAny_Try_except (Bl_ (hb (fun _ _=>False) pins s σ H D (I.wish _) h) (fun f s1 q=>?_) fun _ _ x=>x.elim);have q':=SP.unwish q;cases f with
 | next=>exact CD_ q'
 | brk=>exact q'
 | cont=>exact q'
 | ret u=>exact q'
theorem fS_ {J:It}{g:TG}{tt:TT}{te:TE}{σ:St}{H:Hp}{Q:VK}(n:Nat)(Pσ:St->Prop)(bs:Nat->Bool)(val:Nat->V)(h0:Pσ σ)(hz:n<=1000)(hgo:∀ i H',i<n->EX_ H H'->J.go i H')(hst:∀ H',EX_ H H'->J.stop n H')
  (hs:∀ D i x σ' H' H'',H D=none->(∃ o,H' D=some o)->EX_ H H'->i<n->J.yld i H' x H''->Pσ σ'->∀ (Y:St->V->Hp->Prop)(R:St->Hp->Prop),(bs i=true->∀ σ2 H3,Pσ σ2->EX_ H' H3->Y σ2 (val i) H3)->(bs i=false->∀ σ2 H3,Pσ σ2->EX_ H' H3->R σ2 H3) ->
   g x σ' H'' fun σ2 H2=>tt σ2 H2 fun b H3=>if b=true then te σ2 H3 fun v H4=>Y σ2 v H4 else R σ2 H3)
  (hd:∀ D H',H D=none->EX_ H H'->H' D=some (.lst (((List.range n).filter bs).map val))->Q (.ref D) H'):Gw_ J g tt te σ H Q:=by
 intro D hD;refine ⟨fun i m σ' H'=>m=n-i/\i<=n/\Pσ σ'/\EX_ H H'/\H' D=some (.lst (((List.range i).filter bs).map val)),⟨n,by simp,AA_ _,h0,EX_.new hD,aa_⟩,?_⟩;rintro i m σ' H' ⟨rfl,hi,hp,hs',hDD⟩;by_cases hlt:i<n
 ·refine .inr ⟨hgo i H' hlt hs',fun σ2 H2=>Pσ σ2/\EX_ H H2/\H2 D=some (.lst (((List.range (i+1)).filter bs).map val)),fun σ2 H2 ⟨a,b,c⟩=>⟨n-(i+1),by lia,rfl,hlt,a,b,c⟩,fun x H'' hy=>?_⟩;refine hs D i x σ' H' H'' hD ⟨_,hDD⟩ hs' hlt hy hp _ _ (fun hb σ2 H3 hp2 s3=>?_) fun hb σ2 H3 hp2 s3=>?_
  ·refine ⟨_,s3 _ _ hDD,?_,hp2,(hs'.trans s3).upd hD,?_⟩
   ·rw [Ab_];have:=Bp_ bs (List.range i);rw [Ba_] at this;exact EY_ (by lia)
   ·rw [aa_,BJ_,BD_,Ap_];simp [hb]
  ·refine ⟨hp2,hs'.trans s3,?_⟩;rw [BJ_,BD_,Ap_];have e:[i].filter bs=[]:=by simp [hb]
   rw [e,Co_,Bd_];exact s3 _ _ hDD
 ·have e:i=n:=by lia
  subst e;exact .inl ⟨hst H' hs',hd D H' hD hs' hDD⟩
end L2
namespace L2
open PySem PySem.Spec PyProof.Rows
def grow (S H H':Hp):Hp:=fun b=>match H b with|some _=>S b|none=>H' b
theorem cg_ {S H H':Hp}{b:Addr}{o:HO}(h:H b=some o):grow S H H' b=S b:=by unfold grow;rw [h]
theorem gw_ {S H H':Hp}{b:Addr}(h:H b=none):grow S H H' b=H' b:=by unfold grow;rw [h]
theorem bT_ {S H H':Hp}(s:EX_ S H):EX_ S (grow S H H'):=fun b o h=>by rw [cg_ (s _ _ h)];exact h
theorem gx_ {S H H':Hp}(s:EX_ S H)(t:EX_ H H'):EX_ (grow S H H') H':=fun b o h=>by
 unfold grow at h;cases e:H b with
 | some z=>rw [e] at h;exact t _ _ (s _ _ h)
 | none=>rw [e] at h;exact h
theorem aM_ {S H:Hp}{a:Addr}{o:HO}(s:EX_ S H)(h:S a=none):EX_ S (upd H a o):=fun b z e=>by rw [ah_ (af_ e h)];exact s _ _ e
theorem eS_ {S H:Hp}{a:Addr}{o:HO}(s:EX_ S H)(h:H a=none):EX_ (upd S a o) (upd H a o):=fun b z e=>by
 by_cases q:b=a
 ·subst q;rw [aa_] at e ⊢;exact e
 ·rw [ah_ q] at e ⊢;exact s _ _ e
theorem aO_ {S H:Hp}{a:Addr}{o:HO}(s:EX_ S H)(h:H a=none):EX_ S (upd S a o):=EX_.new (s.free h)
theorem pr_ {X:Cx}{st:Stmt}{t:TS}(h:PS X.nox st t):PS X st t:=fun pins s σ H D I q=>Bl_ (h pins s σ H D (I.wish _) q) (fun f s' z=>SP.unwish z) fun _ _ z=>z.elim
end L2
namespace L2
open PySem PySem.Spec PyProof.Rows
def HH_:V->List V->Hp->VK->Prop:=fun x vs H Q=>∃ (l:Addr)(xs:List V)(i:Int)(y:V),x=.ref l/\vs=[.int i,y]/\H l=some (.lst xs)/\0<=i/\i.toNat<=xs.length/\xs.length<1000/\Q .non (upd H l (.lst (xs.take i.toNat++y::xs.drop i.toNat)))
theorem hS_ {X:Cx}:MtM X "list.insert" HH_:=by
 intro pins s σ H x vs v us Q I rx rv h;obtain ⟨l,xs,i,y,rfl,rfl,hH,h0,h1,h2,q⟩:=h;cases rx;obtain ⟨u,w,rfl,ru,rw'⟩:=rv.two;obtain ⟨t,rfl⟩:=ru;obtain ⟨z,its,n,r,hl,e⟩:=I.lstM hH;refine CQ_ F.slot_list_insert ⟨_,e,rfl⟩ F.entry_list_insert (F.args_list_insert_3 _ _ _) (AutoSeq1.list_insert_list_int_val_1 l its.toArray n i t w (by rw [fitsIndex_both (k:=i) (by lia) (by lia)];decide) (by rw [Am_];lia)) ⟨e,?_⟩;refine ⟨.non,_,I.lset (its':=its.take i.toNat++w::its.drop i.toNat) hH e ?_ ((r.take _).append (.cons rw' (r.drop _))) ?_,rfl,q⟩
 ·dsimp only
  rw [if_neg (by lia),Am_,CE_ (by lia)];simp;exact AT_ (by simp)
 ·have:=EY_ h2;simp;lia
def Ite (K:PySem.W.Frag)(a:Addr):It :=
  ⟨fun i H=>∃ xs x,SqL K H a xs/\xs[i]?=some x,
   fun i H v H'=>∃ T x,v=.ref T/\H T=none/\H'=upd H T (.tup [.int i,x])/\(∀ xs,SqL K H a xs->xs[i]?=some x),
   fun i H=>∃ xs,SqL K H a xs/\xs.length<=i⟩
def Kx_ (e it l:Addr)(i:Nat)(h:Heap):Prop:=(∃ old,IsEnum h e it i old)/\h.IsListIter it l i
theorem nm_ {P:Program}{w:World}{K:PySem.W.Frag}{elts:List Expr}{kt:Nat}{tpos:Pos}{e it l:Addr}(hei:e≠it) :
  Kk_ P w K (.Tuple elts kt tpos) (Ite K l) [e,it] e (Kx_ e it l) where
 mem:=by simp
 obj:=fun i h st b hb=>by
  obtain ⟨⟨old,s1⟩,⟨o4,s4,c4,d4⟩⟩:=st;simp only [Ao_,A8_,C2_] at hb
  rcases hb with rfl|rfl
  ·exact ⟨_,s1,fun v e=>by cases (show Data.fields _=Data.cell v from e)⟩
  ·exact ⟨o4,s4,fun v e=>by rw [d4] at e;cases e⟩
 keep:=fun i h h' st k=>by obtain ⟨⟨old,s1⟩,s4⟩:=st;exact ⟨⟨old,k e (by simp) _ s1⟩,s4.at fun o q=>k it (by simp) o q⟩
 item:=by
  intro X hP hw hK hc i pins s σ H E I hf st hg;subst hP hw hK;obtain ⟨xs,x,hq,hx⟩:=hg;obtain ⟨its,rv,p1,z1⟩:=I.list hq;obtain ⟨u,hu,ru⟩:=rv.get hx;obtain ⟨⟨old,s1⟩,s4⟩:=id st;refine wpAny_pyNext_enum_item s1 s4 p1.isList (x:=u) (by simpa using hu) hei fun h' g1 g2 g3 g4 g5=>?_;refine ⟨_,rfl,wpAny_letOwnedTupleGo_enum g1 fun h'' k1 k2=>?_⟩
  have lt:∀ b∈[e,it],b<s.heap.objs.size:=fun b hb=>by
   simp only [Ao_,A8_,C2_] at hb
   rcases hb with rfl|rfl
   ·exact As_ s1
   ·obtain ⟨o,e,_⟩:=s4;exact As_ e
  have hT:H s.heap.objs.size=none:=I.hok.fresh (Af_ _)
  have I1:Inv X pins σ (upd H s.heap.objs.size (.tup [.int i,x])) { s with heap:=s.heap.push { cls:=.type "tuple",data:=.seq #[.int i s.toks,u] } } :=
   I.laid (t':=s.toks) (fun b u e=>Aj_ _ e) (Af_ _) ⟨by show 2<=sizeLine;decide,[.int i s.toks,u],.cons ⟨_,rfl⟩ (.cons ru .nil),⟨_,AD_ _ rfl,rfl,_,rfl⟩⟩
  have f1:∀ b∈[e,it],HJ_ X pins (upd H s.heap.objs.size (.tup [.int i,x])) b:=fun b hb=>⟨by rw [ah_ (AE_ (lt b hb))];exact (hf b hb).1,(hf b hb).2⟩
  have I2:Inv X pins σ (upd H s.heap.objs.size (.tup [.int i,x])) { s with heap:=h'',toks:=s.toks+1 }:=by
   refine Inv.turnedL (s:={ s with heap:=s.heap.push { cls:=.type "tuple",data:=.seq #[.int i s.toks,u] } }) (ch:=[e,it]) (t':=s.toks+1) I1 (fun b o hb q=>?_) f1;simp only [Ao_,A8_,C2_,not_or] at hb;refine (k2.2 b hb.1).trans ?_;by_cases hbT:b=s.heap.objs.size
   ·subst hbT;have e':(s.heap.push { cls:=.type "tuple",data:=.seq #[.int i s.toks,u] }).get? s.heap.objs.size=some o:=q;rw [AD_ _ rfl] at e';cases e';exact g3
   ·have hb2:s.heap.get? b=some o:=by have e':(s.heap.push { cls:=.type "tuple",data:=.seq #[.int i s.toks,u] }).get? b=some o:=q;exact (DG_ _ _ _ hbT).symm.trans e'
    exact g5 b o hb.1 hb.2 hb2
  refine ⟨.ref s.heap.objs.size,_,I2,rfl,⟨_,x,rfl,hT,rfl,fun xs' h'=>by rw [I.list_inj h' hq];exact hx⟩,?_,fun b hb=>(f1 b hb).1⟩;exact ⟨⟨u,k1⟩,g2.at fun o q=>(k2.2 it hei.symm).trans q⟩
 done:=by intro X hP hw hK hc i pins s σ H E I hf st hg;subst hP hw hK;obtain ⟨xs,hq,he⟩:=hg;obtain ⟨its,rv,p1,z1⟩:=I.list hq;obtain ⟨⟨old,s1⟩,s4⟩:=id st;have l1:=rv.length;refine wpAny_pyNext_enum_end (I.ok.hd hc) s1 s4 p1.isList (by simp;lia) fun h' k=>⟨rfl,?_⟩;refine Inv.turnedL (ch:=[e,it]) (t':=s.toks) I (fun b o hb q=>?_) hf;simp only [Ao_,A8_,C2_,not_or] at hb;exact k b o hb.2 q
 self:=fun _ _ _ _ _ st h=>by obtain ⟨⟨old,s1⟩,_⟩:=st;exact wpAny_pyIter_enum s1 h
def JK_ (K:PySem.W.Frag)(ta:TA):TI:=fun σ H R=>ta σ H fun vs H1=>∃ a,vs=[.ref a]/\(∃ xs,SqL K H1 a xs)/\R (Ite K a) H1
theorem lj_ {X:Cx}{K:PySem.W.Frag}{elts:List Expr}{kt:Nat}{tpos:Pos}{a:Expr}{ta:TA}{p pos:Pos}(hK:X.K=K)(hg:Gl X "enumerate") (hm:X.mg "enumerate" = none) (ha:PA X [a] ta) (hs:E8_ [a]=true:=by rfl):PI X (.Tuple elts kt tpos) (.Call (.Name "enumerate" p) [a] [] pos) (JK_ K ta):=by
 subst hK;intro pins s σ H R I h;have h':FP_ a=true/\E8_ []=true:=by simpa [E8_] using hs
 refine Call_ (e9_ I hg hm ke_ (Bs_ (thn (ha pos pins s σ H _ I h) fun us s1 ⟨vs,H1,I1,r1,q1⟩=>?_) (aw_ h'.1) (bK_ h'.2)));obtain ⟨l,e,⟨xs,hx⟩,q⟩:=q1;subst e;obtain ⟨u1,rfl,e1⟩:=F9_ r1;cases e1;obtain ⟨its1,rv1,p1,z1⟩:=I1.list hx;refine call_enumerate_list p1.isList fun h' g1 g2 g3 g4=>?_;have I2:Inv X pins σ H1 { s1 with heap:=h' }:=I1.kept (t':=s1.toks) g4;refine wpAny_pyIter_enum g1 ⟨_,[s1.heap.objs.size+1,s1.heap.objs.size],_,Ite X.K l,H1,rfl,I2,nm_ (Nat.succ_ne_self _),⟨⟨_,g1⟩,g2⟩,fun b hb=>?_,q⟩
 have hb':s1.heap.objs.size<=b:=by
  simp only [Ao_,A8_,C2_] at hb
  rcases hb with rfl|rfl <;> first|exact B8_ _ _|exact Af_ _
 exact I1.fpOk hb' (I1.hok.fresh hb')
end L2
namespace L2
open PySem PySem.Spec PyProof.Rows
end L2
namespace L2
open PySem PySem.Spec PyProof.Rows
end L2
namespace L2
open PySem PySem.Spec PyProof.Rows
end L2
namespace L2
open PySem PySem.Spec PyProof.Rows
end L2
namespace L2
open PySem PySem.Spec PyProof.Rows
end L2
namespace L2
open PySem PySem.Spec PyProof.Rows
end L2
namespace L2
open PySem PySem.Spec PyProof.Rows
end L2
namespace L2
open PySem PySem.Spec PyProof.Rows
end L2
namespace L2
open PySem PySem.Spec PyProof.Rows
end L2
namespace L2
open PySem PySem.Spec PyProof.Rows
end L2
namespace L2
open PySem PySem.Spec PyProof.Rows
section
variable {κ:Type}[DecidableEq κ]
def Ft_ (kvs:List (κ×V))(k:κ):Option V:=(kvs.find? fun kv=>decide (kv.1=k)).map (·.2)
def FR_ (kvs:List (κ×V))(k:κ)(v:V):List (κ×V) :=
 if (kvs.any fun kv=>decide (kv.1=k))=true then kvs.map (fun kv=>if kv.1=k then (kv.1,v) else kv) else kvs++[(k,v)]
theorem bz_ {p:κ×V}{r:List (κ×V)}{k:κ}(e:p.1=k):Ft_ (p::r) k=some p.2:=by simp [Ft_,Cg_,e]
theorem bw_ {p:κ×V}{r:List (κ×V)}{k:κ}(e:¬ p.1=k):Ft_ (p::r) k=Ft_ r k:=by simp [Ft_,Cg_,e]
theorem dI_ (k:κ):∀ kvs:List (κ×V),(kvs.any fun kv=>decide (kv.1=k))=(Ft_ kvs k).isSome
 | []=>rfl
 | p::r=>by
  rw [B2_];by_cases e:p.1=k
  ·simp only [bz_ e,AQ_ e,Bool.true_or,Option.isSome_some]
  ·rw [bw_ e,Az_ e,Bool.false_or];exact dI_ k r
theorem lY_ (k j:κ)(y:V):∀ kvs:List (κ×V),Ft_ (kvs.map fun kv=>if kv.1=k then (kv.1,y) else kv) j=(Ft_ kvs j).map fun x=>if j=k then y else x
 | []=>rfl
 | p::r=>by
  have ih:=lY_ k j y r;rw [AB_];by_cases h:p.1=k
  ·rw [if_pos h];by_cases e:p.1=j
   ·rw [bz_ (p:=(p.1,y)) e,bz_ e,Ce_,if_pos (e.symm.trans h)]
   ·rw [bw_ (p:=(p.1,y)) e,bw_ e,ih]
  ·rw [if_neg h];by_cases e:p.1=j
   ·rw [bz_ (p:=p) e,bz_ e,Ce_,if_neg (fun z=>h (e.trans z))]
   ·rw [bw_ (p:=p) e,bw_ e,ih]
theorem km_ (k j:κ)(y:V):∀ kvs:List (κ×V),Ft_ kvs k=none->Ft_ (kvs++[(k,y)]) j=if j=k then some y else Ft_ kvs j
 | [],_=>by
  by_cases e:k=j
  ·rw [if_pos e.symm];exact bz_ (p:=(k,y)) e
  ·rw [if_neg (fun z=>e z.symm)];exact bw_ (p:=(k,y)) e
 | p::r,hn=>by
  rw [DU_];have hk:¬ p.1=k:=fun z=>by rw [bz_ z] at hn;cases hn
  rw [bw_ hk] at hn;have ih:=km_ k j y r hn;by_cases e:p.1=j
  ·rw [bz_ e,bz_ e,if_neg (fun z=>hk (e.trans z))]
  ·rw [bw_ e,bw_ e,ih]
theorem a7_ (kvs:List (κ×V))(k j:κ)(y:V):Ft_ (FR_ kvs k y) j=if j=k then some y else Ft_ kvs j:=by
 unfold FR_;by_cases a:(kvs.any fun kv=>decide (kv.1=k))=true
 ·rw [if_pos a,lY_];rw [dI_] at a;by_cases e:j=k
  ·obtain ⟨x,hx⟩:=DQ_.mp a;rw [if_pos e,e,hx,Ce_,if_pos rfl]
  ·rw [if_neg e];cases Ft_ kvs j with
   | none=>rfl
   | some x=>rw [Ce_,if_neg e]
 ·rw [if_neg a];refine km_ k j y kvs ?_;rw [dI_] at a;cases q:Ft_ kvs k with
  | none=>rfl
  | some x=>rw [q] at a;exact (a rfl).elim
theorem aP_ (kvs:List (κ×V))(k:κ)(v:V):(FR_ kvs k v).length<=kvs.length+1:=by
 unfold FR_;split
 ·rw [Ab_];lia
 ·rw [Ah_,AH_,Ed_];lia
theorem oG_ {kvs:List (κ×V)}{k:κ}(v:V)(h:Ft_ kvs k=none):FR_ kvs k v=kvs++[(k,v)]:=by unfold FR_;rw [dI_,h];exact if_neg (by decide)
theorem Iw_.isSome_eq {o:Option V}{u:Option Value}(r:Iw_ o u):o.isSome=u.isSome:=by
 cases o with
 | none=>cases u with
  | none=>rfl
  | some _=>exact (show False from r).elim
 | some _=>cases u with
  | none=>exact (show False from r).elim
  | some _=>rfl
theorem Iw_.getD {o:Option V}{u:Option Value}{d:V}{d':Value}(r:Iw_ o u)(rd:Fs_ d d'):Fs_ (o.getD d) (u.getD d'):=by
 cases o with
 | none=>cases u with
  | none=>exact rd
  | some _=>exact (show False from r).elim
 | some _=>cases u with
  | none=>exact (show False from r).elim
  | some _=>exact r
theorem KV.val {kvs:List (κ×V)}{vs:List (κ×Value)}(r:KV kvs vs)(k:κ):Iw_ (Ft_ kvs k) (valueAt vs k):=by
 unfold KV at r
 induction r with
 | nil=>exact True.intro
 | @cons p q ps qs h t ih =>
  obtain ⟨h1,h2⟩:=h;by_cases e:p.1=k
  ·have e':q.1=k:=h1.symm.trans e;have b:valueAt (q::qs) k=some q.2:=by simp [valueAt,Cg_,e']
   rw [bz_ e,b];exact h2
  ·have e':¬ q.1=k:=fun z=>e (h1.trans z);have b:valueAt (q::qs) k=valueAt qs k:=by simp [valueAt,Cg_,e']
   rw [bw_ e,b];exact ih
theorem KV.any {kvs:List (κ×V)}{vs:List (κ×Value)}(r:KV kvs vs)(k:κ):(kvs.any fun kv=>decide (kv.1=k))=vs.any fun kv=>decide (kv.1=k):=by
 unfold KV at r
 induction r with
 | nil=>rfl
 | cons h t ih=>rw [B2_,B2_,ih,h.1]
theorem KV.repl {kvs:List (κ×V)}{vs:List (κ×Value)}(r:KV kvs vs)(k:κ){y:V}{u:Value}(ry:Fs_ y u) :
  KV (kvs.map fun kv=>if kv.1=k then (kv.1,y) else kv) (vs.map fun kv=>if kv.1=k then (kv.1,u) else kv):=by
 unfold KV at r ⊢
 induction r with
 | nil=>exact .nil
 | @cons p q ps qs h t ih =>
  rw [AB_,AB_];refine .cons ?_ ih;obtain ⟨h1,h2⟩:=h;by_cases e:p.1=k
  ·rw [if_pos e,if_pos (h1.symm.trans e)];exact ⟨h1,ry⟩
  ·rw [if_neg e,if_neg (fun z=>e (h1.trans z))];exact ⟨h1,h2⟩
theorem KV.put {kvs:List (κ×V)}{vs:List (κ×Value)}(r:KV kvs vs)(k:κ){y:V}{u:Value}(ry:Fs_ y u):KV (FR_ kvs k y) (stored vs k u):=by
 unfold FR_ stored;rw [r.any k];by_cases e:(vs.any fun kv=>decide (kv.1=k))=true
 ·rw [if_pos e,if_pos e];exact r.repl k ry
 ·rw [if_neg e,if_neg e];exact Paired.snoc r ⟨rfl,ry⟩
theorem KV.length {kvs:List (κ×V)}{vs:List (κ×Value)}(r:KV kvs vs):kvs.length=vs.length:=EE_ r
end
theorem Hf_ {P:Program}{w:World}{k:Key}{u:Value}(r:Fs_ (kV k) u):(Fa_ P w).is k u=true:=by
 cases k with
 | inl i=>obtain ⟨t,e⟩:=(show ∃ t,u=Value.int i t from r);subst e;exact la_ P w i t
 | inr x=>obtain ⟨t,e⟩:=(show ∃ t,u=Value.str x t from r);subst e;exact lb_ P w x t
theorem kn_ {P:Program}{w:World}:∀ {ks:List Key}{us:List Value},Fm_ (ks.map kV) us->ItemsAre (Fa_ P w) ks us
 | [],_,r=>by rw [Co_] at r;cases r;exact .nil
 | k::ks,_,r=>by
  rw [AB_] at r;cases r with
  | cons h t=>exact .cons (Hf_ h) (kn_ t)
abbrev KT (H:Hp):List (List Key×V)->List (List Key×Addr×Value)->Prop:=Paired fun p q=>p.1=q.1/\H q.2.1=some (.tup (p.1.map kV))/\Fs_ p.2 q.2.2
theorem KT.val {H:Hp}{kvs:List (List Key×V)}{xs:List (List Key×Addr×Value)}(r:KT H kvs xs)(k:List Key):Iw_ (Ft_ kvs k) ((atKey xs k).map (·.2)):=by
 induction r with
 | nil=>exact True.intro
 | @cons p q ps qs h t ih =>
  obtain ⟨h1,_,h2⟩:=h;by_cases e:p.1=k
  ·have e':q.1=k:=h1.symm.trans e;have b:atKey (q::qs) k=some q.2:=by simp [atKey,Cg_,e']
   rw [bz_ e,b];exact h2
  ·have e':¬ q.1=k:=fun z=>e (h1.trans z);have b:atKey (q::qs) k=atKey qs k:=by simp [atKey,Cg_,e']
   rw [bw_ e,b];exact ih
theorem KT.repl {H:Hp}{kvs:List (List Key×V)}{xs:List (List Key×Addr×Value)}(r:KT H kvs xs)(k:List Key){y:V}{u:Value}(ry:Fs_ y u) :
  KT H (kvs.map fun kv=>if kv.1=k then (kv.1,y) else kv) (xs.map (putAt k u)):=by
 induction r with
 | nil=>exact .nil
 | @cons p q ps qs h t ih =>
  rw [AB_,AB_];refine .cons ?_ ih;obtain ⟨h1,h2,h3⟩:=h;unfold putAt;by_cases e:p.1=k
  ·rw [if_pos e,if_pos (h1.symm.trans e)];exact ⟨h1,h2,ry⟩
  ·rw [if_neg e,if_neg (fun z=>e (h1.trans z))];exact ⟨h1,h2,h3⟩
theorem KT.put {H:Hp}{kvs:List (List Key×V)}{xs:List (List Key×Addr×Value)}(r:KT H kvs xs)(k:List Key){b:Addr}{y:V}{u:Value}(hb:H b=some (.tup (k.map kV)))(ry:Fs_ y u) :
  KT H (FR_ kvs k y) (storedH xs k b u):=by
 have e:(kvs.any fun kv=>decide (kv.1=k))=(atKey xs k).isSome:=by rw [dI_,(r.val k).isSome_eq,DH_]
 unfold FR_ storedH;rw [e];by_cases q:(atKey xs k).isSome=true
 ·rw [if_pos q,if_pos q];exact r.repl k ry
 ·rw [if_neg q,if_neg q];exact Paired.snoc r ⟨rfl,hb,ry⟩
theorem KT.keeps {H H':Hp}{kvs:List (List Key×V)}{xs:List (List Key×Addr×Value)}(r:KT H kvs xs)(ht:∀ b ys,H b=some (.tup ys)->H' b=some (.tup ys)):KT H' kvs xs :=
 Paired.mapP r fun _ _ z=>⟨z.1,ht _ _ z.2.1,z.2.2⟩
section
variable {P:Program}{w:World}{H:Hp}{h:Heap}{a:Addr}
theorem KQ_ {u:HO}(ok:HOk P w H h)(e:Rd H a u):FD_ P w H h a u:=e.ok ok
theorem HP_ {kvs:List (Key×V)}(ok:HOk P w H h)(e:Rd H a (.dK kvs)):kvs.length<=sizeLine/\(a == sysModules)=false/\∃ vs,KV kvs vs/\h.DictOf (Fa_ P w) a vs :=
 show FD_ P w H h a (.dK kvs) from KQ_ ok e
theorem IV_ {kvs:List (Key×V)}(ok:HOk P w H h)(e:H a=some (.dK kvs)):kvs.length<=sizeLine/\(a == sysModules)=false/\∃ vs,KV kvs vs/\h.DictOf (Fa_ P w) a vs:=HP_ ok (.inl e)
theorem iX_ {ks:List Key}(ok:HOk P w H h)(e:H a=some (.tup (ks.map kV))):(tupleKind (Fa_ P w)).is h ks a:=by obtain ⟨_,its,r,o,h1,h2,n,h3⟩:=(show FD_ P w H h a (.tup (ks.map kV)) from ok a _ e);exact ⟨o,its.toArray,n,h1,h2,h3,by simpa using kn_ r⟩
theorem HQ_ {kvs:List (List Key×V)}(ok:HOk P w H h)(e:Rd H a (.dT kvs)):kvs.length<=sizeLine/\(a == sysModules)=false /\
  ∃ xs,KT H kvs xs/\h.DictOfH (tupleKind (Fa_ P w)) a xs:=by
 obtain ⟨z,y,xs,r,o,es,ep,h1,h2,h3,h4,h5⟩:=(show FD_ P w H h a (.dT kvs) from KQ_ ok e);refine ⟨z,y,xs,r,o,es,ep,h1,h2,h3,h4,fun x hx=>?_,h5⟩
 have all:∀ {l:List (List Key×V)}{m:List (List Key×Addr×Value)},KT H l m->∀ x∈m,(tupleKind (Fa_ P w)).is h x.1 x.2.1:=by
  intro l m q
  induction q with
  | nil=>intro x hx;exact nomatch hx
  | @cons p q ps qs hq t ih =>
   intro x hx
   rcases Ao_.mp hx with e|hx
   ·subst e;exact iX_ ok (by rw [<-hq.1];exact hq.2.1)
   ·exact ih x hx
 exact all r x hx
theorem LF_ {kvs:List (List Key×V)}(ok:HOk P w H h)(e:H a=some (.dT kvs)):kvs.length<=sizeLine/\(a == sysModules)=false /\
  ∃ xs,KT H kvs xs/\h.DictOfH (tupleKind (Fa_ P w)) a xs:=HQ_ ok (.inl e)
end
def F7_ (H:Hp)(a:Addr)(y:V)(r:Option V):Prop :=
 (∃ kvs k,Rd H a (.dK kvs)/\y=kV k/\r=Ft_ kvs k)\/∃ kvs k b,Rd H a (.dT kvs)/\y=.ref b/\H b=some (.tup (k.map kV))/\r=Ft_ kvs k
def Ho_ (H:Hp)(a:Addr)(y v:V)(H':Hp):Prop :=
 (∃ kvs k,H a=some (.dK kvs)/\y=kV k/\kvs.length<sizeLine/\H'=upd H a (.dK (FR_ kvs k v))) \/
 ∃ kvs k b,H a=some (.dT kvs)/\y=.ref b/\H b=some (.tup (k.map kV))/\kvs.length<sizeLine/\H'=upd H a (.dT (FR_ kvs k v))
theorem F7_.k {H:Hp}{a:Addr}{kvs:List (Key×V)}{k:Key}(e:H a=some (.dK kvs)):F7_ H a (kV k) (Ft_ kvs k):=.inl ⟨kvs,k,.inl e,rfl,rfl⟩
theorem F7_.t {H:Hp}{a b:Addr}{kvs:List (List Key×V)}{k:List Key}(e:H a=some (.dT kvs))(eb:H b=some (.tup (k.map kV))):F7_ H a (.ref b) (Ft_ kvs k):=.inr ⟨kvs,k,b,.inl e,rfl,eb,rfl⟩
theorem Ho_.k {H:Hp}{a:Addr}{kvs:List (Key×V)}{k:Key}{v:V}(e:H a=some (.dK kvs))(hl:kvs.length<sizeLine):Ho_ H a (kV k) v (upd H a (.dK (FR_ kvs k v))):=.inl ⟨kvs,k,e,rfl,hl,rfl⟩
theorem Ho_.t {H:Hp}{a b:Addr}{kvs:List (List Key×V)}{k:List Key}{v:V}(e:H a=some (.dT kvs))(eb:H b=some (.tup (k.map kV)))(hl:kvs.length<sizeLine) :
  Ho_ H a (.ref b) v (upd H a (.dT (FR_ kvs k v))):=.inr ⟨kvs,k,b,e,rfl,eb,hl,rfl⟩
section
variable {X:Cx}{pins:List (Addr×Obj)}{σ:St}{H:Hp}{s:Shared}{a:Addr}{y v:V}{u r:Value}{o:Option V}{A:Around}{E:Value->Shared->Prop}
theorem Inv.big (I:Inv X pins σ H s):sysModules<s.heap.objs.size:=by have h:mainGlobals<s.heap.objs.size:=(I.mod.glob.keeps I.bk).lt;exact Nat.lt_trans (by decide) h
theorem nn_ {Q:Value->Shared->Prop}(hu:A.units+1<cLine)(I:Inv X pins σ H s)(g:F7_ H a y (some v))(ry:Fs_ y u)(h:∀ w' s',Inv X pins σ H s'->Fs_ v w'->Q w' s') :
  wpAny (model X.prog X.w) A (getItem (.ref a) u) Q E s:=by
 rcases g with ⟨kvs,k,e,ey,l⟩|⟨kvs,k,b,e,ey,eb,l⟩
 ·subst ey;obtain ⟨z,hd,vs,rel,dd⟩:=HP_ I.hok e;obtain ⟨w',hw,rw'⟩:=Iw_.some_of (v:=v) (o:=valueAt vs k) (by rw [l];exact rel.val k);exact wpAny_getItem_of (Hf_ ry) dd.mapOf hw (h w' _ (I.tok _) rw')
 ·subst ey;cases (show u=Value.ref b from ry);obtain ⟨z,hd,xs,rel,dd⟩:=HQ_ I.hok e;obtain ⟨w',hw,rw'⟩:=Iw_.some_of (v:=v) (o:=(atKey xs k).map (·.2)) (by rw [l];exact rel.val k);obtain ⟨p,hp,hp2⟩:=CX_.mp hw;refine wpAny_getItem_heap (Ch_ hu) (iX_ I.hok eb) dd hp ?_;rw [hp2];exact h w' _ (I.tok _) rw'
theorem d_in {Q:Value->Shared->Prop}(hu:A.units+1<cLine)(I:Inv X pins σ H s)(g:F7_ H a y o)(ry:Fs_ y u)(h:∀ s',Inv X pins σ H s'->Q (.bool o.isSome) s') :
  wpAny (model X.prog X.w) A (compareOp .In u (.ref a)) Q E s:=by
 rcases g with ⟨kvs,k,e,ey,l⟩|⟨kvs,k,b,e,ey,eb,l⟩
 ·subst ey;obtain ⟨z,hd,vs,rel,dd⟩:=HP_ I.hok e;refine wpAny_in_of (Hf_ ry) hd dd.mapOf ?_;rw [<-(rel.val k).isSome_eq,<-l];exact h _ (I.tok _)
 ·subst ey;cases (show u=Value.ref b from ry);obtain ⟨z,hd,xs,rel,dd⟩:=HQ_ I.hok e;refine wpAny_in_heap (Ch_ hu) (iX_ I.hok eb) hd dd ?_;have q:=(rel.val k).isSome_eq;rw [DH_] at q;rw [<-q,<-l];exact h _ (I.tok _)
theorem pZ_ {Q:Value->Shared->Prop}(hu:A.units+1<cLine)(I:Inv X pins σ H s)(g:F7_ H a y o)(ry:Fs_ y u)(h:∀ s',Inv X pins σ H s'->Q (.bool (!o.isSome)) s') :
  wpAny (model X.prog X.w) A (compareOp .NotIn u (.ref a)) Q E s:=by
 rcases g with ⟨kvs,k,e,ey,l⟩|⟨kvs,k,b,e,ey,eb,l⟩
 ·subst ey;obtain ⟨z,hd,vs,rel,dd⟩:=HP_ I.hok e;refine wpAny_notIn_of (Hf_ ry) hd dd.mapOf ?_;rw [<-(rel.val k).isSome_eq,<-l];exact h _ (I.tok _)
 ·subst ey;cases (show u=Value.ref b from ry);obtain ⟨z,hd,xs,rel,dd⟩:=HQ_ I.hok e;refine wpAny_notIn_heap (Ch_ hu) (iX_ I.hok eb) hd dd ?_;have q:=(rel.val k).isSome_eq;rw [DH_] at q;rw [<-q,<-l];exact h _ (I.tok _)
theorem js_ {h':Heap}{t':Nat}{ob:HO}(I:Inv X pins σ H s)(mu:Mut (H a))(hs:Heap.SameBut a s.heap h')(he:∃ q,h'.get? a=some q)(new:FD_ X.prog X.w (upd H a ob) h' a ob) :
  Inv X pins σ (upd H a ob) { s with heap:=h',toks:=t' } :=
 I.write (x:=a) (e:=a) mu (.inl rfl) (fun b q hb z=>(hs.2 b hb).trans z) he new
theorem lZ_ {P:Program}{w:World}{H':Hp}{h':Heap}{kvs:List (Key×V)}{vs:List (Key×Value)}(z:kvs.length<=sizeLine)(hd:(a == sysModules)=false)(rel:KV kvs vs)(dd:h'.DictOf (Fa_ P w) a vs) :
  FD_ P w H' h' a (.dK kvs):=⟨z,hd,vs,rel,dd⟩
theorem no_ {H':Hp}{Q:Unit->Shared->Prop}(hu:A.units+1<cLine)(I:Inv X pins σ H s)(g:Ho_ H a y v H')(ry:Fs_ y u)(rv:Fs_ v r)(h:∀ s',Inv X pins σ H' s'->Q () s') :
  wpAny (model X.prog X.w) A (setItem (.ref a) u r) Q E s:=by
 rcases g with ⟨kvs,k,e,ey,l,eH⟩|⟨kvs,k,b,e,ey,eb,l,eH⟩
 ·subst ey eH;obtain ⟨z,hd,vs,rel,dd⟩:=IV_ I.hok e;have hz:vs.length<=sizeLine:=by rw [<-rel.length];exact z
  have hl:(FR_ kvs k v).length<=sizeLine:=by have:=aP_ kvs k v;lia
  refine wpAny_setItem_pairs (hsz:=hz) (Hf_ ry) dd fun h' dd' hs=>h _ ?_;have he:∃ q,h'.get? a=some q:=let ⟨q,_,_,hq,_⟩:=dd';⟨q,hq⟩;exact js_ I (by rw [e];exact True.intro) hs he (lZ_ hl hd (rel.put k rv) dd')
 ·subst ey eH;cases (show u=Value.ref b from ry);obtain ⟨z,hd,xs,rel,dd⟩:=LF_ I.hok e;have hz:xs.length<=sizeLine:=by rw [<-EE_ rel];exact z
  have hl:(FR_ kvs k v).length<=sizeLine:=by have:=aP_ kvs k v;lia
  refine wpAny_setItem_heap (hsz:=hz) (Ch_ hu) (iX_ I.hok eb) dd fun h' dd' hs=>h _ ?_;obtain ⟨q,es,ep,hq,h2,h3,h4,_,h5⟩:=dd';refine js_ I (by rw [e];exact True.intro) hs ⟨q,hq⟩ ⟨hl,hd,_,(rel.put k eb rv).keeps fun c ys ec=>?_,q,es,ep,hq,h2,h3,h4,h5⟩;rw [ah_ (LI_ ec e (fun z=>nomatch z))];exact ec
end
section
variable {X:Cx}{pins:List (Addr×Obj)}{σ:St}{H:Hp}{s:Shared}{a:Addr}{kvs:List (Key×V)}{k:Key}{u:Value}{A:Around}{E:Value->Shared->Prop}
end
def LV_ (i:Expr):Prop:=∀ ov iv,subscripted i false ov iv=operate [ov,iv] (getItem ov iv)
theorem p0_ {prog:Program}{w:World}{A:Around}{E:Value->Shared->Prop}{s:Shared}{env:Env}{value slice:Expr}{pos:Pos}{T id:String}{Q:Value->Shared->Prop}
  (hl:typeLookup (.type T) "__getitem__" = pure (some (.builtin id))) (hs:LV_ slice)
  (h:wpAny (model prog w) A (eval value env) (fun o s₁=>wpAny (model prog w) A (eval slice env) (fun i s₂=>s₂.TypeIs o T/\wpAny (model prog w) A (getItem o i) Q E s₂) E s₁) E s) :
  wpAny (model prog w) A (eval (.Subscript value slice pos) env) Q E s:=by
 refine Subscript_ (Bl_ h (fun o s₁ h₁=>Bl_ h₁ (fun i s₂ h₂=>?_) fun _ _ x=>x) fun _ _ x=>x);obtain ⟨hT,h₂⟩:=h₂;unfold subscriptTail;refine Ad_ ?_;rw [getitemInPython_of_ne hT.not_modules];refine Ad_ (Ee_ hT hl ?_);have fin:wpAny (model prog w) A (subscripted slice false o i) (fun r s₃=>wpAny (model prog w) A (letTemporaryGo value o r >>= fun _=>pure r) Q E s₃) E s₂:=by rw [hs o i];exact wpAny_operating (Bl_ h₂ (fun r s₃ h₃=>Ad_ (wpAny_letTemporaryGo (Av_ h₃))) fun _ _ x=>x)
 first
  | exact Av_ (Ad_ fin)
  | exact Ad_ (Av_ (Ad_ fin))
  | exact Ad_ fin
theorem lk_ {X:Cx}{pins:List (Addr×Obj)}{σ:St}{H:Hp}{s:Shared}{a:Addr}{y:V}{o:Option V}(I:Inv X pins σ H s)(g:F7_ H a y o):s.TypeIs (.ref a) "dict" := by
 rcases g with ⟨kvs,k,e,_,_⟩|⟨kvs,k,b,e,_,_,_⟩
 ·obtain ⟨_,_,vs,_,dd⟩:=HP_ I.hok e;exact dd.typeIs
 ·obtain ⟨_,_,xs,_,dd⟩:=HQ_ I.hok e;exact dd.typeIs
def J3_ (td ty:TE):TE:=fun σ H Q=>td σ H fun x H1=>ty σ H1 fun y H2=>∃ a v,x=.ref a/\F7_ H2 a y (some v)/\Q v H2
def Lc_ (ty td:TE):TE:=fun σ H Q=>ty σ H fun y H1=>td σ H1 fun x H2=>∃ a o,x=.ref a/\F7_ H2 a y o/\Q (.bl o.isSome) H2
def HG_ (ty td:TE):TE:=fun σ H Q=>ty σ H fun y H1=>td σ H1 fun x H2=>∃ a o,x=.ref a/\F7_ H2 a y o/\Q (.bl (!o.isSome)) H2
def J0_ (td ty tv:TE):TS:=fun D σ H=>tv σ H fun v H1=>td σ H1 fun x H2=>ty σ H2 fun y H3=>∃ a H4,x=.ref a/\Ho_ H3 a y v H4/\D.nx σ H4
section
variable {X:Cx}{o i e value:Expr}{pos pos' tpos:Pos}{td ty tv:TE}
theorem bU_ (hu:X.A.units+1<cLine)(ho:PE X o td)(hi:PE X i ty)(hs:LV_ i):PE X (.Subscript o i pos) (J3_ td ty):=by intro pins s σ H Q I h;refine p0_ PySem.F.slot_dict_getitem.lookup hs (thn (ho pins s σ H _ I h) fun u s1 ⟨x,H1,I1,rx,q1⟩=>thn (hi pins s1 σ H1 _ I1 q1) fun iv s2 ⟨y,H2,I2,ry,a,v,ex,g,q2⟩=>?_);subst ex;obtain rfl:u=Value.ref a:=rx;exact ⟨lk_ I2 g,nn_ hu I2 g ry fun w' s3 I3 rw'=>⟨v,H2,I3,rw',q2⟩⟩
theorem ps_ (hu:X.A.units+1<cLine)(hi:PE X i ty)(ho:PE X o td):PC X .In i o (Lc_ ty td):=by intro pins s σ H Q I h;refine thn (hi pins s σ H _ I h) fun iv s1 ⟨y,H1,I1,ry,q1⟩=>thn (ho pins s1 σ H1 _ I1 q1) fun u s2 ⟨x,H2,I2,rx,a,ov,ex,g,q2⟩=>?_;subst ex;obtain rfl:u=Value.ref a:=rx;exact d_in hu I2 g ry fun s3 I3=>⟨.bl ov.isSome,H2,I3,rfl,q2⟩
theorem np_ (hu:X.A.units+1<cLine)(hi:PE X i ty)(ho:PE X o td):PC X .NotIn i o (HG_ ty td):=by intro pins s σ H Q I h;refine thn (hi pins s σ H _ I h) fun iv s1 ⟨y,H1,I1,ry,q1⟩=>thn (ho pins s1 σ H1 _ I1 q1) fun u s2 ⟨x,H2,I2,rx,a,ov,ex,g,q2⟩=>?_;subst ex;obtain rfl:u=Value.ref a:=rx;exact pZ_ hu I2 g ry fun s3 I3=>⟨.bl (!ov.isSome),H2,I3,rfl,q2⟩
theorem cL_ (hu:X.A.units+1<cLine)(ho:PE X o td)(hi:PE X i ty)(hv:PE X value tv)(hs:swapsWith value (some (.Subscript o i pos')) pos.line X.env=pure false) :
  PS X (.Assign [.Subscript o i pos'] value pos) (J0_ td ty tv):=by
 intro pins s σ H D I h;refine wpAny_Assign_Subscript (thn (hv pins s σ H _ I h) fun r s1 ⟨v,H1,I1,rv,q1⟩=>thn (ho pins s1 σ H1 _ I1 q1) fun u s2 ⟨x,H2,I2,rx,q2⟩=>thn (hi pins s2 σ H2 _ I2 q2) fun iv s3 ⟨y,H3,I3,ry,a,H4,ex,g,q3⟩=>?_) hs;subst ex;obtain rfl:u=Value.ref a:=rx;exact no_ hu I3 g ry rv fun s4 I4=>⟨σ,H4,I4,q3⟩
end
theorem oH_ {P:Program}{w:World}{H:Hp}(h:Heap)(hb:sysModules<h.objs.size):FD_ P w H (h.push { cls:=.type "dict",data:=.dict #[] }) h.objs.size (.dK []) :=
 ⟨AA_ _,Cz_.mpr (Ne.symm (AE_ hb)),[],.nil,Heap.DictOf.new h⟩
theorem oI_ {P:Program}{w:World}{H:Hp}(h:Heap)(hb:sysModules<h.objs.size):FD_ P w H (h.push { cls:=.type "dict",data:=.dict #[] }) h.objs.size (.dT []) :=
 ⟨AA_ _,Cz_.mpr (Ne.symm (AE_ hb)),[],.nil,_,#[],0,AD_ _ rfl,⟨rfl,rfl,rfl⟩,rfl,rfl,Bh_⟩
def IB_:TE:=fun _ H Q=>∀ p,H p=none->Q (.ref p) (upd H p (.dK []))
def IM_:TE:=fun _ H Q=>∀ p,H p=none->Q (.ref p) (upd H p (.dT []))
section
variable {X:Cx}{pos:Pos}
theorem dJ_:PE X (.Dict [] [] pos) IB_:=fun pins s σ H Q I h =>wpAny_Dict_empty ⟨.ref s.heap.objs.size,_,I.laid (a:=s.heap.objs.size) (o:=.dK []) (t':=s.toks) (fun _ _ q=>Aj_ _ q) (Af_ _) (oH_ s.heap I.big),rfl,h _ (I.hok.fresh (Af_ _))⟩
theorem fT_:PE X (.Dict [] [] pos) IM_:=fun pins s σ H Q I h =>wpAny_Dict_empty ⟨.ref s.heap.objs.size,_,I.laid (a:=s.heap.objs.size) (o:=.dT []) (t':=s.toks) (fun _ _ q=>Aj_ _ q) (Af_ _) (oI_ s.heap I.big),rfl,h _ (I.hok.fresh (Af_ _))⟩
end
def FB_ (kvs more:List (Key×V)):List (Key×V):=more.foldl (fun acc kv=>FR_ acc kv.1 kv.2) kvs
theorem KV.merge:∀ {more:List (Key×V)}{rs:List (Key×Value)}{kvs:List (Key×V)}{vs:List (Key×Value)},KV more rs->KV kvs vs->KV (FB_ kvs more) (merged vs rs):=by
 intro more rs kvs vs r;unfold KV at r
 induction r generalizing kvs vs with
 | nil=>intro q;exact q
 | @cons p q ps qs h t ih =>
  intro r0;have e:KV (FR_ kvs p.1 p.2) (stored vs q.1 q.2):=by have:=r0.put p.1 h.2;rw [<-h.1];exact this
  exact ih e
theorem dK_:∀ (more kvs:List (Key×V)),(FB_ kvs more).length<=kvs.length+more.length
 | [],kvs=>by show kvs.length<=kvs.length+0;lia
 | p::r,kvs=>by have h1:=dK_ r (FR_ kvs p.1 p.2);have h2:=aP_ kvs p.1 p.2;show (FB_ (FR_ kvs p.1 p.2) r).length<=_;rw [AH_];lia
structure M1 (X:Cx)(o:Expr)(m:Str)(apos:Pos)(e:Expr)(cpos:Pos):Prop where
 base:attributeBase o m X.env (eval o X.env)=eval o X.env
 few:((backTo cpos (starEach [e] X.env)).all (fun x=>!x.1) && (backToKw cpos (keywordEach [] X.env)).all (fun x=>x.1.isSome)
  && decide (([e]:List Expr).length+([]:List Keyword).length+(if ([]:List Keyword).isEmpty then 0 else 1)<30))=true
 line:(apos.endLine == cpos.line)=true
 trees:backTo cpos (starEach [e] X.env)=[(false,eval e X.env)]
structure M2 (X:Cx)(o:Expr)(m:Str)(apos:Pos)(e f:Expr)(cpos:Pos):Prop where
 base:attributeBase o m X.env (eval o X.env)=eval o X.env
 few:((backTo cpos (starEach [e,f] X.env)).all (fun x=>!x.1) && (backToKw cpos (keywordEach [] X.env)).all (fun x=>x.1.isSome)
  && decide (([e,f]:List Expr).length+([]:List Keyword).length+(if ([]:List Keyword).isEmpty then 0 else 1)<30))=true
 line:(apos.endLine == cpos.line)=true
 trees:backTo cpos (starEach [e,f] X.env)=[(false,eval e X.env),(false,eval f X.env)]
def IsD (H:Hp)(a:Addr):Prop:=(∃ kvs,Rd H a (.dK kvs))\/∃ kvs,Rd H a (.dT kvs)
theorem qX_ {X:Cx}{pins:List (Addr×Obj)}{σ:St}{H:Hp}{s:Shared}{a:Addr}(I:Inv X pins σ H s)(d:IsD H a) :
  s.TypeIs (.ref a) "dict" /\ (∀ b,Value.ref a=.ref b->∃ ob,s.heap.get? b=some ob/\ob.dict=none)/\(a == sysModules)=false:=by
 rcases d with ⟨kvs,e⟩|⟨kvs,e⟩
 ·obtain ⟨_,hd,vs,_,dd⟩:=HP_ I.hok e;refine ⟨dd.typeIs,fun b q=>?_,hd⟩;cases q;obtain ⟨ob,_,_,h1,h2,_⟩:=dd;exact ⟨ob,h1,h2.2.1⟩
 ·obtain ⟨_,hd,xs,_,dd⟩:=HQ_ I.hok e;refine ⟨dd.typeIs,fun b q=>?_,hd⟩;cases q;obtain ⟨ob,_,_,h1,h2,_⟩:=dd;exact ⟨ob,h1,h2.2.1⟩
section
variable {X:Cx}{pins:List (Addr×Obj)}{σ:St}{H:Hp}{s:Shared}{a:Addr}{y d:V}{u r:Value}{o:Option V}{A:Around}{E:Value->Shared->Prop}
theorem qY_ {Q:Value->Shared->Prop}(hu:A.units+1<cLine)(I:Inv X pins σ H s)(g:F7_ H a y o)(ry:Fs_ y u)(rd:Fs_ d r)(h:∀ w' s',Inv X pins σ H s'->Fs_ (o.getD d) w'->Q w' s') :
  wpAny (model X.prog X.w) A (call (.builtin "dict.get") [.ref a,u,r]) Q E s:=by
 rcases g with ⟨kvs,k,e,ey,l⟩|⟨kvs,k,b,e,ey,eb,l⟩
 ·subst ey;obtain ⟨z,hd,vs,rel,dd⟩:=HP_ I.hok e;refine Dg_ B1_ dd.typeIs CY_ (D7_ _ _ _) (meets_dict_get_default (Fa_ X.prog X.w) a (Hf_ ry) hd r) ⟨_,dd.mapOf,h _ _ (I.tok _) ?_⟩;rw [l];exact (rel.val k).getD rd
 ·subst ey;cases (show u=Value.ref b from ry);obtain ⟨z,hd,xs,rel,dd⟩:=HQ_ I.hok e;refine Dg_ B1_ dd.typeIs CY_ (D7_ _ _ _) (meetsH_dict_get_default (tupleKind (Fa_ X.prog X.w)) a b hd r) ⟨Ch_ hu,k,xs,iX_ I.hok eb,dd,h _ _ (I.tok _) ?_⟩;rw [l];exact (rel.val k).getD rd
end
def IA_ (td ty tx:TE):TE:=fun σ H Q=>td σ H fun x H1=>∃ a,x=.ref a/\IsD H1 a/\ty σ H1 fun y H2=>tx σ H2 fun z H3=>∃ o,F7_ H3 a y o/\Q (o.getD z) H3
section
variable {X:Cx}{o e f:Expr}{apos cpos:Pos}{td ty tx:TE}
theorem hy_ (hu:X.A.units+1<cLine)(ho:PE X o td)(he:PE X e ty)(hf:PE X f tx)(m:M2 X o "get" apos e f cpos):PE X (.Call (.Attribute o "get" apos) [e,f] [] cpos) (IA_ td ty tx):=by
 intro pins s σ H Q I h;refine wpAny_Call_method m.base m.few m.line BF_ B1_ Er_ (thn (ho pins s σ H _ I h) fun u s1 ⟨x,H1,I1,rx,a,ex,d,q1⟩=>?_);subst ex;obtain rfl:u=Value.ref a:=rx;obtain ⟨t1,t2,_⟩:=qX_ I1 d;refine ⟨t1,t2,?_⟩;rw [m.trees];refine BS_ rfl (Cv_ (Cf_ (thn (he pins s1 σ H1 _ I1 q1) fun iv s2 ⟨y,H2,I2,ry,q2⟩ =>Cf_ (thn (hf pins s2 σ H2 _ I2 q2) fun fv s3 ⟨z,H3,I3,rz,ov,g,q3⟩=>CS_ ?_))));exact qY_ hu I3 g ry rz fun w' s4 I4 rw'=>⟨_,H3,I4,rw',q3⟩
end
section
variable {X:Cx}{pins:List (Addr×Obj)}{σ:St}{H:Hp}{s:Shared}{a:Addr}{kvs:List (Key×V)}{A:Around}{E:Value->Shared->Prop}
end
section
variable {X:Cx}{pins:List (Addr×Obj)}{σ:St}{H:Hp}{s:Shared}{a:Addr}{y:V}{u:Value}{A:Around}{E:Value->Shared->Prop}
end
end L2
namespace Att
open PySem PySem.W PySem.Calls PyProof.Rows
end Att
namespace L2
open PySem PySem.Spec PyProof.Rows
end L2
namespace L2
open PySem PySem.Spec PyProof.Rows
end L2
namespace L2
open PySem PySem.Spec PyProof.Rows
section
variable {X:Cx}
end
section
variable {κ:Type}[DecidableEq κ]
theorem p1_ {kvs:List (κ×V)}{k:κ}{v:V}(h:Ft_ kvs k=some v):k∈kvs.map (·.1):=by
 have q:(kvs.any fun kv=>decide (kv.1=k))=true:=by
  rw [dI_,h]
  all_goals rfl
 obtain ⟨p,hp,e⟩:=DV_.mp q;exact Al_.mpr ⟨p,hp,AG_ e⟩
end
end L2
namespace RimD
def su:Nat->(Nat->Int)->Int
 | 0,_=>0
 | n+1,f=>su n f+f n
def sg (k:Nat):Int:=if k%2=0 then 1 else -1
def sk (k j:Nat):Nat:=if j<k then j else j+1
abbrev Mat:=Nat->Nat->Int
def mi (A:Mat)(k:Nat):Mat:=fun i j=>A (i+1) (sk k j)
def D:Nat->Mat->Int
 | 0,_=>1
 | n+1,A=>su (n+1) fun k=>sg k*A 0 k*D n (mi A k)
end RimD
namespace RimD
end RimD
namespace RimM
def nf (t b:Int):Int×Int:=if b<0 then (t / -(Int.gcd t b:Int),b / -(Int.gcd t b:Int)) else (t/(Int.gcd t b:Int),b/(Int.gcd t b:Int))
theorem gpos {t b:Int}(hb:b≠0):0<(Int.gcd t b:Int):=by have:=Int.gcd_pos_of_ne_zero_right t hb;lia
theorem pt_ {t b:Int}(h:b<0):nf t b=nf (-t) (-b):=by
 have e:Int.gcd (-t) (-b)=Int.gcd t b:=by rw [Int.gcd_neg,EU_]
 unfold nf;rw [if_pos h,if_neg (by lia),e,Int.ediv_neg,Int.ediv_neg,EJ_ (DW_ ..),EJ_ (Cn_ ..)]
theorem nq_ {t b:Int}(h:0<b):nf t b=(t/(Int.gcd t b:Int),b/(Int.gcd t b:Int)):=by unfold nf;rw [if_neg (by lia)]
structure Low (p:Int×Int):Prop where
 pos:0<p.2
 co:Int.gcd p.1 p.2=1
theorem nr_ {t b:Int}(hb:b≠0):Low (nf t b)/\t*(nf t b).2=(nf t b).1*b:=by
 have key:∀ {t b:Int},0<b->Low (nf t b)/\t*(nf t b).2=(nf t b).1*b:=fun {t b} h=>by
  have g:=gpos (t:=t) (b:=b) (by lia);rw [nq_ h];refine ⟨⟨Int.ediv_pos_of_pos_of_dvd h (DX_ g) (Cn_ ..),Int.gcd_ediv_gcd_ediv_gcd (by lia)⟩,?_⟩;show t*(b/(Int.gcd t b:Int))=t/(Int.gcd t b:Int)*b;obtain ⟨x,hx⟩:=DW_ (a:=t) (b:=b);obtain ⟨y,hy⟩:=Cn_ (a:=t) (b:=b)
  have e1:t/(Int.gcd t b:Int)=x:=by
   conv=>lhs;arg 1;rw [hx]
   exact DY_ _ (by lia)
  have e2:b/(Int.gcd t b:Int)=y:=by
   conv=>lhs;arg 1;rw [hy]
   exact DY_ _ (by lia)
  rw [e1,e2]
  conv=>lhs;arg 1;rw [hx]
  conv=>rhs;arg 2;rw [hy]
  rw [Int.mul_assoc,Int.mul_left_comm]
 rcases Int.lt_or_lt_of_ne hb with h|h
 ·rw [pt_ h];obtain ⟨a,e⟩:=key (t:=-t) (b:=-b) (by lia);refine ⟨a,?_⟩;rw [Int.neg_mul,Int.mul_neg] at e;lia
 ·exact key h
end RimM
namespace RimD
open RimM
end RimD
namespace RimT
variable {α:Type}[DecidableEq α]
def I5_ (p:Nat):Nat->List α->List ((Nat×Nat)×α)
 | _,[]=>[]
 | k,w::l=>((p,k),w)::I5_ p (k+1) l
def G8_:Nat->List (List α)->List ((Nat×Nat)×α)
 | _,[]=>[]
 | o,l::T=>I5_ o 0 l++G8_ (o+1) T
abbrev ends (T:List (List α)):=G8_ 0 T
def wi (T:List (List α))(e:Nat×Nat):Option α:=(T.getD e.1 [])[e.2]?
theorem hz_ {p:Nat}{e:Nat×Nat}{w:α}:∀ {l:List α}{k:Nat},(e,w)∈I5_ p k l ↔ e.1=p/\k<=e.2/\l[e.2-k]?=some w
 | [],k=>by simp [I5_]
 | a::l,k=>by
  rw [I5_,Ao_,hz_];constructor
  ·rintro (h|⟨h1,h2,h3⟩)
   ·cases h;simp
   ·refine ⟨h1,by lia,?_⟩;rw [show e.2-k=(e.2-(k+1))+1 by lia,D8_];exact h3
  ·rintro ⟨h1,h2,h3⟩;by_cases z:e.2=k
   ·left;rw [z,Dh_,List.getElem?_cons_zero] at h3;cases h3;exact B9_ (B9_ h1 z) rfl
   ·right;refine ⟨h1,by lia,?_⟩;rw [show e.2-k=(e.2-(k+1))+1 by lia,D8_] at h3;exact h3
theorem hT_ {e:Nat×Nat}{w:α}:∀ {T:List (List α)}{o:Nat},(e,w)∈G8_ o T ↔ o<=e.1/\(T.getD (e.1-o) [])[e.2]?=some w
 | [],o=>by simp [G8_]
 | l::T,o=>by
  rw [G8_,Ax_,hz_,hT_];constructor
  ·rintro (⟨h1,h2,h3⟩|⟨h1,h2⟩)
   ·refine ⟨by lia,?_⟩;rw [h1,Dh_];exact h3
   ·refine ⟨by lia,?_⟩;rw [show e.1-o=(e.1-(o+1))+1 by lia];exact h2
  ·rintro ⟨h1,h2⟩;by_cases z:e.1=o
   ·left;rw [z,Dh_] at h2;exact ⟨z,by lia,h2⟩
   ·right;refine ⟨by lia,?_⟩;rw [show e.1-o=(e.1-(o+1))+1 by lia] at h2;exact h2
theorem jt_ {T:List (List α)}{e:Nat×Nat}{w:α}:(e,w)∈ends T ↔ wi T e=some w:=by unfold ends;rw [hT_];simp [wi]
theorem l0_ (p:Nat):∀ (l:List α)(k:Nat),(I5_ p k l).map (·.2)=l
 | [],_=>rfl
 | a::l,k=>by rw [I5_,AB_,l0_ p l]
theorem hU_:∀ (T:List (List α))(o:Nat),(G8_ o T).map (·.2)=T.flatten
 | [],_=>rfl
 | l::T,o=>by rw [G8_,Ap_,l0_,hU_ T,AJ_]
theorem iY_ (p:Nat):∀ (l:List α)(k:Nat),((I5_ p k l).map (·.1)).Nodup
 | [],_=>Bh_
 | a::l,k=>by
  rw [I5_,AB_,AW_];refine ⟨fun h=>?_,iY_ p l (k+1)⟩;obtain ⟨⟨e,w⟩,he,q⟩:=Al_.mp h;have:=(hz_.mp he).2.1
  dsimp only at q
  rw [q] at this
  dsimp only at this
  lia
theorem hV_:∀ (T:List (List α))(o:Nat),((G8_ o T).map (·.1)).Nodup
 | [],_=>Bh_
 | l::T,o=>by
  rw [G8_,Ap_,A0_];refine ⟨iY_ o l 0,hV_ T (o+1),fun a ha b hb e=>?_⟩;subst e;obtain ⟨⟨e,w⟩,he,q⟩:=Al_.mp ha;obtain ⟨⟨e',w'⟩,he',q'⟩:=Al_.mp hb;have h1:=(hz_.mp he).1;have h2:=(hT_.mp he').1
  dsimp only at q q'
  rw [q] at h1;rw [q'] at h2;lia
theorem g0_ (w:α):∀ l:List ((Nat×Nat)×α),(l.map (·.2)).count w=(l.filter fun x=>decide (x.2=w)).length
 | []=>rfl
 | a::l=>by
  rw [AB_,CF_,g0_ w l,List.filter_cons];by_cases h:a.2=w
  ·simp [h]
  ·simp [h]
theorem l1_ {T:List (List α)}{w:α}(h:T.flatten.count w=2):∃ a b,(ends T).filter (fun x=>decide (x.2=w))=[(a,w),(b,w)]/\a≠b/\∀ e,wi T e=some w ↔ e=a\/e=b:=by
 have hl:((ends T).filter fun x=>decide (x.2=w)).length=2:=by rw [<-g0_,hU_];exact h
 have nd:(((ends T).filter fun x=>decide (x.2=w)).map (·.1)).Nodup:=(hV_ T 0).sublist (List.Sublist.map _ EK_)
 have mem:∀ x,x∈(ends T).filter (fun x=>decide (x.2=w)) ↔ wi T x.1=some w/\x.2=w:=fun x=>by
  rw [A9_,decide_eq_true_eq];constructor
  ·rintro ⟨h1,h2⟩;refine ⟨?_,h2⟩;rw [<-jt_,<-h2];exact h1
  ·rintro ⟨h1,h2⟩;refine ⟨?_,h2⟩;rw [<-jt_,<-h2] at h1;exact h1
 generalize (ends T).filter (fun x=>decide (x.2=w))=f at hl nd mem
 match f,hl with
 | [a,b],_ =>
  have ha:=(mem a).mp (by simp);have hb:=(mem b).mp (by simp);refine ⟨a.1,b.1,?_,?_,fun e=>⟨fun he=>?_,?_⟩⟩
  ·rw [show (a.1,w)=a from B9_ rfl ha.2.symm,show (b.1,w)=b from B9_ rfl hb.2.symm]
  ·simp at nd;exact nd
  ·have:=(mem (e,w)).mpr ⟨he,rfl⟩
   rcases Ao_.mp this with z|z
   ·exact .inl (by rw [<-z])
   ·exact .inr (by rw [<-Ai_.mp z])
  ·rintro (rfl|rfl)
   ·exact ha.1
   ·exact hb.1
def Tw (T:List (List α)):Prop:=∀ w,w∈T.flatten->T.flatten.count w=2
theorem pu_ {T:List (List α)}{e:Nat×Nat}{w:α}(h:wi T e=some w):w∈T.flatten:=by rw [<-hU_ T 0];exact Al_.mpr ⟨_,jt_.mpr h,rfl⟩
def I4_ (T:List (List α))(a b:Nat×Nat):Prop:=a≠b/\∃ w,wi T a=some w/\wi T b=some w
theorem I4_.symm {T:List (List α)}{a b:Nat×Nat}(h:I4_ T a b):I4_ T b a:=⟨fun e=>h.1 e.symm,h.2.elim fun w q=>⟨w,q.2,q.1⟩⟩
theorem ns_ {T:List (List α)}(h:Tw T){a:Nat×Nat}{w:α}(ha:wi T a=some w):∃ b,I4_ T a b:=by
 obtain ⟨x,y,_,ne,all⟩:=l1_ (h w (pu_ ha))
 rcases (all a).mp ha with e|e
 ·exact ⟨y,e ▸ ne,w,ha,(all y).mpr (.inr rfl)⟩
 ·exact ⟨x,fun z=>ne (by rw [<-z,e]),w,ha,(all x).mpr (.inl rfl)⟩
theorem fU_ {T:List (List α)}(h:Tw T){a b c:Nat×Nat}(hb:I4_ T a b)(hc:I4_ T a c):b=c:=by
 obtain ⟨n1,w,a1,b1⟩:=hb;obtain ⟨n2,w',a2,c2⟩:=hc;rw [a1] at a2;cases a2;obtain ⟨x,y,_,ne,all⟩:=l1_ (h w (pu_ a1))
 rcases (all a).mp a1 with e|e <;> rcases (all b).mp b1 with e1|e1 <;> rcases (all c).mp c2 with e2|e2 <;> subst e <;> subst e1 <;> subst e2 <;> first|rfl|exact absurd rfl n1|exact absurd rfl n2
def rl (T:List (List α))(p:Nat):Nat:=(T.getD p []).length
def IsC (T:List (List α))(P:Nat)(c:Nat×Nat):Prop:=c.1<T.length/\c.2<rl T c.1+(if c.1<P then 1 else 0)
theorem nt_ {T:List (List α)}{e:Nat×Nat}(h:e.2<rl T e.1):∃ w,wi T e=some w:=⟨_,Aa_ h⟩
theorem HT_ {T:List (List α)}{e:Nat×Nat}{w:α}(h:wi T e=some w):e.2<rl T e.1/\e.1<T.length:=by
 have h1:e.2<rl T e.1:=(Ag_.mp h).1;refine ⟨h1,?_⟩
 rcases Nat.lt_or_ge e.1 T.length with z|z
 ·exact z
 ·unfold rl at h1;rw [Ac_,BA_ z] at h1;simp at h1
def nx (T:List (List α))(P:Nat)(c m:Nat×Nat):Nat×Nat :=
 if c.2=rl T c.1 then ((c.1+P-1)%P,0) else if m.1<P then (m.1,m.2+1) else (m.1,(m.2+1)%rl T m.1)
def Nx (T:List (List α))(P:Nat)(c c':Nat×Nat):Prop:=(c.2=rl T c.1/\c'=((c.1+P-1)%P,0))\/(c.2<rl T c.1/\∃ m,I4_ T c m/\c'=if m.1<P then (m.1,m.2+1) else (m.1,(m.2+1)%rl T m.1))
theorem Kb_ {T:List (List α)}{P:Nat}(h:Tw T){c:Nat×Nat}(hc:IsC T P c):∃ c',Nx T P c c':=by
 obtain ⟨h1,h2⟩:=hc;by_cases z:c.2<rl T c.1
 ·obtain ⟨w,hw⟩:=nt_ z;obtain ⟨m,hm⟩:=ns_ h hw;exact ⟨_,.inr ⟨z,m,hm,rfl⟩⟩
 ·refine ⟨_,.inl ⟨?_,rfl⟩⟩;split at h2 <;> lia
theorem l2_ {T:List (List α)}{P:Nat}(h:Tw T){c a b:Nat×Nat}(ha:Nx T P c a)(hb:Nx T P c b):a=b:=by
 rcases ha with ⟨h1,h2⟩|⟨h1,m,hm,h2⟩ <;> rcases hb with ⟨g1,g2⟩|⟨g1,m',hm',g2⟩
 ·rw [h2,g2]
 ·lia
 ·lia
 ·rw [fU_ h hm hm'] at h2;rw [h2,g2]
theorem nx_c {T:List (List α)}{P:Nat}(hP:0<P)(hPT:P<=T.length){c c':Nat×Nat}(hc:IsC T P c)(h:Nx T P c c'):IsC T P c':=by
 rcases h with ⟨h1,rfl⟩|⟨h1,m,⟨_,w,_,hm⟩,rfl⟩
 ·have:=BT_ (c.1+P-1) hP;exact ⟨by show (c.1+P-1)%P<_;lia,by show 0<_;simp only [this,if_true];lia⟩
 ·obtain ⟨a,b⟩:=HT_ hm;split
  ·rename_i z;exact ⟨b,by show m.2+1<_;simp only [z,if_true];lia⟩
  ·refine ⟨b,?_⟩;have:=BT_ (m.2+1) (show 0<rl T m.1 by lia);exact AF_ this (B8_ _ _)
theorem p2_ {m a b:Nat}(ha:a<m)(hb:b<m)(h:(a+1)%m=(b+1)%m):a=b:=by
 by_cases z1:a+1=m <;> by_cases z2:b+1=m
 ·lia
 ·rw [z1,Nat.mod_self,Ca_ (by lia)] at h;lia
 ·rw [z2,Nat.mod_self,Ca_ (by lia)] at h;lia
 ·rw [Ca_ (by lia),Ca_ (by lia)] at h;lia
theorem oJ_ {P a b:Nat}(ha:a<P)(hb:b<P)(h:(a+P-1)%P=(b+P-1)%P):a=b:=by
 have e:∀ x,x<P->(x+P-1)%P=if x=0 then P-1 else x-1:=fun x hx=>by
  by_cases z:x=0
  ·rw [if_pos z,z,CK_,Ca_ (by lia)]
  ·rw [if_neg z,show x+P-1=(x-1)+P by lia,Nat.add_mod_right,Ca_ (by lia)]
 rw [e a ha,e b hb] at h;split at h <;> split at h <;> lia
theorem pv_ {T:List (List α)}{P:Nat}(h:Tw T)(hP:0<P){c d x:Nat×Nat}(hc:IsC T P c)(hd:IsC T P d)(h1:Nx T P c x)(h2:Nx T P d x):c=d:=by
 have post:∀ {c:Nat×Nat},IsC T P c->c.2=rl T c.1->c.1<P:=fun {c} hc e=>by
  have:=hc.2;split at this
  ·assumption
  ·lia
 rcases h1 with ⟨a1,a2⟩|⟨a1,m,am,a2⟩ <;> rcases h2 with ⟨b1,b2⟩|⟨b1,m',bm,b2⟩
 ·rw [a2] at b2;have e:=oJ_ (post hc a1) (post hd b1) (congrArg Prod.fst b2);exact B9_ e (by rw [a1,b1,e])
 ·exfalso;rw [a2] at b2;have lt:=BT_ (c.1+P-1) hP;split at b2
  ·have:=congrArg Prod.snd b2;dsimp only at this;lia
  ·have:=congrArg Prod.fst b2;dsimp only at this;lia
 ·exfalso;rw [b2] at a2;have lt:=BT_ (d.1+P-1) hP;split at a2
  ·have:=congrArg Prod.snd a2;dsimp only at this;lia
  ·have:=congrArg Prod.fst a2;dsimp only at this;lia
 ·rw [a2] at b2;obtain ⟨_,w,_,wm⟩:=id am;obtain ⟨_,w',_,wm'⟩:=id bm;have l1:=(HT_ wm).1;have l2:=(HT_ wm').1
  have e:m=m':=by
   split at b2 <;> split at b2
   ·have e1:=congrArg Prod.fst b2;have e2:=congrArg Prod.snd b2;dsimp only at e1 e2;exact B9_ e1 (by lia)
   ·have e1:=congrArg Prod.fst b2;dsimp only at e1;lia
   ·have e1:=congrArg Prod.fst b2;dsimp only at e1;lia
   ·have e1:=congrArg Prod.fst b2;have e2:=congrArg Prod.snd b2;dsimp only at e1 e2;rw [<-e1] at e2 l2;exact B9_ e1 (p2_ l1 l2 e2)
  subst e;exact fU_ h am.symm bm.symm
def corners (T:List (List α))(P:Nat):List (Nat×Nat):=(List.range T.length).flatMap fun p=>(List.range (rl T p+(if p<P then 1 else 0))).map fun k=>(p,k)
theorem fp_ {T:List (List α)}{P:Nat}{c:Nat×Nat}:c∈corners T P ↔ IsC T P c:=by
 unfold corners IsC;rw [List.mem_flatMap];constructor
 ·rintro ⟨p,hp,hc⟩;obtain ⟨k,hk,rfl⟩:=Al_.mp hc;exact ⟨A3_.mp hp,A3_.mp hk⟩
 ·rintro ⟨h1,h2⟩;exact ⟨c.1,A3_.mpr h1,Al_.mpr ⟨c.2,A3_.mpr h2,rfl⟩⟩
inductive Way (T:List (List α))(P:Nat):List (Nat×Nat)->Nat×Nat->Prop
 | one {c d}:Nx T P c d->Way T P [c] d
 | more {l c d}:Way T P l c->Nx T P c d->Way T P (l++[c]) d
theorem hW_ {T:List (List α)}{P:Nat}{l:List (Nat×Nat)}{d:Nat×Nat}(w:Way T P l d):l≠[]:=by
 cases w with
 | one _=>simp
 | more _ _=>simp
theorem l3_ {β:Type}{l m:List β}{c:β}(h:l≠[])(e:(l++m).head?=some c):l.head?=some c:=by
 cases l with
 | nil=>exact absurd rfl h
 | cons a r=>exact e
theorem ds_ {β:Type}[DecidableEq β]:∀ {l m:List β},l.Nodup->(∀ x∈l,x∈m)->l.length<=m.length
 | [],_,_,_=>AA_ _
 | a::l,m,nd,h=>by
  rw [AW_] at nd
  have:=ds_ (l:=l) (m:=m.erase a) nd.2 fun x hx=>by
   have hne:x≠a:=fun e=>by subst e;exact nd.1 hx
   exact (List.mem_erase_of_ne hne).mpr (h x (An_ _ hx))
  have ha:=h a At_;rw [List.length_erase_of_mem ha] at this;have:0<m.length:=Ej_ ha;simp only [AH_];lia
theorem fq_ {T:List (List α)}{P:Nat}(h:Tw T)(hP:0<P)(hPT:P<=T.length){c:Nat×Nat}:∀ {l:List (Nat×Nat)}{d:Nat×Nat},Way T P l d->l.head?=some c->IsC T P c->IsC T P d/\(∀ x∈l,IsC T P x)/\(∀ x∈l,x=c\/∃ y∈l,Nx T P y x)
  /\ ∃ z∈l,Nx T P z d:=by
 intro l d w
 induction w with
 | @one a b hn =>
  intro hc ic;cases hc;exact ⟨nx_c hP hPT ic hn,fun x hx=>by rw [Ai_.mp hx];exact ic,fun x hx=>.inl (Ai_.mp hx),c,by simp,hn⟩
 | @more l' x y w hn ih =>
  intro hc ic;have hc':l'.head?=some c:=l3_ (hW_ w) hc;obtain ⟨i1,i2,i3,z,hz,i4⟩:=ih hc' ic;refine ⟨nx_c hP hPT i1 hn,fun q hq=>?_,fun q hq=>?_,x,by simp,hn⟩
  ·rcases Ax_.mp hq with q'|q'
   ·exact i2 q q'
   ·rw [Ai_.mp q'];exact i1
  ·rcases Ax_.mp hq with q'|q'
   ·exact (i3 q q').imp id fun ⟨y,hy,e⟩=>⟨y,AV_ _ hy,e⟩
   ·rw [Ai_.mp q'];exact .inr ⟨z,AV_ _ hz,i4⟩
theorem ll_ {T:List (List α)}{P:Nat}(h:Tw T)(hP:0<P)(hPT:P<=T.length){c d:Nat×Nat}{l:List (Nat×Nat)}(w:Way T P l d)(hc:l.head?=some c)(ic:IsC T P c)(nd:l.Nodup)(hd:d≠c):d∉l:=fun hm=>by
 obtain ⟨i1,i2,i3,z,hz,i4⟩:=fq_ h hP hPT w hc ic
 have key:∀ {l:List (Nat×Nat)}{d:Nat×Nat},Way T P l d->l.head?=some c->l.Nodup->d∈l->d=c:=by
  intro l d w
  induction w with
  | @one a b hn =>
   intro hc nd hm;cases hc;exact Ai_.mp hm
  | @more l' x y w hn ih =>
   intro hc nd hm;have hc':l'.head?=some c:=l3_ (hW_ w) hc;obtain ⟨j1,j2,j3,z,hz,j4⟩:=fq_ h hP hPT w hc' ic;rw [A0_] at nd;have xnew:x∉l':=fun q=>nd.2.2 x q x (by simp) rfl
   rcases Ax_.mp hm with q|q
   ·rcases j3 y q with e|⟨u,hu,e⟩
    ·exact e
    ·have:u=x:=pv_ h hP (j2 u hu) j1 e hn;exact absurd (this ▸ hu) xnew
   ·have e:=Ai_.mp q;subst e
    have:z=y:=pv_ h hP (j2 z hz) j1 j4 hn;exact absurd (this ▸ hz) xnew
 exact hd (key w hc nd hm)
theorem nu_ {T:List (List α)}{P:Nat}(h:Tw T)(hP:0<P)(hPT:P<=T.length){c d:Nat×Nat}{l:List (Nat×Nat)}(w:Way T P l d)(hc:l.head?=some c)(ic:IsC T P c)(nd:l.Nodup):l.length<=(corners T P).length :=
 ds_ nd fun x hx=>fp_.mpr ((fq_ h hP hPT w hc ic).2.1 x hx)
end RimT
namespace RimT
variable {α:Type}[DecidableEq α]
def ins (l:List α)(k:Nat)(w:α):List α:=l.take k++w::l.drop k
theorem gy_ (l:List α)(k:Nat)(w:α):(ins l k w).length=l.length+1:=by unfold ins;simp only [Ah_,AO_,AH_,Ct_];lia
theorem nv_ (l:List α)(k:Nat)(w x:α):(ins l k w).count x=l.count x+if w=x then 1 else 0:=by
 unfold ins;rw [Bz_,CF_];have:=Bb_ k l;have e:l.count x=(l.take k).count x+(l.drop k).count x:=by rw [<-Bz_,this]
 rw [e];by_cases h:w=x
 ·simp [h];lia
 ·simp [h]
def FM_ (T:List (List α))(c:Nat×Nat)(w:α):List (List α):=T.set c.1 (ins (T.getD c.1 []) c.2 w)
theorem hX_ (x:α)(l':List α):∀ (T:List (List α))(p:Nat),p<T.length->(T.set p l').flatten.count x+(T.getD p []).count x=T.flatten.count x+l'.count x
 | [],p,h=>absurd h (by simp)
 | l::T,0,h=>by
  simp only [CL_,AJ_,Bz_,EL_];lia
 | l::T,p+1,h=>by have:=hX_ x l' T p (by simpa using h);simp only [CM_,AJ_,Bz_,EM_];lia
theorem lm_ (l':List α):∀ (T:List (List α))(p:Nat),p<T.length->(T.set p l').flatten.length+(T.getD p []).length=T.flatten.length+l'.length
 | [],p,h=>absurd h (by simp)
 | l::T,0,h=>by
  simp only [CL_,AJ_,Ah_,EL_];lia
 | l::T,p+1,h=>by have:=lm_ l' T p (by simpa using h);simp only [CM_,AJ_,Ah_,EM_];lia
theorem dL_ {T:List (List α)}{c:Nat×Nat}(h:c.1<T.length)(w x:α):(FM_ T c w).flatten.count x=T.flatten.count x+if w=x then 1 else 0:=by have:=hX_ x (ins (T.getD c.1 []) c.2 w) T c.1 h;rw [nv_] at this;unfold FM_;lia
theorem hY_ {T:List (List α)}{c:Nat×Nat}(h:c.1<T.length)(w:α):(FM_ T c w).flatten.length=T.flatten.length+1:=by have:=lm_ (ins (T.getD c.1 []) c.2 w) T c.1 h;rw [gy_] at this;unfold FM_;lia
theorem aN_ (T:List (List α))(c:Nat×Nat)(w:α):(FM_ T c w).length=T.length:=by unfold FM_;simp
theorem hA_ {T:List (List α)}{c:Nat×Nat}(w:α)(p:Nat):rl T p<=rl (FM_ T c w) p:=by
 unfold FM_ rl;rw [Ac_,Ac_,Bj_];by_cases h:c.1=p
 ·subst h;by_cases h2:c.1<T.length
  ·simp only [if_true,h2,C3_,gy_];rw [Ac_];lia
  ·simp [h2,BA_ (Cw_.mp h2)]
 ·simp [h]
structure Gr (P W:Nat)(T:List (List Nat)):Prop where
 len:P<=T.length
 most:T.length<=P+10
 two:∀ w,w<W->T.flatten.count w=2
 lt:∀ w∈T.flatten,w<W
 ne:∀ p,P<=p->p<T.length->0<rl T p
 tot:T.flatten.length=2*W
theorem Gr.tw {P W:Nat}{T:List (List Nat)}(g:Gr P W T):Tw T:=fun w h=>g.two w (g.lt w h)
theorem oK_ (P:Nat):Gr P 0 (List.replicate P []):=by
 have e:(List.replicate P ([]:List Nat)).flatten=[]:=by
  induction P with
  | zero=>rfl
  | succ n ih=>rw [List.replicate_succ,AJ_,ih];rfl
 exact ⟨by simp,by simp,fun w h=>absurd h (by lia),fun w h=>(by rw [e] at h;cases h),fun p h1 h2=>(by simp at h2;lia),(by rw [e];rfl)⟩
theorem hZ_ {T:List (List Nat)}{c:Nat×Nat}(h:c.1<T.length){w x:Nat}(hx:x∈(FM_ T c w).flatten):x=w\/x∈T.flatten:=by
 by_cases e:x=w
 ·exact .inl e
 ·right;have:=Ci_.mpr hx;rw [dL_ h,if_neg (fun z=>e z.symm)] at this;exact Ci_.mp (by lia)
theorem p3_ {P W:Nat}{T:List (List Nat)}{c:Nat×Nat}(g:Gr P W T)(hc:c.1<T.length)(h:T.length<P+10):Gr P (W+1) (FM_ T c W++[[W]]):=by
 have fl:(FM_ T c W++[[W]]).flatten=(FM_ T c W).flatten++[W]:=by rw [A6_];simp
 refine ⟨by simp [aN_];have:=g.len;lia,by simp [aN_];lia,fun w hw=>?_,fun w hw=>?_,fun p h1 h2=>?_,?_⟩
 ·rw [fl,Bz_,dL_ hc];by_cases e:w=W
  ·subst e;have:T.flatten.count w=0:=BW_.mpr fun z=>absurd (g.lt w z) (by lia);simp [this]
  ·have:=g.two w (by lia);rw [if_neg (fun z=>e z.symm),this];rw [BW_.mpr fun z=>e (Ai_.mp z)]
 ·rw [fl] at hw
  rcases Ax_.mp hw with hw|hw
  ·rcases hZ_ hc hw with e|e
   ·lia
   ·have:=g.lt w e;lia
  ·have:=Ai_.mp hw;lia
 ·simp only [Ah_,aN_,A4_] at h2;by_cases e:p<T.length
  ·have:=g.ne p h1 e;have a:=hA_ (T:=T) (c:=c) W p;unfold rl at a ⊢;rw [Ac_,AP_ (by rw [aN_];exact e),<-Ac_];unfold rl at this;lia
  ·have e:p=T.length:=by lia
   subst e;unfold rl;rw [Ac_,A2_ (by rw [aN_];exact Af_ _),aN_];simp
 ·rw [fl,Ah_,hY_ hc,g.tot];simp;lia
theorem qZ_ {P W:Nat}{T:List (List Nat)}{c d:Nat×Nat}(g:Gr P W T)(hc:c.1<T.length)(hd:d.1<T.length):Gr P (W+1) (FM_ (FM_ T c W) d W):=by
 have hd':d.1<(FM_ T c W).length:=by rw [aN_];exact hd
 refine ⟨by rw [aN_,aN_];exact g.len,by rw [aN_,aN_];exact g.most,fun w hw=>?_,fun w hw=>?_,fun p h1 h2=>?_,?_⟩
 ·rw [dL_ hd',dL_ hc];by_cases e:w=W
  ·subst e;have:T.flatten.count w=0:=BW_.mpr fun z=>absurd (g.lt w z) (by lia);simp [this]
  ·rw [if_neg (fun z=>e z.symm),g.two w (by lia)]
 ·rcases hZ_ hd' hw with e|e
  ·lia
  ·rcases hZ_ hc e with e|e
   ·lia
   ·have:=g.lt w e;lia
 ·rw [aN_,aN_] at h2;have:=g.ne p h1 h2;have a:=hA_ (T:=T) (c:=c) W p;have b:=hA_ (T:=FM_ T c W) (c:=d) W p;lia
 ·rw [hY_ hd',hY_ hc,g.tot];lia
theorem h0_ {T:List (List α)}{P:Nat}:(corners T P).length<=T.flatten.length+P:=by
 have key:∀ n,n<=T.length->((List.range n).flatMap fun p=>(List.range (rl T p+(if p<P then 1 else 0))).map fun k=>(p,k)).length<=(T.take n).flatten.length+min n P:=fun n=>by
  induction n with
  | zero=>intro _;simp
  | succ n ih =>
   intro h;have i:=ih (by lia);have e:T[n]?=some T[n]:=Aa_ (by lia);rw [BJ_,CA_,Ah_,Be_,e,A6_,Ah_];have r:rl T n=T[n].length:=by unfold rl;rw [Ac_,e];rfl
   simp only [List.flatMap_cons,List.flatMap_nil,Bd_,Ab_,Ba_,Option.toList_some,AJ_,DZ_,r];split <;> lia
 have:=key T.length (Af_ _);rw [Cb_] at this;unfold corners;lia
theorem Gr.corners {P W:Nat}{T:List (List Nat)}(g:Gr P W T):(corners T P).length<=2*W+P:=by have:=h0_ (T:=T) (P:=P);rw [g.tot] at this;exact this
end RimT
namespace L2
open PySem PySem.Spec PyProof.Rows
theorem bV_ {X:Cx}{K:PySem.W.Frag}(hK:X.K=K):IxR X (K8_ K):=hK ▸ pl_
def GM_ (n:Nat):List V:=(List.range n).map fun i:Nat=>V.int (i:Int)
def HL_ (ta:TA):TE:=fun σ H Q=>ta σ H fun vs H1=>∃ n:Nat,vs=[.int (n:Int)]/\n<=1000/\∀ l,H1 l=none->Q (.ref l) (upd H1 l (.lst (GM_ n)))
theorem l4_:∀ {xs:List V}{us:List Value},xs.length=us.length->(∀ (j:Nat) x u,xs[j]?=some x->us[j]?=some u->Fs_ x u)->Fm_ xs us
 | [],[],_,_=>.nil
 | [],_::_,h,_=>by simp at h
 | _::_,[],h,_=>by simp at h
 | x::xs,u::us,h,k=>.cons (k 0 x u rfl rfl) (l4_ (by simpa using h) fun j y v e e'=>k (j+1) y v (by simpa using e) (by simpa using e'))
theorem ko_ {X:Cx}{a:Expr}{ta:TA}{p p' pos pos':Pos}(hc:X.calm=true)(hg:Gl X "list") (hm:X.mg "list" = none) (hg':Gl X "range") (hm':X.mg "range" = none) (ha:PA X [a] ta) (hs:E8_ [a]=true:=by rfl) :
  PE X (.Call (.Name "list" p) [.Call (.Name "range" p') [a] [] pos'] [] pos) (HL_ ta):=by
 have h':FP_ a=true:=by simpa [E8_] using hs
 intro pins s σ H Q I h;refine Bt_ (e9_ I hg hm dc_ ?_ (by decide) (by decide));refine Bs_ ?_ (aw_ rfl) rfl;rw [aw_ (e:=.Call (.Name "range" p') [a] [] pos') (es:=[]) rfl];show wpAny _ _ (spliced ((false,eval (.Call (.Name "range" p') [a] [] pos') X.env)::backTo pos (starEach [] X.env))) _ _ s;refine Cf_ ?_;refine Call_ (e9_ I hg' hm' boot_range (Bs_ (thn (ha pos' pins s σ H _ I h) fun us s1 ⟨vs,H1,I1,r1,q1⟩=>?_) (aw_ h') rfl));obtain ⟨n,e,n1,q⟩:=q1;subst e;cases r1 with
 | cons r rr =>
  cases rr;obtain ⟨t,rfl⟩:=r;refine call_range_1 ?_;refine CS_ ?_;have I2:Inv X pins σ H1 { s1 with heap:=s1.heap.push { cls:=.type "range",data:=.fields #[.int 0 s1.toks,.int (n:Int) t,.int 1 (s1.toks+1)] },toks:=s1.toks+1+1 }:=I1.kept fun b o e=>Aj_ _ e;refine call_list_range (n:=n) (I2.ok.hd hc) (IsRange.new ..) (small_one (by lia) (by lia) (by lia) (by lia)) (by rw [rangeSize_one];split <;> lia) (by lia) fun h2 tk acc c hk hS hacc=>?_;refine ⟨.ref _,_,I2.laid (t':=tk) hk (Af_ _) (show FD_ X.prog X.w _ h2 _ (.lst (GM_ n)) from ⟨?_,acc.toList,c,l4_ ?_ ?_,by simpa using hS⟩),rfl,q _ (I2.hok.fresh (Af_ _))⟩
  ·exact AR_ (EY_ (by simp [GM_];lia))
  ·simp [GM_,hacc.1]
  ·intro j x u hx hu;have hj:j<n:=by have:=(Ag_.mp hx).1;simpa [GM_] using this
   have hx':x=V.int (j:Int):=by rw [GM_,Ae_,CB_ hj] at hx;exact (Aq_ hx).symm
   obtain ⟨tk',rfl⟩:=hacc.2 j u (by simpa using hu);rw [hx'];exact ⟨tk',by rw [Bw_,Int.mul_one]⟩
end L2
namespace L2
open PySem PySem.Spec PyProof.Rows PySem.W
def F6_ {α:Type}(lt:Nat->Nat->Bool)(n:Nat):KasT α->Option α
 | .ret a=>some a
 | .ask i j k=>if i<n/\j<n then F6_ lt n (k (lt i j)) else none
theorem nw_ {α:Type}{ask:Nat->Nat->(Bool->Shared->Prop)->Shared->Prop}{lt:Nat->Nat->Bool}{n:Nat}{Q:α->Shared->Prop}{s:Shared}(hc:∀ i j (C:Bool->Shared->Prop),i<n->j<n->C (lt i j) s->ask i j C s) :
  ∀ (t:KasT α){p:α},F6_ lt n t=some p->Q p s->t.kasWp ask Q s
 | .ret a,p,e,q=>by
  cases e;exact q
 | .ask i j k,p,e,q=>by
  unfold F6_ at e;split at e
  ·rename_i h;exact hc i j _ h.1 h.2 (nw_ hc (k (lt i j)) e q)
  ·cases e
section
variable {X:Cx}{pins:List (Addr×Obj)}{σ:St}{H:Hp}{s:Shared}
theorem q0_ {h:Heap}{a:Addr}{m m':Str->Option Value}(x:h.Ns a m)(y:h.Ns a m'):m=m':=by obtain ⟨o,es,ep,ho,hd,_,hf⟩:=x;obtain ⟨o',es',ep',ho',hd',_,hf'⟩:=y;rw [ho] at ho';cases ho';rw [hd] at hd';cases hd';funext z;rw [<-hf z,hf' z]
theorem Inv.keeps (I:Inv X pins σ H s){m:Str->Option Value}{h':Heap}(F:Fr X.base X.env.locals h' m)(N:News X.base X.env.locals h' (FN_ X.base s.heap X.env.locals)) :
  ∀ b o,b≠X.env.locals->s.heap.get? b=some o->h'.get? b=some o:=fun b o hb e=>by
 cases q:X.base.get? b with
 | some u =>
  have z:=I.bk b u q;rw [e] at z;cases z;exact F.keep b _ q
 | none=>exact (N (b,o) (dF_ hb q e)).1
theorem Inv.led {H':Hp}{t':Nat}(I:Inv X pins σ H s){m:Str->Option Value}(hn:s.heap.Ns X.env.locals m){h':Heap}(F:Fr X.base X.env.locals h' m)(N:News X.base X.env.locals h' (FN_ X.base s.heap X.env.locals))
  (free:∀ b o,s.heap.get? b=some o->H b=none->H' b=none) (old:∀ b o,H b=some o->H' b=some o) (new:∀ b o,H' b=some o->H b=none->FD_ X.prog X.w H' h' b o):Inv X pins σ H' { s with heap:=h',toks:=t' }:=by
 have kp:=I.keeps F N;refine I.step (g':=s.gens) (d':=s.drawn) (ch:=[]) (fun _ z=>nomatch z) (fun b o hb _ _ e _=>kp b o hb e) (fun b o hb _ _ e _=>⟨o.slots,kp b o hb e⟩) (fun b o _ e n=>free b o e n) (fun b o _ e=>?_) (fun b xs q=>old b _ q) (fun b o u q=>old b _ q) (fun b ps q=>⟨#[],by simpa using old b _ q⟩) (fun m' hm=>?_) ?_ I.bare
 ·by_cases hb:b=X.env.locals
  ·subst hb;obtain ⟨o',_,_,ho',_⟩:=F.ns;exact ⟨o',ho'⟩
  ·exact ⟨o,kp b o hb e⟩
 ·rw [q0_ hm hn];exact F.ns
 ·intro b o e;cases q:H b with
  | none=>exact new b o e q
  | some u =>
   have z:=old b u q;rw [e] at z;cases z;refine (I.hok b o q).stay (fun c v hc r=>kp c v (fun w=>?_) r) (fun c r=>old c _ r) fun c xs r=>old c _ r
   rcases hc with rfl|hc
   ·rw [w,I.free] at q;cases q
   ·rw [w,I.free] at hc;cases hc
theorem kp_ {ys:List V}{its:List Value}(r:Fm_ ys its)(is:List Nat):Fm_ (is.map fun i=>ys.getD i .non) (is.map fun i=>its.getD i Value.none):=by
 induction is with
 | nil=>exact .nil
 | cons i is ih =>
  refine .cons ?_ ih;show Fs_ (ys.getD i .non) (its.getD i Value.none);rw [Ac_,Ac_];have hl:=r.length;cases e:ys[i]? with
  | none =>
   have:ys.length<=i:=DJ_.mp e;rw [DJ_.mpr (by lia)];exact rfl
  | some x =>obtain ⟨u,hu,ru⟩:=r.get e;rw [hu];exact ru
theorem Ka_ {P:Program}{w:World}{H:Hp}{h:Heap}{a:Addr}{o:HO}(x:FD_ P w H h a o):∃ ob,h.get? a=some ob:=by
 cases o with
 | lst xs=>obtain ⟨_,_,_,_,e⟩:=x;exact ⟨_,e⟩
 | tup xs=>obtain ⟨_,_,_,ob,e,_⟩:=x;exact ⟨_,e⟩
 | dK kvs=>obtain ⟨_,_,_,_,ob,_,_,e,_⟩:=x;exact ⟨_,e⟩
 | dT kvs=>obtain ⟨_,_,_,_,ob,_,_,e,_⟩:=x;exact ⟨_,e⟩
 | set S n=>obtain ⟨ob,_,_,_,e,_⟩:=x;exact ⟨_,e⟩
 | ins C dx fs=>obtain ⟨_,_,_,e,_⟩:=x;exact ⟨_,e⟩
 | own y=>exact x
 | xd fs=>obtain ⟨_,⟨ob,_,_,e,_⟩,_⟩:=x;exact ⟨_,e⟩
 | rng lo hi=>obtain ⟨_,_,_,e⟩:=x;exact ⟨_,e⟩
 | frz ob u=>exact ⟨_,x.1⟩
 | tbl ps=>exact ⟨_,show h.get? a=some _ from x⟩
 | met f y=>exact ⟨_,show h.get? a=some _ from x⟩
 | ext φ=>exact x.2.1
theorem nx_ {Q:VK}{p:Addr}{ys:List V}{lt:Nat->Nat->Bool}{κ:SortKind}{pm:Array Nat}(I:Inv X pins σ H s)(hq:SqL X.K H p ys)(h2:2<=ys.length)(h64:ys.length<64)
  (kind:∀ (its:List Value)(s':Shared),Fm_ ys its->Inv X pins σ H s'->∀ C:SortKind->Shared->Prop,C κ s'->wpAny (model X.prog X.w) X.A.in1.in1 (keyKind' its.toArray) C (fun _ _=>False) s')
  (less:∀ (its:List Value)(s':Shared)(i j:Nat),Fm_ ys its->Inv X pins σ H s'->i<ys.length->j<ys.length->∀ C:Bool->Shared->Prop,C (lt i j) s'->wpAny (model X.prog X.w) X.A.in1.in1 (keyLt' κ (its.getD i Value.none) (its.getD j Value.none)) C (fun _ _=>False) s')
  (run:F6_ lt ys.length (kas_sort ys.length)=some pm) (hz:pm.size<=1000) (q:∀ l,H l=none->Q (.ref l) (upd H l (.lst (pm.toList.map fun i=>ys.getD i .non)))) :
  wpAny (model X.prog X.w) X.A (call (.builtin "sorted") [.ref p]) (EP X pins σ Q) X.xe s:=by
 obtain ⟨its,rv,pl,_⟩:=I.list hq;have hl:=rv.length;obtain ⟨m,hn,_⟩:=id I.loc;have F0:Fr X.base X.env.locals s.heap m:=⟨hn,I.bk,Ay_ I.ok.bsz I.ok.above⟩;refine kat_sorted F0 jj_ pl.isList (by lia) (by lia) fun D e1 h1 F1 N1 lt1=>?_;have N1':News X.base X.env.locals h1 (FN_ X.base s.heap X.env.locals):=fun z hz'=>N1 z (An_ _ hz');have ND:=N1 (D,_) At_;have fr:∀ b o,s.heap.get? b=some o->b≠D:=fun b o e w=>by subst w;exact absurd (lt1 (b,o) (dF_ ND.2.1 ND.2.2 e)) (Bv_ _)
 have HD:H D=none:=by
  cases w:H D with
  | none=>rfl
  | some u =>obtain ⟨o,g⟩:=Ka_ (I.hok D u w);exact absurd rfl (fr D o g)
 have I1:Inv X pins σ H { s with heap:=h1,toks:=s.toks }:=I.led hn F1 N1' (fun _ _ _ n=>n) (fun _ _ w=>w) (fun b o w n=>by rw [w] at n;cases n);refine kind its _ rv I1 _ ?_;rw [<-hl];refine nw_ (lt:=lt) (n:=ys.length) (fun i j C hi hj hC=>less its _ i j rv I1 hi hj C hC) _ run ?_;refine KasFin.intro F1 N1 (.head fun z hz' w=>?_) fun h2' c F2 N2=>?_
 ·exact absurd (lt1 z hz') (by rw [w];exact Bv_ _)
 ·have N2':News X.base X.env.locals h2' (FN_ X.base s.heap X.env.locals):=fun z hz'=>N2 z (An_ _ hz');have hD:=(N2 (D,_) At_).1;refine ⟨.ref D,upd H D (.lst (pm.toList.map fun i=>ys.getD i .non)),I.led (t':=s.toks) hn F2 N2' (fun b o e n=>by rw [ah_ (fr b o e)];exact n) (fun b o e=>by rw [ah_ (af_ e HD)];exact e) (fun b o e n=>?_),rfl,q D HD⟩;by_cases hb:b=D
  ·subst hb;rw [aa_] at e;cases e;exact ⟨AR_ (EY_ (by simp;lia)),_,c,kp_ rv _,hD⟩
  ·rw [ah_ hb,n] at e;cases e
end
end L2
namespace L2
open PySem PySem.Spec PyProof.Rows PySem.W HT
section
open PySem.SeqAt
open PySem.AutoSeq1 (wpAny_loadPart')
open PySem.MeetsSeq PySem.MeetsSeq2 PySem.MeetsSeq3
end
section
variable {prog:Program}{w:World}{A:Around}{E:Value->Shared->Prop}{s:Shared}
end
end L2
namespace L2
open PySem PySem.Spec PyProof.Rows PySem.W HT
section
variable {X:Cx}{pins:List (Addr×Obj)}{σ:St}{H:Hp}{s:Shared}
end
end L2
namespace L2
open PySem PyProof.Rows PySem.W
theorem bx_ {α β:Type}{lt:Nat->Nat->Bool}{N:Nat}{f:α->KasT β}:∀ (t:KasT α){a:α},F6_ lt N t=some a->F6_ lt N (t.bind f)=F6_ lt N (f a)
 | .ret b,a,e=>by cases e;rfl
 | .ask i j k,a,e=>by
  unfold F6_ at e;show (if i<N/\j<N then F6_ lt N ((k (lt i j)).bind f) else none)=_;split at e
  ·rename_i h;rw [if_pos h];exact bx_ (k (lt i j)) e
  ·cases e
section
variable {lt:Nat->Nat->Bool}{N:Nat}
def Pm (N:Nat)(p:Array Nat):Prop:=p.Perm (List.toArray (List.range N))
theorem Pm.below {p:Array Nat}(h:Pm N p)(h0:0<N)(i:Nat):p.getD i 0<N:=by
 by_cases hi:i<p.size
 ·have e:p.getD i 0=p[i]:=by simp [Array.getD,hi]
  have m:p[i]∈(List.range N):=by
   have:p[i]∈p.toList:=by simp
   exact (Bi_.mp h).mem_iff.mp this
  rw [e];exact A3_.mp m
 ·have e:p.getD i 0=0:=by simp [Array.getD,hi]
  rw [e];exact h0
theorem ln_ {p:Array Nat}(h:Pm N p)(h0:0<N):∀ (f n:Nat),∃ m,F6_ lt N (kas_asc p f n)=some m
 | 0,n=>⟨n,rfl⟩
 | f+1,n=>by
  unfold kas_asc F6_;rw [if_pos ⟨h.below h0 _,h.below h0 _⟩];cases lt (p.getD n 0) (p.getD (n-1) 0) with
  | true=>exact ⟨n,rfl⟩
  | false=>exact ln_ h h0 f (n+1)
theorem Pm.rev {p:Array Nat}(h:Pm N p)(i j:Nat):Pm N (kas_rev p i j):=(mirror_perm _ _ _ _).trans h
theorem hB_ (h0:0<N):∀ (f:Nat)(p:Array Nat)(n q:Nat),Pm N p->∃ r,F6_ lt N (kas_desc f p n q)=some r/\Pm N r.1
 | 0,p,n,q,h=>⟨_,rfl,h⟩
 | f+1,p,n,q,h=>by
  unfold kas_desc F6_;rw [if_pos ⟨h.below h0 _,h.below h0 _⟩];cases lt (p.getD n 0) (p.getD (n-1) 0) with
  | true =>
   simp only [if_true];split
   ·exact hB_ h0 f _ _ _ (h.rev _ _)
   ·exact hB_ h0 f _ _ _ h
  | false =>
   simp only [BX_,C1_];unfold F6_;rw [if_pos ⟨h.below h0 _,h.below h0 _⟩];cases lt (p.getD (n-1) 0) (p.getD n 0) with
   | true=>exact ⟨_,rfl,h⟩
   | false=>exact hB_ h0 f _ _ _ h
theorem kq_ (h0:0<N){n r:Nat}{p:Array Nat}(h:Pm N p):∃ z,F6_ lt N (kas_tail3 n r p)=some z/\Pm N z.2:=by obtain ⟨m,hm⟩:=ln_ (lt:=lt) (h.rev 0 n) h0 (r-n) n;unfold kas_tail3;exact ⟨_,(bx_ _ hm).trans rfl,h.rev 0 n⟩
theorem g1_ (h0:0<N){n r:Nat}{p:Array Nat}(h:Pm N p):∃ z,F6_ lt N (kas_descPart n r p)=some z/\Pm N z.2:=by
 obtain ⟨d,hd,hp⟩:=hB_ (lt:=lt) h0 (r-(n+1)) p (n+1) 0 h;unfold kas_descPart;rw [bx_ _ hd];split
 ·exact kq_ h0 (hp.rev _ _)
 ·exact kq_ h0 hp
theorem ny_ (h0:0<N){r:Nat}{p:Array Nat}(h:Pm N p):∃ z,F6_ lt N (kas_count r p)=some z/\Pm N z.2:=by
 obtain ⟨m,hm⟩:=ln_ (lt:=lt) h h0 (r-1) 1;unfold kas_count;rw [bx_ _ hm];split
 ·exact ⟨_,rfl,h⟩
 ·split
  ·unfold F6_;rw [if_pos ⟨h.below h0 _,h.below h0 _⟩];cases lt (p.getD 0 0) (p.getD (m-1) 0) with
   | true=>exact ⟨_,rfl,h⟩
   | false=>exact g1_ h0 (h.rev _ _)
  ·exact g1_ h0 h
theorem h1_ (h0:0<N){p:Array Nat}(h:Pm N p)(k:Nat):∀ (f l r:Nat),∃ m,F6_ lt N (kas_place p k f l r)=some m
 | 0,l,r=>⟨l,rfl⟩
 | f+1,l,r=>by
  unfold kas_place;split
  ·exact ⟨l,rfl⟩
  ·unfold F6_;rw [if_pos ⟨h.below h0 _,h.below h0 _⟩];cases lt (p.getD k 0) (p.getD ((l+r)/2) 0) with
   | true=>exact h1_ h0 h k f l _
   | false=>exact h1_ h0 h k f _ r
theorem nz_ (h0:0<N):∀ (f:Nat)(p:Array Nat)(k:Nat),Pm N p->∃ z,F6_ lt N (kas_bin f p k)=some z/\Pm N z
 | 0,p,k,h=>⟨p,rfl,h⟩
 | f+1,p,k,h=>by obtain ⟨l,hl⟩:=h1_ (lt:=lt) h0 h k k 0 k;unfold kas_bin;rw [bx_ _ hl];exact nz_ h0 f _ _ ((bubble_perm _ _ _).trans h)
theorem l5_ (h0:0<N):∃ z,F6_ lt N (kas_sort N)=some z/\Pm N z:=by
 obtain ⟨r,hr,hp⟩:=ny_ (lt:=lt) h0 (r:=N) (p:=List.toArray (List.range N)) (Array.Perm.refl _);unfold kas_sort;rw [bx_ _ hr];split
 ·exact nz_ h0 _ _ _ hp
 ·exact ⟨_,rfl,hp⟩
end
end L2
namespace L2
open PySem PySem.Spec PyProof.Rows PySem.W
theorem eo_ {J:It}{g:TG}{tt:TT}{te:TE}{σ:St}{H:Hp}{Q:VK}(n:Nat)(B:Hp)(Pσ:St->Prop)(bs:Nat->Bool)(val:Nat->Dt)(hB:EX_ B H)(h0:Pσ σ)(hz:n<=1000)(hgo:∀ i H',i<n->EX_ H H'->J.go i H')(hst:∀ H',EX_ H H'->J.stop n H')
  (hs:∀ D i x σ' H' H'',H D=none->(∃ o,H' D=some o)->EX_ H H'->i<n->J.yld i H' x H''->Pσ σ'->∀ (Y:St->V->Hp->Prop)(R:St->Hp->Prop),(bs i=true->∀ σ2 v H3,Pσ σ2->EX_ H' H3->Rep (GN_ B D H3) v (val i)->Y σ2 v H3)->(bs i=false->∀ σ2 H3,Pσ σ2->EX_ H' H3->R σ2 H3) ->
   g x σ' H'' fun σ2 H2=>tt σ2 H2 fun b H3=>if b=true then te σ2 H3 fun v H4=>Y σ2 v H4 else R σ2 H3)
  (hd:∀ D H',H D=none->EX_ H H'->Rep (GK_ B H') (.ref D) (.lst (((List.range n).filter bs).map val))->Q (.ref D) H'):Gw_ J g tt te σ H Q:=by
 intro D hD;have hBD:B D=none:=hB.free hD;refine ⟨fun i m σ' H'=>m=n-i/\i<=n/\Pσ σ'/\EX_ H H'/\∃ ys,H' D=some (.lst ys)/\Fg_ (GN_ B D H') ys (((List.range i).filter bs).map val),⟨n,by simp,AA_ _,h0,EX_.new hD,[],aa_,rfl⟩,?_⟩;rintro i m σ' H' ⟨rfl,hi,hp,hs',ys,hys,hr⟩;have hl:ys.length<=i:=by rw [hr.length,Ab_];have:=Bp_ bs (List.range i);rw [Ba_] at this;exact this
 by_cases hlt:i<n
 ·refine .inr ⟨hgo i H' hlt hs',fun σ2 H2=>Pσ σ2/\EX_ H H2/\∃ ys,H2 D=some (.lst ys)/\Fg_ (GN_ B D H2) ys (((List.range (i+1)).filter bs).map val),fun σ2 H2 ⟨a,b,c⟩=>⟨n-(i+1),by lia,rfl,hlt,a,b,c⟩,fun x H'' hy=>?_⟩;refine hs D i x σ' H' H'' hD ⟨_,hys⟩ hs' hlt hy hp _ _ (fun hb σ2 v H3 hp2 s3 hv=>?_) fun hb σ2 H3 hp2 s3=>?_
  ·refine ⟨ys,s3 _ _ hys,EY_ (by lia),hp2,(hs'.trans s3).upd hD,ys++[v],aa_,?_⟩;rw [jq_,BJ_,BD_,Ap_];have e:([i].filter bs).map val=[val i]:=by simp [hb]
   rw [e];exact (Fg_.mono (fQ_ s3) _ hr).append ⟨v,[],rfl,hv,rfl⟩
  ·refine ⟨hp2,hs'.trans s3,ys,s3 _ _ hys,?_⟩;rw [BJ_,BD_,Ap_];have e:([i].filter bs).map val=[]:=by simp [hb]
   rw [e,Bd_];exact Fg_.mono (fQ_ s3) _ hr
 ·have e:i=n:=by lia
  subst e;refine .inl ⟨hst H' hs',hd D H' hD hs' ⟨D,ys,rfl,?_,Fg_.mono jp_ _ hr⟩⟩;rw [df_ hBD];exact hys
theorem Inv.frm {X:Cx}{pins:List (Addr×Obj)}{σ:St}{H:Hp}{s:Shared}(I:Inv X pins σ H s):∃ m,s.heap.Ns X.env.locals m/\Fr X.base X.env.locals s.heap m:=by obtain ⟨m,hn,_⟩:=id I.loc;exact ⟨m,hn,hn,I.bk,Ay_ I.ok.bsz I.ok.above⟩
theorem Inv.led_new {X:Cx}{pins:List (Addr×Obj)}{σ:St}{H:Hp}{s:Shared}{t':Nat}{m:Str->Option Value}{h':Heap}{D:Addr}{o:HO}{ob:Obj}(I:Inv X pins σ H s)(hn:s.heap.Ns X.env.locals m)(F:Fr X.base X.env.locals h' m)
  (N:News X.base X.env.locals h' ((D,ob)::FN_ X.base s.heap X.env.locals)) (lt1:∀ q∈FN_ X.base s.heap X.env.locals,q.1<D) (new:FD_ X.prog X.w (upd H D o) h' D o):H D=none/\Inv X pins σ (upd H D o) { s with heap:=h',toks:=t' }:=by
 have ND:=N (D,ob) At_;have fr:∀ b o,s.heap.get? b=some o->b≠D:=fun b o e w=>by subst w;exact absurd (lt1 (b,o) (dF_ ND.2.1 ND.2.2 e)) (Bv_ _)
 have HD:H D=none:=by
  cases w:H D with
  | none=>rfl
  | some u =>obtain ⟨o',g⟩:=Ka_ (I.hok D u w);exact absurd rfl (fr D o' g)
 refine ⟨HD,I.led hn F (fun z hz'=>N z (An_ _ hz')) (fun b o' e n=>by rw [ah_ (fr b o' e)];exact n) (fun b o' e=>by rw [ah_ (af_ e HD)];exact e) (fun b o' e n=>?_)⟩;by_cases hb:b=D
 ·subst hb;rw [aa_] at e;cases e;exact new
 ·rw [ah_ hb,n] at e;cases e
def KK_:List V->Hp->VK->Prop:=fun vs H Q=>∃ (p:Addr)(ns:List Int),vs=[.ref p]/\H p=some (.lst (ns.map V.int))/\ns.length<64/\∀ (l:Addr)(zs:List Int),H l=none->zs.Perm ns->zs.Pairwise (· <= ·)->Q (.ref l) (upd H l (.lst (zs.map V.int)))
theorem g2_:∀ {us:List Value}{ns:List Int},IntsAre us ns->Fm_ (ns.map V.int) us
 | _,_,.nil=>.nil
 | _,_,.cons n t h=>.cons ⟨t,rfl⟩ (g2_ h)
theorem iZ_ {X:Cx}:FW_ X (.builtin "sorted") KK_:=by intro pins s σ H xs us Q I r h;obtain ⟨p,ns,rfl,hp,h64,q⟩:=h;obtain ⟨u,rfl,e⟩:=F9_ r;cases e;obtain ⟨its,rv,pl,_⟩:=I.list (.inl (.inl hp));obtain ⟨m,hn,F0⟩:=I.frm;refine kso_sorted F0 jj_ pl.isList (mu_ rv) h64 fun D vs' zs c h' F N lt1 hz hlz hpm hpw _=>?_;have hD:=(N (D,_) At_).1;obtain ⟨HD,I2⟩:=I.led_new (t':=s.toks) (o:=.lst (zs.map V.int)) hn F N lt1 ⟨AR_ (EY_ (by rw [Ab_];lia)),vs',c,g2_ hz,hD⟩;exact ⟨.ref D,_,I2,rfl,q D zs HD hpm hpw⟩
end L2
namespace L2
open PySem PySem.Spec PyProof.Rows PySem.W
section
variable {prog:Program}{w:World}{A:Around}{E:Value->Shared->Prop}{s:Shared}
theorem LE_ {a:Addr}{v:Value}{n:Nat}{P:PySem.Fin->Shared->Prop}(ho:s.heap.get? a=some (seqObj "list" #[v] n))
  (h:∀ h' c,(∀ b o,b≠a->s.heap.get? b=some o->h'.get? b=some o)->h'.get? a=some (seqObj "list" #[v] c)->P (.done (.ret .none)) { s with heap:=h' }):wpAny (model prog w) A (Builtin.«list.sort» ⟨[.ref a],[]⟩) P E s:=by
 have s1:=Ds_ s.heap a (Obj.mapSeq fun _=>(#[]:Array Value));obtain ⟨e1,o1⟩:∃ e1,(s.heap.update a (Obj.mapSeq fun _=>(#[]:Array Value))).get? a=some (seqObj "list" #[] e1):=⟨_,Di_ ho fun _=>#[]⟩;rw [list_sort_plain];refine Ad_ (listItems_at ho rfl (Ad_ (DC_ ho rfl (Ad_ (Ek_ o1 rfl (Ad_ (wpAny_newTuple (Ad_ (DD_ (AZ_ ?_) (AA_ _))) ?_)))) ?_ (AA_ _))))
 ·dsimp only
  have lt2:(#[v]:Array Value).size<2:=by show 1<2;decide
  rw [if_pos lt2];refine Ad_ (Av_ ?_);rw [if_pos lt2];have k3:∀ b o,(s.heap.update a (Obj.mapSeq fun _=>(#[]:Array Value))).get? b=some o->(((s.heap.update a (Obj.mapSeq fun _=>(#[]:Array Value))).push (seqObj "tuple" #[v] 0)).push (seqObj "list" #[] 0)).get? b=some o:=fun b o e=>Aj_ _ (Aj_ _ e);have o3:=k3 _ _ o1;have st:failedOf (SortSt.mk' general' ((#[v]:Array Value).zip #[v]) #[] 7 none)=none:=rfl;have ar:(arrOf (SortSt.mk' general' ((#[v]:Array Value).zip #[v]) #[] 7 none)).map (fun x=>x.snd) = #[v]:=by rw [show arrOf (SortSt.mk' general' ((#[v]:Array Value).zip #[v]) #[] 7 none)=(#[v]:Array Value).zip #[v] from rfl];simp
  refine Ad_ (Av_ (a:=((),SortSt.mk' general' ((#[v]:Array Value).zip #[v]) #[] 7 none)) ?_);refine Ad_ (Ek_ o3 rfl (Ad_ (DC_ o3 rfl ?_ (AA_ _) ?_)))
  ·dsimp only
   rw [ar,if_neg (by simp)];obtain ⟨c2,o4⟩:∃ c2,((((s.heap.update a (Obj.mapSeq fun _=>(#[]:Array Value))).push (seqObj "tuple" #[v] 0)).push (seqObj "list" #[] 0)).update a (Obj.mapSeq fun _=>(#[v]:Array Value))).get? a=some (seqObj "list" #[v] c2):=⟨_,Di_ o3 fun _=>#[v]⟩;refine Av_ (h _ c2 (fun b o hb e=>?_) o4);rw [AX_ _ _ (Ne.symm hb)];refine k3 b o ?_;rw [AX_ _ _ (Ne.symm hb)];exact e
  ·rw [ar];exact (show 1<=sizeLine+1 from Nat.le_add_left 1 _)
 ·exact (show 1<=sizeLine from AR_ (EY_ (by decide)))
 ·exact (show 1<=sizeLine from AR_ (EY_ (by decide)))
theorem Kd_ {l:Addr}{v:Value}{Q:Value->Shared->Prop}(hl:s.heap.IsList l #[v])
  (h:∀ D h' c,s.heap.objs.size<=D->(∀ b o,s.heap.get? b=some o->h'.get? b=some o)->h'.get? D=some (seqObj "list" #[v] c)->Q (.ref D) { s with heap:=h' }):wpAny (model prog w) A (call (.builtin "sorted") [.ref l]) Q E s:=by
 refine Calls.call_function_entry kind_sorted plain_sorted entry_sorted (args_sorted1 _) ?_;unfold Builtin.«sorted»;have z1:(#[v]:Array Value).size<=sizeLine:=(show 1<=sizeLine from AR_ (EY_ (by decide)));refine Ad_ (m:=checkCount "sorted" 1 1 _) (Av_ (Ad_ (collect_list hl (Ad_ (DD_ ?_ z1)) z1)));have hz:((s.heap.push (seqObj "list" #[] 0)).update s.heap.objs.size (Obj.mapSeq fun x=>x ++ #[v])).objs.size=s.heap.objs.size+1:=by rw [Heap.size_update,size_push']
 have kp:∀ b o,s.heap.get? b=some o->(((s.heap.push (seqObj "list" #[] 0)).update s.heap.objs.size (Obj.mapSeq fun x=>x ++ #[v])).push (seqObj "list" #[v] 0)).get? b=some o:=fun b o q=>by have hlt:=As_ q;refine Aj_ _ ?_;rw [AX_ _ _ (DP_ hlt)];exact Aj_ _ q
 have ho:=AD_ ((s.heap.push (seqObj "list" #[] 0)).update s.heap.objs.size (Obj.mapSeq fun x=>x ++ #[v])) (o:=seqObj "list" #[v] 0) rfl;refine Ad_ (AZ_ (D0_ slot_list_sort ⟨_,ho,rfl⟩ entry_list_sort (LE_ (n:=0) ho fun h' c k2 hD=>⟨_,rfl,Av_ ⟨_,rfl,h _ h' c ?_ (fun b o e=>k2 b o ?_ (kp b o e)) hD⟩⟩) (args_list_sort _)))
 ·show s.heap.objs.size<=((s.heap.push (seqObj "list" #[] 0)).update s.heap.objs.size (Obj.mapSeq fun x=>x ++ #[v])).objs.size;rw [hz];exact Ei_ _
 ·have:=As_ e;show b≠((s.heap.push (seqObj "list" #[] 0)).update s.heap.objs.size (Obj.mapSeq fun x=>x ++ #[v])).objs.size;rw [hz];exact AE_ (BI_ this)
end
def Ks_:List V->Hp->VK->Prop:=fun vs H Q=>∃ (p:Addr)(y:V),vs=[.ref p]/\H p=some (.lst [y])/\∀ l,H l=none->Q (.ref l) (upd H l (.lst [y]))
theorem mz_ {X:Cx}:FW_ X (.builtin "sorted") Ks_:=by intro pins s σ H xs us Q I r h;obtain ⟨p,y,rfl,hp,q⟩:=h;obtain ⟨u,rfl,e⟩:=F9_ r;cases e;obtain ⟨its,rv,pl,_⟩:=I.list (.inl (.inl hp));obtain ⟨v,rfl,ry⟩:=F9_ rv;refine Kd_ pl.isList fun D h' c hD kp ho=>?_;exact ⟨.ref D,_,I.laid (t':=s.toks) kp hD (show FD_ X.prog X.w _ h' _ (.lst [y]) from ⟨(show 1<=sizeLine from AR_ (EY_ (by decide))),[v],c,rv,ho⟩),rfl,q _ (I.hok.fresh hD)⟩
end L2
namespace L2
open PySem PySem.Spec PyProof.Rows PySem.W
section
variable {prog:Program}{w:World}{A:Around}{E:Value->Shared->Prop}{s:Shared}
end
end L2
namespace L2
open PySem PySem.Spec PyProof.Rows PySem.W
section
variable {prog:Program}{w:World}{A:Around}{E:Value->Shared->Prop}{s:Shared}{h₀:Heap}{L a:Addr}{m:Str->Option Value}{news:List (Addr×Obj)}{vs:List Value}
abbrev Hb_:List (Str×Value):=[(Str.ofString "reverse",.bool true)]
def Jt_ (a:Addr)(before:Nat)(st:SortSt):Sem PySem.Fin:=do
 let out:=(arrOf st).map (·.2)
 let moved:=(<-seqEpoch a) != before
 Builtin.List.listUpdate (.ref a) fun _=>out.reverse
 if let some x:=failedOf st then rule "list.sort.comparison-raised";throw x
 if moved then rule "list.sort.modified";raiseError "ValueError" "list modified during sort"
 ret .none
def IO_ (a:Addr)(xs:Array Value)(before:Nat):Sem PySem.Fin:=do
 let two:=xs.zip xs
 rule "list.sort.reverse"
 let kd <-if xs.size<2 then pure general' else keyKind' xs
 let ((),st) <-(if xs.size<2 then pure () else sortRuns').run (SortSt.mk' kd two.reverse #[] 7 none)
 Jt_ a before st
theorem ju_ (a:Addr):Builtin.«list.sort» ⟨[.ref a],Hb_⟩=(Builtin.List.listItems (.ref a) >>= fun xs=>Builtin.List.listUpdate (.ref a) (fun _=>#[]) >>= fun _=>seqEpoch a >>= fun before=>newTuple xs.toList >>= fun held=>newList [] >>= fun store=>holding [held,store] (IO_ a xs before)):=rfl
theorem p4_ (xs:List Value):((List.toArray xs).zip (List.toArray xs)).reverse=(List.toArray xs.reverse).zip (List.toArray xs.reverse):=by have e:=kat_pairs (ks:=xs) (vs:=xs) true rfl;rw [if_pos rfl] at e;exact e
theorem oL_ {n:Nat}{P:PySem.Fin->Shared->Prop}(F0:Fr h₀ L s.heap m)(N0:News h₀ L s.heap news)(got:s.heap.get? a=some (seqObj "list" vs.toArray n)) (aL:a≠L) (a0:h₀.get? a=none) (na:∀ q∈news,q.1≠a) (two:2<=vs.length) (few:vs.length<64)
  (ask:∀ c h',Fr h₀ L h' m->News h₀ L h' ((a,seqObj "list" #[] c)::news)->wpAny (model prog w) A (keyKind' vs.toArray) (fun κ s1=>(kas_sort vs.length).kasWp (kas_ask prog w A κ vs.reverse) (fun p s2=>KasFin h₀ L m a c ((p.toList.map fun i=>vs.reverse.getD i Value.none).reverse) (fun s3=>P (.done (.ret .none)) s3) s2) s1) (fun _ _=>False) { s with heap:=h' }) :
  wpAny (model prog w) A (Builtin.«list.sort» ⟨[.ref a],Hb_⟩) P E s:=by
 have lt:=As_ got;have b1:=Ds_ s.heap a (Obj.mapSeq fun _=>(#[]:Array Value));obtain ⟨c,got1⟩:∃ c,(s.heap.update a (Obj.mapSeq fun _=>(#[]:Array Value))).get? a=some (seqObj "list" #[] c):=⟨_,Di_ got fun _=>#[]⟩;have F1:=((kas_fr F0 b1 aL a0).push (seqObj "tuple" vs.toArray 0)).push (seqObj "list" #[] 0);have N1:=(kas_news N0 b1 na).grown (h':=((s.heap.update a (Obj.mapSeq fun _=>(#[]:Array Value))).push (seqObj "tuple" vs.toArray 0)).push (seqObj "list" #[] 0)) fun b x e=>Aj_ _ (Aj_ _ e)
 have N2:News h₀ L (((s.heap.update a (Obj.mapSeq fun _=>(#[]:Array Value))).push (seqObj "tuple" vs.toArray 0)).push (seqObj "list" #[] 0)) ((a,seqObj "list" #[] c)::news):=fun q hq=>by
  rcases Ao_.mp hq with rfl|hq
  ·exact ⟨Aj_ _ (Aj_ _ got1),aL,a0⟩
  ·exact N1 q hq
 have asked:=ask c _ F1 N2;have big:64<=sizeLine:=by rw [CV_];decide
 rw [ju_];refine Ad_ (listItems_at got rfl (Ad_ (DC_ got rfl (Ad_ (Ek_ got1 rfl (Ad_ (wpAny_newTuple (Ad_ (DD_ (AZ_ ?_) (AA_ _))) (by show vs.length<=_;lia))))) (by rw [Am_];lia) (AA_ _))));show wpAny (model prog w) A (IO_ a vs.toArray c) P E { s with heap:=((s.heap.update a (Obj.mapSeq fun _=>(#[]:Array Value))).push (seqObj "tuple" vs.toArray 0)).push (seqObj "list" #[] 0) };unfold IO_
 dsimp only
 have n2:¬ vs.toArray.size<2:=by rw [Am_];lia
 rw [if_neg n2,if_neg n2,p4_];refine Ad_ (Db_ (Ad_ (Bl_ asked (fun κ s0 hk=>?_) fun _ _ x=>x.elim)));have rl:vs.reverse.length=vs.length:=Cc_
 refine Ad_ (Bl_ (kat_run (ks:=vs.reverse) (vs:=vs.reverse) (Q:=fun st s1=>∃ p:Array Nat,p.size=vs.length/\arrOf st=p.map (kas_item (vs.reverse.toArray.zip vs.reverse.toArray))/\failedOf st=none/\KasFin h₀ L m a c ((p.toList.map fun i=>vs.reverse.getD i Value.none).reverse) (fun s2=>P (.done (.ret .none)) s2) s1)
  rfl (by lia) (by lia) (fun p st s1 x1 x2 x3 x4=>⟨p,by rw [x1,rl],x2,x3,x4⟩) (by rw [rl];exact hk)) ?_ fun _ _ e=>e)
 rintro ⟨⟨⟩,st⟩ s1 ⟨p,hp,har,hf,news1,g,F2,N3,U,k⟩;obtain ⟨pre,post,e0,hg,x1,x2⟩:=U.split;rw [e0] at N3;have now:=N3 (a,seqObj "list" #[] c) (AM_ _ (.head _));have out:=kat_snds (ks:=vs.reverse) (vs:=vs.reverse) rfl har;have outr:((arrOf st).map (·.2)).reverse=List.toArray ((p.toList.map fun i=>vs.reverse.getD i Value.none).reverse):=by rw [out];simp
 unfold Jt_
 dsimp only
 rw [outr];have sz:(List.toArray ((p.toList.map fun i=>vs.reverse.getD i Value.none).reverse)).size=vs.length:=by rw [Am_,Cc_,Ab_,Dr_,hp]
 have b2:=Ds_ s1.heap a (Obj.mapSeq fun _=>List.toArray ((p.toList.map fun i=>vs.reverse.getD i Value.none).reverse));obtain ⟨c2,got2⟩:∃ c2,(s1.heap.update a (Obj.mapSeq fun _=>List.toArray ((p.toList.map fun i=>vs.reverse.getD i Value.none).reverse))).get? a=some (seqObj "list" (List.toArray ((p.toList.map fun i=>vs.reverse.getD i Value.none).reverse)) c2):=⟨_,Di_ now.1 fun _=>List.toArray ((p.toList.map fun i=>vs.reverse.getD i Value.none).reverse)⟩;refine Ad_ (Ek_ now.1 rfl (Ad_ (DC_ now.1 rfl ?_ (AA_ _) (by rw [sz];lia))));rw [hf];simp only [bne_self_eq_false,BX_,C1_];refine Av_ (k _ c2 (kas_fr F2 b2 now.2.1 now.2.2) ?_);rw [hg];exact news_set N3 x1 x2 b2 got2
theorem kr_ (x:Value):argsOk "sorted" ⟨[x],Hb_⟩:=by unfold argsOk;kernel_rfl
theorem mA_ (x:Value):argsOk "list.sort" ⟨[x],Hb_⟩:=by unfold argsOk;kernel_rfl
theorem mB_ {l:Addr}{Q:Value->Shared->Prop}(F0:Fr h₀ L s.heap m)(N0:News h₀ L s.heap news)(isl:s.heap.IsList l vs.toArray)(two:2<=vs.length)(few:vs.length<64)
  (ask:∀ D c h',Fr h₀ L h' m->News h₀ L h' ((D,seqObj "list" #[] c)::news)->(∀ q∈news,q.1<D)->wpAny (model prog w) A.in1.in1 (keyKind' vs.toArray) (fun κ s1=>(kas_sort vs.length).kasWp (kas_ask prog w A.in1.in1 κ vs.reverse) (fun p s2=>KasFin h₀ L m D c ((p.toList.map fun i=>vs.reverse.getD i Value.none).reverse) (fun s3=>Q (.ref D) s3) s2) s1) (fun _ _=>False) { s with heap:=h' }) :
  wpAny (model prog w) A (call (.builtin "sorted") [.ref l] Hb_) Q E s:=by
 have big:64<=sizeLine:=by rw [CV_];decide
 refine call_function_entry_kw kind_sorted plain_sorted entry_sorted (kr_ _) ?_;unfold Builtin.«sorted»;refine Ad_ (m:=checkCount "sorted" 1 1 _) (Av_ (Ad_ (collect_list isl (Ad_ (DD_ ?_ (by lia))) (by lia))));have sz:((s.heap.push (seqObj "list" #[] 0)).update s.heap.objs.size (Obj.mapSeq (· ++ vs.toArray))).objs.size=s.heap.objs.size+1:=(Heap.size_update ..).trans (size_push' ..);obtain ⟨hx,ex⟩:∃ hx,hx=(s.heap.push (seqObj "list" #[] 0)).update s.heap.objs.size (Obj.mapSeq (· ++ vs.toArray)):=⟨_,rfl⟩;rw [<-ex] at sz;have got:(hx.push (seqObj "list" vs.toArray 0)).get? (s.heap.objs.size+1)=some (seqObj "list" vs.toArray 0):=by rw [<-sz];exact AD_ _ rfl
 have kp:∀ b o,s.heap.get? b=some o->(hx.push (seqObj "list" vs.toArray 0)).get? b=some o:=fun b o q=>by have hb:=As_ q;rw [DG_ _ _ _ (by rw [sz];exact AE_ (BI_ hb)),ex,Heap.get?_update_ne _ _ _ _ (AE_ hb),DG_ _ _ _ (AE_ hb)];exact q
 have hL:=F0.ns.lt;show wpAny _ _ _ _ _ { s with heap:=((s.heap.push (seqObj "list" #[] 0)).update s.heap.objs.size (Obj.mapSeq (· ++ vs.toArray))).push (seqObj "list" vs.toArray 0) };rw [<-ex,sz];refine Ad_ (AZ_ (wpAny_call_entry_kw slot_list_sort ⟨_,got,rfl⟩ entry_list_sort ?body (mA_ _)))
 case body =>show wpAny (model prog w) A.in1.in1 (Builtin.«list.sort» ⟨[.ref (s.heap.objs.size+1)],Hb_⟩) _ _ _;refine oL_ (s:={ s with heap:=hx.push (seqObj "list" vs.toArray 0) }) (F0.kept kp) (N0.grown kp) got (DP_ (BI_ hL)) (Ew_ (Ay_ F0.above (Nat.le_succ_of_le (AR_ hL)))) (fun q hq=>AE_ (BI_ (As_ (N0 q hq).1))) two few fun c h' F' N'=>?_;refine Bl_ (ask _ c h' F' N' fun q hq=>BI_ (As_ (N0 q hq).1)) (fun κ s1 hk=>?_) fun _ _ x=>x;rw [kat_ask_eq (vs:=vs.reverse) rfl] at hk ⊢;exact kas_wp_mono hk fun p s2 hk2=>hk2.mono fun s3 hq=>⟨_,rfl,Av_ ⟨_,rfl,hq⟩⟩
end
section
variable {X:Cx}{pins:List (Addr×Obj)}{σ:St}{H:Hp}{s:Shared}
theorem i0_ {Q:VK}{p:Addr}{ys:List V}{lt:Nat->Nat->Bool}{κ:SortKind}{pm:Array Nat}(I:Inv X pins σ H s)(hq:SqL X.K H p ys)(h2:2<=ys.length)(h64:ys.length<64)
  (kind:∀ (its:List Value)(s':Shared),Fm_ ys its->Inv X pins σ H s'->∀ C:SortKind->Shared->Prop,C κ s'->wpAny (model X.prog X.w) X.A.in1.in1 (keyKind' its.toArray) C (fun _ _=>False) s')
  (less:∀ (its:List Value)(s':Shared)(i j:Nat),Fm_ ys.reverse its->Inv X pins σ H s'->i<ys.length->j<ys.length->∀ C:Bool->Shared->Prop,C (lt i j) s'->wpAny (model X.prog X.w) X.A.in1.in1 (keyLt' κ (its.getD i Value.none) (its.getD j Value.none)) C (fun _ _=>False) s')
  (run:F6_ lt ys.length (kas_sort ys.length)=some pm) (hz:pm.size<=1000) (q:∀ l,H l=none->Q (.ref l) (upd H l (.lst (pm.toList.map fun i=>ys.reverse.getD i .non).reverse))) :
  wpAny (model X.prog X.w) X.A (call (.builtin "sorted") [.ref p] Hb_) (EP X pins σ Q) X.xe s:=by
 obtain ⟨its,rv,pl,_⟩:=I.list hq;have hl:=rv.length;obtain ⟨m,hn,F0⟩:=I.frm;refine mB_ F0 jj_ pl.isList (by lia) (by lia) fun D e1 h1 F1 N1 lt1=>?_;have N1':News X.base X.env.locals h1 (FN_ X.base s.heap X.env.locals):=fun z hz'=>N1 z (An_ _ hz');have ND:=N1 (D,_) At_;have fr:∀ b o,s.heap.get? b=some o->b≠D:=fun b o e w=>by subst w;exact absurd (lt1 (b,o) (dF_ ND.2.1 ND.2.2 e)) (Bv_ _)
 have HD:H D=none:=by
  cases w:H D with
  | none=>rfl
  | some u =>obtain ⟨o,g⟩:=Ka_ (I.hok D u w);exact absurd rfl (fr D o g)
 have I1:Inv X pins σ H { s with heap:=h1,toks:=s.toks }:=I.led hn F1 N1' (fun _ _ _ n=>n) (fun _ _ w=>w) (fun b o w n=>by rw [w] at n;cases n);have rvr:Fm_ ys.reverse its.reverse:=rv.reverse;refine kind its _ rv I1 _ ?_;rw [<-hl];refine nw_ (lt:=lt) (n:=ys.length) (fun i j C hi hj hC=>less its.reverse _ i j rvr I1 hi hj C hC) _ run ?_;refine KasFin.intro F1 N1 (.head fun z hz' w=>?_) fun h2' c F2 N2=>?_
 ·exact absurd (lt1 z hz') (by rw [w];exact Bv_ _)
 ·have N2':News X.base X.env.locals h2' (FN_ X.base s.heap X.env.locals):=fun z hz'=>N2 z (An_ _ hz');have hD:=(N2 (D,_) At_).1;refine ⟨.ref D,upd H D (.lst (pm.toList.map fun i=>ys.reverse.getD i .non).reverse),I.led (t':=s.toks) hn F2 N2' (fun b o e n=>by rw [ah_ (fr b o e)];exact n) (fun b o e=>by rw [ah_ (af_ e HD)];exact e) (fun b o e n=>?_),rfl,q D HD⟩;by_cases hb:b=D
  ·subst hb;rw [aa_] at e;cases e;exact ⟨AR_ (EY_ (by simp;lia)),_,c,(kp_ rvr _).reverse,hD⟩
  ·rw [ah_ hb,n] at e;cases e
end
end L2
namespace L2
open PySem PySem.Spec PyProof.Rows PySem.W
section
variable {X:Cx}{pins:List (Addr×Obj)}{σ:St}{H:Hp}{s:Shared}
def LS_ (T:String):V->Prop
 | .int _=>T = "int"
 | .str _=>T = "str"
 | _=>False
theorem h2_ (T:String)(I:Inv X pins σ H s):∀ {ys:List V}{its:List Value},Fm_ ys its->(∀ y∈ys,∃ a x z,y=.ref a/\H a=some (.tup [x,z])/\LS_ T x) ->
  ∃ fs,KatTups s.heap its fs/\fs.length=its.length/\∀ v∈fs,Looks (model X.prog X.w) s.heap (typeOf v) (.type T)
 | [],_,.nil,_=>⟨[],.nil,rfl,fun v hv=>nomatch hv⟩
 | y::ys,_,.cons r1 r2,h=>by
  obtain ⟨fs,t,hl,hf⟩:=h2_ T I r2 fun y hy=>h y (An_ _ hy);obtain ⟨a,x,z,rfl,ha,fx⟩:=h _ At_;cases r1;obtain ⟨zs,rz,⟨ob,ho,hcl,n,hd⟩,_⟩:=I.tuple (.inl (.inl ha));obtain ⟨u,w',rfl,ru,rw'⟩:=GO_ rz;refine ⟨u::fs,.cons ho hcl hd rfl t,by simp [hl],fun v hv=>?_⟩
  rcases Ao_.mp hv with rfl|hv
  ·cases x with
   | int i=>obtain ⟨t,rfl⟩:=ru;cases fx;exact .now
   | str i=>obtain ⟨t,rfl⟩:=ru;cases fx;exact .now
   | _=>exact absurd fx (by simp [LS_])
  ·exact hf v hv
theorem ks_ (I:Inv X pins σ H s){a b:Addr}{x1 x2 y1 y2:V}{d1 d2 e1 e2:Dt}{b1 b2:Bool}{C:Bool->Shared->Prop}{A:Around}{E:Value->Shared->Prop}(hu:A.units+60<cLine)
  (ha:H a=some (.tup [x1,x2])) (hb:H b=some (.tup [y1,y2])) (r1:Rep H x1 d1) (r2:Rep H x2 d2) (q1:Rep H y1 e1) (q2:Rep H y2 e2) (h1:deq d1 e1=some b1) (h2:deq d2 e2=some b2) (z1:dep d1<=50) (z2:dep d2<=50)
  (c1:b1=false->∀ u v,Fs_ x1 u->Fs_ y1 v->wpAny (model X.prog X.w) A (oneLt' true u v) C (fun _ _=>False) s)
  (c2:b1=true->b2=false->∀ u v,Fs_ x2 u->Fs_ y2 v->wpAny (model X.prog X.w) A (oneLt' false u v) C (fun _ _=>False) s)
  (c3:b1=true->b2=true->C false s):wpAny (model X.prog X.w) A (keyLt' (tuples' true) (.ref a) (.ref b)) C E s:=by
 obtain ⟨zs,rz,⟨ob,ho,hcl,n,hd⟩,_⟩:=I.tuple (.inl (.inl ha));obtain ⟨u1,u2,rfl,ru1,ru2⟩:=GO_ rz;obtain ⟨ws,rw,⟨ob',ho',hcl',n',hd'⟩,_⟩:=I.tuple (.inl (.inl hb));obtain ⟨v1,v2,rfl,rv1,rv2⟩:=GO_ rw;refine kat_lt ho hd ho' hd' ?_;refine EA_ (iW_ I Vw.refl d1 e1 r1 q1 ru1 rv1 h1 (by lia) _ _ _ _ ?_);cases b1 with
 | false=>exact kat_no (c1 rfl _ _ ru1 rv1)
 | true =>
  refine kat_yes (EA_ (iW_ I Vw.refl d2 e2 r2 q2 ru2 rv2 h2 (by lia) _ _ _ _ ?_));cases b2 with
  | false=>exact kat_no (c2 rfl rfl _ _ ru2 rv2)
  | true=>exact kat_yes (kat_nil (c3 rfl rfl))
end
def He_ (ta:TA):TE:=fun σ H Q=>ta σ H fun vs H1=>∃ (p x y:Addr)(c d:Int×Int),vs=[.ref p]/\H1 p=some (.lst [.ref x,.ref y])/\H1 x=some (.tup [.int c.1,.int c.2])/\H1 y=some (.tup [.int d.1,.int d.2])/\∀ l zs,H1 l=none->(zs=[V.ref x,V.ref y]\/zs=[V.ref y,V.ref x])->Q (.ref l) (upd H1 l (.lst zs))
theorem oM_ {p:Array Nat}(h:Pm 2 p):p.toList=[0,1]\/p.toList=[1,0]:=by
 have e:=Bi_.mp h;have hl:p.toList.length=2:=by simpa using e.length_eq
 match hp:p.toList,hl with
 | [a,b],_ =>
  rw [hp] at e;have m0:=e.mem_iff (a:=0);have m1:=e.mem_iff (a:=1);have ma:=e.mem_iff (a:=a);have mb:=e.mem_iff (a:=b);simp [List.range,List.range.loop] at m0 m1 ma mb
  rcases ma with rfl|rfl <;> rcases mb with rfl|rfl <;> simp_all
theorem kt_ {X:Cx}(hu:X.A.units+64<cLine){pins:List (Addr×Obj)}{s:Shared}{σ:St}{H:Hp}{p x y:Addr}{c d:Int×Int}{Q:VK}(I:Inv X pins σ H s)(hp:H p=some (.lst [.ref x,.ref y]))(hx:H x=some (.tup [.int c.1,.int c.2]))(hy:H y=some (.tup [.int d.1,.int d.2]))
  (q:∀ l zs,H l=none->(zs=[V.ref x,V.ref y]\/zs=[V.ref y,V.ref x])->Q (.ref l) (upd H l (.lst zs))):wpAny (model X.prog X.w) X.A (call (.builtin "sorted") [.ref p] Hb_) (EP X pins σ Q) X.xe s:=by
 have all:∀ z∈[V.ref x,V.ref y],∃ (a:Addr)(e:Int×Int),z=.ref a/\H a=some (.tup [.int e.1,.int e.2]):=fun z hz=>by
  rcases Ao_.mp hz with rfl|hz
  ·exact ⟨x,c,rfl,hx⟩
  ·rw [Ai_.mp hz];exact ⟨y,d,rfl,hy⟩
 let lt:Nat->Nat->Bool:=fun i j=>let e:=if i=0 then d else c;let f:=if j=0 then d else c;if e.1=f.1 then (if e.2=f.2 then false else decide (e.2<f.2)) else decide (e.1<f.1)
 obtain ⟨pm,hr,hpm⟩:=l5_ (lt:=lt) (N:=2) (by decide);have pz:pm.size=2:=by simpa using (Bi_.mp hpm).length_eq
 refine i0_ (lt:=lt) (κ:=tuples' true) (pm:=pm) I (.inl (.inl hp)) (Af_ _) (by show 2<64;decide) ?kind ?less hr (by lia) fun l nl=>q l _ nl ?_
 case kind =>
  intro its s' rv I' C hC;obtain ⟨fs,t,hf,lk⟩:=h2_ "int" I' rv fun z hz=>by obtain ⟨a,e,rfl,ha⟩:=all z hz;exact ⟨a,_,_,rfl,ha,rfl⟩
  have hl:=rv.length;have hl2:fs.length=2:=by rw [hf,<-hl];rfl
  exact kat_kind t (by lia) lk (by decide) hC
 case less =>
  intro its s' i j rv I' hi hj C hC;have u2:X.A.in1.in1.units+60<cLine:=by rw [A7_,A7_];lia
  have pick:∀ i,i<2->∃ a,its.getD i Value.none=.ref a/\H a=some (.tup [.int (if i=0 then d else c).1,.int (if i=0 then d else c).2]):=fun i hi=>by
   obtain ⟨u,w',rfl,ru,rw'⟩:=GO_ (show Fm_ [V.ref y,V.ref x] its from rv);cases ru;cases rw'
   match i,hi with
   | 0,_=>exact ⟨y,rfl,hy⟩
   | 1,_=>exact ⟨x,rfl,hx⟩
  obtain ⟨a,ea,ha⟩:=pick i hi;obtain ⟨b,eb,hb⟩:=pick j hj;rw [ea,eb];have hlt:lt i j=if (if i=0 then d else c).1=(if j=0 then d else c).1 then (if (if i=0 then d else c).2=(if j=0 then d else c).2 then false else decide ((if i=0 then d else c).2<(if j=0 then d else c).2)) else decide ((if i=0 then d else c).1<(if j=0 then d else c).1):=rfl;rw [hlt] at hC;generalize (if i=0 then d else c)=e at *;generalize (if j=0 then d else c)=f at *;refine ks_ I' u2 ha hb (d1:=.int e.1) (d2:=.int e.2) (e1:=.int f.1) (e2:=.int f.2) (b1:=decide (e.1=f.1)) (b2:=decide (e.2=f.2)) rfl rfl rfl rfl (by rw [deq];rfl) (by rw [deq];rfl) (by simp [dep]) (by simp [dep]) (fun h u v ru rv=>?_) (fun h1 h2 u v ru rv=>?_) (fun h1 h2=>?_)
  ·obtain ⟨t,rfl⟩:=ru;obtain ⟨t',rfl⟩:=rv;rw [if_neg (Bm_ h)] at hC;exact oneLt_int hC
  ·obtain ⟨t,rfl⟩:=ru;obtain ⟨t',rfl⟩:=rv;rw [if_pos (AG_ h1),if_neg (Bm_ h2)] at hC;exact kat_one _ _ (lt_int hC)
  ·rw [if_pos (AG_ h1),if_pos (AG_ h2)] at hC;exact hC
 ·rcases oM_ hpm with e|e <;> rw [e]
  ·exact .inl rfl
  ·exact .inr rfl
theorem mC_ {X:Cx}{a:Expr}{ta:TA}{p pos cp kp:Pos}{k:Nat}(hu:X.A.units+64<cLine)(hg:Gl X "sorted") (hm:X.mg "sorted" = none) (ha:PA X [a] ta) (hs:E8_ [a]=true:=by rfl) :
  PE X (.Call (.Name "sorted" p) [a] [⟨some "reverse",.Constant (.bool true) k cp,kp⟩] pos) (He_ ta):=by
 have h':FP_ a=true:=by simpa [E8_] using hs
 intro pins s σ H Q I h;refine Bt_ (e9_ I hg hm dr_ ?_ (by decide) (by decide));refine callWith_kw (thn (ha pos pins s σ H _ I h) fun us s1 ⟨vs,H1,I1,r1,q1⟩=>?_) (by rw [aw_ h'];rfl) (by rw [aw_ h'];rfl) rfl rfl;obtain ⟨p,x,y,c,d,rfl,hp,hx,hy,q⟩:=q1;obtain ⟨u,rfl,e⟩:=F9_ r1;cases e;refine kws_cons (thn (Gj_ pins s1 σ H1 (fun v H2=>v=.bl true/\H2=H1) I1 ⟨rfl,rfl⟩) fun v s2 ⟨z,H2,I2,r2,e1,e2⟩=>?_);subst e1 e2;cases r2;exact kws_nil (kt_ hu I2 hp hx hy q)
theorem nA_ {pm:Array Nat}{ys:List V}(h:Pm ys.length pm):(pm.toList.map fun i=>ys.getD i .non).Perm ys:=by
 have e:=Bi_.mp h
 have e2:(List.range ys.length).map (fun i=>ys.getD i .non)=ys:=by
  apply C4_
  ·simp
  ·intro i h1 h2;simp [h2]
 have e3:=e.map fun i=>ys.getD i V.non;rw [List.toList_toArray,e2] at e3;exact e3
end L2
namespace L2
open PySem PySem.Spec PyProof.Rows PySem.W
def JL_:R2:=fun x y H Q=>∃ i n,x=.str i/\y=.int n/\MulOk i n/\Q (.str (Txt.mul i n)) H
theorem i1_ {X:Cx}:OpR X (binaryOp .Mult) JL_:=by intro pins s σ H x y v u Q I rx ry h;obtain ⟨i,n,rfl,rfl,ok,q⟩:=h;obtain ⟨t,rfl⟩:=rx;obtain ⟨t',rfl⟩:=ry;exact SB.mul ok fun t' k=>⟨.str (Txt.mul i n),H,I.tok _,⟨_,rfl⟩,q⟩
section
variable {prog:Program}{w:World}{A:Around}{E:Value->Shared->Prop}{s:Shared}
end
theorem nB_ (i j:Str):(i++j).length=i.length+j.length:=by show (i.cps++j.cps).size=_;rw [Array.size_append];rfl
end L2
namespace L2
open PySem PySem.Spec PyProof.Rows PySem.W
def Lo_:V->Option Int->Option Int->Hp->VK->Prop:=fun x lo hi H Q=>∃ z:Str,x=.str z/\z.length<=sizeLine/\∀ y:Str,y.length<=z.length->(∀ c∈y.cps.toList,c∈z.cps.toList)->Q (.str y) H
theorem nC_ {v:Value}{o:Option Int}(h:IsPart v o):∃ l:Option (Int×Tok),v=partValue l/\l.map (·.1)=o:=by
 cases h with
 | none=>exact ⟨none,rfl,rfl⟩
 | int i t=>exact ⟨some (i,t),rfl,rfl⟩
theorem pw_ {X:Cx}:SlR X Lo_:=by
 intro pins s σ H x v vl vu lo hi sl Q I rx hs pl pu h;obtain ⟨z,rfl,hz,q⟩:=h;obtain ⟨t,rfl⟩:=rx;obtain ⟨l,rfl,el⟩:=nC_ pl;obtain ⟨u,rfl,eu⟩:=nC_ pu;refine ⟨"str",_,F.slot_str_getitem.lookup,typeIs_str _ _ _,?_⟩;refine wpAny_getItem_str_slice (l:=l) (u:=u) (st:=none) hs rfl ?_;have le:=sliceIndices_le (l.map (·.1)) (u.map (·.1)) z.length;unfold sliceMade;by_cases hc:(((none:Option (Int×Tok)).map (·.1)).getD 1 == 1 && (slicePicked z l u none).length == z.length)=true
 ·rw [if_pos hc];exact ⟨.str z,H,I,⟨_,rfl⟩,q z (Af_ _) fun _ h=>h⟩
 ·rw [if_neg hc];have hl:(⟨((slicePicked z l u none).filterMap (z.cps[·]?)).toArray⟩:Str).length<=z.length:=by show (((slicePicked z l u none).filterMap (z.cps[·]?)).toArray).size<=_;rw [Am_];exact Ay_ (List.length_filterMap_le _ _) le
  refine ⟨Ay_ hl hz,.str _,H,I.tok _,⟨_,rfl⟩,q _ hl fun c hc=>?_⟩;have hc2:c∈(slicePicked z l u none).filterMap (z.cps[·]?):=by simpa using hc
  obtain ⟨i,_,hi⟩:=BU_.mp hc2;exact Array.mem_toList_iff.mpr (Array.mem_of_getElem? hi)
end L2
namespace L2
open PySem PySem.Spec PyProof.Rows PySem.W
def HN_:V->List V->Hp->VK->Prop:=fun x vs H Q=>∃ (a:Addr)(kvs:List (Key×V))(k:Key)(z:V),x=.ref a/\vs=[kV k,z]/\H a=some (.dK kvs)/\kvs.length<1000/\(∀ v,Ft_ kvs k=some v->Q v H)/\(Ft_ kvs k=none->Q z (upd H a (.dK (FR_ kvs k z))))
theorem fV_ {X:Cx}:MtR X "dict.setdefault" HN_:=by
 intro pins s σ H x xs v us Q I rx r h;obtain ⟨a,kvs,k,z,rfl,rfl,e,hz,h1,h2⟩:=h;cases rx;obtain ⟨u,w',rfl,ru,rw'⟩:=GO_ r;obtain ⟨_,hd,vs,rel,dd⟩:=IV_ I.hok e;have hl:vs.length<=sizeLine:=by rw [<-rel.length];exact AR_ (EY_ (AR_ hz))
 refine Dg_ Cr_ dd.typeIs PySem.F.entry_dict_setdefault (PySem.F.args_dict_setdefault_3 _ _ _) (kt_meets_setdefault (Fa_ X.prog X.w) a (Hf_ ru) hd w') ⟨vs,dd,hl,fun v hv=>?_,fun hn h' dd' hs=>?_⟩
 ·have rv:=rel.val k;rw [hv] at rv;cases e2:Ft_ kvs k with
  | none=>rw [e2] at rv;cases rv
  | some y =>rw [e2] at rv;exact ⟨y,H,I.tok _,rv,h1 y e2⟩
 ·have rv:=rel.val k;rw [hn] at rv;cases e2:Ft_ kvs k with
  | some y=>rw [e2] at rv;cases rv
  | none =>
   have he:∃ q,h'.get? a=some q:=let ⟨q,_,_,hq,_⟩:=dd';⟨q,hq⟩;have pl:(FR_ kvs k z).length<=sizeLine:=by have:=aP_ kvs k z;have:=EY_ (n:=1000) (Af_ _);lia
   exact ⟨z,_,js_ (t':=s.toks+1) I (by rw [e];exact True.intro) hs he (lZ_ pl hd (rel.put k rw') dd'),rw',h2 e2⟩
def Idv (d:Addr)(ob:Obj)(kvs:List (Key×V)):It :=
 ⟨fun i H=>H d=some (.frz ob (.dK kvs))/\i<kvs.length,fun i H x H'=>H'=H/\∃ k,kvs[i]?=some (k,x),fun i H=>H d=some (.frz ob (.dK kvs))/\kvs.length<=i⟩
def Idk (d:Addr)(ob:Obj)(kvs:List (Key×V)):It :=
 ⟨fun i H=>H d=some (.frz ob (.dK kvs))/\i<kvs.length,fun i H x H'=>H'=H/\∃ k v,kvs[i]?=some (k,v)/\x=kV k,fun i H=>H d=some (.frz ob (.dK kvs))/\kvs.length<=i⟩
theorem i2_ {α β:Type}{F:α->β->Prop}:∀ {l:List α}{m:List β}{i:Nat}{a:α}{b:β},Paired F l m->l[i]?=some a->m[i]?=some b->F a b
 | _,_,_,_,_,.nil,h,_=>by cases h
 | _,_,0,_,_,.cons x _,h1,h2=>by cases h1;cases h2;exact x
 | _,_,i+1,_,_,.cons _ r,h1,h2=>i2_ (i:=i) r h1 h2
theorem nD_ {P:Program}{w:World}{H:Hp}{h:Heap}{d:Addr}{ob:Obj}{kvs:List (Key×V)}{es0:Array DictEntry}{ep:Nat}(ok:HOk P w H h)(e:H d=some (.frz ob (.dK kvs)))(hd:ob.data=.dict es0 ep):∃ vs,KV kvs vs/\h.DictAt (Fa_ P w) d vs ep:=by obtain ⟨g,_,_,vs,rel,o,es,ep',ho,r1,r2,r3⟩:=(show FD_ P w H h d (.frz ob (.dK kvs)) from ok d _ e);rw [g] at ho;cases ho;rw [hd] at r2;cases r2;exact ⟨vs,rel,ob,es0,g,r1,hd,r3⟩
theorem nE_ {P:Program}{w:World}{K:PySem.W.Frag}{tg:Expr}{d it:Addr}{ob:Obj}{kvs:List (Key×V)}{es0:Array DictEntry}{ep:Nat}(hob:ob.data=.dict es0 ep) :
  Kk_ P w K tg (Idv d ob kvs) [it] it (fun i h=>h.IsValIter it d i kvs.length ep) where
 mem:=by simp
 obj:=fun i h st b hb=>by
  have e:b=it:=by simpa using hb
  subst e;obtain ⟨o,e,c,dd⟩:=st;exact ⟨o,e,fun v z=>by rw [dd] at z;cases z⟩
 keep:=fun i h h' st k=>let ⟨o,e,r⟩:=st;⟨o,k it (by simp) o e,r⟩
 item:=by intro X hP hw hK hc i pins s σ H E I hf st hg;subst hP hw hK;obtain ⟨e,hi⟩:=hg;obtain ⟨vs,rel,da⟩:=nD_ I.hok e hob;have hl:kvs.length=vs.length:=rel.length;obtain ⟨f0,f1,f2,f3,f4,f5⟩:=hf it (by simp);have hx:vs[i]?=some (vs[i]'(by lia)):=Aa_ _;have hk:kvs[i]?=some (kvs[i]):=Aa_ _;obtain ⟨e1,e2⟩:=i2_ rel hk hx;rw [hl] at st;refine wpAny_pyNext_values_item st da (k:=(vs[i]'(by lia)).1) (v:=(vs[i]'(by lia)).2) hx fun h' st' sb=>?_;have I1:Inv X pins σ H { s with heap:=h' }:=I.turned (t':=s.toks) (fun b o hb e=>(sb.2 b hb).trans e) f0 f1 f3 f4 f5;rw [<-hl] at st';obtain ⟨o,e,c,dd⟩:=id st';exact ⟨_,rfl,IT_ (s:={ s with heap:=h' }) e c dd (by decide) ⟨(kvs[i]).2,H,I1,e2,⟨rfl,(kvs[i]).1,hk⟩,st',fun b hb=>(hf b hb).1⟩⟩
 done:=by intro X hP hw hK hc i pins s σ H E I hf st hg;subst hP hw hK;obtain ⟨e,hi⟩:=hg;obtain ⟨vs,rel,da⟩:=nD_ I.hok e hob;have hl:kvs.length=vs.length:=rel.length;obtain ⟨f0,f1,f2,f3,f4,f5⟩:=hf it (by simp);rw [hl] at st;exact wpAny_pyNext_values_end (I.ok.hd hc) st da (BA_ (by lia)) fun h' eb=>⟨rfl,I.turned (t':=s.toks) (fun b o hb e=>eb b o hb e) f0 f1 f3 f4 f5⟩
 self:=fun _ _ _ _ _ st h=>wpAny_pyIter_valiter st h
theorem Inv.freeze {X:Cx}{pins:List (Addr×Obj)}{σ:St}{H:Hp}{s:Shared}{d:Addr}{kvs:List (Key×V)}(I:Inv X pins σ H s)(e:H d=some (.dK kvs)):∃ ob es0 ep,ob.data=.dict es0 ep/\s.heap.get? d=some ob/\Inv X pins σ (upd H d (.frz ob (.dK kvs))) s:=by obtain ⟨z,hd,vs,rel,dd⟩:=IV_ I.hok e;obtain ⟨ob,es,ep,ho,r1,r2,r3⟩:=id dd;refine ⟨ob,es,ep,r2,ho,?_⟩;have:=js_ (h':=s.heap) (t':=s.toks) (ob:=.frz ob (.dK kvs)) I (by rw [e];exact True.intro) ⟨rfl,fun _ _=>rfl⟩ ⟨ob,ho⟩ ⟨ho,z,hd,vs,rel,dd⟩;exact this
def iDK (td:TE):TI:=fun σ H R=>td σ H fun x H1=>∃ (d:Addr)(kvs:List (Key×V)),x=.ref d/\H1 d=some (.dK kvs)/\∀ ob,R (Idk d ob kvs) (upd H1 d (.frz ob (.dK kvs)))
def iDV (td:TE):TI:=fun σ H R=>td σ H fun x H1=>∃ (d:Addr)(kvs:List (Key×V)),x=.ref d/\H1 d=some (.dK kvs)/\∀ ob,R (Idv d ob kvs) (upd H1 d (.frz ob (.dK kvs)))
theorem oN_ {X:Cx}{tg o:Expr}{td:TE}{apos cpos:Pos}(ho:PE X o td)(hbase:attributeBase o "values" X.env (eval o X.env)=eval o X.env:=by rfl) (hline:(apos.endLine == cpos.line)=true:=by rfl):PI X tg (.Call (.Attribute o "values" apos) [] [] cpos) (iDV td):=by
 intro pins s σ H R I h;refine D6_ hbase hline (thn (ho pins s σ H _ I h) fun v s1 ⟨x,H1,I1,r1,d,kvs,e,hd,q⟩=>?_);subst e;cases r1;obtain ⟨ob,es0,ep,hob,hoo,I2⟩:=I1.freeze hd;obtain ⟨_,hsys,vs0,_,dd⟩:=IV_ I1.hok hd;refine ⟨"dict", "dict.values",BF_,D1_,PySem.F.type_dict_values,dd.typeIs,fun b q=>?_,BS_ rfl (EH_ ?_)⟩
 ·cases q;obtain ⟨o2,_,_,h1,h2,_⟩:=id dd;exact ⟨o2,h1,h2.2.1⟩
 refine Dg_ D1_ dd.typeIs PySem.F.entry_dict_values (PySem.F.args_dict_values_1 _) (meets_dict_values (Fa_ X.prog X.w) d hsys) ⟨⟨vs0,dd⟩,?_⟩;have I3:Inv X pins σ (upd H1 d (.frz ob (.dK kvs))) { s1 with heap:=s1.heap.push { cls:=.type "dict_values",data:=.fields #[.ref d] } }:=I2.kept (t':=s1.toks) fun b o e=>Aj_ _ e;obtain ⟨vs,rel,da⟩:=nD_ (kvs:=kvs) I3.hok aa_ hob;refine wpAny_pyIter_values (s:={ s1 with heap:=s1.heap.push { cls:=.type "dict_values",data:=.fields #[.ref d] } }) ⟨_,AD_ _ rfl,rfl,rfl⟩ da ?_;rw [<-show kvs.length=vs.length from rel.length];refine ⟨(s1.heap.push { cls:=.type "dict_values",data:=.fields #[.ref d] }).objs.size,[_],_,_,upd H1 d (.frz ob (.dK kvs)),rfl,I3.kept (t':=s1.toks) fun b o e=>Aj_ _ e,nE_ hob,⟨_,AD_ _ rfl,rfl,rfl⟩,fun b hb=>?_,q ob⟩;have e:b=_:=Ai_.mp hb;subst e;exact I3.fpOk (Af_ _) (I3.hok.fresh (Af_ _))
theorem LG_ {d:Addr}{ob:Obj}{kvs:List (Key×V)}{g:TG}{tb:TS}{D:G7_}{σ:St}{H:Hp}(Pv:Nat->St->Hp->Prop)(h0:Pv 0 σ H)(hl:∀ i σ H,i<=kvs.length->Pv i σ H->H d=some (.frz ob (.dK kvs)))
  (hs:∀ i k x σ H,kvs[i]?=some (k,x)->Pv i σ H->g x σ H fun σ2 H2=>tb { D with nx:=Pv (i+1),ct:=Pv (i+1),bk:=D.nx } σ2 H2) (hd:∀ σ H,Pv kvs.length σ H->D.nx σ H):Hd_ (Idv d ob kvs) g tb D σ H:=by
 refine ⟨fun i m σ H=>m=kvs.length-i/\i<=kvs.length/\Pv i σ H,⟨kvs.length,by simp,AA_ _,h0⟩,?_⟩;rintro i m σ H ⟨rfl,hi,p⟩;have q:=hl i σ H hi p;by_cases hlt:i<kvs.length
 ·refine .inr ⟨⟨q,hlt⟩,Pv (i+1),fun σ' H' p'=>⟨kvs.length-(i+1),by lia,rfl,hlt,p'⟩,fun x H' y=>?_⟩;obtain ⟨rfl,k,hk⟩:=y;exact hs i k x σ H' hk p
 ·have e:i=kvs.length:=by lia
  subst e;exact .inl ⟨⟨q,Af_ _⟩,hd σ H p⟩
theorem nF_ {K:PySem.W.Frag}{a:Addr}{xs:List V}{g:TG}{tb:TS}{D:G7_}{σ:St}{H:Hp}(Pv:Nat->St->Hp->Prop)(h0:Pv 0 σ H)(hl:∀ i σ H,i<=xs.length->Pv i σ H->SqL K H a xs)
  (hs:∀ i x T σ H,xs[i]?=some x->Pv i σ H->H T=none->g (.ref T) σ (upd H T (.tup [.int i,x])) fun σ2 H2=>tb { D with nx:=Pv (i+1),ct:=Pv (i+1),bk:=D.nx } σ2 H2) (hd:∀ σ H,Pv xs.length σ H->D.nx σ H):Hd_ (Ite K a) g tb D σ H:=by
 refine ⟨fun i m σ H=>m=xs.length-i/\i<=xs.length/\Pv i σ H,⟨xs.length,by simp,AA_ _,h0⟩,?_⟩;rintro i m σ H ⟨rfl,hi,p⟩;have q:=hl i σ H hi p;by_cases hlt:i<xs.length
 ·refine .inr ⟨⟨xs,xs[i],q,by simp [hlt]⟩,Pv (i+1),fun σ' H' p'=>⟨xs.length-(i+1),by lia,rfl,hlt,p'⟩,fun x H' y=>?_⟩;obtain ⟨T,y,rfl,hT,rfl,hy⟩:=y;exact hs i y T σ H (hy xs q) p hT
 ·have e:i=xs.length:=by lia
  subst e;exact .inl ⟨⟨xs,q,Af_ _⟩,hd σ H p⟩
end L2
namespace L2
open PySem PySem.Spec PyProof.Rows PySem.W
section
variable {prog:Program}{w:World}{A:Around}{E:Value->Shared->Prop}{s:Shared}
end
def KL_ (t:TGs):TG:=fun v σ H Q=>∃ (a:Addr)(x y:V),v=.ref a/\H a=some (.lst [x,y])/\t [x,y] σ H Q
end L2
namespace RimT
variable {S:Type}[DecidableEq S]
structure Net (S:Type) where
 posts:List S
 rows:List (S×List S)
 worths:List (S×(Int×Int))
def Net.all (N:Net S):List S:=(N.rows.map (·.2)).flatten
structure Fk_ (N:Net S):Prop where
 nd:(N.rows.map (·.1)).Nodup
 two:∀ x∈N.all,N.all.count x=2
 few:N.rows.length<=16
 tot:N.all.length<=30
 pl:N.posts.length<=6
 wl:N.worths.length<=15
def FJ_ (ns ws:Nat->S)(T:List (List Nat))(ord:List Nat):List (S×List S):=ord.map fun p=>(ns p,(T.getD p []).map ws)
theorem h3_ {α:Type}{l m:List (List α)}(h:l.Perm m):l.flatten.Perm m.flatten:=by
 induction h with
 | nil=>exact .nil
 | cons x _ ih=>rw [AJ_,AJ_];exact ih.append_left x
 | swap x y l=>rw [AJ_,AJ_,AJ_,AJ_,<-A5_,<-A5_];exact List.perm_append_comm.append_right _
 | trans _ _ h1 h2=>exact h1.trans h2
theorem eT_ {α:Type}(d:α)(l:List α):(List.range l.length).map (fun i=>l.getD i d)=l:=by
 apply C4_
 ·simp
 ·intro i h1 h2;simp [h2]
theorem l6_ {ns ws:Nat->S}{T:List (List Nat)}{ord:List Nat}(h:ord.Perm (List.range T.length)):(((FJ_ ns ws T ord).map (·.2)).flatten).Perm (T.flatten.map ws):=by
 have e:(FJ_ ns ws T ord).map (·.2)=(ord.map fun p=>T.getD p []).map fun l=>l.map ws:=by unfold FJ_;rw [Bf_,Bf_];rfl
 rw [e,<-D2_];refine List.Perm.map _ ?_;have h2:=h.map fun p=>T.getD p [];rw [eT_] at h2;exact h3_ h2
theorem fW_ {α β:Type}[DecidableEq α][DecidableEq β]{f:α->β}{x:α}:∀ {l:List α},(∀ a∈l,f a=f x->a=x)->(l.map f).count (f x)=l.count x
 | [],_=>rfl
 | a::l,h=>by
  rw [AB_,CF_,CF_,fW_ fun a ha=>h a (An_ _ ha)];congr 1;by_cases e:a=x
  ·subst e;simp
  ·have:f a≠f x:=fun z=>e (h a At_ z);simp [e,this]
theorem q1_ {P W:Nat}{T:List (List Nat)}(g:Gr P W T){ns ws:Nat->S}{ord:List Nat}(h:ord.Perm (List.range T.length))(hP:P<=6)(hW:W<=15)
  (hn:∀ a b,a<T.length->b<T.length->ns a=ns b->a=b) (hw:∀ a b,a<W->b<W->ws a=ws b->a=b) {ps:List S} {wo:List (S×(Int×Int))} (hps:ps.length<=6) (hwo:wo.length<=15):Fk_ (⟨ps,FJ_ ns ws T ord,wo⟩:Net S):=by
 have al:=l6_ (ns:=ns) (ws:=ws) h;have e:((FJ_ ns ws T ord).map (·.1))=ord.map ns:=by unfold FJ_;rw [Bf_];rfl
 refine ⟨?_,fun x hx=>?_,?_,?_,hps,hwo⟩
 ·show ((FJ_ ns ws T ord).map (·.1)).Nodup;rw [e];unfold List.Nodup;rw [Bo_];exact D3_ (fun {a b} ha hb ne z=>ne (hn a b (A3_.mp (h.mem_iff.mp ha)) (A3_.mp (h.mem_iff.mp hb)) z)) (h.nodup_iff.mpr List.nodup_range)
 ·have hx':x∈T.flatten.map ws:=al.mem_iff.mp hx;obtain ⟨w,hw1,rfl⟩:=Al_.mp hx';show (((FJ_ ns ws T ord).map (·.2)).flatten).count (ws w)=2;rw [al.count_eq,fW_ fun a ha z=>hw a w (g.lt a ha) (g.lt w hw1) z];exact g.two w (g.lt w hw1)
 ·show (FJ_ ns ws T ord).length<=16;unfold FJ_;have:=h.length_eq;rw [Ba_] at this;rw [Ab_];have:=g.most;lia
 ·show (((FJ_ ns ws T ord).map (·.2)).flatten).length<=30;rw [al.length_eq,Ab_,g.tot];lia
end RimT
namespace RimT
variable {S:Type}[DecidableEq S]
abbrev End (S:Type):=S×Nat
def Hs_:List (S×List (End S))->S->End S->List (S×List (End S))
 | [],w,e=>[(w,[e])]
 | (k,es)::r,w,e=>if k=w then (k,es++[e])::r else (k,es)::Hs_ r w e
theorem h4_ {w:S}{e:End S}:∀ {a:List (S×List (End S))},(∀ kv∈a,kv.1≠w)->Hs_ a w e=a++[(w,[e])]
 | [],_=>rfl
 | (k,es)::r,h=>by have:k≠w:=h (k,es) At_;rw [Hs_,if_neg this,h4_ fun kv hkv=>h kv (An_ _ hkv)];rfl
theorem dt_ {w:S}{e:End S}:∀ {a:List (S×List (End S))},(∃ kv∈a,kv.1=w)->∃ i es,a[i]?=some (w,es)/\(∀ j kv,j<i->a[j]?=some kv->kv.1≠w)/\Hs_ a w e=a.set i (w,es++[e])
 | [],h=>by obtain ⟨kv,hkv,_⟩:=h;cases hkv
 | (k,es)::r,h=>by
  by_cases hk:k=w
  ·subst hk;exact ⟨0,es,rfl,fun j kv hj=>absurd hj (by lia),by rw [Hs_,if_pos rfl];rfl⟩
  ·obtain ⟨i,es',h1,h2,h3⟩:=dt_ (w:=w) (e:=e) (a:=r) (by
    obtain ⟨kv,hkv,hw⟩:=h
    rcases Ao_.mp hkv with rfl|hkv
    ·exact absurd hw hk
    ·exact ⟨kv,hkv,hw⟩)
   refine ⟨i+1,es',h1,fun j kv hj hkv=>?_,by rw [Hs_,if_neg hk,h3];rfl⟩;cases j with
   | zero=>cases hkv;exact hk
   | succ j=>exact h2 j kv (by lia) hkv
def Fj_ (p:S):Nat->List S->List (S×End S)
 | _,[]=>[]
 | k,w::ws=>(w,(p,k))::Fj_ p (k+1) ws
def occ (rows:List (S×List S)):List (S×End S):=(rows.map fun r=>Fj_ r.1 0 r.2).flatten
def FA_ (l:List (S×End S)):List (S×List (End S)):=l.foldl (fun a x=>Hs_ a x.1 x.2) []
theorem eU_ (l:List (S×End S))(x:S×End S):FA_ (l++[x])=Hs_ (FA_ l) x.1 x.2:=by unfold FA_;rw [List.foldl_append];rfl
theorem jv_ {w:S}{e:End S}{kv:S×List (End S)}:∀ {a:List (S×List (End S))},kv∈Hs_ a w e->(kv.1=w/\((∃ es,(w,es)∈a/\kv.2=es++[e])\/((∀ x∈a,x.1≠w)/\kv.2=[e])))\/kv∈a
 | [],h=>by
  have:=Ai_.mp h;subst this;exact .inl ⟨rfl,.inr ⟨fun x hx=>(by cases hx),rfl⟩⟩
 | (k,es)::r,h=>by
  by_cases hk:k=w
  ·subst hk;rw [Hs_,if_pos rfl] at h
   rcases Ao_.mp h with h|h
   ·subst h;exact .inl ⟨rfl,.inl ⟨es,At_,rfl⟩⟩
   ·exact .inr (An_ _ h)
  ·rw [Hs_,if_neg hk] at h
   rcases Ao_.mp h with h|h
   ·subst h;exact .inr At_
   ·rcases jv_ h with ⟨e1,e2⟩|h
    ·refine .inl ⟨e1,?_⟩
     rcases e2 with ⟨es',h1,h2⟩|⟨h1,h2⟩
     ·exact .inl ⟨es',An_ _ h1,h2⟩
     ·refine .inr ⟨fun x hx=>?_,h2⟩
      rcases Ao_.mp hx with rfl|hx
      ·exact hk
      ·exact h1 x hx
    ·exact .inr (An_ _ h)
theorem ep_ {w:S}{e:End S}:∀ {a:List (S×List (End S))},(Hs_ a w e).map (·.1)=if (∃ kv∈a,kv.1=w) then a.map (·.1) else a.map (·.1)++[w]
 | []=>by simp [Hs_]
 | (k,es)::r=>by
  by_cases hk:k=w
  ·subst hk;rw [Hs_,if_pos rfl,if_pos ⟨(k,es),At_,rfl⟩];rfl
  ·rw [Hs_,if_neg hk,AB_,ep_ (a:=r)];by_cases hr:∃ kv∈r,kv.1=w
   ·rw [if_pos hr,if_pos (by obtain ⟨kv,h1,h2⟩:=hr;exact ⟨kv,An_ _ h1,h2⟩)];rfl
   ·rw [if_neg hr,if_neg (fun ⟨kv,h1,h2⟩=>by
     rcases Ao_.mp h1 with rfl|h1
     ·exact hk h2
     ·exact hr ⟨kv,h1,h2⟩)]
    rfl
theorem bM_:∀ (n:Nat)(l:List (S×End S)),l.length=n->((FA_ l).map (·.1)).Nodup/\(∀ kv∈FA_ l,kv.2=(l.filter fun x=>decide (x.1=kv.1)).map (·.2))/\(∀ x∈l,∃ kv∈FA_ l,kv.1=x.1)/\(∀ kv∈FA_ l,∃ x∈l,x.1=kv.1)
 | 0,l,h=>by
  have:=Bk_ h;subst this;exact ⟨Bh_,fun kv hkv=>(by cases hkv),fun x hx=>(by cases hx),fun kv hkv=>(by cases hkv)⟩
 | n+1,l,h=>by
  obtain ⟨m,x,rfl⟩:∃ m x,l=m++[x]:=by refine ⟨l.dropLast,l.getLast (fun e=>by rw [e] at h;cases h),(BR_ _).symm⟩
  have hm:m.length=n:=by simpa using h
  obtain ⟨h1,h2,h3,h4⟩:=bM_ n m hm;rw [eU_]
  have fe:∀ w,((m++[x]).filter fun y=>decide (y.1=w))=(m.filter fun y=>decide (y.1=w))++(if x.1=w then [x] else []):=fun w=>by
   rw [BD_];by_cases e:x.1=w
   ·simp [e]
   ·simp [e]
  refine ⟨?_,fun kv hkv=>?_,fun y hy=>?_,fun kv hkv=>?_⟩
  ·rw [ep_];by_cases hc:∃ kv∈FA_ m,kv.1=x.1
   ·rw [if_pos hc];exact h1
   ·rw [if_neg hc];refine A0_.mpr ⟨h1,by simp,fun a ha b hb e=>?_⟩;obtain ⟨kv,hkv,rfl⟩:=Al_.mp ha;exact hc ⟨kv,hkv,by rw [e];exact Ai_.mp hb⟩
  ·rw [fe,Ap_]
   rcases jv_ hkv with ⟨e1,e2⟩|hkv'
   ·rw [e1,if_pos rfl]
    rcases e2 with ⟨es,h5,h6⟩|⟨h5,h6⟩
    ·rw [h6];have:=h2 _ h5;simp only at this;rw [this];rfl
    ·rw [h6];have:(m.filter fun y=>decide (y.1=x.1))=[]:=by refine El_.mpr fun y hy z=>?_;obtain ⟨kv2,h7,h8⟩:=h3 y hy;exact h5 kv2 h7 (h8.trans (AG_ z))
     rw [this];rfl
   ·by_cases e:x.1=kv.1
    ·
     exfalso;obtain ⟨i,es,g1,g2,g3⟩:=dt_ (w:=x.1) (e:=x.2) (a:=FA_ m) ⟨kv,hkv',e.symm⟩;rw [g3] at hkv;obtain ⟨j,hj,ej⟩:=Ar_.mp hkv;rw [Bq_] at hj;have hji:(FA_ m)[j]?=some ((FA_ m)[j]):=Aa_ hj;have hi:i<(FA_ m).length:=(Ag_.mp g1).1;by_cases hij:i=j
     ·subst hij;rw [Es_] at ej;have e9:kv.2=es++[x.2]:=by rw [<-ej]
      obtain ⟨j2,hj2,ej2⟩:=Ar_.mp hkv';have k1:((FA_ m).map (·.1))[j2]?=((FA_ m).map (·.1))[i]?:=by rw [Ae_,Ae_,Aa_ hj2,ej2,g1];show some kv.1=some x.1;rw [e]
      have:=(AU_ (by rw [Ab_];exact hj2) h1).mp k1;subst this;rw [Aa_ hj2,ej2] at g1;have e10:=congrArg Prod.snd (Aq_ g1);rw [e9] at e10;have:=congrArg List.length e10;simp at this
     ·rw [EN_ hij] at ej;have k1:((FA_ m).map (·.1))[j]?=((FA_ m).map (·.1))[i]?:=by rw [Ae_,Ae_,hji,ej,g1];show some kv.1=some x.1;rw [e]
      exact hij ((AU_ (by rw [Ab_];exact hj) h1).mp k1).symm
    ·rw [if_neg e];rw [h2 kv hkv'];simp
  ·by_cases hc:∃ kv∈FA_ m,kv.1=y.1
   ·have hk:y.1∈(Hs_ (FA_ m) x.1 x.2).map (·.1):=by
     rw [ep_];obtain ⟨kv,g1,g2⟩:=hc;have:y.1∈(FA_ m).map (·.1):=Al_.mpr ⟨kv,g1,g2⟩;split
     ·exact this
     ·exact AV_ _ this
    obtain ⟨kv,g1,g2⟩:=Al_.mp hk;exact ⟨kv,g1,g2⟩
   ·rcases Ax_.mp hy with hy|hy
    ·exact absurd (h3 y hy) hc
    ·have e:=Ai_.mp hy;subst e;have hk:y.1∈(Hs_ (FA_ m) y.1 y.2).map (·.1):=by rw [ep_,if_neg hc];exact AM_ _ (Ai_.mpr rfl)
     obtain ⟨kv,g1,g2⟩:=Al_.mp hk;exact ⟨kv,g1,g2⟩
  ·rcases jv_ hkv with ⟨e1,_⟩|hkv'
   ·exact ⟨x,AM_ _ (Ai_.mpr rfl),e1.symm⟩
   ·obtain ⟨y,g1,g2⟩:=h4 kv hkv';exact ⟨y,AV_ _ g1,g2⟩
theorem gz_ (p:S):∀ (ws:List S)(k:Nat),(Fj_ p k ws).map (·.1)=ws
 | [],_=>rfl
 | w::ws,k=>by rw [Fj_,AB_,gz_ p ws (k+1)]
theorem gA_ (rows:List (S×List S)):(occ rows).map (·.1)=(rows.map (·.2)).flatten:=by unfold occ;rw [D2_,Bf_];congr 1;exact BO_ fun r _=>gz_ r.1 r.2 0
theorem eV_ {p:S}{x:S×End S}:∀ {ws:List S}{k:Nat},x∈Fj_ p k ws->x.2.1=p/\k<=x.2.2
 | [],_,h=>by cases h
 | w::ws,k,h=>by
  rcases Ao_.mp h with rfl|h
  ·exact ⟨rfl,Af_ _⟩
  ·have:=eV_ h;exact ⟨this.1,by lia⟩
theorem ku_ (p:S):∀ (ws:List S)(k:Nat),((Fj_ p k ws).map (·.2)).Nodup
 | [],_=>Bh_
 | w::ws,k=>by rw [Fj_,AB_];refine AW_.mpr ⟨fun h=>?_,ku_ p ws (k+1)⟩;obtain ⟨x,h1,h2⟩:=Al_.mp h;have:=(eV_ h1).2;rw [h2] at this;simp only at this;lia
theorem i3_:∀ {rows:List (S×List S)},(rows.map (·.1)).Nodup->((occ rows).map (·.2)).Nodup
 | [],_=>Bh_
 | r::rows,h=>by have h':=AW_.mp h;have e:occ (r::rows)=Fj_ r.1 0 r.2++occ rows:=rfl;rw [e,Ap_];refine A0_.mpr ⟨ku_ _ _ _,i3_ h'.2,fun a ha b hb z=>?_⟩;obtain ⟨x,x1,x2⟩:=Al_.mp ha;obtain ⟨y,y1,y2⟩:=Al_.mp hb;have ex:=(eV_ x1).1;obtain ⟨l,l1,l2⟩:=Bu_.mp y1;obtain ⟨r2,r3,rfl⟩:=Al_.mp l1;have ey:=(eV_ l2).1;refine h'.1 (Al_.mpr ⟨r2,r3,?_⟩);show r2.1=r.1;rw [<-ey,<-ex,x2,y2,z]
def FK_ (N:Net S):List (S×List (End S)):=FA_ (occ N.rows)
theorem nG_ (N:Net S):((FK_ N).map (·.1)).Nodup:=(bM_ _ _ rfl).1
theorem i4_ (w:S):∀ l:List (S×End S),((l.filter fun x=>decide (x.1=w)).map (·.2)).length=(l.map (·.1)).count w
 | []=>rfl
 | x::l=>by
  have ih:=i4_ w l;rw [AB_,CF_,<-ih];by_cases e:x.1=w
  ·simp [e]
  ·simp [e]
theorem l7_ {N:Net S}(ok:Fk_ N){kv:S×List (End S)}(h:kv∈FK_ N):∃ a b,kv.2=[a,b]:=by
 obtain ⟨_,h2,_,h4⟩:=bM_ _ (occ N.rows) rfl;have hl:kv.2.length=2:=by rw [h2 kv h,i4_,gA_];obtain ⟨x,x1,x2⟩:=h4 kv h;refine ok.two kv.1 ?_;show kv.1∈(N.rows.map (·.2)).flatten;rw [<-gA_,<-x2];exact Al_.mpr ⟨x,x1,rfl⟩
 match hk:kv.2,hl with
 | [a,b],_=>exact ⟨a,b,rfl⟩
theorem px_ {N:Net S}{kv:S×List (End S)}(h:kv∈FK_ N){a:End S}(ha:a∈kv.2):(kv.1,a)∈occ N.rows:=by obtain ⟨_,h2,_,_⟩:=bM_ _ (occ N.rows) rfl;rw [h2 kv h] at ha;obtain ⟨x,x1,rfl⟩:=Al_.mp ha;obtain ⟨x2,x3⟩:=A9_.mp x1;have e:x.1=kv.1:=AG_ x3;rw [<-e];exact x2
theorem b8_ {l:List (S×End S)}(h:(l.map (·.2)).Nodup){x y:S×End S}(hx:x∈l)(hy:y∈l)(e:x.2=y.2):x=y:=by obtain ⟨i,hi,rfl⟩:=Ar_.mp hx;obtain ⟨j,hj,rfl⟩:=Ar_.mp hy;have:=(AU_ (l:=l.map (·.2)) (i:=i) (j:=j) (by rw [Ab_];exact hi) h).mp (by rw [Ae_,Ae_,Aa_ hi,Aa_ hj];exact congrArg some e);subst this;rfl
theorem mD_ {N:Net S}(ok:Fk_ N){k1 k2:S×List (End S)}(h1:k1∈FK_ N)(h2:k2∈FK_ N){a:End S}(a1:a∈k1.2)(a2:a∈k2.2):k1.1=k2.1 :=
 (BE_ (b8_ (i3_ ok.nd) (px_ h1 a1) (px_ h2 a2) rfl)).1
theorem nH_ {N:Net S}(ok:Fk_ N){kv:S×List (End S)}(h:kv∈FK_ N){a b:End S}(e:kv.2=[a,b]):a≠b:=by
 obtain ⟨_,h2,_,_⟩:=bM_ _ (occ N.rows) rfl;have nd:kv.2.Nodup:=by rw [h2 kv h];have:=i3_ ok.nd;unfold List.Nodup at this ⊢;rw [Bo_] at this ⊢;exact this.filter _
 rw [e] at nd;intro z;subst z;simp at nd
end RimT
namespace L2
open PySem PyProof.Rows PySem.W
structure Lto (lt:Nat->Nat->Bool)(N:Nat):Prop where
 as:∀ x y,lt x y=true->lt y x=false
 tr:∀ x y z,lt y x=false->lt z y=false->lt z x=false
def So (lt:Nat->Nat->Bool)(p:Array Nat)(b:Nat):Prop:=∀ i j,i<j->j<b->lt (p.getD j 0) (p.getD i 0)=false
def Fa (lt:Nat->Nat->Bool)(p:Array Nat)(b:Nat):Prop:=∀ i j,i<j->j<b->lt (p.getD i 0) (p.getD j 0)=false
section
variable {lt:Nat->Nat->Bool}{N:Nat}
theorem Pm.size {p:Array Nat}(h:Pm N p):p.size=N:=by have:=(Bi_.mp h).length_eq;simpa using this
theorem So.more {p:Array Nat}{n:Nat}(O:Lto lt N)(h:So lt p n)(h1:1<=n)(e:lt (p.getD n 0) (p.getD (n-1) 0)=false):So lt p (n+1):=fun i j hij hj=>by
 by_cases c:j<n
 ·exact h i j hij c
 ·have:j=n:=by lia
  subst this;by_cases d:i=j-1
  ·subst d;exact e
  ·exact O.tr _ _ _ (h i (j-1) (by lia) (by lia)) e
theorem Fa.more {p:Array Nat}{n:Nat}(O:Lto lt N)(h:Fa lt p n)(h1:1<=n)(e:lt (p.getD (n-1) 0) (p.getD n 0)=false):Fa lt p (n+1):=fun i j hij hj=>by
 by_cases c:j<n
 ·exact h i j hij c
 ·have:j=n:=by lia
  subst this;by_cases d:i=j-1
  ·subst d;exact e
  ·exact O.tr _ _ _ e (h i (j-1) (by lia) (by lia))
theorem nI_ (O:Lto lt N){p:Array Nat}(h:Pm N p)(h0:0<N):∀ (f n:Nat),1<=n->So lt p n->∃ m,F6_ lt N (kas_asc p f n)=some m/\So lt p m/\n<=m/\m<=n+f/\(m<n+f->lt (p.getD m 0) (p.getD (m-1) 0)=true)
 | 0,n,h1,hs=>⟨n,rfl,hs,Af_ _,Af_ _,fun x=>absurd x (by lia)⟩
 | f+1,n,h1,hs=>by
  unfold kas_asc F6_;rw [if_pos ⟨h.below h0 _,h.below h0 _⟩];cases e:lt (p.getD n 0) (p.getD (n-1) 0) with
  | true=>exact ⟨n,rfl,hs,Af_ _,by lia,fun _=>e⟩
  | false =>obtain ⟨m,a,b,c,d,g⟩:=nI_ O h h0 f (n+1) (by lia) (hs.more O h1 e);exact ⟨m,a,b,by lia,by lia,fun x=>g (by lia)⟩
def Es (lt:Nat->Nat->Bool)(p:Array Nat)(a b:Nat):Prop:=∀ i j,a<=i->i<b->a<=j->j<b->lt (p.getD i 0) (p.getD j 0)=false
theorem Lto.rf (O:Lto lt N)(x:Nat):lt x x=false:=by
 cases e:lt x x with
 | false=>rfl
 | true=>exact e.symm.trans (O.as x x e)
theorem Es.one (O:Lto lt N){p:Array Nat}{n:Nat}:Es lt p n (n+1):=fun i j a b c d=>by rw [show i=j by lia];exact O.rf _
theorem gB_ {p:Array Nat}{a n:Nat}(hn:n<=p.size)(k:Nat):(kas_rev p a n).getD k 0=if a<=k/\k<n then p.getD (a+n-1-k) 0 else p.getD k 0:=by have q:=EO_ (xs:=p) (i:=a) (j:=n) hn k;show (mirror p a n ((n-a)/2)).getD k 0=_;rw [Bg_,q];split <;> rw [Bg_]
theorem Fa.seg {p:Array Nat}{a n:Nat}(hn:n<=p.size)(h:Fa lt p n)(e:Es lt p a n):Fa lt (kas_rev p a n) n:=fun i j hij hj=>by
 rw [gB_ hn,gB_ hn];by_cases ci:a<=i/\i<n
 ·rw [if_pos ci,if_pos ⟨by lia,hj⟩];exact e _ _ (by lia) (by lia) (by lia) (by lia)
 ·rw [if_neg ci];split <;> exact h _ _ (by lia) (by lia)
theorem jw_ (O:Lto lt N)(h0:0<N):∀ (f:Nat)(p:Array Nat)(n q:Nat),Pm N p->q+1<=n->n+f<=N->Fa lt p n->Es lt p (n-(q+1)) n->∃ z,F6_ lt N (kas_desc f p n q)=some z/\Pm N z.1/\Fa lt z.1 z.2.1/\Es lt z.1 (z.2.1-(z.2.2+1)) z.2.1/\n<=z.2.1/\z.2.1<=n+f
 | 0,p,n,q,h,h1,_,hs,he=>⟨(p,n,q),rfl,h,hs,he,Af_ _,Af_ _⟩
 | f+1,p,n,q,h,h1,hN,hs,he=>by
  have sz:=h.size;unfold kas_desc F6_;rw [if_pos ⟨h.below h0 _,h.below h0 _⟩];cases e:lt (p.getD n 0) (p.getD (n-1) 0) with
  | true =>
   simp only [if_true];split
   ·have er:∀ k,¬ (n-(q+1)<=k/\k<n)->(kas_rev p (n-(q+1)) n).getD k 0=p.getD k 0:=fun k hk=>by rw [gB_ (by lia),if_neg hk]
    obtain ⟨z,a,b,c,d,g⟩:=jw_ O h0 f (kas_rev p (n-(q+1)) n) (n+1) 0 (h.rev _ _) (by lia) (by lia) ((hs.seg (by lia) he).more O (by lia) (by rw [er n (by lia),gB_ (by lia),if_pos ⟨by lia,by lia⟩];exact O.tr _ _ _ (O.as _ _ e) (he _ _ (by lia) (by lia) (by lia) (by lia)))) (Es.one O);exact ⟨z,a,b,c,d,by lia,by lia⟩
   ·obtain ⟨z,a,b,c,d,g⟩:=jw_ O h0 f p (n+1) 0 h (by lia) (by lia) (hs.more O (by lia) (O.as _ _ e)) (Es.one O);exact ⟨z,a,b,c,d,by lia,by lia⟩
  | false =>
   simp only [BX_,C1_];unfold F6_;rw [if_pos ⟨h.below h0 _,h.below h0 _⟩];cases e2:lt (p.getD (n-1) 0) (p.getD n 0) with
   | true=>exact ⟨(p,n,q),rfl,h,hs,he,Nat.le_refl _,by dsimp only;lia⟩
   | false =>
    simp only [BX_,C1_]
    obtain ⟨z,a,b,c,d,g⟩:=jw_ O h0 f p (n+1) (q+1) h (by lia) (by lia) (hs.more O (by lia) e2) (fun i j hi hi' hj hj'=>by
     have le:∀ k,n+1-(q+1+1)<=k->k<n+1->lt (p.getD k 0) (p.getD (n-1) 0)=false/\lt (p.getD (n-1) 0) (p.getD k 0)=false:=fun k k1 k2=>by
      by_cases kn:k=n
      ·rw [kn];exact ⟨e,e2⟩
      ·exact ⟨he _ _ (by lia) (by lia) (by lia) (by lia),he _ _ (by lia) (by lia) (by lia) (by lia)⟩
     exact O.tr _ _ _ (le j hj hj').2 (le i hi hi').1)
    exact ⟨z,a,b,c,d,by lia,by lia⟩
theorem py_ {p:Array Nat}{n:Nat}(hn:n<=p.size){k:Nat}(hk:k<n):(kas_rev p 0 n).getD k 0=p.getD (n-1-k) 0:=by have q:=EO_ (xs:=p) (i:=0) (j:=n) hn k;rw [if_pos ⟨AA_ _,hk⟩] at q;show (mirror p 0 n ((n-0)/2)).getD k 0=_;rw [Bg_,Bg_,q];congr 2;lia
theorem Fa.rev {p:Array Nat}{n:Nat}(hn:n<=p.size)(h:Fa lt p n):So lt (kas_rev p 0 n) n:=fun i j hij hj=>by rw [py_ hn hj,py_ hn (by lia)];exact h _ _ (by lia) (by lia)
theorem h5_ (O:Lto lt N)(h0:0<N){p:Array Nat}(h:Pm N p){n:Nat}(h1:1<=n)(hN:n<N)(hf:Fa lt p (n+1)):∃ z,F6_ lt N (kas_descPart n N p)=some z/\Pm N z.2/\So lt z.2 z.1/\1<=z.1/\z.1<=N:=by
 obtain ⟨z,hz,b,c,d,g1,g2⟩:=jw_ O h0 (N-(n+1)) p (n+1) 0 h (by lia) (by lia) hf (Es.one O);have sz:=b.size;have tl:∀ {p:Array Nat},Pm N p->Fa lt p z.2.1->∃ y,F6_ lt N (kas_tail3 z.2.1 N p)=some y/\Pm N y.2/\So lt y.2 y.1/\1<=y.1/\y.1<=N:=fun {p} hp fp=>by obtain ⟨m',hm',hs',h1',hN',_⟩:=nI_ O (hp.rev 0 z.2.1) h0 (N-z.2.1) z.2.1 (by lia) (fp.rev (by rw [hp.size];lia));refine ⟨(m',kas_rev p 0 z.2.1),?_,hp.rev 0 _,hs',by dsimp only;lia,by dsimp only;lia⟩;unfold kas_tail3;rw [bx_ _ hm'];rfl
 unfold kas_descPart;rw [bx_ _ hz];split
 ·exact tl (b.rev _ _) (c.seg (by lia) d)
 ·exact tl b c
theorem oO_ (O:Lto lt N)(h0:0<N){p:Array Nat}(h:Pm N p):∃ z,F6_ lt N (kas_count N p)=some z/\Pm N z.2/\So lt z.2 z.1/\1<=z.1/\z.1<=N:=by
 obtain ⟨m,hm,hs,h1,hN,hx⟩:=nI_ O h h0 (N-1) 1 (Af_ _) fun i j a b=>absurd a (by lia);have sz:=h.size;unfold kas_count;rw [bx_ _ hm];split
 ·exact ⟨_,rfl,h,hs,h1,by dsimp only;lia⟩
 ·rename_i c;have cm:m≠N:=fun e=>c (by rw [e];exact DT_ N);have e:=hx (by lia);split
  ·unfold F6_;rw [if_pos ⟨h.below h0 _,h.below h0 _⟩];cases t:lt (p.getD 0 0) (p.getD (m-1) 0) with
   | true=>exact ⟨_,rfl,h,hs,h1,by dsimp only;lia⟩
   | false =>
    have ff:Fa lt p m:=fun i j hij hj=>by
     have a1:lt (p.getD (m-1) 0) (p.getD j 0)=false:=by
      by_cases c:j=m-1
      ·rw [c];exact O.rf _
      ·exact hs _ _ (by lia) (by lia)
     have a2:lt (p.getD i 0) (p.getD 0 0)=false:=by
      by_cases c:i=0
      ·rw [c];exact O.rf _
      ·exact hs _ _ (by lia) (by lia)
     exact O.tr _ _ _ (O.tr _ _ _ a1 t) a2
    have es:Es lt p 0 m:=fun i j _ hi _ hj=>by
     rcases Nat.lt_trichotomy i j with c|c|c
     ·exact ff i j c hj
     ·rw [c];exact O.rf _
     ·exact hs j i c hi
    refine h5_ O h0 (h.rev 0 m) h1 (by lia) ((ff.seg (by lia) es).more O h1 ?_);rw [gB_ (by lia),gB_ (by lia),if_pos ⟨by lia,by lia⟩,if_neg (by lia),show 0+m-1-(m-1)=0 by lia];exact O.tr _ _ _ (O.as _ _ e) t
  ·have m1:m=1:=by lia
   subst m1;exact h5_ O h0 h (Af_ _) (by lia) (Fa.more O (n:=1) (fun i j a b=>absurd a (by lia)) (Af_ _) (O.as _ _ e))
theorem jx_ (O:Lto lt N)(h0:0<N){p:Array Nat}(h:Pm N p){k:Nat}(hs:So lt p k):∀ (f l r:Nat),l<=r->r<=k->r<=l+f->(∀ i,i<l->lt (p.getD k 0) (p.getD i 0)=false)->(∀ i,r<=i->i<k->lt (p.getD i 0) (p.getD k 0)=false) ->
  ∃ m,F6_ lt N (kas_place p k f l r)=some m/\m<=k/\(∀ i,i<m->lt (p.getD k 0) (p.getD i 0)=false)/\∀ i,m<=i->i<k->lt (p.getD i 0) (p.getD k 0)=false
 | 0,l,r,a,b,c,u,v=>⟨l,rfl,by lia,u,fun i hi hk=>v i (by lia) hk⟩
 | f+1,l,r,a,b,c,u,v=>by
  unfold kas_place;split
  ·exact ⟨l,rfl,by lia,u,fun i hi hk=>v i (by lia) hk⟩
  ·unfold F6_;rw [if_pos ⟨h.below h0 _,h.below h0 _⟩];cases e:lt (p.getD k 0) (p.getD ((l+r)/2) 0) with
   | true =>
    refine jx_ O h0 h hs f l _ (by lia) (by lia) (by lia) u fun i hi hk=>?_;by_cases q:i=(l+r)/2
    ·subst q;exact O.as _ _ e
    ·exact O.tr _ _ _ (O.as _ _ e) (hs _ _ (by lia) hk)
   | false =>
    refine jx_ O h0 h hs f _ r (by lia) b (by lia) (fun i hi=>?_) v;by_cases q:i=(l+r)/2
    ·subst q;exact e
    ·exact O.tr _ _ _ (hs _ _ (by lia) (by lia)) e
theorem pz_ {p:Array Nat}{k l:Nat}(hk:k<p.size)(hl:l<=k)(i:Nat):(bubble p k (k-l)).getD i 0=if i=l then p.getD k 0 else if l<i/\i<=k then p.getD (i-1) 0 else p.getD i 0:=by
 have q:=getElem?_bubble (xs:=p) hk (k-l) (by lia) i;rw [show k-(k-l)=l by lia] at q;rw [Bg_,q];by_cases a:i=l
 ·rw [if_pos a,if_pos a,Bg_]
 ·rw [if_neg a,if_neg a];by_cases b:l<i/\i<=k
  ·rw [if_pos b,if_pos b,Bg_]
  ·rw [if_neg b,if_neg b,Bg_]
theorem pA_ (O:Lto lt N)(h0:0<N):∀ (f:Nat)(p:Array Nat)(k:Nat),Pm N p->So lt p k->k+f=N->∃ z,F6_ lt N (kas_bin f p k)=some z/\Pm N z/\So lt z N
 | 0,p,k,h,hs,e=>by
  have q:k=N:=by lia
  rw [q] at hs;exact ⟨p,rfl,h,hs⟩
 | f+1,p,k,h,hs,e=>by
  obtain ⟨l,hl,hk,u,v⟩:=jx_ O h0 h hs k 0 k (by lia) (by lia) (by lia) (fun i hi=>absurd hi (by lia)) fun i hi hk=>absurd hi (by lia);unfold kas_bin;rw [bx_ _ hl];refine pA_ O h0 f _ _ ((bubble_perm _ _ _).trans h) (fun i j hij hj=>?_) (by lia);have sz:=h.size;rw [pz_ (by lia) hk,pz_ (by lia) hk];by_cases a:j=l
  ·rw [if_pos a,if_neg (by lia),if_neg (by lia)];exact u i (by lia)
  ·rw [if_neg a];by_cases b:i=l
   ·rw [if_pos b,if_pos ⟨by lia,by lia⟩];exact v _ (by lia) (by lia)
   ·rw [if_neg b];by_cases c:l<j
    ·rw [if_pos ⟨c,by lia⟩];by_cases d:l<i
     ·rw [if_pos ⟨d,by lia⟩];exact hs _ _ (by lia) (by lia)
     ·rw [if_neg (by lia)];exact hs _ _ (by lia) (by lia)
    ·rw [if_neg (by lia),if_neg (by lia)];exact hs _ _ (by lia) (by lia)
theorem p5_ (O:Lto lt N)(h0:0<N):∃ z,F6_ lt N (kas_sort N)=some z/\Pm N z/\So lt z N:=by
 obtain ⟨r,hr,hp,hs,h1,hN⟩:=oO_ O h0 (p:=List.toArray (List.range N)) (Array.Perm.refl _);unfold kas_sort;rw [bx_ _ hr];split
 ·rename_i c;rw [show max r.1 1=r.1 by lia];exact pA_ O h0 _ _ _ hp hs (by lia)
 ·have e:r.1=N:=by lia
  rw [e] at hs;exact ⟨_,rfl,hp,hs⟩
theorem So.list {z:Array Nat}(hp:Pm N z)(hs:So lt z N):z.toList.Pairwise fun i j=>lt j i=false:=by
 rw [List.pairwise_iff_getElem];intro i j hi hj hij;have sz:=hp.size;have hi':i<z.size:=by simpa using hi
 have hj':j<z.size:=by simpa using hj
 have q:=hs i j hij (by lia);have ei:z.getD i 0=z.toList[i]:=by simp [Array.getD,hi']
 have ej:z.getD j 0=z.toList[j]:=by simp [Array.getD,hj']
 rw [ei,ej] at q;exact q
end
end L2
namespace L2
open PySem PySem.Spec PyProof.Rows PySem.W
def sLe (a b:Str):Prop:=¬ b.cps.toList<a.cps.toList
theorem sLe.trans {a b c:Str}(h:sLe a b)(h2:sLe b c):sLe a c:=Du_.mpr (List.le_trans (Du_.mp h) (Du_.mp h2))
theorem p6_ {a b:Str}(h:a.cps.toList=b.cps.toList):a=b:=by
 cases a;cases b;simpa using h
theorem sLe.antisymm {a b:Str}(h:sLe a b)(h2:sLe b a):a=b:=p6_ (List.le_antisymm (Du_.mp h) (Du_.mp h2))
def Jr_:List V->Hp->VK->Prop:=fun vs H Q=>∃ (p:Addr)(ns:List Str),vs=[.ref p]/\H p=some (.lst (ns.map V.str))/\ns.length<64/\∀ l (zs:List Str),H l=none->zs.Perm ns->zs.Pairwise sLe->Q (.ref l) (upd H l (.lst (zs.map V.str)))
end L2
namespace PySem
open Sem (wp)
theorem h6_:typeLookup (.type "list") "keys" = pure none:=am_miss_of_fast (by rfl')
theorem fX_ {prog:Program}{w:World}{A:Around}{E:Value->Shared->Prop}{s:Shared}{a:Addr}{o:Obj}{xs:Array Value}{k:Nat}{name:Str}{Q:Option Value->Shared->Prop}
  (hx:s.heap.get? a=some o) (hc:o.cls=.type "list") (hdat:o.data=.seq xs k) (hd:o.dict=none) (hmiss:typeLookup (.type "list") name=pure none) (hname:(["__module__", "__name__", "__qualname__", "__doc__", "__annotations__"]:List Str).contains name=false) (hA:A.handled=none)
  (h:∀ h' tk,(∀ b ob,s.heap.get? b=some ob->h'.get? b=some ob)->Q none { s with heap:=h',toks:=tk }) (hsz:name.length+100<=sizeLine:=by size_fits) :
  wpAny (model prog w) A (getAttr? (.ref a) name) Q E s:=by
 obtain ⟨c,dct,dat,sl⟩:=o;simp only at hc hdat hd;subst hc hdat hd;obtain ⟨hp,g,d,tk,os⟩:=s;have hT:∀ tk',(⟨hp,g,d,tk',os⟩:Shared).TypeIs (.ref a) "list" := fun _=>⟨_,hx,rfl⟩;have f1:=sub_AttributeError;have f3:=F.slot_list_getattribute.lookup;have f4:=F.slot_list_getattribute.bind (.ref a);have f5:=am_list_getattr_none;unfold getAttr? getAttrBy? getAttrBy
 repeat (any_goals (first|assumption|exact hT _|((with_reducible show wpAny _ _ (call (Value.builtin "list.__getattribute__") _ _) _ _ _);refine CQ_ F.slot_list_getattribute (hT _) am_entry_list_getattribute (F.args_list_getattribute_2 _ _) (meets_getattribute_miss_list a xs k sl name _ hmiss hname hsz) ⟨hx,hA,fun h' tk' e hx'=>?_⟩)|wp_step))
 obtain ⟨t',u',he⟩:=hx'.there;show wpAny _ _ (getattributeRaised _ _ _ _ _ _ _) _ _ _;unfold getattributeRaised
 repeat (any_goals (first|assumption|wp_step))
 exact h _ _ hx'.keeps
namespace F
theorem rim_entry_dict_update_loop:entryFor table "dict.update.loop" = some Builtin.«dict.update.loop»:=entryFor_of_tree (by kernel_rfl)
theorem rim_plain_dict_update_loop:plainId "dict.update.loop" = true:=by rfl'
end F
section
variable {prog:Program}{w:World}{K:Type}[DecidableEq K]{knd:KeyKind prog w K}{A:Around}{R:Result->Shared->Prop}
theorem cM_ {d it p:Addr}{its:Array Value}{h0:Heap}(hh:A.handled=none)(hdi:d≠it)(hp:h0.IsList p its)(hpi:p≠it)(hpd:p≠d) :
  ∀ (ps:List (K×Value))(i:Nat)(j:Int)(D:List (K×Value))(s:Shared),its.size=i+ps.length->D.length+ps.length<=1000->s.heap.IsListIter it p i->s.heap.DictOf knd d D ->
   (∀ b o,b≠it->b≠d->h0.get? b=some o->s.heap.get? b=some o) ->
   (∀ m q,ps[m]?=some q->∃ (a:Addr)(kv:Value)(o:Obj)(n:Nat),its[i+m]?=some (.ref a)/\a≠it/\a≠d/\h0.get? a=some o/\o.cls=.type "tuple" /\ o.data=.seq #[kv,q.2] n/\knd.is q.1 kv=true) ->
   (∀ h' tk,(∀ b o,b≠it->b≠d->h0.get? b=some o->h'.get? b=some o)->h'.DictOf knd d (merged D ps)->R (.ok (.ret .none)) { s with heap:=h',toks:=tk }) ->
   codeAny (model prog w) A (.builtin "dict.update.loop" ⟨[.ref d,.ref it,rawInt j,.none],[]⟩) R s
 | [],i,j,D,s,hz,hl,hi,hD,hk,hit,hR=>by
  obtain ⟨op,hop,hpr⟩:=id hp;have hp':s.heap.IsList p its:=⟨op,hk p op hpi hpd hop,hpr⟩;refine CG_ F.rim_entry_dict_update_loop ?_;rw [Cx_ F.rim_plain_dict_update_loop _];show wpAny _ A.in1 (pyNext (.ref it) >>= _) _ _ s;refine Ad_ (C7_ hh hi hp' (Em_ (by simp at hz;lia)) fun h' eb=>?_);show wpAny _ A.in1 (Builtin.Dict.addKeywords d [] >>= _) _ _ _;exact Ad_ (Av_ (Av_ (hR h' s.toks (fun b o h1 h2 e=>eb b o h1 (hk b o h1 h2 e)) (hD.extBut eb hdi))))
 | q::ps,i,j,D,s,hz,hl,hi,hD,hk,hit,hR=>by
  obtain ⟨op,hop,hpr⟩:=id hp;have hp':s.heap.IsList p its:=⟨op,hk p op hpi hpd hop,hpr⟩;obtain ⟨a,kv,o,n,e1,a1,a2,ho,hc,hd,kis⟩:=hit 0 q rfl;refine CG_ F.rim_entry_dict_update_loop ?_;rw [Cx_ F.rim_plain_dict_update_loop _];show wpAny _ A.in1 (pyNext (.ref it) >>= _) _ _ s;refine Ad_ (By_ hi hp' e1 fun h1 hi1 sb=>?_);have ho1:h1.get? a=some o:=(sb.2 a a1).trans (hk a o a1 a2 ho);have hT:({ s with heap:=h1 }:Shared).TypeIs (.ref a) "tuple" := ⟨_,ho1,hc⟩;show wpAny _ A.in1 (holding [Value.ref a] _ >>= _) _ _ _;refine Ad_ (AZ_ ?_);refine Ad_ ?_;refine wpAny_tryCatch ?_;unfold Builtin.Dict.pairItems;refine Ad_ (ER_ hT ?_);rw [if_pos (by decide)];refine Ad_ (Et_ ho1 hd ?_);refine Av_ ?_;show wpAny _ A.in1 (holding [kv,q.2] (dictSet d kv q.2)) _ _ _;refine AZ_ ?_;have hD1:({ s with heap:=h1 }:Shared).heap.DictOf knd d D:=hD.sameBut sb hdi;refine wpAny_dictSet_pairs kis hD1 (fun h2 hD2 sb2=>?_) (by simp at hl;rw [CV_];lia);refine Av_ ⟨DE_ F.rim_plain_dict_update_loop _,?_⟩;have sl:=stored_length_le D q.1 q.2;refine cM_ hh hdi hp hpi hpd ps (i+1) (j+1) (stored D q.1 q.2) { s with heap:=h2,toks:=s.toks+1 } (by simp at hz;lia) (by simp at hl;lia) ?_ hD2 (fun b o h1' h2' e=>?_) (fun m r e=>?_) fun h' tk k3 hD3=>?_
  ·obtain ⟨oi,hoi,hir⟩:=hi1;exact ⟨oi,(sb2.2 it (Ne.symm hdi)).trans hoi,hir⟩
  ·exact (sb2.2 b h2').trans ((sb.2 b h1').trans (hk b o h1' h2' e))
  ·obtain ⟨a',kv',o',n',z1,z2⟩:=hit (m+1) r e;exact ⟨a',kv',o',n',by rw [show i+1+m=i+(m+1) by lia];exact z1,z2⟩
  ·exact hR h' tk k3 hD3
end
end PySem
namespace L2
open PySem PySem.Spec PyProof.Rows PySem.W
section
variable {X:Cx}{pins:List (Addr×Obj)}{σ:St}{H:Hp}{s:Shared}
theorem jy_ (I:Inv X pins σ H s):∀ {kvs:List (Key×V)}{ys:List V}{its:List Value},Fm_ ys its->ys.length=kvs.length->(∀ (i:Nat)(q:Key×V),kvs[i]?=some q->∃ a,ys[i]?=some (.ref a)/\H a=some (.tup [kV q.1,q.2])) ->
  ∃ ps:List (Key×Value),KV kvs ps/\ps.length=its.length/\∀ (m:Nat)(q:Key×Value),ps[m]?=some q->∃ (a:Addr)(kv:Value)(o:Obj)(n:Nat),its[m]?=some (.ref a)/\H a≠none/\s.heap.get? a=some o/\o.cls=.type "tuple" /\ o.data=.seq #[kv,q.2] n/\(Fa_ X.prog X.w).is q.1 kv=true
 | [],[],_,.nil,_,_=>⟨[],.nil,rfl,fun m q e=>by simp at e⟩
 | [],_::_,_,_,e,_=>nomatch e
 | _::_,[],_,_,e,_=>nomatch e
 | kv::kvs,y::ys,_,.cons r1 r2,e,h=>by
  obtain ⟨ps,rel,hl,hp⟩:=jy_ I r2 (by simpa using e) fun i q hq=>h (i+1) q hq;obtain ⟨a,ea,ha⟩:=h 0 kv rfl;cases ea;cases r1;obtain ⟨zs,rz,⟨ob,ho,hcl,n,hd⟩,_⟩:=I.tuple (.inl (.inl ha));obtain ⟨u1,u2,rfl,ru1,ru2⟩:=GO_ rz;refine ⟨(kv.1,u2)::ps,.cons ⟨rfl,ru2⟩ rel,by simp [hl],fun m q hq=>?_⟩;cases m with
  | zero =>
   cases hq;exact ⟨a,u1,ob,n,rfl,(by rw [ha];exact Option.some_ne_none _),ho,hcl,hd,Hf_ ru1⟩
  | succ m=>exact hp m q hq
def IE_:List V->Hp->VK->Prop:=fun vs H Q=>∃ (p:Addr)(ys:List V)(kvs:List (Key×V)),vs=[.ref p]/\H p=some (.lst ys)/\ys.length=kvs.length/\kvs.length<=900/\(∀ (i:Nat)(q:Key×V),kvs[i]?=some q->∃ a,ys[i]?=some (.ref a)/\H a=some (.tup [kV q.1,q.2])) /\
 ∀ l,H l=none->Q (.ref l) (upd H l (.dK (FB_ [] kvs)))
theorem kv_ {K:Type}[DecidableEq K]:∀ (ps D:List (K×Value)),(merged D ps).length<=D.length+ps.length
 | [],D=>Af_ _
 | q::ps,D=>by have a:=kv_ ps (stored D q.1 q.2);have b:=stored_length_le D q.1 q.2;show (merged (stored D q.1 q.2) ps).length<=_;rw [AH_];lia
theorem eW_ (hc:X.calm=true):FW_ X (.type "dict") IE_:=by
 intro pins s σ H xs us Q I r h;obtain ⟨p,ys,kvs,rfl,hp,hl,hz,hk,q⟩:=h;obtain ⟨u,rfl,e⟩:=F9_ r;cases e;obtain ⟨_,its,c,rv,hop⟩:=(show FD_ X.prog X.w H s.heap p (.lst ys) from I.hok p _ hp);obtain ⟨ps,rel,pl,hit⟩:=jy_ I rv hl hk;have hh:=I.ok.hd hc;have hlt:∀ {b:Addr}{o:Obj},s.heap.get? b=some o->b<s.heap.objs.size:=fun e=>As_ e;refine callType_codes (Q₁:=fun obj s₁=>obj=.ref s.heap.objs.size/\s₁={ s with heap:=s.heap.push { cls:=.type "dict",data:=.dict #[] } }) F.kt_called_dict (F.kt_typeCall_dict_1 _) F.entry_dict_init (kt_code_dict_new _ ⟨rfl,rfl⟩) ?_;rintro obj s₁ ⟨rfl,rfl⟩;have hnew:(s.heap.push { cls:=.type "dict",data:=.dict #[] }).DictOf (Fa_ X.prog X.w) s.heap.objs.size []:=Heap.DictOf.new s.heap;refine ⟨hnew.typeIs,F.args_dict_init_2 _ _,?_⟩;unfold Builtin.«dict.__init__»;refine Ad_ ?_;unfold Builtin.Dict.selfAndRest;refine Ad_ (Eu_ hnew.typeIs ?_);show wpAny _ _ (pure (s.heap.objs.size,[Value.ref p])) _ _ _;refine Av_ ?_;show wpAny _ _ (Builtin.Dict.updateFrom "dict.__init__" s.heap.objs.size (.ref p) [] .none) _ _ _;unfold Builtin.Dict.updateFrom;have hop1:(s.heap.push { cls:=.type "dict",data:=.dict #[] }).get? p=some (seqObj "list" its.toArray c):=Aj_ _ hop;have hT:({ s with heap:=s.heap.push { cls:=.type "dict",data:=.dict #[] } }:Shared).TypeIs (.ref p) "list" := ⟨_,hop1,rfl⟩;refine Ad_ (ER_ hT ?_);rw [if_pos (by decide)];refine Ad_ (fX_ hop1 rfl rfl rfl h6_ (by rfl') hh fun h1 tk k1=>?_);rw [if_pos Option.isNone_none];refine Ad_ (Db_ ?_);have hop2:=k1 _ _ hop1;have dsz:s.heap.objs.size<h1.objs.size:=by obtain ⟨od,_,_,hod,_⟩:=hnew;exact As_ (k1 _ _ hod)
 refine Ad_ (B4_ (items:=its.toArray) ⟨_,hop2,rfl,c,rfl⟩ ?_);refine Av_ ⟨DE_ F.rim_plain_dict_update_loop _,?_⟩;have below:∀ {b:Addr}{o:Obj},s.heap.get? b=some o->b≠h1.objs.size/\b≠s.heap.objs.size:=fun e=>⟨AE_ (Nat.lt_trans (hlt e) dsz),AE_ (hlt e)⟩;have rl:kvs.length=ps.length:=rel.length;refine cM_ (A:=X.A.in1) (knd:=Fa_ X.prog X.w) (its:=its.toArray) (h0:=s.heap) (p:=p) hh (AE_ dsz) ⟨_,hop,rfl,c,rfl⟩ (below hop).1 (below hop).2 ps 0 0 [] _ (by simp;lia) (by simp;lia) ?_ ?_ (fun b o b1 b2 e=>?_) (fun m q hq=>?_) fun h' tk' k3 hD3=>?_
 ·exact ⟨_,AD_ h1 rfl,rfl,rfl⟩
 ·obtain ⟨od,es,ep,hod,dr⟩:=hnew;exact ⟨od,es,ep,Aj_ _ (k1 _ _ hod),dr⟩
 ·exact Aj_ _ (k1 _ _ (Aj_ _ e))
 ·obtain ⟨a,kv,o,n,e1,_,ho,z⟩:=hit m q hq;exact ⟨a,kv,o,n,by simpa using e1,(below ho).1,(below ho).2,ho,z⟩
 ·have rm:KV (FB_ [] kvs) (merged [] ps):=KV.merge rel .nil;have ml:=kv_ ps [];have mz:(FB_ [] kvs).length<=sizeLine:=by rw [show (FB_ [] kvs).length=(merged [] ps).length from rm.length];exact AR_ (EY_ (by simp at ml;lia))
  exact ⟨rfl,.ref _,_,I.laid (a:=s.heap.objs.size) (o:=.dK (FB_ [] kvs)) (t':=tk') (fun b o e=>k3 b o (below e).1 (below e).2 e) (Af_ _) (lZ_ mz (Cz_.mpr (Ne.symm (AE_ I.big))) rm hD3),rfl,q _ (I.hok.fresh (Af_ _))⟩
end
end L2
namespace L2
open PySem PySem.Spec PyProof.Rows PySem.W
section
variable {prog:Program}{w:World}{A:Around}{R:Result->Shared->Prop}
end
def Km_ (kvs more:List (List Key×V)):List (List Key×V):=more.foldl (fun acc kv=>FR_ acc kv.1 kv.2) kvs
section
variable {X:Cx}{pins:List (Addr×Obj)}{σ:St}{H:Hp}{s:Shared}
def KJ_ (H:Hp)(p:Addr)(kvs:List (List Key×V)):Prop:=∃ ys,H p=some (.lst ys)/\ys.length=kvs.length/\∀ (i:Nat)(q:List Key×V),kvs[i]?=some q->∃ a b,ys[i]?=some (.ref a)/\H a=some (.tup [.ref b,q.2])/\H b=some (.tup (q.1.map kV))
def KF_:V->List V->Hp->VK->Prop:=fun x vs H Q=>∃ (a p:Addr)(kvs0 kvs:List (List Key×V)),x=.ref a/\vs=[.ref p]/\H a=some (.dT kvs0)/\KJ_ H p kvs/\kvs0.length+kvs.length<=900/\Q .non (upd H a (.dT (Km_ kvs0 kvs)))
end
end L2
namespace L2
open PySem PySem.Spec PyProof.Rows PySem.W
variable {X:Cx}
def HK_:V->List V->Hp->VK->Prop:=fun x vs H Q=>∃ (l:Addr)(xs:List Str)(t:Str)(j:Nat),x=.ref l/\vs=[.str t]/\H l=some (.lst (xs.map V.str))/\xs.length<=1000/\xs[j]?=some t/\(∀ m,m<j->xs[m]?≠some t)/\Q (.int j) H
theorem oP_:MtM X "list.index" HK_:=by
 intro pins s σ H x vs v us Q I rx rv h;obtain ⟨l,xs,t,j,rfl,rfl,hH,hz,hj,hno,q⟩:=h;cases rx;obtain ⟨u,rfl,ru⟩:=rv.one;obtain ⟨z,its,n,r,hl,e⟩:=I.lstM hH;have hl':its.length=xs.length:=by rw [<-hl,Ab_]
 have jl:j<xs.length:=(Ag_.mp hj).1;have ji:j<its.toArray.size:=by rw [Am_];lia
 have fl:(xs.map V.str).all Gd_=true:=by rw [List.all_map];exact List.all_eq_true.mpr fun _ _=>rfl
 have at_:∀ m (hm:m<its.toArray.size),eqU (.str t) its.toArray[m]=decide (xs[m]?=some t):=fun m hm=>by
  have hm':m<xs.length:=by rw [Am_] at hm;lia
  obtain ⟨w',hw,rw'⟩:=r.get (i:=m) (x:=.str xs[m]) (by rw [Ae_,Aa_ hm'];rfl);have ew:its.toArray[m]=w':=by rw [Aa_ (by rw [Am_] at hm;exact hm)] at hw;simpa using Aq_ hw
  rw [ew,nc_ rw' rfl,Aa_ hm'];show decide (xs[m]=t)=_;exact BM_.mpr ⟨fun z=>congrArg some z,fun z=>Aq_ z⟩
 refine CQ_ F.slot_list_index ⟨_,e,rfl⟩ F.entry_list_index (F.args_list_index_2 _ _)
  (SeqAt.list_indexAt l its.toArray n none #[] u (eqU (.str t)) j ji (by lia) (by rw [at_ j ji];exact AQ_ hj) fun m hm hlt=>by rw [at_ m hm];exact Az_ (hno m hlt)) ⟨e,fun y hy=>eR_ ru rfl r fl y (by simpa using hy),?_⟩
 exact ⟨.int j,H,I.tok _,⟨_,rfl⟩,q⟩
end L2
namespace L2
open PySem PySem.Spec PyProof.Rows PySem.W
def Ko_ (t u:TS):TS:=fun D σ H=>∀ kk:St->Hp->Prop,(∀ σ' H',u D σ' H'->kk σ' H')->t { D with nx:=kk } σ H
theorem ad_ {X:Cx}{st:Stmt}{rest:List Stmt}{t u:TS}(h1:PS X st t)(h2:PSs X rest u):PSs X (st::rest) (Ko_ t u):=fun pins s σ H D I h=>ai_ h1 h2 pins s σ H D I (h (u D) fun _ _ q=>q)
theorem p7_ {t u:TS}{D:G7_}{σ:St}{H:Hp}(h:∀ kk:St->Hp->Prop,(∀ σ' H',u D σ' H'->kk σ' H')->t { D with nx:=kk } σ H):Ko_ t u D σ H:=h
theorem q2_ {kk u:St->Hp->Prop}(h:∀ σ' H',u σ' H'->kk σ' H'){σ:St}{H:Hp}(q:u σ H):kk σ H:=h _ _ q
theorem Ly_ {A G:Prop}(h:A->G)(a:A):G:=h a
theorem pB_ {CX:CXT}{P:Program}{w:World}{K:PySem.W.Frag}{mg:Str->Option Value}{base:Heap}{N:List Str}{q:Str}{sc:Scope}{f:Addr}{cd:Value}{A:Around}{o:List Env}{s:Shared}{H:Hp}{E:XK}:(HE_ CX P w K mg base N q sc f cd A o s H E).K=K:=rfl
abbrev SHP:=St->Hp->Prop
theorem br_ {lo:Int}{n:Nat}{g:TG}{tb:TS}{nx bk ct:SHP}{rt:VK}{σ:St}{H:Hp}(Pv:Nat->St->Hp->Prop)(h0:Pv 0 σ H)
  (hs:∀ (i:Nat) σ H,i<n->∀ (kk kb:SHP),(∀ σ' H',Pv (i+1) σ' H'->kk σ' H')->(∀ σ' H',nx σ' H'->kb σ' H')->∀ G:Prop,((g (.int (lo+i)) σ H fun σ2 H2=>tb ⟨kk,rt,kb,kk⟩ σ2 H2)->G)->Pv i σ H->G) (hd:∀ σ H,Pv n σ H->nx σ H):Hd_ (Itr lo n) g tb ⟨nx,rt,bk,ct⟩ σ H :=
 fO_ Pv h0 (fun i σ H hi p=>hs i σ H hi _ _ (fun _ _ q=>q) (fun _ _ q=>q) _ id p) hd
theorem eX_ {K:PySem.W.Frag}{a:Addr}{xs:List V}{g:TG}{tb:TS}{nx bk ct:SHP}{rt:VK}{σ:St}{H:Hp}(Pv:Nat->St->Hp->Prop)(h0:Pv 0 σ H)(hl:∀ i σ H,i<=xs.length->Pv i σ H->SqL K H a xs)
  (hs:∀ (i:Nat) x σ H,xs[i]?=some x->∀ (kk kb:SHP),(∀ σ' H',Pv (i+1) σ' H'->kk σ' H')->(∀ σ' H',nx σ' H'->kb σ' H')->∀ G:Prop,((g x σ H fun σ2 H2=>tb ⟨kk,rt,kb,kk⟩ σ2 H2)->G)->Pv i σ H->G) (hd:∀ σ H,Pv xs.length σ H->nx σ H):Hd_ (Itl K a) g tb ⟨nx,rt,bk,ct⟩ σ H :=
 gt_ Pv h0 hl (fun i x σ H hx p=>hs i x σ H hx _ _ (fun _ _ q=>q) (fun _ _ q=>q) _ id p) hd
theorem l8_ {K:PySem.W.Frag}{a:Addr}{xs:List V}{g:TG}{tb:TS}{nx bk ct:SHP}{rt:VK}{σ:St}{H:Hp}(Pv:Nat->St->Hp->Prop)(h0:Pv 0 σ H)(hl:∀ i σ H,i<=xs.length->Pv i σ H->SqL K H a xs)
  (hs:∀ (i:Nat) x T σ H,xs[i]?=some x->∀ (kk kb:SHP),(∀ σ' H',Pv (i+1) σ' H'->kk σ' H')->(∀ σ' H',nx σ' H'->kb σ' H')->∀ G:Prop,((g (.ref T) σ (upd H T (.tup [.int i,x])) fun σ2 H2=>tb ⟨kk,rt,kb,kk⟩ σ2 H2)->G)->Pv i σ H->H T=none->G) (hd:∀ σ H,Pv xs.length σ H->nx σ H):Hd_ (Ite K a) g tb ⟨nx,rt,bk,ct⟩ σ H :=
 nF_ Pv h0 hl (fun i x T σ H hx p hT=>hs i x T σ H hx _ _ (fun _ _ q=>q) (fun _ _ q=>q) _ id p hT) hd
theorem oQ_ {c:TT}{tb:TS}{nx bk ct:SHP}{rt:VK}{σ:St}{H:Hp}(Pv:St->Hp->Prop)(μ:St->Hp->Nat)(h0:Pv σ H)
  (hs:∀ σ H,∀ kb:SHP,(∀ σ' H',nx σ' H'->kb σ' H')->∀ G:Prop,((c σ H fun b H1=>if b=true then ∃ N:St->Hp->Prop,(∀ σ' H',N σ' H'->∃ m',m'<μ σ H/\m'=μ σ' H'/\Pv σ' H')/\tb ⟨N,rt,kb,N⟩ σ H1 else kb σ H1)->G)->Pv σ H->G):Iz_ c tb ⟨nx,rt,bk,ct⟩ σ H :=
 hM_ Pv μ h0 fun σ H p=>hs σ H nx (fun _ _ q=>q) _ id p
end L2
namespace L2
open PySem PySem.Spec PyProof.Rows PySem.W
def Idi (d:Addr)(ob:Obj)(kvs:List (Key×V)):It :=
 ⟨fun i H=>H d=some (.frz ob (.dK kvs))/\i<kvs.length,fun i H x H'=>∃ T k v,x=.ref T/\H T=none/\kvs[i]?=some (k,v)/\H'=upd H T (.tup [kV k,v]),fun i H=>H d=some (.frz ob (.dK kvs))/\kvs.length<=i⟩
def iDI (td:TE):TI:=fun σ H R=>td σ H fun x H1=>∃ (d:Addr)(kvs:List (Key×V)),x=.ref d/\H1 d=some (.dK kvs)/\∀ ob,R (Idi d ob kvs) (upd H1 d (.frz ob (.dK kvs)))
end L2
namespace L2
open PySem PySem.Spec PyProof.Rows
def NX (K:PySem.W.Frag)(H:Hp):Prop:=∀ a o,K.lookup a=some o->H a=none
def KG_ (K:PySem.W.Frag)(t:TE):TE:=fun σ H Q=>t σ H fun v H'=>NX K H'->Q v H'
def L0_ (K:PySem.W.Frag):List V->Hp->VK->Prop:=fun xs H Q=>∃ a ys,xs=[.ref a,.ty "tuple"]/\SqT K H a ys/\Q (.bl true) H
theorem nJ_ {K:PySem.W.Frag}{a:Addr}{xs:List V}{g:TG}{tb:TS}{nx bk ct:St->Hp->Prop}{rt:VK}{σ:St}{H:Hp}(Pv:Nat->St->Hp->Prop)(h0:Pv 0 σ H)(hl:∀ i σ H,i<=xs.length->Pv i σ H->SqT K H a xs)
  (hs:∀ (i:Nat) x σ H,xs[i]?=some x->∀ (kk kb:St->Hp->Prop),(∀ σ' H',Pv (i+1) σ' H'->kk σ' H')->(∀ σ' H',nx σ' H'->kb σ' H')->∀ G:Prop,((g x σ H fun σ2 H2=>tb ⟨kk,rt,kb,kk⟩ σ2 H2)->G)->Pv i σ H->G) (hd:∀ σ H,Pv xs.length σ H->nx σ H):Hd_ (Itt K a) g tb ⟨nx,rt,bk,ct⟩ σ H:=by
 refine ⟨fun i m σ H=>m=xs.length-i/\i<=xs.length/\Pv i σ H,⟨xs.length,by simp,AA_ _,h0⟩,?_⟩;rintro i m σ H ⟨rfl,hi,p⟩;have q:=hl i σ H hi p;by_cases hlt:i<xs.length
 ·refine .inr ⟨⟨xs,xs[i],q,by simp [hlt]⟩,Pv (i+1),fun σ' H' p'=>⟨xs.length-(i+1),by lia,rfl,hlt,p'⟩,fun x H' y=>?_⟩;obtain ⟨rfl,hy⟩:=y;exact hs i x σ H' (hy xs q) _ _ (fun _ _ q=>q) (fun _ _ q=>q) _ id p
 ·have e:i=xs.length:=by lia
  subst e;exact .inl ⟨⟨xs,q,Af_ _⟩,hd σ H p⟩
end L2
namespace RimM
structure Is (p:Int×Int)(t b:Int):Prop where
 low:Low p
 ne:b≠0
 eq:p.1*b=t*p.2
theorem Il_ {t b:Int}(h:b≠0):Is (nf t b) t b:=⟨(nr_ h).1,h,(nr_ h).2.symm⟩
theorem h7_ {t b:Int}(hb:b≠0):(nf t b).1.natAbs<=t.natAbs/\(nf t b).2.natAbs<=b.natAbs:=by
 have key:∀ {t b:Int},0<b->(nf t b).1.natAbs<=t.natAbs/\(nf t b).2.natAbs<=b.natAbs:=fun {t b} h=>by rw [nq_ h];exact ⟨by have:=DK_ t (Int.gcd t b:Int);lia,by have:=DK_ b (Int.gcd t b:Int);lia⟩
 rcases Int.lt_or_lt_of_ne hb with h|h
 ·rw [pt_ h];have:=key (t:=-t) (b:=-b) (by lia);lia
 ·exact key h
end RimM
namespace RimT
theorem h8_ {α:Type}:∀ {a b:List α},a.Nodup->b.Nodup->(∀ x,x∈a ↔ x∈b)->a.Perm b
 | [],b,_,_,h=>by
  have:b=[]:=Dj_.mpr fun x hx=>absurd ((h x).mpr hx) A8_;rw [this]
 | x::a,b,na,nb,h=>by
  obtain ⟨s,t,rfl⟩:=List.append_of_mem ((h x).mp At_);obtain ⟨n1,n2⟩:=AW_.mp na;have p:(x::(s++t)).Perm (s++x::t):=C5_.symm;obtain ⟨m1,m2⟩:=AW_.mp (p.nodup_iff.mpr nb);refine (List.Perm.cons x (h8_ n2 m2 fun y=>?_)).trans p;have hy:=h y;rw [<-p.mem_iff,Ao_,Ao_] at hy;constructor
  ·intro hm;exact (hy.mp (.inr hm)).resolve_left fun z=>n1 (z ▸ hm)
  ·intro hm;exact (hy.mpr (.inr hm)).resolve_left fun z=>m1 (z ▸ hm)
section
variable {α:Type}[DecidableEq α]
theorem eY_ {T:List (List α)}{P:Nat}{l:List (Nat×Nat)}{d:Nat×Nat}(w:Way T P l d):(∀ (i:Nat)(a b:Nat×Nat),l[i]?=some a->l[i+1]?=some b->Nx T P a b)/\∃ a,l[l.length-1]?=some a/\Nx T P a d:=by
 induction w with
 | @one c d h=>exact ⟨fun i a b h1 h2=>(by simp at h2),c,rfl,h⟩
 | @more l c d w h ih =>
  obtain ⟨h1,a,h2,h3⟩:=ih;have ln:=BP_.mpr (hW_ w);refine ⟨fun i x y hx hy=>?_,c,by simp,h⟩;have hi:i+1<l.length+1:=by have:=(Ag_.mp hy).1;simpa using this
  by_cases e:i+1=l.length
  ·rw [A2_ (by lia),e,Dh_] at hy;cases hy;rw [AP_ (by lia)] at hx;have:l.length-1=i:=by lia
   rw [this,hx] at h2;cases h2;exact h3
  ·rw [AP_ (by lia)] at hx hy;exact h1 i x y hx hy
theorem l9_ {T:List (List α)}{P:Nat}(tw:Tw T){c d d':Nat×Nat}{l l':List (Nat×Nat)}(w:Way T P l d)(w':Way T P l' d')(h:l.head?=some c)(h':l'.head?=some c):∀ i,i<l.length->i<l'.length->l[i]?=l'[i]?:=by
 intro i
 induction i with
 | zero =>
  intro _ _;rw [<-CZ_,<-CZ_,h,h']
 | succ i ih =>intro h1 h2;have e:=ih (by lia) (by lia);rw [Aa_ (by lia),Aa_ (by lia)] at e;have e':=Aq_ e;have n1:=(eY_ w).1 i _ _ (Aa_ (by lia)) (Aa_ h1);have n2:=(eY_ w').1 i _ _ (Aa_ (by lia)) (Aa_ h2);rw [e'] at n1;rw [Aa_ h1,Aa_ h2,l2_ tw n1 n2]
def Reg (T:List (List α))(P:Nat)(c:Nat×Nat)(l:List (Nat×Nat)):Prop:=Way T P l c/\l.head?=some c/\l.Nodup
theorem pC_ {T:List (List α)}{P:Nat}(tw:Tw T){c:Nat×Nat}{l l':List (Nat×Nat)}(r:Reg T P c l)(r':Reg T P c l'):l'.length<=l.length:=by
 refine Nat.le_of_not_lt fun hlt=>?_;have ln:=BP_.mpr (hW_ r.1);obtain ⟨_,a,ha,na⟩:=eY_ r.1;have e:=l9_ tw r.1 r'.1 r.2.1 r'.2.1 (l.length-1) (by lia) (by lia);rw [ha] at e;have n2:=(eY_ r'.1).1 (l.length-1) a _ e.symm (Aa_ (show l.length-1+1<l'.length by lia));have ec:=l2_ tw na n2;have h0:l'[0]?=some c:=by rw [<-CZ_];exact r'.2.1
 have:=(AU_ (i:=0) (j:=l.length-1+1) (by lia) r'.2.2).mp (by rw [h0,Aa_ (show l.length-1+1<l'.length by lia),<-ec]);lia
theorem p8_ {T:List (List α)}{P:Nat}(tw:Tw T){c:Nat×Nat}{l l':List (Nat×Nat)}(r:Reg T P c l)(r':Reg T P c l'):l=l':=by
 have e:l.length=l'.length:=Nat.le_antisymm (pC_ tw r' r) (pC_ tw r r');apply List.ext_getElem? ;intro i;by_cases hi:i<l.length
 ·exact l9_ tw r.1 r'.1 r.2.1 r'.2.1 i hi (by lia)
 ·rw [BA_ (by lia),BA_ (by lia)]
open Classical in
noncomputable def cyc (T:List (List α))(P:Nat)(c:Nat×Nat):List (Nat×Nat):=if h:∃ l,Reg T P c l then choose h else []
theorem pD_ {T:List (List α)}{P:Nat}(tw:Tw T){c:Nat×Nat}{l:List (Nat×Nat)}(r:Reg T P c l):cyc T P c=l:=by unfold cyc;rw [dif_pos ⟨l,r⟩];exact p8_ tw (Classical.choose_spec (⟨l,r⟩:∃ l,Reg T P c l)) r
noncomputable def fdF (T:List (List α))(P:Nat)(O:List (Nat×Nat)):List (List (Nat×Nat)):=O.foldl (fun F c=>if c∈F.flatten then F else F++[cyc T P c]) []
theorem hC_ (T:List (List α))(P:Nat)(O:List (Nat×Nat))(c:Nat×Nat):fdF T P (O++[c])=if c∈(fdF T P O).flatten then fdF T P O else fdF T P O++[cyc T P c]:=by unfold fdF;rw [List.foldl_append];rfl
end
section
variable {S:Type}[DecidableEq S]
structure Fv_ (N:Net S):Prop where
 pnd:N.posts.Nodup
 pin:∀ p∈N.posts,p∈N.rows.map (·.1)
 p0:0<N.posts.length
def pts (N:Net S):List S:=N.posts++(N.rows.map (·.1)).filter fun x=>decide (x∉N.posts)
def Gu_ (N:Net S)(x:S):List S:=((N.rows.find? fun r=>decide (r.1=x)).map (·.2)).getD []
def trn (N:Net S):List (List S):=(pts N).map (Gu_ N)
theorem nK_ {N:Net S}(ok:Fk_ N)(po:Fv_ N):(pts N).Nodup :=
 A0_.mpr ⟨po.pnd,ok.nd.filter _,fun a ha b hb e=>by have:=(A9_.mp hb).2;rw [Cj_] at this;exact this (e ▸ ha)⟩
theorem eq_ {N:Net S}(po:Fv_ N){x:S}:x∈pts N ↔ x∈N.rows.map (·.1):=by
 unfold pts;rw [Ax_,A9_,Cj_];constructor
 ·rintro (h|h)
  ·exact po.pin x h
  ·exact h.1
 ·intro h;by_cases hp:x∈N.posts
  ·exact .inl hp
  ·exact .inr ⟨h,hp⟩
theorem jz_ {N:Net S}(ok:Fk_ N)(po:Fv_ N):(pts N).Perm (N.rows.map (·.1)):=h8_ (nK_ ok po) ok.nd fun x=>eq_ po
theorem nL_ {N:Net S}(ok:Fk_ N)(po:Fv_ N):(pts N).length=N.rows.length:=by rw [(jz_ ok po).length_eq,Ab_]
theorem nM_ {x:S}{l:List S}:∀ {rows:List (S×List S)},(rows.map (·.1)).Nodup->(x,l)∈rows->(rows.find? fun r=>decide (r.1=x))=some (x,l)
 | [],_,h=>nomatch h
 | r::rows,nd,h=>by
  obtain ⟨n1,n2⟩:=AW_.mp nd
  rcases Ao_.mp h with e|h
  ·subst e;rw [List.find?_cons_of_pos (by simp)]
  ·rw [List.find?_cons_of_neg (by simp only [decide_eq_true_eq];exact fun z=>n1 (Al_.mpr ⟨_,h,z.symm⟩))];exact nM_ n2 h
theorem c3_ {N:Net S}(ok:Fk_ N){r:S×List S}(h:r∈N.rows):Gu_ N r.1=r.2:=by unfold Gu_;rw [nM_ ok.nd (l:=r.2) h];rfl
theorem dM_ (N:Net S):(trn N).length=(pts N).length:=by unfold trn;rw [Ab_]
theorem pE_ {N:Net S}(ok:Fk_ N)(po:Fv_ N):Tw (trn N):=by
 have e:(trn N).flatten.Perm N.all:=by
  unfold trn Net.all;have h1:((N.rows.map (·.1)).map (Gu_ N))=N.rows.map (·.2):=by rw [Bf_];exact BO_ fun r hr=>c3_ ok hr
  rw [<-h1];exact h3_ ((jz_ ok po).map _)
 intro w hw;rw [e.count_eq];exact ok.two w (e.mem_iff.mp hw)
variable (d0:S)
def phi (N:Net S)(c:Nat×Nat):End S:=((pts N).getD c.1 d0,c.2)
def pid (N:Net S)(x:S):Nat:=(pts N).idxOf x
variable {d0}
theorem kw_ {N:Net S}{x:S}(h:x∈pts N):pid N x<(pts N).length:=List.idxOf_lt_length_of_mem h
theorem kx_ {N:Net S}{x:S}(h:x∈pts N):(pts N)[pid N x]?=some x:=by rw [Aa_ (kw_ h)];exact congrArg some (List.getElem_idxOf (kw_ h))
theorem p9_ {N:Net S}{x:S}(h:x∈pts N)(k:Nat):phi d0 N (pid N x,k)=(x,k):=by unfold phi;rw [Ac_,kx_ h];rfl
theorem pF_ {N:Net S}(ok:Fk_ N)(po:Fv_ N){p:Nat}{x:S}(h:(pts N)[p]?=some x):pid N x=p:=by have hp:=(Ag_.mp h).1;have hm:=Ak_ h;exact (AU_ (kw_ hm) (nK_ ok po)).mp (by rw [kx_ hm,h])
theorem fY_ {N:Net S}(ok:Fk_ N)(po:Fv_ N){p:Nat}{x:S}(h:(pts N)[p]?=some x):x∈N.posts ↔ p<N.posts.length:=by
 constructor
 ·intro hx;obtain ⟨j,hj,ej⟩:=Ar_.mp hx;have e:(pts N)[j]?=some x:=by unfold pts;rw [AP_ hj,Aa_ hj,ej]
  have:=(AU_ (Ag_.mp h).1 (nK_ ok po)).mp (h.trans e.symm);lia
 ·intro hp;unfold pts at h;rw [AP_ hp] at h;exact Ak_ h
theorem jA_ {N:Net S}{p:Nat}{x:S}(h:(pts N)[p]?=some x):(trn N).getD p []=Gu_ N x:=by unfold trn;rw [Ac_,Ae_,h];rfl
def GW_ (N:Net S):List (Nat×Nat):=N.rows.flatMap fun r=>(List.range (r.2.length+if r.1∈N.posts then 1 else 0)).map fun k=>(pid N r.1,k)
theorem KU_ {N:Net S}(ok:Fk_ N)(po:Fv_ N){r:S×List S}(hr:r∈N.rows){k:Nat}(hk:k<r.2.length+if r.1∈N.posts then 1 else 0):IsC (trn N) N.posts.length (pid N r.1,k):=by
 have hm:r.1∈pts N:=(eq_ po).mpr (Al_.mpr ⟨r,hr,rfl⟩);have e:=kx_ hm;refine ⟨by rw [dM_];exact kw_ hm,?_⟩;show k<rl (trn N) (pid N r.1)+if pid N r.1<N.posts.length then 1 else 0;unfold rl;rw [jA_ e,c3_ ok hr];by_cases h:r.1∈N.posts
 ·rw [if_pos ((fY_ ok po e).mp h)];rw [if_pos h] at hk;exact hk
 ·rw [if_neg (fun z=>h ((fY_ ok po e).mpr z))];rw [if_neg h] at hk;exact hk
theorem hD_ {N:Net S}(ok:Fk_ N)(po:Fv_ N){c:Nat×Nat}:c∈GW_ N ↔ IsC (trn N) N.posts.length c:=by
 unfold GW_;rw [List.mem_flatMap];constructor
 ·rintro ⟨r,hr,hc⟩;obtain ⟨k,hk,rfl⟩:=Al_.mp hc;exact KU_ ok po hr (A3_.mp hk)
 ·rintro ⟨h1,h2⟩;rw [dM_] at h1;have hx:(pts N)[c.1]?=some (pts N)[c.1]:=Aa_ h1;obtain ⟨r,hr,er⟩:=Al_.mp ((eq_ po).mp (A1_ h1));refine ⟨r,hr,Al_.mpr ⟨c.2,A3_.mpr ?_,?_⟩⟩
  ·unfold rl at h2;rw [jA_ hx,<-er,c3_ ok hr] at h2;by_cases hp:r.1∈N.posts
   ·rw [if_pos hp];rw [er] at hp;rw [if_pos ((fY_ ok po hx).mp hp)] at h2;exact h2
   ·rw [if_neg hp];rw [er] at hp;rw [if_neg (fun z=>hp ((fY_ ok po hx).mpr z))] at h2;exact h2
  ·rw [er,pF_ ok po hx]
theorem oR_ {N:Net S}(po:Fv_ N):(GW_ N).map (phi d0 N)=(N.rows.map fun r=>(List.range (r.2.length+if r.1∈N.posts then 1 else 0)).map fun k=>(r.1,k)).flatten:=by unfold GW_;rw [List.flatMap_def,D2_,Bf_];congr 1;apply BO_;intro r hr;show (List.map _ _).map _=_;rw [Bf_];apply BO_;intro k _;exact p9_ ((eq_ po).mpr (Al_.mpr ⟨r,hr,rfl⟩)) k
end
end RimT
namespace RimM
def Ws (p:Int×Int):Prop:=Low p/\0<p.1/\p.1<=1000/\p.2<=1000
theorem LB_ {t b:Int}(t0:0<t)(t1:t<=1000)(b0:0<b)(b1:b<=1000):Ws (nf t b):=by
 have h:=Il_ (t:=t) (b:=b) (by lia);have hp:=h.low.pos;have ha:=h7_ (t:=t) (b:=b) (by lia);have h1:0<(nf t b).1:=by have e:=h.eq;have h3:0<t*(nf t b).2:=Br_ t0 hp;rw [<-e] at h3;exact Int.pos_of_mul_pos_left h3 b0
 exact ⟨h.low,h1,by lia,by lia⟩
end RimM
namespace RimT
open RimM
variable {S:Type}[DecidableEq S]
end RimT
namespace L2
open PySem PySem.Spec PyProof.Rows PySem.W
section
variable {X:Cx}{pins:List (Addr×Obj)}{σ:St}{H:Hp}{s:Shared}
def JF_ (H:Hp)(p:Addr)(kvs:List (Key×V)):Prop:=∃ ys,H p=some (.lst ys)/\ys.length=kvs.length/\∀ (i:Nat)(q:Key×V),kvs[i]?=some q->∃ a,ys[i]?=some (.ref a)/\H a=some (.tup [kV q.1,q.2])
def JP_:V->List V->Hp->VK->Prop:=fun x vs H Q=>∃ (a p:Addr)(kvs0 kvs:List (Key×V)),x=.ref a/\vs=[.ref p]/\H a=some (.dK kvs0)/\JF_ H p kvs/\kvs0.length+kvs.length<=900/\Q .non (upd H a (.dK (FB_ kvs0 kvs)))
theorem mE_ (hc:X.calm=true):MtR X "dict.update" JP_:=by
 intro pins s σ H x xs v us Q I rx r h;obtain ⟨a,p,kvs0,kvs,rfl,rfl,ha,⟨ys,hp,hl,hk⟩,hz,q⟩:=h;cases rx;obtain ⟨u,rfl,e⟩:=F9_ r;cases e;obtain ⟨_,its,c,rv,hop⟩:=(show FD_ X.prog X.w H s.heap p (.lst ys) from I.hok p _ hp);obtain ⟨ps,rel,pl,hit⟩:=jy_ I rv hl hk;obtain ⟨z0,hsys,vs0,rel0,dd⟩:=IV_ I.hok ha;have hh:=I.ok.hd hc;have hTn:s.TypeIs (.ref a) "dict" := dd.typeIs;have ppa:p≠a:=fun z=>by rw [z,ha] at hp;cases hp
 refine Dc_ (EB_ F.slot_dict_update.plain F.entry_dict_update (F.slot_dict_update.check _ _ _ _ _ _ _ _ hTn (F.args_dict_update_2 _ _) ?_));unfold Builtin.«dict.update»;refine Ad_ ?_;unfold Builtin.Dict.selfAndRest;refine Ad_ (Eu_ hTn ?_);show wpAny _ _ (pure (a,[Value.ref p])) _ _ _;refine Av_ ?_;show wpAny _ _ (Builtin.Dict.updateFrom "dict.update" a (.ref p) [] .none) _ _ _;unfold Builtin.Dict.updateFrom;have hT:s.TypeIs (.ref p) "list" := ⟨_,hop,rfl⟩;refine Ad_ (ER_ hT ?_);rw [if_pos (by decide)];refine Ad_ (fX_ hop rfl rfl rfl h6_ (by rfl') hh fun h1 tk k1=>?_);rw [if_pos Option.isNone_none];refine Ad_ (Db_ ?_);have hop2:=k1 _ _ hop;refine Ad_ (B4_ (items:=its.toArray) ⟨_,hop2,rfl,c,rfl⟩ ?_);refine Av_ ⟨DE_ F.rim_plain_dict_update_loop _,?_⟩;have below:∀ {b:Addr}{o:Obj},s.heap.get? b=some o->b≠h1.objs.size:=fun e=>AE_ (As_ (k1 _ _ e));have rl:kvs.length=ps.length:=rel.length;have rl0:kvs0.length=vs0.length:=rel0.length;obtain ⟨od,es,ep,hod,g2,g3,dr⟩:=id dd;refine cM_ (A:=X.A) (knd:=Fa_ X.prog X.w) (its:=its.toArray) (h0:=s.heap) (p:=p) hh (below hod) ⟨_,hop,rfl,c,rfl⟩ (below hop) ppa ps 0 0 vs0 _ (by simp;lia) (by lia) ?_ ?_ (fun b o b1 b2 e=>?_) (fun m q hq=>?_) fun h' tk' k3 hD3=>?_
 ·exact ⟨_,AD_ h1 rfl,rfl,rfl⟩
 ·exact ⟨od,es,ep,Aj_ _ (k1 _ _ hod),g2,g3,dr⟩
 ·exact Aj_ _ (k1 _ _ e)
 ·obtain ⟨a',kv,o,n,e1,_,ho,z1,z2,z3⟩:=hit m q hq;exact ⟨a',kv,o,n,by simpa using e1,below ho,(fun z=>by rw [z,hod] at ho;cases ho;rw [g3] at z2;cases z2),ho,z1,z2,z3⟩
 ·have rm:KV (FB_ kvs0 kvs) (merged vs0 ps):=KV.merge rel rel0;have ml:=dK_ kvs kvs0;have mz:(FB_ kvs0 kvs).length<=sizeLine:=AR_ (EY_ (by lia));have he:∃ q,h'.get? a=some q:=let ⟨q,_,_,hq,_⟩:=hD3;⟨q,hq⟩;exact ⟨.non,_,I.write (x:=a) (e:=a) (o:=.dK (FB_ kvs0 kvs)) (t':=tk') (by rw [ha];exact True.intro) (.inl rfl) (fun b o hb e=>k3 b o (below e) hb e) he (lZ_ mz hsys rm hD3),rfl,q⟩
def JA_ (k1 v1 k2 v2:TE):TE:=fun σ H Q=>∀ p,H p=none->k1 σ (upd H p (.dT [])) fun x1 H1=>v1 σ H1 fun y1 H2=>k2 σ H2 fun x2 H3=>v2 σ H3 fun y2 H4=>∃ a b ka kb,x1=.ref a/\x2=.ref b/\H4 a=some (.tup (ka.map kV))/\H4 b=some (.tup (kb.map kV))/\H4 p=some (.dT [])/\Q (.ref p) (upd H4 p (.dT (FR_ (FR_ [] ka y1) kb y2)))
end
end L2
namespace L2
open PySem PySem.Spec PyProof.Rows PySem.W PyProof.V
def Js_:V->List V->Hp->VK->Prop:=fun x vs H Q=>∃ (p:Addr)(ts:List Str)(k:Str),x=.ref p/\vs=[.str k]/\H p=some (.lst (ts.map V.str))/\Q (.int (ts.count k:Nat)) H
structure Mt (K:PySem.W.Frag)(mg:Str->Option Value)(x:Str)(C:Addr)(D:List (Str×Int)):Prop where
 m:mg x=some (.ref C)
 t:∀ h,K.In h->KTD.TextTab h C (D.map fun p=>(p.1,KTD.Dat.flat (.int p.2)))
def lkD (D:List (Str×Int))(k:Str):V:=match KTD.datumAt k D with|some n=>.int n|none=>.non
theorem h9_ (k:Str):∀ D:List (Str×Int),KTD.datumAt k (D.map fun p=>(p.1,KTD.Dat.flat (.int p.2)))=(KTD.datumAt k D).map fun n=>KTD.Dat.flat (.int n)
 | []=>rfl
 | (x,n)::D=>by
  show (if decide (k=x)=true then some (KTD.Dat.flat (.int n)) else KTD.datumAt k (D.map fun p=>(p.1,KTD.Dat.flat (.int p.2))))=Option.map _ (if decide (k=x)=true then some n else KTD.datumAt k D);split
  ·rfl
  ·exact h9_ k D
def JQ_ (D:List (Str×Int))(ty:TE):TE:=fun σ H Q=>ty σ H fun y H2=>∃ k,y=.str k/\Q (lkD D k) H2
theorem qa_ {X:Cx}{K:PySem.W.Frag}{x:Str}{C:Addr}{D:List (Str×Int)}{e:Expr}{ty:TE}{p apos cpos:Pos}(hK:X.K=K)(hM:Mt K X.mg x C D)(hg:Gl X x)(he:PE X e ty)(m:M1 X (.Name x p) "get" apos e cpos) (hd:(x == ("__debug__" : Str))=false:=by decide):PE X (.Call (.Attribute (.Name x p) "get" apos) [e] [] cpos) (JQ_ D ty):=by
 subst hK;have ho:PE X (.Name x p) (tC (.ref C)):=mW_ (v:=.ref C) hg hM.m rfl hd;intro pins s σ H Q I h;refine wpAny_Call_method m.base m.few m.line BF_ B1_ Er_ (thn (ho pins s σ H (fun v H1=>v=.ref C/\H1=H) I ⟨rfl,rfl⟩) fun u s1 ⟨z,H1,I1,rx,ez,eH⟩=>?_);subst ez eH;obtain rfl:u=Value.ref C:=rx;have T1:KTD.Here s1.heap s1.heap C _:=⟨hM.t _ I1.kIn,fun _ _ z=>z⟩;refine ⟨T1.typeIs,T1.noDict,?_⟩;rw [m.trees];refine BS_ rfl (Cv_ (Cf_ (thn (he pins s1 σ H1 _ I1 h) fun iv s2 ⟨y,H2,I2,ry,k,ey,q2⟩=>CS_ ?_)));subst ey;obtain ⟨t,rfl⟩:=ry;have T2:KTD.Here s2.heap s2.heap C _:=⟨hM.t _ I2.kIn,fun _ _ z=>z⟩;refine Dg_ B1_ T2.typeIs CY_ (PySem.F.args_dict_get_2 _ _) (KTD.meets_get1 (h₀:=s2.heap)) ⟨T2,fun d v ha hv=>?_,fun hn=>?_⟩
 ·rw [h9_] at ha;unfold lkD at q2;cases e:KTD.datumAt k D with
  | none=>rw [e] at ha;cases ha
  | some n =>rw [e] at ha q2;cases ha;obtain ⟨t',rfl,_⟩:=reads_int_inv (hv s2.heap);exact ⟨.int n,H2,I2.tok _,⟨_,rfl⟩,q2⟩
 ·rw [h9_] at hn;unfold lkD at q2;cases e:KTD.datumAt k D with
  | some n=>rw [e] at hn;cases hn
  | none =>rw [e] at q2;exact ⟨.non,H2,I2.tok _,rfl,q2⟩
end L2
namespace L2
open PySem PySem.Spec PyProof.Rows PySem.W
def eLe (a b:Str×Nat):Prop:=if a.1=b.1 then a.2<=b.2 else sLe a.1 b.1
def eLt (e f:Str×Nat):Bool:=if e.1=f.1 then (if e.2=f.2 then false else decide (e.2<f.2)) else decide (e.1.cps.toList<f.1.cps.toList)
theorem ky_ {e f:Str×Nat}:eLt f e=false ↔ eLe e f:=by
 unfold eLt eLe;by_cases h:e.1=f.1
 ·rw [if_pos h,if_pos h.symm];by_cases k:f.2=e.2
  ·rw [if_pos k];exact ⟨fun _=>by lia,fun _=>rfl⟩
  ·rw [if_neg k,D9_];lia
 ·rw [if_neg h,if_neg fun z=>h z.symm,D9_];rfl
theorem eLe.trans {a b c:Str×Nat}(h:eLe a b)(h2:eLe b c):eLe a c:=by
 unfold eLe at h h2 ⊢;by_cases e:a.1=b.1
 ·rw [if_pos e] at h;by_cases f:b.1=c.1
  ·rw [if_pos f] at h2;rw [if_pos (e.trans f)];lia
  ·rw [if_neg f] at h2;rw [if_neg fun z=>f (e ▸ z),e];exact h2
 ·rw [if_neg e] at h;by_cases f:b.1=c.1
  ·rw [if_neg fun z=>e (z.trans f.symm),<-f];exact h
  ·rw [if_neg f] at h2;by_cases g:a.1=c.1
   ·rw [<-g] at h2;exact absurd (sLe.antisymm h h2) e
   ·rw [if_neg g];exact h.trans h2
theorem q3_ {e f:Str×Nat}(h:eLt e f=true):eLt f e=false:=by
 rw [ky_];unfold eLt at h;unfold eLe;by_cases k:e.1=f.1
 ·rw [if_pos k] at h ⊢;by_cases q:e.2=f.2
  ·rw [if_pos q] at h;cases h
  ·rw [if_neg q] at h;have:=AG_ h;lia
 ·rw [if_neg k] at h ⊢;exact List.lt_asymm (AG_ h)
theorem ma_ {H:Hp}{f:Nat->V}{g:Nat->Dt}:∀ {is:List Nat},(∀ i∈is,Rep H (f i) (g i))->Fg_ H (is.map f) (is.map g)
 | [],_=>rfl
 | i::is,h=>⟨_,_,rfl,h i At_,ma_ fun j hj=>h j (An_ _ hj)⟩
end L2
namespace L2
open PySem PySem.Spec PyProof.Rows PySem.W
abbrev Sf:=Str×(Int×Int)
def fLt (e f:Sf):Bool:=if e.1=f.1 then false else decide (e.1.cps.toList<f.1.cps.toList)
def dTf (e:Sf):Dt:=.tup [.str e.1,.tup [.int e.2.1,.int e.2.2]]
theorem J9_ (e f:Sf):fLt e f=eLt (e.1,0) (f.1,0):=by
 unfold fLt eLt;split
 ·simp
 ·rfl
def IC_:List V->Hp->VK->Prop:=fun vs H Q=>∃ (p:Addr)(ys:List V)(es:List Sf),vs=[.ref p]/\H p=some (.lst ys)/\Fg_ H ys (es.map dTf)/\es.length<64/\(es.map (·.1)).Nodup /\
 ∀ (l:Addr)(zs:List V)(fs:List Sf),H l=none->Fg_ H zs (fs.map dTf)->fs.Perm es->fs.Pairwise (fun a b=>eLe (a.1,0) (b.1,0))->Q (.ref l) (upd H l (.lst zs))
theorem gC_ {X:Cx}(hu:X.A.units+64<cLine):FW_ X (.builtin "sorted") IC_:=by
 intro pins s σ H xs us Q I r h;obtain ⟨p,ys,es,rfl,hp,hys,h64,nd,q⟩:=h;have yl:ys.length=es.length:=by rw [hys.length,Ab_]
 have it:∀ i (hi:i<es.length),∃ a w,ys[i]?=some (.ref a)/\H a=some (.tup [.str es[i].1,.ref w])/\H w=some (.tup [.int es[i].2.1,.int es[i].2.2]):=fun i hi=>by obtain ⟨dd,hdd,hrep⟩:=hys.of_get (i:=i) (x:=ys[i]'(by lia)) (Aa_ (by lia));rw [Ae_,Aa_ hi] at hdd;cases hdd;obtain ⟨a,zs,ea,ha,_,_,e1,h1,_,_,e2,⟨w,ws,ew,hw,_,_,f1,g1,_,_,f2,g2,f3⟩,e3⟩:=hrep;subst e2 e1 f2 f1;rw [h1,ew,e3] at ha;rw [g1,g2,f3] at hw;exact ⟨a,w,by rw [Aa_ (by lia),ea],ha,hw⟩
 by_cases h0:ys.length=0
 ·have e0:ys=[]:=Bk_ h0;have e1:es=[]:=Bk_ (by lia);subst e0 e1;exact iZ_ pins s σ H _ us Q I r ⟨p,[],rfl,hp,by decide,fun l zs nl pm _=>by rw [pm.eq_nil];exact q l [] [] nl rfl (.refl _) .nil⟩
 by_cases h1:ys.length=1
 ·obtain ⟨y,rfl⟩:=C0_.mp h1;obtain ⟨e,rfl⟩:=C0_.mp (yl.symm.trans h1);exact mz_ pins s σ H _ us Q I r ⟨p,y,rfl,hp,fun l nl=>q l [y] [e] nl hys (.refl _) (List.pairwise_singleton _ _)⟩
 obtain ⟨u,rfl,e⟩:=F9_ r;cases e
 let d:Sf:=(Str.empty,(0,0))
 let lt:Nat->Nat->Bool:=fun i j=>fLt (es.getD i d) (es.getD j d)
 have O:Lto lt ys.length:=by
  refine ⟨fun x y h=>?_,fun x y z h1 h2=>?_⟩
  ·have h':fLt (es.getD x d) (es.getD y d)=true:=h;show fLt (es.getD y d) (es.getD x d)=false;rw [J9_] at h' ⊢;exact q3_ h'
  ·have h1':fLt (es.getD _ d) (es.getD _ d)=false:=h1;have h2':fLt (es.getD _ d) (es.getD _ d)=false:=h2;show fLt (es.getD _ d) (es.getD _ d)=false;rw [J9_] at h1' h2' ⊢;exact ky_.mpr ((ky_.mp h1').trans (ky_.mp h2'))
 obtain ⟨pm,hr,hpm,hso⟩:=p5_ O (by lia);have pz:pm.size=ys.length:=by simpa using (Bi_.mp hpm).length_eq
 have pl:pm.toList.Perm (List.range ys.length):=by simpa using Bi_.mp hpm
 have fe:(pm.toList.map fun i=>es.getD i d).Perm es:=by
  have e2:(List.range ys.length).map (fun i=>es.getD i d)=es:=by
   apply C4_
   ·simp [yl]
   ·intro i h1 h2;simp [h2]
  have e3:=pl.map fun i=>es.getD i d;rw [e2] at e3;exact e3
 refine nx_ (lt:=lt) (κ:=tuples' true) (pm:=pm) I (.inl (.inl hp)) (by lia) (by lia) ?kind ?less hr (by lia) fun l nl=>q l (pm.toList.map fun i=>ys.getD i .non) (pm.toList.map fun i=>es.getD i d) nl ?_ fe (Bo_.mpr ((So.list hpm hso).imp fun {i j} h=>?_))
 case kind =>
  intro its s' rv I' C hC;obtain ⟨fs,t,hf,lk⟩:=h2_ "str" I' rv fun z hz=>by obtain ⟨i,hi,rfl⟩:=Ar_.mp hz;obtain ⟨a,w,ea,ha,_⟩:=it i (by lia);rw [Aa_ hi] at ea;exact ⟨a,_,_,Aq_ ea,ha,rfl⟩
  have hl:=rv.length;exact kat_kind t (by lia) lk (by decide) hC
 case less =>
  intro its s' i j rv I' hi hj C hC;have u2:X.A.in1.in1.units+60<cLine:=by rw [A7_,A7_];lia
  have pick:∀ i,i<ys.length->∃ (a w:Addr),its.getD i Value.none=.ref a/\H a=some (.tup [.str (es.getD i d).1,.ref w])/\H w=some (.tup [.int (es.getD i d).2.1,.int (es.getD i d).2.2]):=fun i hi=>by obtain ⟨a,w,ea,ha,hw⟩:=it i (by lia);obtain ⟨u,hu',ru⟩:=rv.get ea;cases ru;refine ⟨a,w,by rw [Ac_,hu'];rfl,?_⟩;rw [Ac_,Aa_ (by lia)];exact ⟨ha,hw⟩
  have inj:(es.getD i d).1=(es.getD j d).1->i=j:=fun e=>by rw [Ac_,Ac_,Aa_ (show i<es.length by lia),Aa_ (show j<es.length by lia)] at e;exact (AU_ (l:=es.map (·.1)) (by rw [Ab_];lia) nd).mp (by rw [Ae_,Ae_,Aa_ (show i<es.length by lia),Aa_ (show j<es.length by lia)];exact congrArg some e)
  obtain ⟨a,w1,ea,ha,hw1⟩:=pick i hi;obtain ⟨b,w2,eb,hb,hw2⟩:=pick j hj;rw [ea,eb];have hlt:lt i j=fLt (es.getD i d) (es.getD j d):=rfl;rw [hlt] at hC;have same:(es.getD i d).1=(es.getD j d).1->es.getD i d=es.getD j d:=fun hn=>by rw [inj hn]
  generalize es.getD i d=e at *;generalize es.getD j d=f at *;have rw1:Rep H (.ref w1) (.tup [.int e.2.1,.int e.2.2]):=⟨w1,_,rfl,hw1,_,_,rfl,rfl,_,_,rfl,rfl,rfl⟩;have rw2:Rep H (.ref w2) (.tup [.int f.2.1,.int f.2.2]):=⟨w2,_,rfl,hw2,_,_,rfl,rfl,_,_,rfl,rfl,rfl⟩;unfold fLt at hC;refine ks_ I' u2 ha hb (d1:=.str e.1) (d2:=.tup [.int e.2.1,.int e.2.2]) (e1:=.str f.1) (e2:=.tup [.int f.2.1,.int f.2.2]) (b1:=decide (e.1=f.1)) (b2:=decide (e.2.1=f.2.1) && decide (e.2.2=f.2.2)) rfl rw1 rfl rw2 (by rw [deq];rfl) ?eq2 (by simp [dep]) (by simp [dep,deps]) (fun h u v ru rv=>?_) (fun h1 h2 u v ru rv=>?_) (fun h1 h2=>?_)
  case eq2=>simp [deq,deqs];rfl
  ·obtain ⟨t,rfl⟩:=ru;obtain ⟨t',rfl⟩:=rv;rw [if_neg (Bm_ h)] at hC;exact oneLt_str hC
  ·have:=same (AG_ h1);subst this;simp at h2
  ·rw [if_pos (AG_ h1)] at hC;exact hC
 ·rw [Bf_];refine ma_ fun i hi=>?_;have hi':i<ys.length:=A3_.mp (pl.mem_iff.mp hi);obtain ⟨a,w,ea,ha,hw⟩:=it i (by lia);show Rep H (ys.getD i .non) (dTf (es.getD i d));rw [Ac_,ea,Ac_,Aa_ (show i<es.length by lia)];exact ⟨a,_,rfl,ha,_,_,rfl,rfl,_,_,rfl,⟨w,_,rfl,hw,_,_,rfl,rfl,_,_,rfl,rfl,rfl⟩,rfl⟩
 ·have h':fLt (es.getD j d) (es.getD i d)=false:=h;rw [J9_] at h';exact ky_.mp h'
end L2
namespace L2
open PySem PySem.Spec PyProof.Rows PySem.W
section
variable {prog:Program}{w:World}{A:Around}{E:Value->Shared->Prop}{s:Shared}{l:Addr}{a b:Str}{t u:Tok}{Q:Value->Shared->Prop}
end
def Ku_ (f:Str->Str->Str):List V->Hp->VK->Prop:=fun vs H Q=>∃ a b:Str,vs=[.str a,.str b]/\Q (.str (f a b)) H
def JG_ (f:Str->Str->Str):List V->Hp->VK->Prop:=fun vs H Q=>∃ (p:Addr)(a b:Str),vs=[.ref p]/\H p=some (.lst [.str a,.str b])/\Q (.str (f a b)) H
section
variable {X:Cx}
end
end L2
namespace L2
open PySem PySem.Spec PyProof.Rows
end L2
namespace L2
open PySem PySem.Spec PyProof.Rows
variable {X:Cx}
end L2
namespace L2
open PySem PySem.Spec PyProof.Rows
def inT (ts:List Str)(q:Key):Bool:=ts.any fun t=>decide (q=.inr t)
theorem oS_ (ts:List Str)(t:Str)(q:Key):inT (ts++[t]) q=(inT ts q || decide (q=.inr t)):=by unfold inT;rw [List.any_append];simp
section
variable {prog:Program}{w:World}{A:Around}{R:Result->Shared->Prop}
end
def Gc_ (led:Bool):Obj:={ cls:=.type "set",dict:=none,data:=.set #[] 0 (.fresh 0 0 led) }
def SzO (a:Addr)(n:Nat):HO:=.ext fun h=>∃ o es ep t,h.get? a=some o/\o.ExactSet/\o.data=.set es ep t/\t.fits es.size=true/\es.size=n/\es.size<scanBound
theorem pG_:bootBuiltins "set" = some (.type "set"):=by rfl'
theorem mF_ {prog:Program}{w:World}{h:Heap}{a:Addr}{led:Bool}(ho:h.get? a=some (Gc_ led)):h.SetOf (Fa_ prog w) a (inT ([]:List Str)) 0 :=
 ⟨Gc_ led,#[],0,.fresh 0 0 led,ho,⟨rfl,rfl,rfl⟩,rfl,fun e he=>absurd he A8_,fun k=>⟨fun z=>absurd z AI_,fun ⟨e,he,_⟩=>absurd he A8_⟩,by unfold scanBound;decide,by cases led <;> rfl,rfl⟩
section
variable {X:Cx}
def J2_:List V->Hp->VK->Prop:=fun vs H Q=>∃ (a:Addr)(n:Nat),vs=[.ref a]/\H a=some (SzO a n)/\Q (.int n) H
theorem kz_:FW_ X (.builtin "len") J2_:=by intro pins s σ H xs us Q I r h;obtain ⟨a,n,rfl,ha,q⟩:=h;obtain ⟨u,rfl,e⟩:=F9_ r;cases e;obtain ⟨⟨o,es,ep,t,g1,g2,g3,g4,rfl,g6⟩,_,_⟩:=(show FD_ X.prog X.w H s.heap a (SzO a n) from I.hok a _ ha);refine call_len_set g1 g2 g3 g4 (by unfold scanBound at g6;lia) ⟨.int es.size,H,I.tok _,⟨_,rfl⟩,q⟩
end
end L2
namespace L2
open PySem PySem.Spec PyProof.Rows
def dc (l:List Str):Nat:=((List.range l.length).filter fun i=>!inT (l.take i) (.inr (l.getD i Str.empty))).length
theorem lo_ (l:List Str)(t:Str):dc (l++[t])=if inT l (.inr t)=true then dc l else dc l+1:=by
 unfold dc;rw [Ah_,A4_,BJ_,BD_,Ah_];have e:(List.range l.length).filter (fun i=>!inT ((l++[t]).take i) (.inr ((l++[t]).getD i Str.empty)))=(List.range l.length).filter fun i=>!inT (l.take i) (.inr (l.getD i Str.empty)):=DI_ fun i hi=>by have hi:=A3_.mp hi;rw [Dp_ (by lia),Ac_,AP_ hi,<-Ac_]
 rw [e];have e2:(l++[t]).take l.length=l:=by rw [Dp_ (Af_ _),Cb_]
 have e3:(l++[t]).getD l.length Str.empty=t:=by rw [Ac_,A2_ (Af_ _),Dh_];rfl
 cases h:inT l (.inr t) with
 | true =>
  rw [if_pos rfl,BG_ (by rw [e2,e3,h];decide)];rfl
 | false =>rw [if_neg (by decide),BH_ (by rw [e2,e3,h];decide)];rfl
theorem KV_ (l:List Str):dc l<=l.length:=by unfold dc;exact Ay_ (Bp_ _ _) (by rw [Ba_];exact Af_ _)
section
variable {prog:Program}{w:World}{A:Around}{R:Result->Shared->Prop}
end
def Ja_:List V->Hp->VK->Prop:=fun vs H Q=>∃ (p:Addr)(ts:List Str),vs=[.ref p]/\H p=some (.lst (ts.map V.str))/\ts.length<=1000/\∀ a,H a=none->Q (.ref a) (upd H a (SzO a (dc ts)))
section
variable {X:Cx}
end
end L2
namespace L2
open PySem PySem.Spec PyProof.Rows PySem.W
section
variable {X:Cx}{pins:List (Addr×Obj)}{σ:St}{H:Hp}{s:Shared}
def Jw_ (k1 v1:TE):TE:=fun σ H Q=>∀ p,H p=none->k1 σ (upd H p (.dT [])) fun x1 H1=>v1 σ H1 fun y1 H2=>∃ a ka,x1=.ref a/\H2 a=some (.tup (ka.map kV))/\H2 p=some (.dT [])/\Q (.ref p) (upd H2 p (.dT [(ka,y1)]))
def Ju_ (k1 v1:TE):TE:=fun σ H Q=>∀ p,H p=none->k1 σ (upd H p (.dK [])) fun x1 H1=>v1 σ H1 fun y1 H2=>∃ k,x1=kV k/\H2 p=some (.dK [])/\Q (.ref p) (upd H2 p (.dK [(k,y1)]))
end
end L2
namespace L2
open PySem PySem.Spec PyProof.Rows
def I9_ (K:PySem.W.Frag)(Py:Addr)(sp:Sp)(ta:TA)(ts:TS):TS:=fun D σ H=>ta σ H fun vs H1=>sp vs H1 (fun _ _=>False) fun c _ H2=>∃ C,c=.ref C/\PySem.W.mroIn K C (.ref Py)=some true/\ts D σ H2
end L2
namespace L2
open PySem PySem.Spec PyProof.Rows
theorem jB_:entryFor table "proto.unchain" = some Builtin.«proto.unchain»:=entryFor_of_fast (by kernel_rfl)
def QuA (A:Around)(h:Heap):Prop:=A.handled=none\/∃ ea,A.handled=some (.ref ea)/\Pl2 h ea
section
variable {prog:Program}{w:World}{A:Around}{E:Value->Shared->Prop}{s:Shared}
theorem qb_ {α:Type}{Q:α->Shared->Prop}{x:Addr}{o:Obj}{vs:Array Value}(hq:QuA A s.heap)(hx:s.heap.get? x=some o)(hd:o.data=.fields vs)(sz:2<vs.size)(hne:∀ ea,A.handled=some (.ref ea)->ea≠x)
  (k:∀ g,(∀ b,b≠x->g.get? b=s.heap.get? b)->(∃ u,g.get? x=some u/\u.cls=o.cls)->E (.ref x) { s with heap:=g }):wpAny (model prog w) A (raiseNew (.ref x):Sem α) Q E s:=by
 unfold raiseNew;refine Ad_ (wpAny_handled ?_)
 rcases hq with hq|⟨ea,hq,oe,us,he,de,h2⟩
 ·rw [hq];exact Ad_ (Av_ (wpAny_throw (k _ (fun _ _=>rfl) ⟨o,hx,rfl⟩)))
 ·rw [hq];have ne:=hne ea hq
  dsimp only
  rw [if_pos (show (Value.ref ea != Value.ref x)=true by simp [ne])];refine Ad_ (AZ_ (runValue_entry jB_ ?_));unfold Builtin.«proto.unchain»
  dsimp only
  refine Ad_ (B6_ he de h2 ?_);rw [if_pos (show (Value.none == Value.none)=true by rfl)];refine Av_ ⟨_,rfl,Ad_ (Cq_ hx hd sz (wpAny_throw (k _ (fun b hb=>AX_ _ _ (Ne.symm hb)) ⟨_,Cp_ _ hx (C9_ (CJ_ hd _)),Obj.cls_mapFields _ _⟩)))⟩
theorem pH_ {α:Type}{Q:α->Shared->Prop}(hq:QuA A s.heap)(k:∀ g x,(∀ b o,s.heap.get? b=some o->g.get? b=some o)->(∃ u,g.get? x=some u/\u.cls=.type "StopIteration")->E (.ref x) { s with heap:=g }) :
  wpAny (model prog w) A (newExc (.type "StopIteration") [] >>= fun e=>(raiseNew e:Sem α)) Q E s:=by
 refine Ad_ ?_;simp only [newExc,newTuple];refine Ad_ (Cm_ ?_ (by size_fits));refine Ad_ (m:=firstArgMember _ _) (wpAny_of_eq (a:=Value.none) (by first|rfl|(simp only [firstArgMember];rfl)) ?_);refine Cm_ ?_ (by size_fits);have kp:∀ {o1 o2:Obj}(b:Addr)(o:Obj),s.heap.get? b=some o->((s.heap.push o1).push o2).get? b=some o:=fun b o e=>Aj_ _ (Aj_ _ e);refine qb_ (hq.imp id fun ⟨ea,z,oe,us,he,z2⟩=>⟨ea,z,oe,us,kp ea oe he,z2⟩) (AD_ _ rfl) rfl (by rw [Array.size_append];exact AF_ (show 2<6 by decide) (B8_ 6 _)) (fun ea z=>?_) fun g g1 g2=>k g _ (fun b o e=>(g1 b ?_).trans (kp b o e)) g2
 ·rcases hq with q|⟨ea',q,oe,us,he,_⟩
  ·rw [q] at z;cases z
  ·rw [q] at z;cases z;exact AE_ (AF_ (As_ he) (by simp))
 ·exact AE_ (AF_ (As_ e) (by simp))
theorem QuA.but {h h':Heap}{it:Addr}(hq:QuA A h)(hne:∀ ea,A.handled=some (.ref ea)->ea≠it)(k:∀ b,b≠it->h'.get? b=h.get? b):QuA A h' :=
 hq.imp id fun ⟨ea,z,oe,us,he,z2⟩=>⟨ea,z,oe,us,(k ea (hne ea z)).trans he,z2⟩
theorem mb_ {it l:Addr}{i:Nat}{items:Array Value}{Q:Option Value->Shared->Prop}(hq:QuA A s.heap)(hne:∀ ea,A.handled=some (.ref ea)->ea≠it)(hit:s.heap.IsListIter it l i)(hl:s.heap.IsList l items)(hx:items[i]?=none)
  (k:∀ g,Heap.ExtBut it s.heap g->Q none { s with heap:=g }):wpAny (model prog w) A (pyNext (.ref it)) Q E s:=by
 obtain ⟨o,ho,hc,hd⟩:=id hit;obtain ⟨ol,hol,_,nl,hdl⟩:=hl;unfold pyNext;refine Ad_ (wpAny_attempt (Ea_ (name:=Str.ofString "__next__") hit.typeIs slot_listiter_next (D0_ slot_listiter_next hit.typeIs entry_listiter_next ?_ (args_listiter_next _))));show wpAny _ _ (field (.ref it) 0 >>= _) _ _ s;refine Ad_ (B6_ ho hd (x:=.ref l) rfl ?_);show wpAny _ _ (if (Value.ref l == Value.none)=true then _ else _) _ _ s;rw [if_neg (by simp)];show wpAny _ _ (field (.ref it) 1 >>= _) _ _ s;refine Ad_ (B6_ ho hd (x:=.int i 0) rfl ?_);show wpAny _ _ (seqItems? (.ref l) >>= _) _ _ s;refine Ad_ (Et_ hol hdl ?_);simp only [AC_,hx];refine Ad_ (Db_ (Ad_ (Cq_ ho hd (by simp) ?_)));refine pH_ (A:=A.in1) (QuA.but (A:=A.in1) hq hne fun b hb=>AX_ _ _ (Ne.symm hb)) fun g x g1 ⟨u,hu,cu⟩=>?_;refine Ad_ (wpAny_isInstance (T := "StopIteration") (b:=true) ⟨u,hu,cu⟩ isSubtype_stop ?_);exact Av_ (k g fun b o hb e=>g1 b o ((AX_ _ _ (Ne.symm hb)).trans e))
theorem qc_ {it t:Addr}{i:Nat}{items:Array Value}{Q:Option Value->Shared->Prop}(hq:QuA A s.heap)(hne:∀ ea,A.handled=some (.ref ea)->ea≠it)(hit:IsTupIter s.heap it t i)(ht:IsTup s.heap t items)(hx:items[i]?=none)
  (k:∀ g,Heap.ExtBut it s.heap g->Q none { s with heap:=g }):wpAny (model prog w) A (pyNext (.ref it)) Q E s:=by
 obtain ⟨o,ho,hc,hd⟩:=id hit;obtain ⟨ol,hol,_,nl,hdl⟩:=ht;unfold pyNext;refine Ad_ (wpAny_attempt (Ea_ (name:=Str.ofString "__next__") hit.typeIs EP_ (D0_ EP_ hit.typeIs entry_tupleiter_next ?_ (args_tupleiter_next _))));show wpAny _ _ (field (.ref it) 0 >>= _) _ _ s;refine Ad_ (B6_ ho hd (x:=.ref t) rfl ?_);show wpAny _ _ (if (Value.ref t == Value.none)=true then _ else _) _ _ s;rw [if_neg (by simp)];show wpAny _ _ (field (.ref it) 1 >>= _) _ _ s;refine Ad_ (B6_ ho hd (x:=.int i 0) rfl ?_);show wpAny _ _ (seqItems? (.ref t) >>= _) _ _ s;refine Ad_ (Et_ hol hdl ?_);simp only [AC_,hx];refine Ad_ (Db_ (Ad_ (Cq_ ho hd (by simp) ?_)));refine pH_ (A:=A.in1) (QuA.but (A:=A.in1) hq hne fun b hb=>AX_ _ _ (Ne.symm hb)) fun g x g1 ⟨u,hu,cu⟩=>?_;refine Ad_ (wpAny_isInstance (T := "StopIteration") (b:=true) ⟨u,hu,cu⟩ isSubtype_stop ?_);exact Av_ (k g fun b o hb e=>g1 b o ((AX_ _ _ (Ne.symm hb)).trans e))
theorem oT_ {env:Env}{es:List Expr}{x1:Nat}{pos:Pos}{t:Addr}{items:Array Value}{Q:Unit->Shared->Prop}(hq:QuA A s.heap)(ht:IsTup s.heap t items)(hn:(assignEach es env).length=items.size)(hst:(assignEach es env).findIdx? (·.1)=none)
  (k:∀ g,Heap.ExtBut s.heap.objs.size s.heap g->wpAny (model prog w) A (assignInOrder ((assignEach es env).map (·.2)) items.toList) Q E { s with heap:=g }):wpAny (model prog w) A (assign (.Tuple es x1 pos) env (.ref t)) Q E s:=by
 have hlt:t≠s.heap.objs.size:=let ⟨_,ho,_⟩:=ht;AE_ (As_ ho);rw [assign_Tuple];refine Ad_ (Cy_ ?_);unfold unpack;rw [hn,hst];refine Ad_ (AZ_ ?_);unfold unpackItems;refine Ad_ ?_;unfold notIterableAtAll;refine Ad_ (Ee_ ht.typeIs slot_tuple_iter.lookup (Av_ ?_));rw [if_neg (by simp)];refine Ad_ (AZ_ (iter_tuple ht ?_));refine Ad_ (AZ_ (draw_tuple hlt items.size 0 _ _ ⟨_,AD_ _ rfl,rfl,rfl⟩ (ht.push _) (by lia) fun g1 i1 s1=>?_));rw [show List.take items.size (List.drop 0 items.toList)=items.toList by rw [List.drop_zero];exact AT_ (by simp)];rw [if_neg (by simp)];have t1:IsTup g1 t items:=(ht.push _).extBut s1.extBut hlt
 have hne:∀ ea,A.handled=some (.ref ea)->ea≠s.heap.objs.size:=fun ea z=>by
  rcases hq with q|⟨ea',q,oe,us,he,_⟩
  ·rw [q] at z;cases z
  ·rw [q] at z;cases z;exact AE_ (As_ he)
 have q1:QuA A g1:=hq.imp id fun ⟨ea,z,oe,us,he,z2⟩=>⟨ea,z,oe,us,s1.extBut ea oe (hne ea z) (Aj_ _ he),z2⟩;refine Ad_ (AZ_ (qc_ (s:={ s with heap:=g1 }) q1 hne i1 t1 (by simp) fun g2 e2=>?_));rw [if_neg (by simp)];exact Av_ (k g2 fun b o hb e=>e2 b o hb (s1.extBut b o hb (Aj_ _ e)))
end
end L2
namespace L2
open PySem PySem.Spec PyProof.Rows
def IQ_ (o:Obj):Prop:=∃ vs,o.data=.fields vs/\vs[2]?=some .none
def Qx (X:Cx):Prop:=X.A.handled=none\/∃ ea o,X.A.handled=some (.ref ea)/\(ea,o)∈X.pn/\IQ_ o
section
variable {X:Cx}{pins:List (Addr×Obj)}{σ:St}{H:Hp}{s:Shared}
theorem Qx.qa (h:Qx X)(I:Inv X pins σ H s):QuA X.A s.heap:=h.imp id fun ⟨ea,o,h1,h2,vs,h3,h4⟩=>⟨ea,h1,o,vs,(I.pin (ea,o) (AV_ _ h2)).1,h3,h4⟩
theorem Qx.ne (h:Qx X){it:Addr}(hp:∀ p∈X.pn++pins,p.1≠it):∀ ea,X.A.handled=some (.ref ea)->ea≠it:=fun ea z=>by
 rcases h with q|⟨ea',o,q,h2,_⟩
 ·rw [q] at z;cases z
 ·rw [q] at z;cases z;exact hp _ (AV_ _ h2)
theorem LC_ {P:Program}{w:World}{K:PySem.W.Frag}{tg:Expr}(a it:Addr):KH_ Qx P w K tg (Itl K a) [it] it (fun i h=>h.IsListIter it a i) where
 obj:=fun i h st b hb=>by
  cases Ai_.mp hb;obtain ⟨o,e,c,d⟩:=st;exact ⟨o,e,fun v z=>by rw [d] at z;cases z⟩
 keep:=fun i h h' st k=>st.at fun o e=>k it (by simp) o e
 item:=by intro X hP hw hK hc i pins s σ H E I hf st ⟨xs,x,hq,hx⟩;subst hP hw hK;obtain ⟨its,rv,p,hz⟩:=I.list hq;obtain ⟨u,hu,ru⟩:=rv.get hx;obtain ⟨f0,f1,f2,f3,f4,f5⟩:=hf it (by simp);refine By_ st p.isList (x:=u) (by simpa using hu) fun g st' sb=>?_;have I1:Inv X pins σ H { s with heap:=g }:=I.turned (t':=s.toks) (fun b o hb e=>(sb.2 b hb).trans e) f0 f1 f3 f4 f5;obtain ⟨o,e,c,d⟩:=id st';exact ⟨u,rfl,IT_ (s:={ s with heap:=g }) e c d (by decide) ⟨x,H,I1,ru,⟨rfl,fun ys hy=>by rw [I.list_inj hy hq];exact hx⟩,st',fun b hb=>(hf b hb).1⟩⟩
 done:=by intro X hP hw hK hc i pins s σ H E I hf st ⟨xs,hq,hx⟩;subst hP hw hK;obtain ⟨its,rv,p,hz⟩:=I.list hq;obtain ⟨f0,f1,f2,f3,f4,f5⟩:=hf it (by simp);have hl:=rv.length;exact mb_ (hc.qa I) (hc.ne f5) st p.isList (by simp;lia) fun g eb=>⟨rfl,I.turned (t':=s.toks) (fun b o hb e=>eb b o hb e) f0 f1 f3 f4 f5⟩
 self:=fun _ _ _ _ _ st h=>Eo_ st h
theorem jC_ {K:PySem.W.Frag}{tg l:Expr}{tl:TE}(hK:X.K=K)(hl:PE X l tl):PIc Qx X tg l (IS_ K tl):=by subst hK;intro pins s σ H R I h;refine thn (hl pins s σ H _ I h) fun v s1 ⟨x,H1,I1,r1,a,e,⟨xs,hq⟩,q⟩=>?_;subst e;cases r1;obtain ⟨its,rv,p,hz⟩:=I1.list hq;refine B4_ p.isList ⟨s1.heap.objs.size,[s1.heap.objs.size],_,_,H1,rfl,I1.kept (t':=s1.toks) fun b o e=>Aj_ _ e,LC_ a _,⟨_,AD_ _ rfl,rfl,rfl⟩,fun b hb=>?_,q⟩;cases Ai_.mp hb;exact I1.fpOk (Af_ _) (I1.hok.fresh (Af_ _))
theorem jD_ {N':List Str}{ix:List (Option Nat)}{scope:Scope}{tg iter elt:Expr}{ifs:List Expr}{wi:TI}{g:TG}{tt:TT}{te:TE}{pos:Pos}(hc:Qx X)(hxe:X.xe=fun _ _=>False)(S:Scp X.env.scope X.N N' ix scope)(hi:PIc Qx X tg iter wi)
  (hg:∀ s H ex,PG (cxC X N' scope s H ex) tg g) (ht:∀ s H ex,PF (cxC X N' scope s H ex) ifs tt) (he:∀ s H ex,PE (cxC X N' scope s H ex) elt te) (hs:∀ x,foldedSetIterable iter X.env x=pure x:=by intro _;rfl):PE X (.ListComp elt [⟨tg,iter,ifs,0⟩] scope pos) (Ik_ ix wi g tt te):=by
 intro pins s σ H Q I h;rw [eval_ListComp];refine CI_ (use:=none) rfl hs (gu_ fun p hp e=>I.ok.has p.1 (S.free p hp e)) S.kind S.names (hQ_ (C:=Qx) (fun _ _ _=>hc) hxe S hi hg ht he I h fun D C H' s' K1 ⟨g0,g1,g2,g3,g4,g5⟩ ⟨m,hn⟩ q=>⟨m,hn,fun h' sb=>?_⟩);exact ⟨.ref D,H',K1.turned (t':=s'.toks) (fun b o hb e=>sb.extBut b o hb e) g0 g1 g3 g4 g5,rfl,q⟩
theorem lp_ {K:PySem.W.Frag}{es:List Expr}{k:Nat}{t:TGs}{n:Nat}{pos:Pos}(hK:X.K=K)(hc:Qx X)(h:PGs X es t)(hn:(assignEach es X.env).length=n:=by rfl) (hst:(assignEach es X.env).findIdx? (·.1)=none:=by rfl):PG X (.Tuple es k pos) (KN_ K n t):=by subst hK;intro pins s σ H v u Q I r ⟨a,xs,e1,hq,hl,hw⟩;subst e1;cases r;obtain ⟨its,rv,ht,hz⟩:=I.tuple hq;refine oT_ (hc.qa I) ht (by simp [hn,<-hl,rv.length]) hst fun g hx=>?_;have I1:Inv X pins σ H { s with heap:=g }:=I.kept (t':=s.toks) fun b o e=>hx b o (AE_ (As_ e)) e;exact h pins _ σ H xs _ Q I1 (by simpa using rv) hw
end
def QuP (A:Around)(outer:List Env)(s:Shared)(H:Hp)(pn:List (Addr×Obj)):Prop:=(A.handled=none/\pn=[])\/∃ ea o,A.handled=some (.ref ea)/\pn=[(ea,o)]/\IQ_ o/\s.heap.get? ea=some o/\H ea=none/\ea∉frs outer
structure KO_ (P:Program)(w:World)(K:PySem.W.Frag)(mg:Str->Option Value)(base:Heap)(k:Nat)(f:Addr)(fd:FuncData)(ps:List Str)(sp:Sp):Prop where
 len:∀ vs H Q E,sp vs H Q E->vs.length=ps.length
 run:∀ (A:Around)(outer:List Env)(s:Shared)(H:Hp)(args:Args)(us:List Value)(vs:List V)(Q:VK)(E:XK)(pn:List (Addr×Obj)),Gb_ k (calmed A)->QuP A outer s H pn->KP_ P w K mg base A outer s H->BindsTo s fd args (ps.zip us)->Fm_ vs us->sp vs H Q E ->
  codeAny (model P w) A (.call (.ref f) args) (CR CX0 outer P w H s Q E) s
abbrev HB_ (P:Program)(w:World)(K:PySem.W.Frag)(mg:Str->Option Value)(base:Heap)(N:List Str)(qual:Str)(scope:Scope)(f:Addr)(cd:Value)(A:Around)(outer:List Env)(s:Shared)(H:Hp)(E:XK)(pn:List (Addr×Obj)):Cx :=
 { HE_ CX0 P w K mg base N qual scope f cd A outer s H E with calm:=false,xe:=fun _ _=>False,pn:=pn }
theorem q4_ {P:Program}{w:World}{K:PySem.W.Frag}{mg:Str->Option Value}{base:Heap}{k:Nat}{f:Addr}{name qual:Str}{params:Arguments}{body:List Stmt}{scope:Scope}{dV kV doc pm cdv ct oc:Value}{an od:Option Addr}
  {osl:Array (Option Value)} {N ps:List Str} {sp:Sp} (lk:K.lookup f=some ⟨oc,od,.func (PySem.W.fnOf name qual params body scope dV kV doc pm an cdv ct),osl⟩) (hcd:PySem.W.codeIn K cdv qual=true) (S:E2_ N ps scope)
  (len:∀ vs H Q E,sp vs H Q E->vs.length=ps.length)
  (hbody:∀ (A:Around)(outer:List Env)(s:Shared)(H:Hp)(vs:List V)(Q:VK)(E:XK)(pn:List (Addr×Obj)),Qx (HB_ P w K mg base N qual scope f cdv A outer s H E pn)->Gb_ k (calmed (A.deeper (envOfC qual scope s.heap.objs.size f cdv)))->sp vs H Q E ->
   ∃ t,PSs (HB_ P w K mg base N qual scope f cdv A outer s H E pn) body t/\t { nx:=fun _ H'=>Q .non H',rt:=Q } (start N vs) H) :
  KO_ P w K mg base (k+1) f (PySem.W.fnOf name qual params body scope dV kV doc pm an cdv ct) ps sp:=by
 refine ⟨len,fun A outer s H args us vs Q E pn hr qp e0 hb r hsp=>?_⟩;have hl:=len _ _ _ _ hsp;have KX:K.In s.heap:=e0.mod.kin.keeps fun b o e=>(e0.bs b o e).1;have lim:s.heap.NoLimit:=e0.mod.nolimit.keeps fun b o e=>(e0.bs b o e).1
 have hkind:∀ y∈ps.zip us,scope.names.lookup y.1=some .local\/(scope.names.lookup y.1=some .cell/\((cellsFrom (s.heap.objs.size+1) scope.names []).lookup y.1).isSome=true):=fun ⟨n,v⟩ hy=>by
  rcases S.par n (Dd_ hy).1 with q|q
  ·exact .inl q
  ·exact .inr ⟨q,CW_ _ _ _ (.inl q)⟩
 refine Eq_ hr.depth (KX _ _ lk) rfl S.co S.gen rfl (PySem.W.codeRec_of KX hcd) (hb _ _ _ _ ?_);refine DA_ S.kind hkind fun env he s1 x=>?_;subst he;refine ⟨lim.keeps x.toInCall.keep,codeAny_func ?_⟩;have qx:Qx (HB_ P w K mg base N qual scope f cdv A outer s H E pn):=qp.imp (fun z=>z.1) fun ⟨ea,o,z1,z2,z3,_⟩=>⟨ea,o,z1,by rw [z2];exact Ai_.mpr rfl,z3⟩;obtain ⟨t,ht,hq⟩:=hbody A outer s H vs Q E pn qx (hr.deeper _) hsp;have I0:Inv (HE_ CX0 P w K mg base N qual scope f cdv (calmed A) outer s H E) [] (start N vs) H s1:=j8_ S rfl ⟨e0.frames,e0.mod,e0.bs,e0.bsz,e0.funs,e0.frf,e0.hok,e0.bare⟩ hl r x
 have I:Inv (HB_ P w K mg base N qual scope f cdv A outer s H E pn) [] (start N vs) H s1 :=
  ⟨⟨I0.ok.mod,I0.ok.kind,I0.ok.glob,I0.ok.blt,I0.ok.above,I0.ok.inj,I0.ok.has,I0.ok.cab,(fun z=>nomatch z),I0.ok.frames,I0.ok.stk,I0.ok.exf,I0.ok.bs,I0.ok.bsz,I0.ok.noex,I0.ok.exfs,I0.ok.funs,I0.ok.frf⟩,I0.os,I0.bare,I0.base,I0.loc,I0.cell,I0.free,I0.freeC,fun p hp=>by
   have hp':p∈pn:=(Ax_.mp hp).elim id fun z=>nomatch z
   rcases qp with ⟨_,e⟩|⟨ea,o,z1,z2,⟨vs',z3,_⟩,z4,z5,z6⟩
   ·rw [e] at hp';cases hp'
   ·rw [z2] at hp';cases Ai_.mp hp';exact ⟨x.toInCall.keep _ _ z4,z5,AE_ (As_ z4),z6,fun v q=>by rw [z3] at q;cases q⟩,I0.hok,I0.len⟩
 refine Bl_ (ht [] s1 (start N vs) H _ I hq) (fun fl s' hs=>?_) fun e s' hs=>hs.elim;have fin:∀ {σ':St}{H':Hp}{v:V}{u:Value},Inv (HB_ P w K mg base N qual scope f cdv A outer s H E pn) [] σ' H' s'->Fs_ v u->Q v H'->CE outer P w H s Q u s':=fun {σ' H' v u} J rv q=>⟨v,H',J.os,J.bare,J.base,J.hok,rv,q⟩;cases fl with
 | ret u =>
  obtain ⟨v,σ',H',J,rv,q⟩:=hs;exact fin J rv q
 | next =>
  obtain ⟨σ',H',J,q⟩:=hs;exact fin (v:=V.non) (u:=Value.none) J rfl q
 | brk =>
  obtain ⟨_,_,_,q⟩:=hs;exact False.elim q
 | cont =>obtain ⟨_,_,_,q⟩:=hs;exact False.elim q
def I8_ (P:Program)(w:World)(K:PySem.W.Frag)(mg:Str->Option Value)(base:Heap)(x:Str)(ps:List Str)(k:Nat)(sp:Sp):Prop :=
 ∃ f fd,mg x=some (.ref f)/\PySem.W.keepIn K (.ref f)=true/\Ht_ K fd ps []/\KO_ P w K mg base k f fd ps sp
theorem Cal.of_Q {P:Program}{w:World}{K:PySem.W.Frag}{mg:Str->Option Value}{base:Heap}{x:Str}{ps:List Str}{k:Nat}{sp:Sp}(C:I8_ P w K mg base x ps k sp):Cal P w K mg base x ps k sp:=by obtain ⟨f,fd,m,kp,b,F⟩:=C;exact ⟨f,fd,m,kp,b,F.len,fun A outer s H args us vs Q E hr=>F.run A outer s H args us vs Q E [] ⟨rfl,hr.dp,hr.un⟩ (.inl ⟨hr.hd,rfl⟩)⟩
theorem lq_ {P:Program}{w:World}{K:PySem.W.Frag}{mg:Str->Option Value}{base:Heap}{x:Str}{st:Stmt}{N ps:List Str}{k:Nat}{sp:Sp}(F:Fn0 K mg x st)(S:E2_ N ps (EW_ st))
  (hb:∀ (kV doc pm:Value)(an:Option Addr)(cdv ct:Value)(us:List Value),us.length=ps.length->bindArgs (PySem.W.fnOf x x (F8_ st) (FO_ st) (EW_ st) .none kV doc pm an cdv ct) ⟨us,[]⟩=pure (ps.zip us))
  (len:∀ vs H Q E,sp vs H Q E->vs.length=ps.length)
  (hbody:∀ (f:Addr)(cdv:Value)(A:Around)(outer:List Env)(s:Shared)(H:Hp)(vs:List V)(Q:VK)(E:XK)(pn:List (Addr×Obj)),Qx (HB_ P w K mg base N x (EW_ st) f cdv A outer s H E pn)->Gb_ k (calmed (A.deeper (envOfC x (EW_ st) s.heap.objs.size f cdv)))->sp vs H Q E ->
   ∃ t,PSs (HB_ P w K mg base N x (EW_ st) f cdv A outer s H E pn) (FO_ st) t/\t { nx:=fun _ H'=>Q .non H',rt:=Q } (start N vs) H):I8_ P w K mg base x ps (k+1) sp:=by
 obtain ⟨f,fd,F,m⟩:=F;refine ⟨f,fd,m,F.kp,F.binds hb,?_⟩;obtain ⟨oc,od,kV,doc,pm,an,cdv,ct,osl,rfl,lk,hcd⟩:=F.ex;exact q4_ lk hcd S len fun A outer s H vs Q E pn hq hr hsp=>hbody f cdv A outer s H vs Q E pn hq hr hsp
abbrev Cx.suiteQ (X:Cx)(ea:Addr)(o:Obj):Cx:={ X with A:=X.A.mark (some (.ref ea)),calm:=false,xe:=fun _ _=>False,pn:=[(ea,o)] }
theorem oU_ {X:Cx}{ea:Addr}{o:Obj}{x:Str}{ps:List Str}{k:Nat}{sp:Sp}{e:Expr}{es:List Expr}{t:TA}{p pos:Pos}(C:I8_ X.prog X.w X.K X.mg X.base x ps k sp)(hr:Gb_ k X.A)(hst:X.stack=X.env::X.outer)(hfr:X.env.frame=some X.env.locals)(ho:IQ_ o)(hg:Gl X x)(ha:PA (X.suiteQ ea o) (e::es) t)(hdb:(x == ("__debug__" : Str))=false:=by decide)
  (he:starEach (e::es) X.env=(false,eval e X.env)::starEach es X.env:=by rfl) (hpl:(backTo pos (starEach es X.env)).any (·.1)=false:=by rfl):PE (X.suiteQ ea o) (.Call (.Name x p) (e::es) [] pos) (Hv_ sp [] E0 t):=by
 intro pins s σ H Q I h;obtain ⟨f,fd,hm,hkp,hb,F⟩:=C;refine Bt_ (fn_ I hg hm ?_ hdb);refine CH_ (h₀:=X.base) I.ok.mod.kin hkp (thn (ha pos pins s σ H _ I h) fun us s1 ⟨vs,H1,I1,r,q⟩=>⟨I1.kIn,?_⟩) he hpl;have r2:Fm_ (vs++[]) (us++[]):=r.append .nil;have hl:(us++[]).length=ps.length:=by rw [<-r2.length];exact F.len _ _ _ _ q
 obtain ⟨p1,p2,p3,p4,_⟩:=I1.pin (ea,o) (AV_ _ (Ai_.mpr rfl));have qp:QuP (X.A.mark (some (.ref ea))) X.stack s1 H1 [(ea,o)]:=.inr ⟨ea,o,rfl,rfl,ho,p1,p2,fun z=>by rw [hst] at z;unfold frs at z;rw [BK_,hfr] at z;exact (Ao_.mp z).elim p3 p4⟩;refine Dc_ (BV_ (F.run (X.A.mark (some (.ref ea))) X.stack s1 H1 ⟨us,[]⟩ (us++[]) (vs++[]) _ _ _ (Gb_.suite hr) qp I1.env0 (hb s1 us I1.kIn hl) r2 q) fun res s' hq=>?_);cases res with
 | error e=>exact False.elim hq
 | ok fl =>
  cases fl with
  | ret u=>exact I1.after hq
  | next=>exact False.elim hq
  | brk=>exact False.elim hq
  | cont=>exact False.elim hq
theorem Inv.suiteQ {X:Cx}{pins:List (Addr×Obj)}{σ:St}{H:Hp}{s:Shared}{ea:Addr}{o:Obj}(I:Inv X pins σ H s)(h1:s.heap.get? ea=some o)(h2:H ea=none)(h3:ea≠X.env.locals)(h4:ea∉X.fs)(h5:IQ_ o):Inv (X.suiteQ ea o) pins σ H s :=
 ⟨⟨I.ok.mod,I.ok.kind,I.ok.glob,I.ok.blt,I.ok.above,I.ok.inj,I.ok.has,I.ok.cab,(fun z=>nomatch z),I.ok.frames,I.ok.stk,I.ok.exf,I.ok.bs,I.ok.bsz,I.ok.noex,I.ok.exfs,I.ok.funs,I.ok.frf⟩,I.os,I.bare,I.base,I.loc,I.cell,I.free,I.freeC,fun p hp=>(Ao_.mp hp).elim (fun e=>by rw [e];exact ⟨h1,h2,h3,h4,fun v q=>by obtain ⟨vs,z,_⟩:=h5;rw [z] at q;cases q⟩) fun z=>I.pin p (AM_ _ z),I.hok,I.len⟩
theorem Inv.unsuiteQ {X:Cx}{pins:List (Addr×Obj)}{σ:St}{H:Hp}{s:Shared}{ea:Addr}{o:Obj}(J:Inv (X.suiteQ ea o) pins σ H s)(ok:X.Ok)(pn:X.pn=[]):Inv X pins σ H s :=
 ⟨ok,J.os,J.bare,J.base,J.loc,J.cell,J.free,J.freeC,fun p hp=>J.pin p (An_ _ (by rw [pn] at hp;exact hp)),J.hok,J.len⟩
theorem qd_ {X:Cx}{x y z:Str}{ps:List Str}{k:Nat}{sp:Sp}{e₀:Expr}{es:List Expr}{ta:TA}{more suite:List Stmt}{b₀:Stmt}{ts:TS}{p zp cpos epos np hpos pos:Pos}{Py:Addr}
  (C:IH_ X.prog X.w X.K X.mg X.base x ps k sp) (hr:Gb_ k X.A) (hg:Gl X x) (hst:X.stack=X.env::X.outer) (hfr:X.env.frame=some X.env.locals) (hpn:X.pn=[]) (hy:X.mg y=some (.ref Py)) (HC:HnC X.K Py) (hgy:Gl X y)
  (ha:∀ EE,PA (X.wish EE) (e₀::es) ta) (hs:∀ ea o,IQ_ o->PSs (X.suiteQ ea o) (b₀::suite) ts)
  (hdb:(x == ("__debug__" : Str))=false:=by decide) (hdy:(y == ("__debug__" : Str))=false:=by decide) (hsw:swapsWith (.Call (.Name x p) (e₀::es) [] cpos) (some (.Name z zp)) epos.line X.env=pure false:=by rfl)
  (he:starEach (e₀::es) X.env=(false,eval e₀ X.env)::starEach es X.env:=by rfl) (hpl:(backTo cpos (starEach es X.env)).any (·.1)=false:=by rfl) :
  PS X (.Try (.Assign [.Name z zp] (.Call (.Name x p) (e₀::es) [] cpos) epos::more) [.ExceptHandler (some (.Name y np)) none (b₀::suite) hpos] [] [] pos) (I9_ X.K Py sp ta ts):=by
 intro pins s σ H D I h;refine wpAny_Try_except (DO_ (wpAny_Assign_Name (my_ C hr hg (ha _) I h ?_ hdb he hpl) hsw));intro H1 s1 e s' I1 hq;obtain ⟨ea,C0,a0,B,H',rfl,os,bare,un,hok,fl,new,b1,b2,C,rfl,hsub,hts⟩:=hq;have fl':Fly B (X.env::X.outer) ea (.ref C) a0 s'.heap:=hst ▸ fl;refine kk_ (L:=X.env.locals) (by rw [I.ok.frames,hst]) hfr fl' fun h₄ hd₄ sm₄=>?_;refine fR_ hd₄ fun h₅ fl₅ sm₅=>?_;obtain ⟨un5,ok5⟩:=hw_ un hok fl.1 fl₅.1 fl.2.2.1 (sm₄.trans sm₅) b1 b2;have I5:Inv X pins σ H' { s' with heap:=h₅ }:=I1.call' (s':={ s' with heap:=h₅ }) os un5 ok5 bare (fun b z=>nomatch z);refine wpAny_handleBy_cons (codeAny_handlers_test ?_) (by intro q;cases q);refine fn_ (X:=X.suite (.ref ea)) (I5.suite _) hgy hy ?_ hdy;refine li_ (K:=X.K) I5.kIn HC hsub fl₅.there ?_;refine codeAny_handlers_suite ?_;refine fR_ fl₅ fun h₆ fl₆ sm₆=>?_;obtain ⟨un6,ok6⟩:=hw_ un hok fl.1 fl₆.1 fl.2.2.1 ((sm₄.trans sm₅).trans sm₆) b1 b2;have I7:Inv X pins σ H' { s' with heap:=h₆ }:=I1.call' (s':={ s' with heap:=h₆ }) os un6 ok6 bare (fun b z=>nomatch z);obtain ⟨o,vs,g1,g2,g3⟩:=fl₆.2.2.2.2
 have hn:H' ea=none:=by
  cases q:H' ea with
  | none=>rfl
  | some z=>obtain ⟨u,hu⟩:=b2 ea z q;rw [fl.2.1] at hu;cases hu
 have nf:∀ b∈(X.env::X.outer).filterMap (·.frame),ea≠b:=fun b hb z=>by obtain ⟨_,o',q,nf⟩:=fl₆.2.2.1.mem hb;rw [<-z,g1] at q;cases q;exact nf _ g2
 have lf:X.env.locals∈(X.env::X.outer).filterMap (·.frame):=by rw [BK_,hfr];exact At_
 have of_:∀ b∈X.fs,b∈(X.env::X.outer).filterMap (·.frame):=fun b hb=>by rw [BK_,hfr];exact An_ _ hb
 refine Bl_ (hs ea o ⟨vs,g2,g3⟩ pins _ _ _ D (I7.suiteQ g1 hn (nf _ lf) (fun z=>nf _ (of_ _ z) rfl) ⟨vs,g2,g3⟩) hts) (fun fw s₉ q=>?_) fun _ _ z=>z.elim;cases fw with
 | next=>obtain ⟨σ',H9,J,d⟩:=q;exact ⟨_,_,J.unsuiteQ I.ok hpn,d⟩
 | brk=>obtain ⟨σ',H9,J,d⟩:=q;exact ⟨_,_,J.unsuiteQ I.ok hpn,d⟩
 | cont=>obtain ⟨σ',H9,J,d⟩:=q;exact ⟨_,_,J.unsuiteQ I.ok hpn,d⟩
 | ret u=>obtain ⟨v,σ',H9,J,rv,d⟩:=q;exact ⟨v,_,_,J.unsuiteQ I.ok hpn,rv,d⟩
end L2
namespace RimT
end RimT
namespace RimT
variable {S:Type}[DecidableEq S]
def F1_ (N:Net S)(x:S):List (End S):=((occ N.rows).filter fun y=>decide (y.1=x)).map (·.2)
theorem fZ_ {N:Net S}{x:S}{e:End S}:e∈F1_ N x ↔ (x,e)∈occ N.rows:=by
 unfold F1_;constructor
 ·intro h;obtain ⟨y,hy,rfl⟩:=Al_.mp h;obtain ⟨h1,h2⟩:=A9_.mp hy;have:y.1=x:=by simpa using h2
  rw [<-this];exact h1
 ·intro h;exact Al_.mpr ⟨(x,e),A9_.mpr ⟨h,by simp⟩,rfl⟩
theorem jE_ {N:Net S}{kv:S×List (End S)}(h:kv∈FK_ N):kv.2=F1_ N kv.1:=(bM_ _ _ rfl).2.1 kv h
theorem jF_ {N:Net S}{x:S}(h:x∈N.all):∃ kv∈FK_ N,kv.1=x:=by
 have:x∈(occ N.rows).map (·.1):=by rw [gA_];exact h
 obtain ⟨y,hy,e⟩:=Al_.mp this;rw [<-e];exact (bM_ _ _ rfl).2.2.1 y hy
theorem qe_ {rows:List (S×List S)}{r:S×List S}(h:r∈rows){y:S×End S}(hy:y∈Fj_ r.1 0 r.2):y∈occ rows:=Bu_.mpr ⟨_,Al_.mpr ⟨r,h,rfl⟩,hy⟩
end RimT
namespace L2
open PySem PySem.Spec PyProof.Rows
theorem Cal.of_R {P:Program}{w:World}{K:PySem.W.Frag}{mg:Str->Option Value}{base:Heap}{x:Str}{ps:List Str}{k:Nat}{sp:Sp}(C:IH_ P w K mg base x ps k sp):Cal P w K mg base x ps k (fun vs H Q _=>sp vs H Q E0):=by
 obtain ⟨f,fd,m,kp,b,F⟩:=C;refine ⟨f,fd,m,kp,b,fun vs H Q E h=>F.len vs H Q E0 h,fun A outer s H args us vs Q E hr he hb hv hs=>BV_ (F.run A outer s H args us vs Q E0 hr he hb hv hs) fun r s' z=>?_⟩;cases r with
 | ok fl=>cases fl <;> exact z
 | error e =>obtain ⟨_,_,_,_,_,_,_,_,_,_,_,_,_,_,q⟩:=z;exact q.elim
end L2
namespace RimT
variable {S:Type}[DecidableEq S]
def kpG (ins:End S->Option (List S))(p:S):Nat->List S->List S
 | _,[]=>[]
 | k,w::ws=>(ins (p,k)).getD [w]++kpG ins p (k+1) ws
theorem jG_ {ins:End S->Option (List S)}{p w:S}:∀ (ws:List S)(k:Nat),kpG ins p k (ws++[w])=kpG ins p k ws++(ins (p,k+ws.length)).getD [w]
 | [],k=>by
  show (ins (p,k)).getD [w]++[]=[]++_;rw [Bd_,Dk_,Ed_,Nat.add_zero]
 | x::ws,k=>by have ih:=jG_ (ins:=ins) (p:=p) (w:=w) ws (k+1);rw [DU_];show (ins (p,k)).getD [x]++kpG ins p (k+1) (ws++[w])=((ins (p,k)).getD [x]++kpG ins p (k+1) ws)++_;rw [ih,AH_,show k+(ws.length+1)=k+1+ws.length by lia,A5_]
theorem gD_ {ins:End S->Option (List S)}(h:∀ e l,ins e=some l->l.length<=2){p:S}:∀ (ws:List S)(k:Nat),(kpG ins p k ws).length<=2*ws.length
 | [],_=>Af_ _
 | x::ws,k=>by
  have:=gD_ h (p:=p) ws (k+1)
  have h1:((ins (p,k)).getD [x]).length<=2:=by
   cases e:ins (p,k) with
   | none=>exact (by decide:1<=2)
   | some l=>exact h _ l e
  show ((ins (p,k)).getD [x]++kpG ins p (k+1) ws).length<=_;rw [Ah_,AH_];lia
def Gs_ (rows:List (S×List S))(ins:End S->Option (List S))(g:List S):List (S×List S):=(rows.filter fun r=>decide (r.1∉g)).map fun r=>(r.1,kpG ins r.1 0 r.2)
def chG (N:Net S)(ins:End S->Option (List S))(g:List S)(wf:S->Option (Int×Int)):Net S :=
 ⟨N.posts,Gs_ N.rows ins g,(N.worths.filter fun r=>decide (r.1∈((Gs_ N.rows ins g).map (·.2)).flatten)).map fun r=>(r.1,(wf r.1).getD r.2)⟩
theorem mc_ {ins:End S->Option (List S)}(h:∀ e l,ins e=some l->l.length<=2)(g:List S):∀ rows:List (S×List S),((Gs_ rows ins g).map (·.2)).flatten.length<=2*(rows.map (·.2)).flatten.length
 | []=>Af_ _
 | r::rows=>by
  have ih:=mc_ h g rows
  have e:Gs_ (r::rows) ins g=(if r.1∈g then [] else [(r.1,kpG ins r.1 0 r.2)])++Gs_ rows ins g:=by
   unfold Gs_;by_cases h:r.1∈g
   ·rw [BG_ (by simp [h]),if_pos h];rfl
   ·rw [BH_ (by simp [h]),if_neg h];rfl
  rw [e,Ap_,A6_,Ah_,AB_,AJ_,Ah_];have:=gD_ h (p:=r.1) r.2 0;split
  ·simp only [Co_,DZ_,Ed_];lia
  ·simp only [AB_,Co_,AJ_,DZ_,Bd_];lia
end RimT
namespace RimT
variable {S:Type}[DecidableEq S]
theorem nN_ {N:Net S}(ok:Fk_ N){r r':S×List S}(h:r∈N.rows)(h':r'∈N.rows)(e:r.1=r'.1):r=r':=by obtain ⟨i,hi,rfl⟩:=Ar_.mp h;obtain ⟨j,hj,rfl⟩:=Ar_.mp h';have:=(AU_ (l:=N.rows.map (·.1)) (i:=i) (j:=j) (by rw [Ab_];exact hi) ok.nd).mp (by rw [Ae_,Ae_,Aa_ hi,Aa_ hj];exact congrArg some e);subst this;rfl
end RimT
namespace L2
open PySem PySem.Spec PyProof.Rows PySem.W
section
variable {prog:Program}{w:World}{A:Around}{R:Result->Shared->Prop}
theorem f0_ {S it p:Addr}{its:List Value}{ts:List Str}{h0:Heap}(hq:QuA A h0)(hne:∀ ea,A.handled=some (.ref ea)->ea≠it/\ea≠S)(hSi:S≠it)(hp:h0.IsList p its.toArray)(hpi:p≠it)(hpS:p≠S)(hz:its.length=ts.length)(hb:ts.length+1<scanBound)
  (hv:∀ (m:Nat)(v:Value),its[m]?=some v->∃ t,ts[m]?=some t/\Fs_ (.str t) v) :
  ∀ (k i:Nat)(s:Shared),ts.length=i+k->s.heap.IsListIter it p i->s.heap.SetOf (Fa_ prog w) S (inT (ts.take i)) (dc (ts.take i)) ->
   (∀ b o,b≠it->b≠S->h0.get? b=some o->s.heap.get? b=some o) ->
   (∀ h' tk,(∀ b o,b≠it->b≠S->h0.get? b=some o->h'.get? b=some o)->h'.SetOf (Fa_ prog w) S (inT ts) (dc ts)->R (.ok (.ret .none)) { s with heap:=h',toks:=tk }) ->
   codeAny (model prog w) A (.builtin "set.update.loop" ⟨[.ref S,.ref it],[]⟩) R s
 | 0,i,s,hk,hi,hS,kp,hR=>by
  obtain ⟨op,hop,hpr⟩:=id hp;have hp':s.heap.IsList p its.toArray:=⟨op,kp p op hpi hpS hop,hpr⟩;refine CG_ CN_ ?_;rw [Cx_ BY_ _];show wpAny _ A.in1 (pyNext (Value.ref it) >>= _) _ _ s
  have hq':QuA A.in1 s.heap:=by
   rcases hq with z|⟨ea,z,o,vs,h1,h2⟩
   ·exact .inl z
   ·exact .inr ⟨ea,z,o,vs,kp ea o (hne ea z).1 (hne ea z).2 h1,h2⟩
  refine Ad_ (mb_ hq' (fun ea z=>(hne ea z).1) hi hp' (Em_ (by simp;lia)) fun h' eb=>?_);show wpAny _ A.in1 (ret Value.none) _ _ _;have et:ts.take i=ts:=AT_ (by lia);rw [et] at hS;obtain ⟨o,es,ep,t,ho,more⟩:=hS;exact Av_ (hR h' s.toks (fun b o h1 h2 e=>eb b o h1 (kp b o h1 h2 e)) ⟨o,es,ep,t,eb S o hSi ho,more⟩)
 | k+1,i,s,hk,hi,hS,kp,hR=>by
  obtain ⟨op,hop,hpr⟩:=id hp;have hp':s.heap.IsList p its.toArray:=⟨op,kp p op hpi hpS hop,hpr⟩;have hit:i<its.length:=by lia
  have e1:its.toArray[i]?=some its[i]:=by simp [hit]
  obtain ⟨t,ht,rt⟩:=hv i its[i] (Aa_ hit);obtain ⟨tok,er⟩:=id rt;refine CG_ CN_ ?_;rw [Cx_ BY_ _];show wpAny _ A.in1 (pyNext (Value.ref it) >>= _) _ _ s;refine Ad_ (By_ hi hp' e1 fun h1 hi1 sb=>?_);rw [er];show wpAny _ A.in1 (holding [Value.str t tok] (setAdd S (Value.str t tok)) >>= _) _ _ _;refine Ad_ (AZ_ ?_);unfold setAdd;refine AZ_ ?_;have kis:(Fa_ prog w).is (.inr t) (Value.str t tok)=true:=Hf_ (k:=.inr t) ⟨tok,rfl⟩;refine Ad_ ((Fa_ prog w).pyHash (k:=.inr t) kis ?_);have hS1:h1.SetOf (Fa_ prog w) S (inT (ts.take i)) (dc (ts.take i)):=by obtain ⟨o,es,ep,tb,ho,more⟩:=hS;exact ⟨o,es,ep,tb,(sb.2 S hSi).trans ho,more⟩
  refine wpAny_setAddHashed_of (knd:=Fa_ prog w) (s:={ s with heap:=h1,toks:=s.toks+1 }) kis rfl hS1 (by have:=KV_ (ts.take i);rw [AO_] at this;lia) fun h2 sb2 hS2=>?_;have tk:ts.take (i+1)=ts.take i++[t]:=by rw [Be_,ht];rfl
  refine Av_ ⟨DE_ BY_ _,f0_ hq hne hSi hp hpi hpS hz hb hv k (i+1) { s with heap:=h2,toks:=s.toks+1 } (by lia) ?_ ?_ (fun b o h1' h2' e=>?_) fun h' tk' k3 hS3=>?_⟩
  ·obtain ⟨oi,hoi,hir⟩:=hi1;exact ⟨oi,(sb2.2 it (Ne.symm hSi)).trans hoi,hir⟩
  ·rw [show inT (ts.take (i+1))=fun q=>inT (ts.take i) q || decide (q=.inr t) from funext fun q=>by rw [tk,oS_]];rw [tk,lo_];exact hS2
  ·exact (sb2.2 b h2').trans ((sb.2 b h1').trans (kp b o h1' h2' e))
  ·exact hR h' tk' k3 hS3
end
section
variable {X:Cx}
theorem kA_ (hc:Qx X):FW_ X (.type "set") Ja_:=by
 intro pins s σ H xs us Q I r h;obtain ⟨p,ts,rfl,hp,h1000,q⟩:=h;obtain ⟨u,rfl,e⟩:=F9_ r;cases e;obtain ⟨z,its,n,rv,hl,ho⟩:=I.lstM hp;have hl':its.length=ts.length:=by rw [<-hl,Ab_]
 have hq:=hc.qa I;have hsb:ts.length+1<scanBound:=by unfold scanBound;lia
 obtain ⟨c,tl,hmro⟩:=F.called_set.mro;have m1:=F.called_set.made;have m2:=F.called_set.sub;have m3:=F.called_set.notType;have m4:=F.called_set.canCreate;have m5:=F.typeCall_set_1 (.ref p);refine Dc_ (codeAny_of_tree ?_);show wpAny _ _ (callAny (Value.type "set") _) _ _ _;refine Av_ ⟨Code.quiet_builtin _ (by rfl'),CG_ F.entry_type_call ?_⟩;rw [Around.under_plain (weight_type_call_type "set" [Value.ref p] []) rfl]
 repeat (any_goals first|assumption|wp_step)
 refine BV_ (code_set_new_1 (.ref p) (E:=X.xe) (Q₁:=fun ob s₁=>∃ led:Bool,ob=.ref s.heap.objs.size/\s₁={ s with heap:=s.heap.push (Gc_ led) }) fun led=>⟨led,rfl,rfl⟩) fun res s₁ hres=>?_;cases res with
 | error e=>exact hres
 | ok fl =>
  cases fl with
  | next=>exact hres.elim
  | brk=>exact hres.elim
  | cont=>exact hres.elim
  | ret ob =>
   obtain ⟨led,rfl,rfl⟩:=hres;have hS:(s.heap.push (Gc_ led)).get? s.heap.objs.size=some (Gc_ led):=AD_ _ rfl;have hT:Shared.TypeIs { s with heap:=s.heap.push (Gc_ led) } (.ref s.heap.objs.size) "set" := ⟨_,hS,rfl⟩;have i1:=F.called_set.init.lookup;have i2:=F.called_set.init.bind (.ref s.heap.objs.size)
   repeat (any_goals first|assumption|wp_step)
   refine BV_ (EB_ (R:=wants (fun r s₂=>r=.none/\∃ h' tk,s₂={ s with heap:=h',toks:=tk }/\h'.SetOf (Fa_ X.prog X.w) s.heap.objs.size (inT ts) (dc ts)/\(∀ b o,s.heap.get? b=some o->h'.get? b=some o)) X.xe) F.called_set.init.plain F.entry_set_init (check_set_init_1 hT ?_)) fun r₂ s₂ hr₂=>?_
   ·have ho':(s.heap.push (Gc_ led)).get? p=some { cls:=.type "list",data:=.seq its.toArray n }:=Aj_ _ ho;have n1:=F.sub_list_set;have n2:=F.sub_list_frozenset;have n3:(Value.type "list" == Value.type "dict")=false:=by decide
    have hl1:(s.heap.push (Gc_ led)).IsList p its.toArray:=⟨_,ho',rfl,n,rfl⟩;unfold Builtin.«set.__init__» noKeywords Builtin.Frozenset.updateFrom;generalize hPI:pyIter=PI
    wp_walk
    subst hPI;refine B4_ hl1 ?_;refine Ad_ (wpAny_runValue ?_);have psz:p<s.heap.objs.size:=As_ ho;have hsz:(s.heap.push (Gc_ led)).objs.size=s.heap.objs.size+1:=B7_ _ _;have nb:∀ {b:Addr}{o:Obj},s.heap.get? b=some o->b≠(s.heap.push (Gc_ led)).objs.size/\b≠s.heap.objs.size:=fun e=>by have:=As_ e;rw [hsz];exact ⟨AE_ (BI_ this),AE_ this⟩
    refine f0_ (A:=X.A.in1.in1) (h0:=s.heap) (its:=its) (ts:=ts) (show QuA X.A.in1.in1 s.heap from hq) (fun ea z=>by
     rcases hq with y|⟨ea',y,o,vs,h1,_⟩
     ·rw [show X.A.handled=some (.ref ea) from z] at y;cases y
     ·rw [show X.A.handled=some (.ref ea) from z] at y;cases y;exact nb h1) (by rw [hsz];exact AE_ (DS_ _)) ⟨_,ho,rfl,n,rfl⟩ (nb ho).1 (nb ho).2 hl' hsb (fun m v hv=>?_) ts.length 0 _ (by lia) ?_ ?_ ?_ fun h' tk k3 hS3=>?_
    ·have hm:m<ts.length:=by have:=(Ag_.mp hv).1;lia
     obtain ⟨w',hw,rw'⟩:=rv.get (i:=m) (x:=.str ts[m]) (by rw [Ae_,Aa_ hm];rfl);rw [hv] at hw;cases hw;exact ⟨ts[m],Aa_ hm,rw'⟩
    ·exact ⟨_,AD_ _ rfl,rfl,rfl⟩
    ·exact mF_ (Aj_ _ hS)
    ·exact fun b o b1 b2 e=>Aj_ _ (Aj_ _ e)
    ·refine Av_ ?_;show wpAny _ _ (ret Value.none) _ _ _;exact Av_ ⟨rfl,h',tk,rfl,hS3,fun b o e=>k3 b o (nb e).1 (nb e).2 e⟩
   ·cases r₂ with
    | error e=>exact hr₂
    | ok fl₂ =>
     cases fl₂ with
     | next=>exact hr₂.elim
     | brk=>exact hr₂.elim
     | cont=>exact hr₂.elim
     | ret r =>
      obtain ⟨rfl,h',tk,rfl,hS',hk'⟩:=hr₂
      repeat (any_goals first|assumption|wp_step)
      obtain ⟨o,es,ep,t,g1,g2,g3,_,_,g6,g7,g8⟩:=hS';have fr:=I.hok.fresh (Af_ s.heap.objs.size);exact ⟨.ref _,_,I.laid (a:=s.heap.objs.size) (o:=SzO s.heap.objs.size (dc ts)) (t':=tk) hk' (Af_ _) ⟨⟨o,es,ep,t,g1,g2,g3,g7,g8,g6⟩,⟨o,g1⟩,fun h1 h2 ⟨o',es',ep',t',f1,f2⟩ k=>⟨o',es',ep',t',k _ f1,f2⟩⟩,rfl,q _ fr⟩
end
theorem mG_ {X:Cx}(hc:X.calm=true):FW_ X (.type "set") Ja_:=fun pins s σ H xs us Q I r h=>kA_ (.inl (I.ok.hd hc)) pins s σ H xs us Q I r h
end L2
namespace RimT
variable {S:Type}[DecidableEq S]
theorem nO_ {ins:End S->Option (List S)}{p z:S}:∀ {ws:List S}{k j:Nat}{w:S},ws[j]?=some w->z∈(ins (p,k+j)).getD [w]->z∈kpG ins p k ws
 | [],_,_,_,h,_=>by cases h
 | x::ws,k,0,w,h,hz=>by
  cases h;unfold kpG;exact AV_ _ hz
 | x::ws,k,j+1,w,h,hz=>by
  unfold kpG;refine AM_ _ (nO_ (ws:=ws) (k:=k+1) (j:=j) h ?_)
  rwa [show k+1+j=k+(j+1) by lia]
theorem kB_ {p:S}:∀ {ws:List S}{k:Nat}{y:S×End S},y∈Fj_ p k ws->∃ j,ws[j]?=some y.1/\y.2=(p,k+j)
 | w::ws,k,y,h=>by
  unfold Fj_ at h
  rcases Ao_.mp h with e|e
  ·rw [e];exact ⟨0,rfl,rfl⟩
  ·obtain ⟨j,h1,h2⟩:=kB_ e;exact ⟨j+1,h1,by rw [h2,show k+1+j=k+(j+1) by lia]⟩
theorem lr_ {rows:List (S×List S)}{y:S×End S}(h:y∈occ rows):∃ r∈rows,y.2.1=r.1/\r.2[y.2.2]?=some y.1:=by unfold occ at h;obtain ⟨l,hl,hy⟩:=Bu_.mp h;obtain ⟨r,hr,rfl⟩:=Al_.mp hl;obtain ⟨j,h1,h2⟩:=kB_ hy;refine ⟨r,hr,by rw [h2],?_⟩;rw [h2,CK_];exact h1
def H2_ (fA fB fC:End S)(A B C:S):End S->Option (List S):=fun e=>if e=fA then some [C,B] else if e=fB then some [A,C] else if e=fC then some [B,A] else none
def wfS (A B C:S)(a b c:Int×Int):S->Option (Int×Int):=fun x=>if x=A then some a else if x=B then some b else if x=C then some c else none
def Gz_ (N:Net S)(x:S)(ins:End S->Option (List S))(wf:S->Option (Int×Int)):Net S:=⟨N.posts,Gs_ N.rows ins [x],N.worths.map fun r=>(r.1,(wf r.1).getD r.2)⟩
theorem jH_ {N:Net S}{x:S}{ins:End S->Option (List S)}{w z:S}{e:End S}(h:(w,e)∈occ N.rows)(hx:e.1≠x)(hz:z∈(ins e).getD [w]):z∈((Gs_ N.rows ins [x]).map (·.2)).flatten:=by
 obtain ⟨r,hr,h1,h2⟩:=lr_ h
 dsimp only at h1 h2
 refine Bu_.mpr ⟨_,Al_.mpr ⟨(r.1,kpG ins r.1 0 r.2),Al_.mpr ⟨r,A9_.mpr ⟨hr,?_⟩,rfl⟩,rfl⟩,nO_ (j:=e.2) h2 ?_⟩
 ·rw [<-h1];simpa using hx
 ·rw [CK_,<-h1];exact hz
theorem oV_ {N:Net S}(ok:Fk_ N)(hw:∀ y∈N.worths.map (·.1),y∈N.all){x A B C:S}{fA fB fC:End S}{wf:S->Option (Int×Int)}(hA:(A,fA)∈occ N.rows)(hB:(B,fB)∈occ N.rows)(hC:(C,fC)∈occ N.rows)(xA:fA.1≠x)(xB:fB.1≠x)(xC:fC.1≠x)(AB:A≠B)(AC:A≠C)(BC:B≠C)(hr:∀ w e,(w,e)∈occ N.rows->e.1=x->w=A\/w=B\/w=C) :
  chG N (H2_ fA fB fC A B C) [x] wf=Gz_ N x (H2_ fA fB fC A B C) wf:=by
 have nd:=i3_ ok.nd;have fAB:fA≠fB:=fun z=>AB (BE_ (b8_ nd hA hB z)).1;have fAC:fA≠fC:=fun z=>AC (BE_ (b8_ nd hA hC z)).1;have fBC:fB≠fC:=fun z=>BC (BE_ (b8_ nd hB hC z)).1;have eA:H2_ fA fB fC A B C fA=some [C,B]:=if_pos rfl;have eB:H2_ fA fB fC A B C fB=some [A,C]:=(if_neg fAB.symm).trans (if_pos rfl);have eC:H2_ fA fB fC A B C fC=some [B,A]:=(if_neg fAC.symm).trans ((if_neg fBC.symm).trans (if_pos rfl));have sA:A∈((Gs_ N.rows (H2_ fA fB fC A B C) [x]).map (·.2)).flatten:=jH_ hB xB (by rw [eB];exact At_);have sB:B∈((Gs_ N.rows (H2_ fA fB fC A B C) [x]).map (·.2)).flatten:=jH_ hC xC (by rw [eC];exact At_);have sC:C∈((Gs_ N.rows (H2_ fA fB fC A B C) [x]).map (·.2)).flatten:=jH_ hA xA (by rw [eA];exact At_)
 have all:∀ y∈N.all,y∈((Gs_ N.rows (H2_ fA fB fC A B C) [x]).map (·.2)).flatten:=fun y hy=>by
  unfold Net.all at hy;have hy':y∈(occ N.rows).map (·.1):=by rw [gA_];exact hy
  obtain ⟨⟨y',e⟩,ho,rfl⟩:=Al_.mp hy'
  dsimp only at ho ⊢
  by_cases hx:e.1=x
  ·rcases hr y' e ho hx with rfl|rfl|rfl
   ·exact sA
   ·exact sB
   ·exact sC
  ·by_cases h1:e=fA
   ·rw [(BE_ (b8_ nd ho hA h1)).1];exact sA
   ·by_cases h2:e=fB
    ·rw [(BE_ (b8_ nd ho hB h2)).1];exact sB
    ·by_cases h3:e=fC
     ·rw [(BE_ (b8_ nd ho hC h3)).1];exact sC
     ·refine jH_ ho hx ?_;unfold H2_;rw [if_neg h1,if_neg h2,if_neg h3];exact Ai_.mpr rfl
 unfold chG Gz_;congr 1;rw [CC_.mpr fun r hr=>AQ_ (all _ (hw _ (Al_.mpr ⟨r,hr,rfl⟩)))]
theorem nP_ {N:Net S}(ok:Fk_ N){x G:S}{ws:List S}{j:Nat}(hr:(x,ws)∈N.rows)(nd:ws.Nodup)(hj:ws[j]?=some G) :
  ∃ far,(F1_ N G=[(x,j),far]\/F1_ N G=[far,(x,j)])/\far.1≠x/\far∈F1_ N G/\∀ e∈F1_ N G,e.1=x\/e=far:=by
 have hj2:=(Ag_.mp hj).1
 have hm:(x,j)∈F1_ N G:=by
  refine fZ_.mpr (qe_ hr (y:=(G,(x,j))) ?_)
  have key:∀ (ws:List S)(k j:Nat),ws[j]?=some G->(G,(x,k+j))∈Fj_ x k ws:=fun ws=>by
   induction ws with
   | nil=>intro k j h;cases h
   | cons w ws ih =>
    intro k j h;unfold Fj_;cases j with
    | zero=>cases h;exact At_
    | succ j =>have:=ih (k+1) j h;rw [show k+1+j=k+(j+1) by lia] at this;exact An_ _ this
  have:=key ws 0 j hj
  rwa [CK_] at this
 have hG:G∈N.all:=by unfold Net.all;exact Bu_.mpr ⟨_,Al_.mpr ⟨_,hr,rfl⟩,Ak_ hj⟩
 have one:∀ e∈F1_ N G,e.1=x->e=(x,j):=fun e he ex=>by
  obtain ⟨r',hr',e1,e2⟩:=lr_ (fZ_.mp he);have e3:=nN_ ok hr' hr (by rw [<-e1];exact ex);subst e3
  dsimp only at e2
  have:=(AU_ (Ag_.mp e2).1 nd).mp (e2.trans hj.symm);exact B9_ ex this
 obtain ⟨kv,hkv,ekv⟩:=jF_ hG;obtain ⟨a,b,eab⟩:=l7_ ok hkv;have ne:=nH_ ok hkv eab;rw [jE_ hkv,ekv] at eab;rw [eab] at hm one ⊢
 rcases Ao_.mp hm with z|z
 ·refine ⟨b,.inl (by rw [z]),fun c=>ne (by rw [<-z,one b (by simp) c]),by simp,fun e he=>?_⟩
  rcases Ao_.mp he with y|y
  ·exact .inl (by rw [y,<-z])
  ·exact .inr (Ai_.mp y)
 ·replace z:=Ai_.mp z
  refine ⟨a,.inr (by rw [z]),fun c=>ne (by rw [<-z,one a (by simp) c]),by simp,fun e he=>?_⟩
  rcases Ao_.mp he with y|y
  ·exact .inr y
  ·exact .inl (by rw [Ai_.mp y,<-z])
end RimT
namespace L2
open PySem PySem.Spec PyProof.Rows PySem.W
section
variable {prog:Program}{w:World}{A:Around}{E:Value->Shared->Prop}{s:Shared}
theorem kC_ {t:Addr}{x y z:Value}{Q:List Value->Shared->Prop}(hh:A.handled=none)(ht:s.heap.IsList t #[x,y,z])(hQ:∀ h',(∀ b o,b≠s.heap.objs.size->s.heap.get? b=some o->h'.get? b=some o)->Q [x,y,z] { s with heap:=h' }) :
  wpAny (model prog w) A (unpackItems (.ref t) 3 none) Q E s:=by
 have tl:t≠s.heap.objs.size:=by obtain ⟨o,ho,_⟩:=id ht;exact AE_ (As_ ho)
 unfold unpackItems notIterableAtAll;refine Ad_ (Ad_ (Ee_ ht.typeIs F.slot_list_iter.lookup (Av_ ?_)));simp only [BX_,C1_];refine Ad_ (AZ_ (B4_ ht ?_));have k1:∀ b o,s.heap.get? b=some o->(s.heap.push { cls:=.type "list_iterator",data:=.fields #[.ref t,.int 0 0] }).get? b=some o:=fun b o e=>Aj_ _ e;have it1:(s.heap.push { cls:=.type "list_iterator",data:=.fields #[.ref t,.int 0 0] }).IsListIter s.heap.objs.size t 0:=⟨_,AD_ _ rfl,rfl,rfl⟩;have l1:(s.heap.push { cls:=.type "list_iterator",data:=.fields #[.ref t,.int 0 0] }).IsList t #[x,y,z]:=ht.at fun o e=>k1 _ _ e;generalize s.heap.push { cls:=.type "list_iterator",data:=.fields #[.ref t,.int 0 0] }=h1 at *;refine Ad_ (AZ_ ?_);show wpAny _ _ (pyNext (.ref s.heap.objs.size) >>= _) _ _ _;refine Ad_ (By_ (s:={ s with heap:=h1 }) it1 l1 (x:=x) rfl fun h2 it2 sb2=>?_);have l2:h2.IsList t #[x,y,z]:=l1.at fun o e=>(sb2.2 t tl).trans e;refine Ad_ (AZ_ ?_);show wpAny _ _ (pyNext (.ref s.heap.objs.size) >>= _) _ _ _;refine Ad_ (By_ (s:={ s with heap:=h2 }) it2 l2 (x:=y) rfl fun h3 it3 sb3=>?_);have l3:h3.IsList t #[x,y,z]:=l2.at fun o e=>(sb3.2 t tl).trans e;refine Ad_ (AZ_ ?_);show wpAny _ _ (pyNext (.ref s.heap.objs.size) >>= _) _ _ _;refine Ad_ (By_ (s:={ s with heap:=h3 }) it3 l3 (x:=z) rfl fun h4 it4 sb4=>?_);have l4:h4.IsList t #[x,y,z]:=l3.at fun o e=>(sb4.2 t tl).trans e;refine Ad_ (AZ_ ?_);show wpAny _ _ (pure []) _ _ _;refine Av_ (Av_ (Av_ (Av_ ?_)));rw [if_neg (by simp)];refine Ad_ (AZ_ (C7_ (s:={ s with heap:=h4 }) hh it4 l4 rfl fun h5 eb=>?_));simp only [Option.isSome_none,BX_,C1_];exact Av_ (hQ h5 fun b o hb e=>eb b o hb ((sb4.2 b hb).trans ((sb3.2 b hb).trans ((sb2.2 b hb).trans (k1 b o e)))))
end
def Lq_ (t:TGs):TG:=fun v σ H Q=>∃ (a:Addr)(x y z:V),v=.ref a/\H a=some (.lst [x,y,z])/\t [x,y,z] σ H Q
theorem qf_ {X:Cx}{es:List Expr}{k:Nat}{t:TGs}{pos:Pos}(hc:X.calm=true)(h:PGs X es t)
  (hn:(assignEach es X.env).length=3:=by rfl) (hst:(assignEach es X.env).findIdx? (·.1)=none:=by rfl):PG X (.Tuple es k pos) (Lq_ t):=by
 intro pins s σ H v u Q I r hw;obtain ⟨a,x,y,z,e1,hq,hw⟩:=hw;subst e1;cases r;obtain ⟨its,rv,pl,hz⟩:=I.list (.inl (.inl hq))
 obtain ⟨ux,uy,uz,rfl⟩:∃ ux uy uz,its=[ux,uy,uz]:=by
  have:=rv.length
  match its,this with
  | [a,b,c],_=>exact ⟨a,b,c,rfl⟩
 rw [arm_assign_Tuple];refine Ad_ (Cy_ ?_);unfold unpack;rw [hn,hst];refine Ad_ (AZ_ (kC_ (I.ok.hd hc) pl.isList fun h' hx=>?_));have I1:Inv X pins σ H { s with heap:=h' }:=I.kept (t':=s.toks) fun b o e=>hx b o (AE_ (As_ e)) e;exact h pins _ σ H [x,y,z] _ Q I1 rv hw
end L2
namespace RimT
section
variable {α:Type}[DecidableEq α]
theorem pI_ {T:List (List α)}{P:Nat}(h:Tw T)(hP:0<P)(hPT:P<=T.length){c:Nat×Nat}(ic:IsC T P c):∀ (n:Nat)(l:List (Nat×Nat))(d:Nat×Nat),Way T P l d->l.head?=some c->l.Nodup->(corners T P).length<=l.length+n->∃ l',Reg T P c l'
 | 0,l,d,w,hc,nd,hn=>by
  by_cases e:d=c
  ·exact ⟨l,e ▸ w,hc,nd⟩
  ·have dn:=ll_ h hP hPT w hc ic nd e;have id':=(fq_ h hP hPT w hc ic).1;obtain ⟨d',hd⟩:=Kb_ h id';have:=nu_ h hP hPT (Way.more w hd) (by rw [List.head?_append,hc];rfl) ic (A0_.mpr ⟨nd,by simp,fun a ha b hb z=>dn (by rw [<-Ai_.mp hb,<-z];exact ha)⟩);rw [Ah_,A4_] at this;lia
 | n+1,l,d,w,hc,nd,hn=>by
  by_cases e:d=c
  ·exact ⟨l,e ▸ w,hc,nd⟩
  ·have dn:=ll_ h hP hPT w hc ic nd e;have id':=(fq_ h hP hPT w hc ic).1;obtain ⟨d',hd⟩:=Kb_ h id';exact pI_ h hP hPT ic n _ d' (Way.more w hd) (by rw [List.head?_append,hc];rfl) (A0_.mpr ⟨nd,by simp,fun a ha b hb z=>dn (by rw [<-Ai_.mp hb,<-z];exact ha)⟩) (by rw [Ah_,A4_];lia)
theorem q5_ {T:List (List α)}{P:Nat}(h:Tw T)(hP:0<P)(hPT:P<=T.length){c:Nat×Nat}(ic:IsC T P c):∃ l,Reg T P c l:=by obtain ⟨d,hd⟩:=Kb_ h ic;exact pI_ h hP hPT ic (corners T P).length [c] d (Way.one hd) rfl (by simp) (by lia)
theorem mH_ {T:List (List α)}{P:Nat}(h:Tw T){c x y:Nat×Nat}{l:List (Nat×Nat)}(r:Reg T P c l)(hx:x∈l)(n:Nx T P x y):y∈l:=by
 obtain ⟨i,hi,rfl⟩:=Ar_.mp hx;obtain ⟨h1,a,h2,h3⟩:=eY_ r.1;by_cases e:i+1<l.length
 ·have:=l2_ h n (h1 i _ _ (Aa_ hi) (Aa_ e));rw [this];exact A1_ e
 ·have:l.length-1=i:=by lia
  rw [this,Aa_ hi] at h2;have e2:=l2_ h n (Aq_ h2 ▸ h3);rw [e2];exact List.mem_of_head? r.2.1
theorem oW_ {T:List (List α)}{P:Nat}{c x:Nat×Nat}{l:List (Nat×Nat)}(r:Reg T P c l){A:Nat×Nat->Prop}(cl:∀ x y,A x->Nx T P x y->A y)(hx:x∈l)(ax:A x):A c:=by
 obtain ⟨i,hi,rfl⟩:=Ar_.mp hx;obtain ⟨h1,a,h2,h3⟩:=eY_ r.1
 have up:∀ j (hj:j<l.length),i<=j->A l[j]:=fun j=>by
  induction j with
  | zero =>
   intro hj hij;have:i=0:=by lia
   subst this;exact ax
  | succ j ih =>
   intro hj hij;by_cases e:i=j+1
   ·subst e;exact ax
   ·exact cl _ _ (ih (by lia) (by lia)) (h1 j _ _ (Aa_ (by lia)) (Aa_ hj))
 have ln:=BP_.mpr (hW_ r.1);rw [Aa_ (by lia)] at h2;have:=up (l.length-1) (by lia) (by lia);rw [Aq_ h2] at this;exact cl _ _ this h3
theorem nQ_ {T:List (List α)}{P:Nat}(h:Tw T)(hP:0<P)(hPT:P<=T.length):∀ (n:Nat)(O:List (Nat×Nat)),O.length=n->(∀ c∈O,IsC T P c)->(fdF T P O).flatten.Nodup/\(∀ c∈O,c∈(fdF T P O).flatten)/\∀ l∈fdF T P O,∃ c,IsC T P c/\Reg T P c l
 | 0,O,e,_=>by
  rw [Bk_ e];exact ⟨Bh_,fun c hc=>absurd hc A8_,fun l hl=>absurd hl A8_⟩
 | n+1,O,e,hO=>by
  have ne:O≠[]:=fun z=>by rw [z] at e;cases e
  obtain ⟨O',c,rfl⟩:∃ O' c,O=O'++[c]:=⟨_,_,(BR_ ne).symm⟩;rw [Ah_,A4_] at e;obtain ⟨i1,i2,i3⟩:=nQ_ h hP hPT n O' (by lia) fun x hx=>hO x (AV_ _ hx);have ic:=hO c (by simp);rw [hC_];by_cases m:c∈(fdF T P O').flatten
  ·rw [if_pos m];refine ⟨i1,fun x hx=>?_,i3⟩
   rcases Ax_.mp hx with hx|hx
   ·exact i2 x hx
   ·rw [Ai_.mp hx];exact m
  ·rw [if_neg m];obtain ⟨l,r⟩:=q5_ h hP hPT ic;rw [pD_ h r];refine ⟨?_,fun x hx=>?_,fun l' hl'=>?_⟩
   ·rw [A6_];refine A0_.mpr ⟨i1,by simpa using r.2.2,fun a ha b hb z=>?_⟩;subst z;have hb':a∈l:=by simpa using hb
    obtain ⟨l2,hl2,hal2⟩:=Bu_.mp ha;obtain ⟨c2,_,r2⟩:=i3 l2 hl2;exact m (Bu_.mpr ⟨l2,hl2,oW_ r (A:=fun x=>x∈l2) (fun x y hx hn=>mH_ h r2 hx hn) hb' hal2⟩)
   ·rw [A6_]
    rcases Ax_.mp hx with hx|hx
    ·exact AV_ _ (i2 x hx)
    ·rw [Ai_.mp hx];exact AM_ _ (by simpa using List.mem_of_head? r.2.1)
   ·rcases Ax_.mp hl' with hl'|hl'
    ·exact i3 l' hl'
    ·rw [Ai_.mp hl'];exact ⟨c,ic,r⟩
end
section
variable {S:Type}[DecidableEq S]{d0:S}
end
end RimT
namespace L2
open PySem PySem.Spec PyProof.Rows
theorem kD_ {X:Cx}{x:Str}{ps:List Str}{k:Nat}{sp:Sp}{e:Expr}{es:List Expr}{t:TA}{p pos:Pos}(C:I8_ X.prog X.w X.K X.mg X.base x ps k sp)(hr:Gb_ k (calmed X.A))(hc:Qx X)(hxe:X.xe=fun _ _=>False)(hst:X.stack=X.env::X.outer)(hfr:X.env.frame=some X.env.locals)(hg:Gl X x)(ha:PA X (e::es) t)(hdb:(x == ("__debug__" : Str))=false:=by decide)
  (he:starEach (e::es) X.env=(false,eval e X.env)::starEach es X.env:=by rfl) (hpl:(backTo pos (starEach es X.env)).any (·.1)=false:=by rfl):PE X (.Call (.Name x p) (e::es) [] pos) (Hv_ sp [] E0 t):=by
 intro pins s σ H Q I h;obtain ⟨f,fd,hm,hkp,hb,F⟩:=C;refine Bt_ (fn_ I hg hm ?_ hdb);refine CH_ (h₀:=X.base) I.ok.mod.kin hkp (thn (ha pos pins s σ H _ I h) fun us s1 ⟨vs,H1,I1,r,q⟩=>⟨I1.kIn,?_⟩) he hpl;have r2:Fm_ (vs++[]) (us++[]):=r.append .nil;have hl:(us++[]).length=ps.length:=by rw [<-r2.length];exact F.len _ _ _ _ q
 obtain ⟨pn,qp⟩:∃ pn,QuP X.A X.stack s1 H1 pn:=by
  rcases hc with z|⟨ea,o,z,m,ho⟩
  ·exact ⟨[],.inl ⟨z,rfl⟩⟩
  ·obtain ⟨p1,p2,p3,p4,_⟩:=I1.pin (ea,o) (AV_ _ m);exact ⟨[(ea,o)],.inr ⟨ea,o,z,rfl,ho,p1,p2,fun y=>by rw [hst] at y;unfold frs at y;rw [BK_,hfr] at y;exact (Ao_.mp y).elim p3 p4⟩⟩
 refine Dc_ (BV_ (F.run X.A X.stack s1 H1 ⟨us,[]⟩ (us++[]) (vs++[]) _ _ _ hr qp I1.env0 (hb s1 us I1.kIn hl) r2 q) fun res s' hq=>?_);cases res with
 | error e=>exact False.elim hq
 | ok fl =>
  cases fl with
  | ret u=>exact I1.after hq
  | next=>exact False.elim hq
  | brk=>exact False.elim hq
  | cont=>exact False.elim hq
end L2
namespace L2
open PySem PySem.Spec PyProof.Rows PySem.W
def noD (D:Addr)(H:Hp):Hp:=fun b=>if b=D then none else H b
theorem kE_ {D b:Addr}{H:Hp}(h:b≠D):noD D H b=H b:=if_neg h
theorem q6_ {D:Addr}{H:Hp}:EX_ (noD D H) H:=fun b o e=>by
 unfold noD at e;split at e
 ·cases e
 ·exact e
theorem nR_ {D:Addr}{H:Hp}{o:HO}:noD D (upd H D o)=noD D H:=by
 funext b;unfold noD;by_cases h:b=D
 ·rw [if_pos h,if_pos h]
 ·rw [if_neg h,if_neg h,ah_ h]
theorem q7_ {D:Addr}{H H':Hp}(s:EX_ H H')(h:H D=none):EX_ H (noD D H'):=fun b o e=>by rw [kE_ (af_ e h)];exact s _ _ e
theorem nS_ {J:It}{g:TG}{tt:TT}{te:TE}{σ:St}{H:Hp}{Q:VK}(n:Nat)(Pσ:St->Prop)(Pv:Nat->List V->Hp->Prop)(h0:Pσ σ)(hz:n<=1000)(p0:Pv 0 [] H)(mono:∀ i vs H1 H2,EX_ H1 H2->Pv i vs H1->Pv i vs H2)(len:∀ i vs H1,Pv i vs H1->vs.length<=i)
  (hgo:∀ i H',i<n->EX_ H H'->J.go i H') (hst:∀ H',EX_ H H'->J.stop n H')
  (hs:∀ D i x σ' H' H'' vs,H D=none->(∃ o,H' D=some o)->EX_ H H'->i<n->J.yld i H' x H''->Pσ σ'->Pv i vs (noD D H')->∀ (Y:St->V->Hp->Prop)(R:St->Hp->Prop),(∀ v σ2 H3,Pσ σ2->EX_ H' H3->Pv (i+1) (vs++[v]) (noD D H3)->Y σ2 v H3)->(∀ σ2 H3,Pσ σ2->EX_ H' H3->Pv (i+1) vs (noD D H3)->R σ2 H3) ->
   g x σ' H'' fun σ2 H2=>tt σ2 H2 fun b H3=>if b=true then te σ2 H3 fun v H4=>Y σ2 v H4 else R σ2 H3)
  (hd:∀ D H' vs,H D=none->EX_ H H'->H' D=some (.lst vs)->Pv n vs (noD D H')->Q (.ref D) H'):Gw_ J g tt te σ H Q:=by
 intro D hD;refine ⟨fun i m σ' H'=>m=n-i/\i<=n/\Pσ σ'/\EX_ H H'/\∃ vs,H' D=some (.lst vs)/\Pv i vs (noD D H'),⟨n,by simp,AA_ _,h0,EX_.new hD,[],aa_,mono _ _ _ _ (by rw [nR_];exact q7_ (fun _ _ e=>e) hD) p0⟩,?_⟩;rintro i m σ' H' ⟨rfl,hi,hp,hs',vs,hDD,pv⟩;by_cases hlt:i<n
 ·refine .inr ⟨hgo i H' hlt hs',fun σ2 H2=>Pσ σ2/\EX_ H H2/\∃ vs,H2 D=some (.lst vs)/\Pv (i+1) vs (noD D H2),fun σ2 H2 ⟨a,b,c⟩=>⟨n-(i+1),by lia,rfl,hlt,a,b,c⟩,fun x H'' hy=>?_⟩;refine hs D i x σ' H' H'' vs hD ⟨_,hDD⟩ hs' hlt hy hp pv _ _ (fun v σ2 H3 hp2 s3 pv3=>?_) fun σ2 H3 hp2 s3 pv3=>?_
  ·refine ⟨_,s3 _ _ hDD,?_,hp2,(hs'.trans s3).upd hD,_,aa_,by rw [nR_];exact pv3⟩;have:=len _ _ _ pv;exact EY_ (by lia)
  ·exact ⟨hp2,hs'.trans s3,vs,s3 _ _ hDD,pv3⟩
 ·have e:i=n:=by lia
  subst e;exact .inl ⟨hst H' hs',hd D H' vs hD hs' hDD pv⟩
end L2
namespace L2
open PySem PySem.Spec PyProof.Rows PySem.W
section
variable {X:Cx}{pins:List (Addr×Obj)}{σ:St}{H:Hp}{s:Shared}
theorem Kc_ {x y z:V}{us:List Value}(r:Fm_ [x,y,z] us):∃ u v w',us=[u,v,w']/\Fs_ x u/\Fs_ y v/\Fs_ z w':=by
 cases r with
 | cons r1 r2 =>obtain ⟨v,w',rfl,h1,h2⟩:=GO_ r2;exact ⟨_,_,_,rfl,r1,h1,h2⟩
theorem md_ (I:Inv X pins σ H s):∀ {ys:List V}{its:List Value},Fm_ ys its->(∀ y∈ys,∃ (a:Addr)(i:Int)(z z':V),y=.ref a/\H a=some (.tup [.int i,z,z'])) ->
  ∃ fs,KatTups s.heap its fs/\fs.length=its.length/\∀ v∈fs,Looks (model X.prog X.w) s.heap (typeOf v) (.type "int")
 | [],_,.nil,_=>⟨[],.nil,rfl,fun v hv=>nomatch hv⟩
 | y::ys,_,.cons r1 r2,h=>by
  obtain ⟨fs,t,hl,hf⟩:=md_ I r2 fun y hy=>h y (An_ _ hy);obtain ⟨a,x,z,z',rfl,ha⟩:=h _ At_;cases r1;obtain ⟨zs,rz,⟨ob,ho,hcl,n,hd⟩,_⟩:=I.tuple (.inl (.inl ha));obtain ⟨u,v,w',rfl,ru,rv,rw'⟩:=Kc_ rz;refine ⟨u::fs,.cons ho hcl hd rfl t,by simp [hl],fun v hv=>?_⟩
  rcases Ao_.mp hv with rfl|hv
  ·obtain ⟨t,rfl⟩:=ru;exact .now
  ·exact hf v hv
abbrev Tri:=Int×Str×Int
def Kq_ (t:Tri):List V:=[.int t.1,.str t.2.1,.int t.2.2]
def JY_ (e f:Tri):Bool:=if e.1=f.1 then (if e.2.1=f.2.1 then (if e.2.2=f.2.2 then false else decide (e.2.2<f.2.2)) else decide (e.2.1.cps.toList<f.2.1.cps.toList)) else decide (e.1<f.1)
theorem oX_ (I:Inv X pins σ H s){a b:Addr}{e f:Tri}{C:Bool->Shared->Prop}{A:Around}{E:Value->Shared->Prop}(hu:A.units+60<cLine)(ha:H a=some (.tup (Kq_ e)))(hb:H b=some (.tup (Kq_ f)))(hC:C (JY_ e f) s) :
  wpAny (model X.prog X.w) A (keyLt' (tuples' true) (.ref a) (.ref b)) C E s:=by
 obtain ⟨zs,rz,⟨ob,ho,hcl,n,hd⟩,_⟩:=I.tuple (.inl (.inl ha));obtain ⟨u1,u2,u3,rfl,ru1,ru2,ru3⟩:=Kc_ rz;obtain ⟨ws,rw,⟨ob',ho',hcl',n',hd'⟩,_⟩:=I.tuple (.inl (.inl hb));obtain ⟨v1,v2,v3,rfl,rv1,rv2,rv3⟩:=Kc_ rw;unfold JY_ at hC;refine kat_lt ho hd ho' hd' ?_;refine EA_ (iW_ I Vw.refl (.int e.1) (.int f.1) rfl rfl ru1 rv1 (b:=decide (e.1=f.1)) (by rw [deq];rfl) (by simp [dep];lia) _ _ _ _ ?_);by_cases h1:e.1=f.1
 ·rw [AQ_ h1];rw [if_pos h1] at hC;refine kat_yes (EA_ (iW_ I Vw.refl (.str e.2.1) (.str f.2.1) rfl rfl ru2 rv2 (b:=decide (e.2.1=f.2.1)) (by rw [deq];rfl) (by simp [dep];lia) _ _ _ _ ?_));by_cases h2:e.2.1=f.2.1
  ·rw [AQ_ h2];rw [if_pos h2] at hC;refine kat_yes (EA_ (iW_ I Vw.refl (.int e.2.2) (.int f.2.2) rfl rfl ru3 rv3 (b:=decide (e.2.2=f.2.2)) (by rw [deq];rfl) (by simp [dep];lia) _ _ _ _ ?_));by_cases h3:e.2.2=f.2.2
   ·rw [AQ_ h3];rw [if_pos h3] at hC;exact kat_yes (kat_nil hC)
   ·rw [Az_ h3];rw [if_neg h3] at hC;obtain ⟨t,rfl⟩:=ru3;obtain ⟨t',rfl⟩:=rv3;exact kat_no (kat_one _ _ (lt_int hC))
  ·rw [Az_ h2];rw [if_neg h2] at hC;obtain ⟨t,rfl⟩:=ru2;obtain ⟨t',rfl⟩:=rv2;exact kat_no (kat_one _ _ (lt_str hC))
 ·rw [Az_ h1];rw [if_neg h1] at hC;obtain ⟨t,rfl⟩:=ru1;obtain ⟨t',rfl⟩:=rv1;exact kat_no (oneLt_int hC)
end
def JB_ (ta:TA):TE:=fun σ H Q=>ta σ H fun vs H1=>∃ (p:Addr)(ys:List V)(e:Nat->Tri),vs=[.ref p]/\H1 p=some (.lst ys)/\2<=ys.length/\ys.length<64/\(∀ i,i<ys.length->∃ a,ys[i]?=some (.ref a)/\H1 a=some (.tup (Kq_ (e i))))/\∀ l zs,H1 l=none->zs.Perm ys->Q (.ref l) (upd H1 l (.lst zs))
theorem mI_ {X:Cx}(hu:X.A.units+64<cLine){pins:List (Addr×Obj)}{s:Shared}{σ:St}{H:Hp}{p:Addr}{ys:List V}{e:Nat->Tri}{Q:VK}(I:Inv X pins σ H s)(hp:H p=some (.lst ys))(h2:2<=ys.length)(h64:ys.length<64)(it:∀ i,i<ys.length->∃ a,ys[i]?=some (.ref a)/\H a=some (.tup (Kq_ (e i))))
  (q:∀ l zs,H l=none->zs.Perm ys->Q (.ref l) (upd H l (.lst zs))):wpAny (model X.prog X.w) X.A (call (.builtin "sorted") [.ref p] Hb_) (EP X pins σ Q) X.xe s:=by
 let lt:Nat->Nat->Bool:=fun i j=>JY_ (e (ys.length-1-i)) (e (ys.length-1-j))
 obtain ⟨pm,hr,hpm⟩:=l5_ (lt:=lt) (N:=ys.length) (by lia);have pz:pm.size=ys.length:=by simpa using (Bi_.mp hpm).length_eq
 have all:∀ z∈ys,∃ (a:Addr)(i:Int)(x x':V),z=.ref a/\H a=some (.tup [.int i,x,x']):=fun z hz=>by obtain ⟨i,hi,rfl⟩:=Ar_.mp hz;obtain ⟨a,h1,h3⟩:=it i hi;rw [Aa_ hi] at h1;exact ⟨a,_,_,_,Aq_ h1,h3⟩
 refine i0_ (lt:=lt) (κ:=tuples' true) (pm:=pm) I (.inl (.inl hp)) h2 h64 ?kind ?less hr (by lia) fun l nl=>q l _ nl ?_
 case kind =>intro its s' rv I' C hC;obtain ⟨fs,t,hf,lk⟩:=md_ I' rv all;have hl:=rv.length;exact kat_kind t (by lia) lk (by decide) hC
 case less =>
  intro its s' i j rv I' hi hj C hC;have u2:X.A.in1.in1.units+60<cLine:=by rw [A7_,A7_];lia
  have pick:∀ i,i<ys.length->∃ a,its.getD i Value.none=.ref a/\H a=some (.tup (Kq_ (e (ys.length-1-i)))):=fun i hi=>by
   obtain ⟨a,h1,h3⟩:=it (ys.length-1-i) (by lia);refine ⟨a,?_,h3⟩;have hg:ys.reverse[i]?=some (.ref a):=by rw [List.getElem?_reverse hi];exact h1
   obtain ⟨u,hu',ru⟩:=rv.get hg;cases ru;rw [Ac_,hu'];rfl
  obtain ⟨a,ea,ha⟩:=pick i hi;obtain ⟨b,eb,hb⟩:=pick j hj;rw [ea,eb];exact oX_ I' u2 ha hb hC
 ·have h:=nA_ (ys:=ys.reverse) (pm:=pm) (by rw [Cc_];exact hpm);exact (List.reverse_perm _).trans (h.trans (List.reverse_perm ys))
theorem oY_ {X:Cx}{a:Expr}{ta:TA}{p pos cp kp:Pos}{k:Nat}(hu:X.A.units+64<cLine)(hg:Gl X "sorted") (hm:X.mg "sorted" = none) (ha:PA X [a] ta) (hs:E8_ [a]=true:=by rfl) :
  PE X (.Call (.Name "sorted" p) [a] [⟨some "reverse",.Constant (.bool true) k cp,kp⟩] pos) (JB_ ta):=by
 have h':FP_ a=true:=by simpa [E8_] using hs
 intro pins s σ H Q I h;refine Bt_ (e9_ I hg hm dr_ ?_ (by decide) (by decide));refine callWith_kw (thn (ha pos pins s σ H _ I h) fun us s1 ⟨vs,H1,I1,r1,q1⟩=>?_) (by rw [aw_ h'];rfl) (by rw [aw_ h'];rfl) rfl rfl;obtain ⟨p,ys,e,rfl,hp,h2,h64,it,q⟩:=q1;obtain ⟨u,rfl,e⟩:=F9_ r1;cases e;refine kws_cons (thn (Gj_ pins s1 σ H1 (fun v H2=>v=.bl true/\H2=H1) I1 ⟨rfl,rfl⟩) fun v s2 ⟨z,H2,I2,r2,e1,e2⟩=>?_);subst e1 e2;cases r2;exact kws_nil (mI_ hu I2 hp h2 h64 it q)
end L2
namespace RimT
section
variable {S:Type}[DecidableEq S]{d0:S}
theorem nT_ {α:Type}[DecidableEq α](T:List (List α))(P:Nat):∀ (n:Nat)(O:List (Nat×Nat)),O.length=n->(fdF T P O).length<=n
 | 0,O,e=>by rw [Bk_ e];exact Af_ _
 | n+1,O,e=>by
  have ne:O≠[]:=fun z=>by rw [z] at e;cases e
  obtain ⟨O',c,rfl⟩:∃ O' c,O=O'++[c]:=⟨_,_,(BR_ ne).symm⟩;rw [Ah_,A4_] at e;have:=nT_ T P n O' (by lia);rw [hC_];split
  ·lia
  ·rw [Ah_,A4_];lia
theorem nU_ {N:Net S}(ok:Fk_ N)(po:Fv_ N){rg:List (Nat×Nat)}(h:rg∈fdF (trn N) N.posts.length (GW_ N)):rg.length<=(GW_ N).length/\∀ c∈rg,∃ r∈N.rows,(phi d0 N c).1=r.1/\c.2<=r.2.length:=by
 have tw:=pE_ ok po;have hP:=po.p0;have hPT:N.posts.length<=(trn N).length:=by rw [dM_];unfold pts;rw [Ah_];lia
 obtain ⟨h1,h2,h3⟩:=nQ_ tw hP hPT _ (GW_ N) rfl fun c hc=>(hD_ ok po).mp hc;obtain ⟨c0,ic,r⟩:=h3 rg h;have all:=(fq_ tw hP hPT r.1 r.2.1 ic).2.1;refine ⟨ds_ r.2.2 fun x hx=>(hD_ ok po).mpr (all x hx),fun c hc=>?_⟩;obtain ⟨a,b⟩:=all c hc;rw [dM_] at a;obtain ⟨q,hq,eq⟩:=Al_.mp ((eq_ po).mp (A1_ a));have e1:(phi d0 N c).1=q.1:=by unfold phi;rw [Ac_,Aa_ a];exact eq.symm
 refine ⟨q,hq,e1,?_⟩;unfold rl at b;rw [jA_ (Aa_ a),<-eq,c3_ ok hq] at b;split at b <;> lia
theorem me_ {a:S}:∀ {l:List S},l.Nodup->l.length<=(l.filter fun x=>decide (x≠a)).length+1
 | [],_=>AA_ _
 | x::l,h=>by
  rw [AW_] at h;by_cases e:x=a
  ·subst e;rw [BG_ (by simp)];rw [CC_.mpr fun y hy=>by simp;exact fun z=>h.1 (z ▸ hy)];exact Af_ _
  ·rw [BH_ (by simpa using e),AH_,AH_];have:=me_ (a:=a) h.2;lia
theorem hE_ {l:List S}(h:l.Nodup):∀ (u:List S),l.length<=(l.filter fun x=>decide (x∉u)).length+u.length
 | []=>by rw [CC_.mpr fun y hy=>by simp];exact Af_ _
 | a::u=>by
  have i:=hE_ h u;have d:=me_ (a:=a) (h.filter fun x=>decide (x∉u));rw [List.filter_filter] at d;have e:(l.filter fun x=>decide (x∉a::u))=l.filter fun x=>decide (x≠a) && decide (x∉u):=by apply DI_;intro x hx;simp [Ao_,not_or]
  rw [e,AH_];lia
theorem nV_:∀ (u l:List S),(∀ x∈l,x∈u)->(∀ x,l.count x<=2)->l.length<=2*u.length
 | [],l,h,_=>by rw [Dj_.mpr fun x hx=>A8_ (h x hx)];exact Af_ _
 | a::u,l,h,c=>by
  have i:=nV_ u (l.filter fun x=>decide (x≠a)) (fun x hx=>by
   obtain ⟨h1,h2⟩:=A9_.mp hx
   rcases Ao_.mp (h x h1) with e|e
   ·exact absurd e (by simpa using h2)
   ·exact e) fun x=>Ay_ (List.Sublist.count_le x EK_) (c x)
  have:l.length=(l.filter fun x=>decide (x≠a)).length+l.count a:=by
   clear i h c
   induction l with
   | nil=>rfl
   | cons y l ih =>
    by_cases e:y=a
    ·subst e;rw [BG_ (by simp),List.count_cons_self,AH_,ih];lia
    ·rw [BH_ (by simpa using e),List.count_cons_of_ne (by simpa using e),AH_,AH_,ih];lia
  have:=c a;rw [AH_];lia
theorem qg_ {N:Net S}(ok:Fk_ N){rows:List (S×List S)}{p a b c:S}{wo:List (S×(Int×Int))}(hn:rows.map (·.1)=N.rows.map (·.1))(ha:((rows.map (·.2)).flatten).Perm ([a,b,c]++N.all))(hp:p∉N.rows.map (·.1))(nd:[a,b,c].Nodup)(nn:∀ x∈[a,b,c],x∉N.all)(h12:N.all.length<=24)(r15:N.rows.length<=15)(w15:wo.length<=15):Fk_ (⟨N.posts,rows++[(p,[c,b,a])],wo⟩:Net S)/\∀ x,x∈(⟨N.posts,rows++[(p,[c,b,a])],wo⟩:Net S).all ↔ x∈[a,b,c]\/x∈N.all:=by
 have rl:rows.length=N.rows.length:=by have:=congrArg List.length hn;simpa using this
 have al:(⟨N.posts,rows++[(p,[c,b,a])],wo⟩:Net S).all.Perm ([a,b,c]++N.all++[c,b,a]):=by unfold Net.all;show ((rows++[(p,[c,b,a])]).map (·.2)).flatten.Perm _;rw [Ap_,A6_];exact ha.append (List.Perm.refl _)
 have mem:∀ x,x∈(⟨N.posts,rows++[(p,[c,b,a])],wo⟩:Net S).all ↔ x∈[a,b,c]\/x∈N.all:=fun x=>by
  rw [al.mem_iff];simp only [Ax_,Ao_,A8_,C2_];constructor
  ·rintro (h|h)
   ·exact h
   ·rcases h with h|h|h
    ·exact .inl (.inr (.inr h))
    ·exact .inl (.inr (.inl h))
    ·exact .inl (.inl h)
  ·rintro (h|h)
   ·exact .inl (.inl h)
   ·exact .inl (.inr h)
 refine ⟨⟨?_,fun x hx=>?_,?_,?_,ok.pl,w15⟩,mem⟩
 ·show ((rows++[(p,[c,b,a])]).map (·.1)).Nodup;rw [Ap_,hn];refine A0_.mpr ⟨ok.nd,by simp,fun x hx y hy z=>?_⟩;rw [List.map_singleton,Ai_] at hy;rw [z,hy] at hx;exact hp hx
 ·rw [al.count_eq,Bz_,Bz_];have rv:[c,b,a].count x=[a,b,c].count x:=by rw [<-List.count_reverse];rfl
  rw [rv]
  rcases (mem x).mp hx with h|h
  ·have h0:N.all.count x=0:=BW_.mpr (nn x h);have h1:[a,b,c].count x=1:=List.Nodup.count nd |>.trans (if_pos h);lia
  ·have h0:[a,b,c].count x=0:=BW_.mpr fun z=>nn x z h;have:=ok.two x h;lia
 ·show (rows++[(p,[c,b,a])]).length<=16;rw [Ah_,rl];exact BL_ r15
 ·rw [al.length_eq,Ah_,Ah_];show 3+N.all.length+3<=30;lia
end
end RimT
namespace Rim34
open PySem PySem.Spec PyProof.Rows L2 RimM
theorem byL1 {p:List Value->Prop}(h:∀ a,p [a])(us:List Value)(e:us.length=1):p us:=by obtain ⟨a,rfl⟩:=C0_.mp e;exact h a
theorem byLc {p:List Value->Prop}{n:Nat}(h:∀ a,∀ us:List Value,us.length=n->p (a::us))(us:List Value)(e:us.length=n+1):p us:=by
 cases us with
 | nil=>cases e
 | cons a us=>exact h a us (Dl_ e)
theorem byL2 {p:List Value->Prop}(h:∀ a b,p [a,b]):∀ us:List Value,us.length=2->p us:=byLc fun a=>byL1 (h a)
theorem byL3 {p:List Value->Prop}(h:∀ a b c,p [a,b,c]):∀ us:List Value,us.length=3->p us:=byLc fun a=>byL2 (h a)
theorem byL4 {p:List Value->Prop}(h:∀ a b c d,p [a,b,c,d]):∀ us:List Value,us.length=4->p us:=byLc fun a=>byL3 (h a)
theorem mJ_:GU_ "int" = True:=eq_true (.inl rfl)
theorem ls_:GU_ "bool" = True:=eq_true (.inr (.inl rfl))
theorem kF_:GU_ "tuple" = True:=eq_true (.inr (.inr (.inl rfl)))
theorem lt_:GU_ "list" = True:=eq_true (.inr (.inr (.inr (.inl rfl))))
theorem mK_:GU_ "str" = True:=eq_true (.inr (.inr (.inr (.inr rfl))))
theorem mf_ {x y:Int}(hx:0<=x)(hy:0<y):Int.gcd y (x%y)=Int.gcd x y:=by obtain ⟨m,rfl⟩:=Eb_ hx;obtain ⟨n,rfl⟩:=Eb_ (DX_ hy);show Int.gcd (n:Int) ((m:Int)%(n:Int))=Int.gcd (m:Int) (n:Int);rw [<-D4_,Ec_,Ec_,Nat.gcd_comm n,<-Nat.gcd_rec,Nat.gcd_comm]
local macro_rules | `(tactic| walk_at "s2")=>`(tactic| simp only [Lt_,J6_,GD_,Lj_,Lf_,Ie_,Kr_,Jb_,tC,tCB,tOp,rI,rI0,If_,Ln_,JN_,Ll_,KI_,I7_,tB,Li_,tOr,Lp_,JO_,LN_,KE_,rU,tUn,Lu_,tBM,J5_,Hv_,L2.start,JU_,JX_,JS_,Kz_,rEq,rNe,scal,tyV,KD_,JM_,J7_,J1_,Lw_,List.map_cons,List.map_nil,List.length_cons,List.length_nil,List.replicate,List.cons_append,List.nil_append,List.append_nil,List.set_cons_zero,List.set_cons_succ,List.getElem?_cons_zero,List.getElem?_cons_succ,Option.some.injEq,List.cons.injEq,V.int.injEq,V.bl.injEq,V.str.injEq,V.ref.injEq,V.ty.injEq,HO.tup.injEq,HO.lst.injEq,exists_eq_left,exists_eq_left',exists_and_left,and_assoc,and_true,true_and,aa_,FC_,Fw_,Gi_,Nat.zero_add,Nat.reduceAdd,Nat.reduceSub,decide_eq_true_eq,Bool.not_eq_true',decide_eq_false_iff_not,reduceCtorEq,false_or,or_false,true_or,or_true,mJ_,ls_,kF_,lt_,mK_,Bool.false_eq_true,if_false,if_true,Bool.not_false,Bool.not_true,Bool.not_not,K9_,JV_,qQ_,pM_,Lm_,JW_,pX_,Lr_,IS_,Ik_,pick,Kl_,LT_,KN_,JJ_,La_,LZ_,IP_,List.map,Option.bind,JR_,Kn_,tSl,Lk_,J4_,HC_,KA_,J3_,Lc_,HG_,J0_,IB_,IM_,HD_,Le_,He_,HH_,JL_,Lh_,Lo_,HL_,IK_,HN_,JK_,iDV,iDK,rIn,HI_,If_,Jy_,G9_,KL_,KF_,HK_,L2_,JZ_,pB_,KG_,IA_,iDI,L1_,K7_,K8_,L0_,Lx_,Ls_,IE_,Lb_,LW_,Ky_,JA_,JQ_,JP_,Js_,LY_,Ku_,JG_,Ja_,J2_,Jw_,Ju_,Jr_,I9_,IC_])
local macro_rules | `(tactic| walk_at "s1")=>`(tactic| first|(dsimp only [Lt_,J6_,GD_,Lj_,Lf_,Ie_,Kr_,Jb_,tC,tCB,tOp,rI,rI0,If_,Ln_,JN_,Ll_,KI_,I7_,tB,Li_,tOr,Lp_,JO_,LN_,KE_,rU,tUn,Lu_,tBM,J5_,Hv_,L2.start,JU_,JX_,JS_,Kz_,rEq,rNe,KD_,JM_,J7_,J1_,Lw_,List.map_cons,List.map_nil,List.length_cons,List.length_nil,List.replicate,List.cons_append,List.nil_append,List.set_cons_zero,List.set_cons_succ,List.getElem?_cons_zero,List.getElem?_cons_succ,K9_,JV_,Lm_,JW_,Lr_,IS_,Ik_,pick,Kl_,LT_,KN_,JJ_,La_,LZ_,IP_,List.map,JR_,Kn_,tSl,Lk_,J4_,HC_,KA_,J3_,Lc_,HG_,J0_,IB_,IM_,HD_,Le_,He_,HH_,JL_,Lh_,Lo_,HL_,IK_,HN_,JK_,iDV,iDK,rIn,HI_,If_,Jy_,G9_,KL_,KF_,HK_,L2_,JZ_,pB_,KG_,IA_,iDI,L1_,K7_,K8_,L0_,Lx_,Ls_,IE_,Lb_,LW_,Ky_,JA_,JQ_,JP_,Js_,LY_,Ku_,JG_,Ja_,J2_,Jw_,Ju_,Jr_,I9_,IC_];try walk_at "s2")|walk_at "s2")
local macro_rules | `(tactic| walk_at "bx")=>`(tactic| first|(refine p7_ ?_;intro _ _)|refine q2_ (by assumption) ?_|refine Ly_ (by assumption) ?_)
local macro_rules | `(tactic| walk_at "rd")=>`(tactic| ((first|walk_at "s1" | (walk_at "bx";try walk_at "s1"));repeat (walk_at "bx";try walk_at "s1")))
local macro_rules | `(tactic| nofun)=>`(tactic| walk_at "rd")
structure Txt (K:PySem.W.Frag)(mg:Str->Option Value):Prop where
 n_abs:mg "abs" = none
 n_max:mg "max" = none
 n_min:mg "min" = none
 n_ValueError:mg "ValueError" = none
 c_LONG_BITS:∃ t,mg "LONG_BITS" = some (.int 8000 t)
 n_dict:mg "dict" = none
 n_len:mg "len" = none
 n_range:mg "range" = none
 n_list:mg "list" = none
 n_isinstance:mg "isinstance" = none
 n_int:mg "int" = none
 n_bool:mg "bool" = none
 n_tuple:mg "tuple" = none
 n_str:mg "str" = none
 n_enumerate:mg "enumerate" = none
 n_sorted:mg "sorted" = none
 n_set:mg "set" = none
variable {P:Program}{w:World}{K:PySem.W.Frag}{mg:Str->Option Value}{base:Heap}
theorem oZ_ {b:Int}(h:b≠0):Builtin.Int.intBits b=b.natAbs.log2+1:=by unfold Builtin.Int.intBits;simp [h]
theorem pJ_ {g b:Int}(h0:g≠0)(h1:g.natAbs<=b.natAbs)(hb:Builtin.Int.intBits b<=8000):g.natAbs.log2<9000:=by have h:=AY_ (a:=g) (b:=b) (n:=8000) h1 hb;rw [oZ_ h0] at h;lia
abbrev LK (s:Stmt)(x:Str)(k:NameKind):Prop:=(EW_ s).names.lookup x=some k
abbrev stN (i:Nat):Stmt:=PySem.Challenge.pw_rimread_k34_stars.main.body.getD i (.Pass ⟨0,0,0,0⟩)
abbrev FS_:Stmt:=stN 50
theorem lu_:E2_ ["_law_script", "_law_k"] ["_law_script", "_law_k"] (EW_ FS_):=⟨rfl,rfl,rfl,by rfl',rfl,by rfl',by rfl'⟩
theorem f1_:LK FS_ "_law_script" .local:=by rfl'
theorem f2_:LK FS_ "_law_k" .local:=by rfl'
theorem ia_:LK FS_ "len" .globalImplicit:=by rfl'
def IR_ (K:PySem.W.Frag):Sp:=fun vs H Q _=>∃ (a:Addr)(ns:List Int)(i:Int),vs=[.ref a,.int i]/\SqL K H a (ns.map V.int)/\0<=i/\∀ z,Q (.int z) H
theorem lv_ (T:Txt K mg)(F:Fn0 K mg "_law_cell_at" FS_):Cal P w K mg base "_law_cell_at" ["_law_script", "_law_k"] 1 (IR_ K):=by
 refine aR_ F lu_ (fun _ _ _ _ _ _=>byL2 fun _ _=>rfl) ?len ?body
 case len=>rintro vs H Q E ⟨a,b,c,rfl,_⟩;rfl
 case body =>
  intro f cdv A outer s H vs Q E hr h;obtain ⟨a,ns,i,rfl,hS,h0,k⟩:=h;refine' ⟨_,?D,?R⟩
  case D =>
   refine' ai_ ?g1 (ag_ (au_ ac_))
   case' g1=>refine' Fx_ (aq_ Im_ (pv1 1 rfl f2_) (an_ gZ_ ia_ T.n_len aL_ (pa_c (pv1 0 rfl f1_) ab_)) (E9_ _)) (ag_ (au_ (E0_ (oC_ (K:=K) rfl) (pv1 0 rfl f1_) (pv1 1 rfl f2_) (fun _ _=>rfl)))) aB_
  case R =>
   nofun;refine ⟨_,.inl hS,?_⟩;rw [Ab_];refine ite2 (fun hl=>?_) (fun hl=>?_)
   ·refine ⟨a,_,i,V.int (ns.getD i.toNat 0),rfl,rfl,hS,c0_ h0 ?_,k _⟩;have:i.toNat<ns.length:=by lia
    simp [Ae_,this,List.getD]
   ·exact k 0
abbrev FY_:Stmt:=stN 51
theorem er_:E2_ ["_law_script", "_law_at", "_law_by_here", "_law_prime", "_law_cell", "_law_big_here", "_law_k", "_law_one"] ["_law_script", "_law_at"] (EW_ FY_):=⟨rfl,rfl,rfl,by rfl',rfl,by rfl',by rfl'⟩
theorem kG_:LK FY_ "_law_script" .local:=by rfl'
theorem kH_:LK FY_ "_law_at" .local:=by rfl'
theorem kI_:LK FY_ "_law_by_here" .local:=by rfl'
theorem kJ_:LK FY_ "_law_prime" .local:=by rfl'
theorem ib_:LK FY_ "_law_cell" .local:=by rfl'
theorem f3_:LK FY_ "_law_big_here" .local:=by rfl'
theorem du_:LK FY_ "_law_k" .local:=by rfl'
theorem kK_:LK FY_ "_law_one" .local:=by rfl'
theorem ed_:LK FY_ "_law_cell_at" .globalImplicit:=by rfl'
theorem jI_:LK FY_ "range" .globalImplicit:=by rfl'
def Ix_ (K:PySem.W.Frag):Sp:=fun vs H Q _=>∃ (a:Addr)(ns:List Int)(j:Int),vs=[.ref a,.int j]/\0<=j/\SqL K H a (ns.map V.int)/\∀ z H',EX_ H H'->Q (.int z) H'
theorem KT_ {a0 a1 a2 a3 a4 a5 a6 a7:Int}(i:Int)(h0:0<=i)(h1:i<8)(P:Int->Prop)(p0:P a0)(p1:P a1)(p2:P a2)(p3:P a3)(p4:P a4)(p5:P a5)(p6:P a6)(p7:P a7) :
  ∃ v,atI [V.int a0,.int a1,.int a2,.int a3,.int a4,.int a5,.int a6,.int a7] i=some (.int v)/\P v:=by
 have:i=0\/i=1\/i=2\/i=3\/i=4\/i=5\/i=6\/i=7:=by lia
 rcases this with rfl|rfl|rfl|rfl|rfl|rfl|rfl|rfl
 ·exact ⟨_,rfl,p0⟩
 ·exact ⟨_,rfl,p1⟩
 ·exact ⟨_,rfl,p2⟩
 ·exact ⟨_,rfl,p3⟩
 ·exact ⟨_,rfl,p4⟩
 ·exact ⟨_,rfl,p5⟩
 ·exact ⟨_,rfl,p6⟩
 ·exact ⟨_,rfl,p7⟩
theorem qh_ (T:Txt K mg)(F:Fn0 K mg "_law_big" FY_) (G2_:Cal P w K mg base "_law_cell_at" ["_law_script", "_law_k"] 1 (IR_ K)):Cal P w K mg base "_law_big" ["_law_script", "_law_at"] 2 (Ix_ K):=by
 refine aR_ F er_ (fun _ _ _ _ _ _=>byL2 fun _ _=>rfl) ?len ?body
 case len=>rintro vs H Q E ⟨a,b,c,rfl,_⟩;rfl
 case body =>
  intro f cdv A outer s H vs Q E hr h;obtain ⟨a,ns,j,rfl,hj,hS,k⟩:=h;refine' ⟨_,?D,?R⟩
  case D =>
   refine' ai_ (aj_ (i:=2) er_.nd rfl kI_ (ax_ ?g4)) ?g2
   case' g4=>refine' pa_c ac_ (pa_c ac_ (pa_c ac_ (pa_c ac_ (pa_c ac_ (pa_c ac_ (pa_c ac_ (pa_c ac_ ab_)))))))
   case' g2=>refine' ai_ (aj_ (i:=3) er_.nd rfl kJ_ (ax_ ?g24)) (ai_ (aj_ (i:=4) er_.nd rfl ib_ (al_ G2_ (hr.mono (by decide)) ed_ (pa_c (pv1 0 rfl kG_) (pa_c (pv1 1 rfl kH_) ab_)))) ?g42)
   case' g24=>refine' pa_c ac_ (pa_c ac_ (pa_c ac_ (pa_c ac_ (pa_c ac_ (pa_c ac_ (pa_c ac_ (pa_c ac_ ab_)))))))
   case' g42=>refine' ai_ (Fx_ (aq_ LA_ (pv1 4 rfl ib_) (EZ_ pj_ ac_ ac_) (E9_ _)) (ag_ (au_ (pv1 4 rfl ib_))) aB_) ?g50
   case' g50=>refine' ai_ (aj_ (i:=5) er_.nd rfl f3_ ac_) (ai_ (aV_ Au_ rfl (aE_ jI_ T.n_range (pa_c ac_ ab_)) ?g66 ?g67) (ag_ (au_ (pv1 5 rfl f3_))))
   case g66=>exact ae_ (i:=6) er_.nd rfl du_
   case' g67=>refine' ai_ (aj_ (i:=7) er_.nd rfl kK_ (EZ_ aY_ ?g74 (EZ_ lR_ (pv1 6 rfl du_) (pv1 6 rfl du_)))) (ag_ (aj_ (i:=5) er_.nd rfl f3_ (EZ_ aY_ (EZ_ lR_ (pv1 5 rfl f3_) ac_) ?g96)))
   case' g74=>refine' EZ_ aY_ (EZ_ aK_ (al_ G2_ (hr.mono (by decide)) ed_ (pa_c (pv1 0 rfl kG_) (pa_c (EZ_ aY_ (pv1 1 rfl kH_) (EZ_ aK_ (pv1 6 rfl du_) ac_)) ab_))) (EZ_ pj_ ac_ ac_)) ac_
   case' g96=>refine' EZ_ aK_ (EZ_ aK_ (EZ_ lR_ (pv1 7 rfl kK_) (E0_ am_ (pv1 2 rfl kI_) (EZ_ aK_ (pv1 6 rfl du_) ac_) (fun _ _=>rfl))) (E0_ am_ (pv1 3 rfl kJ_) (EZ_ aK_ (pv1 6 rfl du_) ac_) (fun _ _=>rfl))) ac_
  case R =>
   nofun;refine ⟨by decide,fun p hp=>⟨by decide,fun q hq=>?_⟩⟩;generalize e1:upd H p (HO.tup _)=H1 at hq ⊢;have s1:EX_ H H1:=e1 ▸ EX_.new hp;have p1:H1 p=some (.tup _):=e1 ▸ aa_;generalize e2:upd H1 q (HO.tup _)=H2;have s2:EX_ H1 H2:=e2 ▸ EX_.new hq;have q2:H2 q=some (.tup _):=e2 ▸ aa_;have p2:=s2 _ _ p1;have sS:EX_ H H2:=s1.trans s2;clear e1 e2;refine ⟨a,ns,j,rfl,sS.seq hS,hj,fun z=>?_⟩;nofun;refine ⟨by decide,by decide,by decide,?_⟩;refine ite2 (fun _=>k _ _ sS) (fun _=>⟨by decide,by decide,?_⟩);refine fO_ (fun i σ H'=>H'=H2/\∃ (b:Int)(v6 v7:Option V),σ=[some (V.ref a),some (V.int j),some (V.ref p),some (V.ref q),some (V.int z),some (V.int b),v6,v7]) ⟨rfl,0,none,none,rfl⟩ ?_ ?_
   ·rintro i σ H' hi ⟨rfl,b,v6,v7,rfl⟩;have hi':i<60:=hi;nofun;have m9:=AS_ (0+(i:Int)) (show (9:Int)≠0 by decide);refine ⟨by decide,a,ns,_,rfl,sS.seq hS,by lia,fun y=>?_⟩;nofun;refine ⟨by decide,by decide,by decide,by decide,.inl ⟨by lia,by lia⟩,.inr ⟨by decide,by decide⟩,by decide,?_⟩;have m8:=AS_ (0+(i:Int)) (show (8:Int)≠0 by decide);have l8:=AN_ (0+(i:Int)) (show (0:Int)<8 by decide);obtain ⟨v,hv,v0,v1⟩:=KT_ (a0:=48271) (a1:=69621) (a2:=16807) (a3:=39373) (a4:=21401) (a5:=60493) (a6:=87721) (a7:=31337) ((0+(i:Int))%8) m8 l8 (fun v=>0<v/\v<100000) (by decide) (by decide) (by decide) (by decide) (by decide) (by decide) (by decide) (by decide);obtain ⟨u,hu,u0,u1⟩:=KT_ (a0:=99991) (a1:=99989) (a2:=99971) (a3:=99961) (a4:=99929) (a5:=99923) (a6:=99907) (a7:=99901) ((0+(i:Int))%8) m8 l8 (fun v=>0<v/\v<100000) (by decide) (by decide) (by decide) (by decide) (by decide) (by decide) (by decide) (by decide);simp only [p2,q2,Cl_,HO.tup.injEq,Dm_];simp only [hv,hu];nofun;exact ⟨.inr ⟨by lia,by lia⟩,by decide,u0,by decide,_,rfl⟩
   ·rintro σ H' ⟨rfl,b,v6,v7,rfl⟩;nofun;exact k _ _ sS
def dF (p:Int×Int):Dt:=.tup [.int p.1,.int p.2]
theorem fa_ {H:Hp}{v:V}{p:Int×Int}(h:Rep H v (dF p)):∃ q,v=.ref q/\H q=some (.tup [.int p.1,.int p.2]):=by obtain ⟨q,xs,e,hq,x,r,e1,hx,y,r',e2,hy,e3⟩:=h;cases hx;cases hy;subst e1 e2 e3;exact ⟨q,e,hq⟩
abbrev Gx_:Stmt:=stN 52
theorem lw_:E2_ ["_law_top", "_law_bottom", "_law_one", "_law_other"] ["_law_top", "_law_bottom"] (EW_ Gx_):=⟨rfl,rfl,rfl,by rfl',rfl,by rfl',by rfl'⟩
theorem kL_:LK Gx_ "_law_top" .local:=by rfl'
theorem kM_:LK Gx_ "_law_bottom" .local:=by rfl'
theorem es_:LK Gx_ "_law_one" .local:=by rfl'
theorem et_:LK Gx_ "_law_other" .local:=by rfl'
theorem lx_:LK Gx_ "abs" .globalImplicit:=by rfl'
def Hu_:Sp:=fun vs H Q _=>∃ t b:Int,vs=[.int t,.int b]/\0<b/\Builtin.Int.intBits b<=8000/\∀ p H',EX_ H H'->Rep (GK_ H H') (.ref p) (dF (nf t b))->Q (.ref p) H'
theorem qi_ (T:Txt K mg)(F:Fn0 K mg "_law_low" Gx_):Cal P w K mg base "_law_low" ["_law_top", "_law_bottom"] 1 Hu_:=by
 refine aR_ F lw_ (fun _ _ _ _ _ _=>byL2 fun _ _=>rfl) ?len ?body
 case len=>rintro vs H Q E ⟨a,b,rfl,_⟩;rfl
 case body =>
  intro f cdv A outer s H vs Q E hr h;obtain ⟨a,b,rfl,hb,lb,k⟩:=h;refine' ⟨_,?D,?R⟩
  case D =>
   refine' ai_ (pi_ (i:=2) (j:=3) rfl lw_.nd rfl rfl (by decide) es_ et_ (pa_c (an_ jk_ lx_ T.n_abs nh_ (pa_c (pv1 0 rfl kL_) ab_)) (pa_c (pv1 1 rfl kM_) ab_)) rfl) ?g2
   case' g2=>refine' ai_ (fN_ Au_ (aq_ HR_ (pv1 3 rfl et_) ac_ (E9_ _)) (ag_ (pi_ (i:=2) (j:=3) rfl lw_.nd rfl rfl (by decide) es_ et_ (pa_c (pv1 3 rfl et_) (pa_c (EZ_ aK_ (pv1 2 rfl es_) (pv1 3 rfl et_)) ab_)) rfl))) ?g12
   case' g12=>refine' ag_ (au_ (ax_ (pa_c (EZ_ av_ (pv1 0 rfl kL_) (pv1 2 rfl es_)) (pa_c (EZ_ av_ (pv1 1 rfl kM_) (pv1 2 rfl es_)) ab_))))
  case R =>
   nofun
   refine hM_ (fun σ H1=>∃ (x y:Int),σ=[some (.int a),some (.int b),some (.int x),some (.int y)]/\H1=H/\0<=x/\0<=y/\Int.gcd x y=Int.gcd a b)
    (fun σ _=>match σ with | [_,_,_,some (.int y)]=>y.toNat|_=>0) ?_ ?_
   ·refine ⟨_,_,rfl,rfl,?_,by lia,?_⟩
    ·split <;> lia
    ·split
     ·rw [EU_]
     ·rfl
   ·rintro σ H1 ⟨x,y,rfl,rfl,hx,hy,e⟩;nofun;refine ite2 (fun hne=>?_) (fun he=>?_)
    ·refine ⟨_,N_ok,?_⟩;nofun;have h1:=AS_ x (show y≠0 by lia);have h2:=AN_ x hne;exact ⟨hne,hy,h1,(mf_ hx hne).trans e,by lia⟩
    ·have hy0:y=0:=by lia
     have hx':x=(Int.gcd a b:Nat):=by rw [<-e,hy0,Int.gcd_zero_right];lia
     have g0:=gpos (t:=a) (b:=b) (by lia);have hl:=pJ_ (g:=(Int.gcd a b:Int)) (b:=b) (by lia) (Nat.le_of_dvd (by lia) (Ev_.mpr (Cn_ ..))) lb;subst hx';refine ⟨g0,hl,g0,hl,by decide,fun p hp=>k p _ (EX_.new hp) ⟨p,_,rfl,?_,_,_,rfl,rfl,_,_,rfl,rfl,rfl⟩⟩;rw [df_ hp,aa_,nq_ hb]
abbrev FF_:Stmt:=stN 53
theorem bi_:E2_ ["_law_big_here", "_law_bottom", "_law_top"] ["_law_big_here"] (EW_ FF_):=⟨rfl,rfl,rfl,by rfl',rfl,by rfl',by rfl'⟩
theorem az_:LK FF_ "_law_big_here" .local:=by rfl'
theorem ch_:LK FF_ "_law_bottom" .local:=by rfl'
theorem ci_:LK FF_ "_law_top" .local:=by rfl'
theorem gE_:LK FF_ "_law_low" .globalImplicit:=by rfl'
def G5_:Sp:=fun vs H Q _=>∃ z:Int,vs=[.int z]/\∀ (p q:Addr) H' (t b y:Int),EX_ H H'->H p=none->H q=none->Ws (nf t b)->H' p=some (.tup [.ref q,.int y])->H' q=some (.tup [.int (nf t b).1,.int (nf t b).2])->Q (.ref p) H'
theorem kN_ (T:Txt K mg)(F:Fn0 K mg "_law_worth_of" FF_) (GF_:Cal P w K mg base "_law_low" ["_law_top", "_law_bottom"] 1 Hu_):Cal P w K mg base "_law_worth_of" ["_law_big_here"] 2 G5_:=by
 refine aR_ F bi_ (fun _ _ _ _ _ _=>byL1 fun _=>rfl) ?len ?body
 case len=>rintro vs H Q E ⟨a,rfl,_⟩;rfl
 case body =>
  intro f cdv A outer s H vs Q E hr h;obtain ⟨z,rfl,k⟩:=h;refine' ⟨_,?D,?R⟩
  case D =>
   refine' ai_ (aj_ (i:=1) bi_.nd rfl ch_ (EZ_ aY_ ac_ (EZ_ aK_ (pv1 0 rfl az_) ac_))) ?g2
   case' g2=>refine' ai_ (iV_ (Fx_ (aq_ FZ_ (EZ_ aK_ (EZ_ av_ (pv1 0 rfl az_) ac_) ac_) ac_ (E9_ _)) ?g12 aB_)) ?g9
   case' g12=>refine' ag_ (aj_ (i:=1) bi_.nd rfl ch_ (EZ_ aY_ ac_ (EZ_ aK_ (EZ_ av_ (pv1 0 rfl az_) ac_) ac_)))
   case' g9=>refine' ai_ (iV_ (Fx_ (aq_ FZ_ (EZ_ aK_ (EZ_ av_ (pv1 0 rfl az_) ac_) ac_) ac_ (E9_ _)) ?g32 aB_)) ?g29
   case' g32=>refine' ag_ (aj_ (i:=1) bi_.nd rfl ch_ (EZ_ aY_ ac_ (EZ_ aK_ (EZ_ av_ (pv1 0 rfl az_) ac_) ac_)))
   case' g29=>refine' ai_ (aj_ (i:=0) bi_.nd rfl az_ (EZ_ av_ (pv1 0 rfl az_) ac_)) (ai_ (aj_ (i:=2) bi_.nd rfl ci_ (EZ_ aY_ ac_ (EZ_ aK_ (pv1 0 rfl az_) ac_))) ?g54)
   case' g54=>refine' ai_ (iV_ (Fx_ (aq_ FZ_ (EZ_ aK_ (EZ_ av_ (pv1 0 rfl az_) ac_) ac_) ac_ (E9_ _)) ?g64 aB_)) ?g61
   case' g64=>refine' ag_ (aj_ (i:=2) bi_.nd rfl ci_ (EZ_ aY_ ac_ (EZ_ aK_ (EZ_ av_ (pv1 0 rfl az_) ac_) ac_)))
   case' g61=>refine' ai_ (iV_ (Fx_ (aq_ FZ_ (EZ_ aK_ (EZ_ av_ (pv1 0 rfl az_) ac_) ac_) ac_ (E9_ _)) ?g84 aB_)) (ag_ ?g100)
   case' g84=>refine' ag_ (aj_ (i:=2) bi_.nd rfl ci_ (EZ_ aY_ ac_ (EZ_ aK_ (EZ_ av_ (pv1 0 rfl az_) ac_) ac_)))
   case' g100=>refine' au_ (ax_ (pa_c (al_ GF_ (hr.mono (by decide)) gE_ (pa_c (pv1 2 rfl ci_) (pa_c (pv1 1 rfl ch_) ab_))) (pa_c (EZ_ av_ (pv1 0 rfl az_) ac_) ab_)))
  case R =>
   nofun;refine ⟨by decide,fun σ H1=>∃ b:Int,σ=[some (.int z),some (.int b),none]/\H=H1/\0<b/\b<=1000,?_,?_⟩
   ·nofun;refine ⟨by decide,by decide,by decide,ite2 (fun _=>?_) (fun _=>?_)⟩
    ·have:=AS_ (z/12) (show (12:Int)≠0 by decide);have:=AN_ (z/12) (show (0:Int)<12 by decide);exact ⟨by decide,by decide,by decide,by lia,by lia⟩
    ·have:=AS_ z (show (3:Int)≠0 by decide);have:=AN_ z (show (0:Int)<3 by decide);lia
   rintro σ H1 ⟨b,rfl,rfl,b0,b1⟩;nofun;refine ⟨fun σ H1=>∃ b:Int,σ=[some (.int z),some (.int b),none]/\H=H1/\0<b/\b<=1000,?_,?_⟩
   ·nofun;refine ⟨by decide,by decide,by decide,ite2 (fun _=>?_) (fun _=>⟨b0,b1⟩)⟩;have:=AS_ (z/48) (show (1000:Int)≠0 by decide);have:=AN_ (z/48) (show (0:Int)<1000 by decide);exact ⟨by decide,by decide,by decide,by lia,by lia⟩
   clear b0 b1 b;rintro σ H1 ⟨b,rfl,rfl,b0,b1⟩;nofun;refine ⟨by decide,by decide,by decide,?_⟩;generalize z/48000=y;refine ⟨fun σ H1=>∃ t:Int,σ=[some (.int y),some (.int b),some (.int t)]/\H=H1/\0<t/\t<=1000,?_,?_⟩
   ·nofun;refine ⟨by decide,by decide,by decide,ite2 (fun _=>?_) (fun _=>?_)⟩
    ·have:=AS_ (y/20) (show (12:Int)≠0 by decide);have:=AN_ (y/20) (show (0:Int)<12 by decide);exact ⟨by decide,by decide,by decide,by lia,by lia⟩
    ·have:=AS_ y (show (5:Int)≠0 by decide);have:=AN_ y (show (0:Int)<5 by decide);lia
   rintro σ H1 ⟨t,rfl,rfl,t0,t1⟩;nofun;refine ⟨fun σ H1=>∃ t:Int,σ=[some (.int y),some (.int b),some (.int t)]/\H=H1/\0<t/\t<=1000,?_,?_⟩
   ·nofun;refine ⟨by decide,by decide,by decide,ite2 (fun _=>?_) (fun _=>⟨t0,t1⟩)⟩;have:=AS_ (y/80) (show (1000:Int)≠0 by decide);have:=AN_ (y/80) (show (0:Int)<1000 by decide);exact ⟨by decide,by decide,by decide,by lia,by lia⟩
   clear t0 t1 t;rintro σ H1 ⟨t,rfl,rfl,t0,t1⟩;nofun;refine ⟨t,b,rfl,b0,AY_ (b:=1000) (by lia) (by decide),fun q H1 s1 r1=>?_⟩;nofun;obtain ⟨q',eq,hq⟩:=fa_ r1;cases eq;obtain ⟨q0,q1⟩:=a0_ hq;refine ⟨by decide,by decide,by decide,fun p hp=>k p q _ t b (y/80000) (s1.trans (EX_.new hp)) (s1.free hp) q0 (LB_ t0 t1 b0 b1) aa_ (EX_.new hp _ _ q1)⟩
open PySem PySem.Spec PyProof.Rows L2 RimM RimT
theorem un1 {n c:Nat}(h:n+64<c):n+1<c:=by lia
structure Tg {α:Type}(lab:α->V)(H:Hp)(l:Addr)(as_:List Addr)(T:List (List α)):Prop where
 top:H l=some (.lst (as_.map V.ref))
 len:as_.length=T.length
 row:∀ p a,as_[p]?=some a->H a=some (.lst ((T.getD p []).map lab))
theorem Tg.mono {α:Type}{lab:α->V}{H H':Hp}{l:Addr}{as_:List Addr}{T:List (List α)}(h:Tg lab H l as_ T)(s:EX_ H H'):Tg lab H' l as_ T:=⟨s _ _ h.top,h.len,fun p a e=>s _ _ (h.row p a e)⟩
theorem Tg.at_ {α:Type}{lab:α->V}{H:Hp}{l:Addr}{as_:List Addr}{T:List (List α)}(h:Tg lab H l as_ T){p:Nat}(hp:p<T.length):∃ a,as_[p]?=some a/\atI (as_.map V.ref) (p:Int)=some (.ref a)/\H a=some (.lst ((T.getD p []).map lab)):=by have e:as_[p]?=some (as_[p]'(by rw [h.len];exact hp)):=Aa_ _;refine ⟨_,e,?_,h.row p _ e⟩;rw [c0_ (by lia) (by rw [AC_,Ae_,e];rfl)]
abbrev Tn:=Tg (fun n:Nat=>V.int n)
def cV (c:Nat×Nat):HO:=.tup [.int c.1,.int c.2]
def cK (c:Nat×Nat):List Key:=[.inl c.1,.inl c.2]
def Gq_ {α:Type}(H:Hp)(m:Addr)(T:List (List α)):Prop:=∃ kvs,H m=some (.dT kvs)/\∀ a b,I4_ T a b->∃ q,Ft_ kvs (cK a)=some (.ref q)/\H q=some (cV b)
theorem Gq_.mono {α:Type}{H H':Hp}{m:Addr}{T:List (List α)}(h:Gq_ H m T)(s:EX_ H H'):Gq_ H' m T:=by obtain ⟨kvs,e,k⟩:=h;exact ⟨kvs,s _ _ e,fun a b hab=>(k a b hab).elim fun q hq=>⟨q,hq.1,s _ _ hq.2⟩⟩
abbrev E5_:Stmt:=stN 56
theorem bf_:E2_ ["_law_turns_here", "_law_posts", "_law_mates_here", "_law_corner", "_law_p", "_law_k", "_law_q", "_law_j"] ["_law_turns_here", "_law_posts", "_law_mates_here", "_law_corner"] (EW_ E5_):=⟨rfl,rfl,rfl,by rfl',rfl,by rfl',by rfl'⟩
theorem cN_:LK E5_ "_law_turns_here" .local:=by rfl'
theorem cO_:LK E5_ "_law_posts" .local:=by rfl'
theorem fr_:LK E5_ "_law_mates_here" .local:=by rfl'
theorem fs_:LK E5_ "_law_corner" .local:=by rfl'
theorem bk_:LK E5_ "_law_p" .local:=by rfl'
theorem bG_:LK E5_ "_law_k" .local:=by rfl'
theorem a1_:LK E5_ "_law_q" .local:=by rfl'
theorem bH_:LK E5_ "_law_j" .local:=by rfl'
theorem co_:LK E5_ "len" .globalImplicit:=by rfl'
def Hk_:Sp:=fun vs H Q _=>∃ (α:Type)(_:DecidableEq α)(lab:α->V)(l m c:Addr)(as_:List Addr)(T:List (List α))(P:Nat)(e:Nat×Nat),vs=[.ref l,.int P,.ref m,.ref c]/\Tg lab H l as_ T/\Gq_ H m T/\Tw T/\0<P/\H c=some (cV e)/\IsC T P e /\
 ∀ q H' d,EX_ H H'->H q=none->H' q=some (cV d)->Nx T P e d->Q (.ref q) H'
theorem gF_ (T:Txt K mg)(F:Fn0 K mg "_law_corner_behind" E5_):Cal P w K mg base "_law_corner_behind" ["_law_turns_here", "_law_posts", "_law_mates_here", "_law_corner"] 1 Hk_:=by
 refine aR_ F bf_ (fun _ _ _ _ _ _=>byL4 fun _ _ _ _=>rfl) ?len ?body
 case len=>rintro vs H Q E ⟨_,_,_,l,m,c,as_,T,P,e,rfl,_⟩;rfl
 case body =>
  intro f cdv A outer s H vs Q E hr h;obtain ⟨α,dec,lab,l,m,c,as_,Tt,Pp,e,rfl,hT,hm,tw,P0,hc,ic,k⟩:=h;refine' ⟨_,?D,?R⟩
  case D =>
   refine' ai_ (fM_ (pv1 3 rfl fs_) (aJ_ (K:=K) (n:=2) rfl rfl (ak_ ?g6 (ak_ ?g8 aC_)))) ?g2
   case g6=>exact ae_ (i:=4) bf_.nd rfl bk_
   case g8=>exact ae_ (i:=5) bf_.nd rfl bG_
   case' g2=>refine' ai_ ?g10 (ai_ ?g33 (ai_ ?g49 (ag_ (au_ ?g66))))
   case' g10=>refine' Fx_ (aq_ FZ_ (pv1 5 rfl bG_) (an_ ap_ co_ T.n_len aL_ (pa_c (E0_ ao_ (pv1 0 rfl cN_) (pv1 4 rfl bk_) (fun _ _=>rfl)) ab_)) (E9_ _)) ?g13 aB_
   case' g13=>refine' ag_ (au_ (ax_ (pa_c (EZ_ aK_ (EZ_ gX_ (pv1 4 rfl bk_) ac_) (pv1 1 rfl cO_)) (pa_c ac_ ab_))))
   case' g33=>refine' fM_ (bU_ (un1 hr.units) (pv1 2 rfl fr_) (ax_ (pa_c (pv1 4 rfl bk_) (pa_c (pv1 5 rfl bG_) ab_))) (fun _ _=>rfl)) (aJ_ (K:=K) (n:=2) rfl rfl (ak_ ?g45 (ak_ ?g47 aC_)))
   case g45=>exact ae_ (i:=6) bf_.nd rfl a1_
   case g47=>exact ae_ (i:=7) bf_.nd rfl bH_
   case' g49=>refine' Fx_ (aq_ Im_ (pv1 6 rfl a1_) (pv1 1 rfl cO_) (E9_ _)) (ag_ (au_ (ax_ (pa_c (pv1 6 rfl a1_) (pa_c (EZ_ aY_ (pv1 7 rfl bH_) ac_) ab_))))) aB_
   case' g66=>refine' ax_ (pa_c (pv1 6 rfl a1_) (pa_c (EZ_ aK_ (EZ_ aY_ (pv1 7 rfl bH_) ac_) (an_ ap_ co_ T.n_len aL_ (pa_c (E0_ ao_ (pv1 0 rfl cN_) (pv1 6 rfl a1_) (fun _ _=>rfl)) ab_))) ab_))
  case R =>
   nofun;obtain ⟨a,ea,at0,ra⟩:=hT.at_ ic.1;refine ⟨_,SqT.of hc,rfl,_,_,rfl,_,_,rfl,rfl,_,_,rfl,hT.top,_,at0,_,rfl,_,.inl ra,?_⟩;nofun;rw [Ab_];refine ite2 (fun he=>?_) (fun he=>?_)
   ·have hz:((e.1:Int)-1)%(Pp:Int)=(((e.1+Pp-1)%Pp:Nat):Int):=by rw [D4_,show ((e.1+Pp-1:Nat):Int)=(e.1:Int)-1+Pp by lia];simp
    have he':e.2=rl Tt e.1:=by unfold rl;lia
    refine ⟨by lia,by decide,fun p hp=>k p _ ((e.1+Pp-1)%Pp,0) (EX_.new hp) hp ?_ (.inl ⟨he',rfl⟩)⟩;rw [aa_,hz];rfl
   ·have hlt:e.2<rl Tt e.1:=by have:=ic.2;unfold rl at this ⊢;split at this <;> lia
    obtain ⟨ww,hw⟩:=nt_ hlt;obtain ⟨b,hb⟩:=ns_ tw hw;obtain ⟨kvs,hkv,hall⟩:=hm;obtain ⟨q,vq,hq⟩:=hall e b hb;refine ⟨by decide,fun p hp=>?_⟩;have s1:EX_ H (upd H p (.tup [.int e.1,.int e.2])):=EX_.new hp;generalize e1:upd H p (.tup [.int e.1,.int e.2])=H1 at s1 ⊢;have hp1:H1 p=some (cV e):=e1 ▸ aa_;have g:F7_ H1 m (.ref p) (some (.ref q)):=vq ▸ F7_.t (k:=cK e) (s1 _ _ hkv) hp1;have hT1:=hT.mono s1;have hbl:=HT_ hb.2.choose_spec.2;refine ⟨_,g,_,rfl,_,SqT.of (s1 _ _ hq),rfl,_,_,rfl,_,_,rfl,rfl,_,rfl,?_⟩;refine ite2 (fun hlp=>?_) (fun hlp=>?_)
    ·refine ⟨_,rfl,by decide,fun r hr=>k r _ (b.1,b.2+1) (s1.trans (EX_.new hr)) (s1.free hr) ?_ (.inr ⟨hlt,b,hb,?_⟩)⟩
     ·rw [aa_];rfl
     ·rw [if_pos (by lia)]
    ·obtain ⟨a2,ea2,at2,ra2⟩:=hT1.at_ hbl.2;have hl2:(0:Int)<(rl Tt b.1:Nat):=by lia
     refine ⟨_,rfl,_,_,rfl,hT1.top,_,at2,_,rfl,_,.inl ra2,?_⟩;rw [Ab_];refine ⟨hl2,by decide,fun r hr=>k r _ (b.1,(b.2+1)%rl Tt b.1) (s1.trans (EX_.new hr)) (s1.free hr) ?_ (.inr ⟨hlt,b,hb,?_⟩)⟩
     ·rw [aa_];show some (HO.tup [V.int b.1,V.int (((b.2:Int)+1)%(rl Tt b.1:Nat))])=some (HO.tup [V.int b.1,V.int (((b.2+1)%rl Tt b.1:Nat):Int)]);rw [D4_,Int.natCast_add];rfl
     ·rw [if_neg (by lia)]
def Cs (H:Hp):List Addr->List (Nat×Nat)->Prop
 | [],[]=>True
 | x::xs,c::cs=>H x=some (cV c)/\Cs H xs cs
 | _,_=>False
theorem Cs.mono {H H':Hp}(s:EX_ H H'):∀ {xs:List Addr}{cs:List (Nat×Nat)},Cs H xs cs->Cs H' xs cs
 | [],[],_=>trivial
 | x::xs,c::cs,h=>⟨s _ _ h.1,Cs.mono s h.2⟩
theorem Cs.len {H:Hp}:∀ {xs:List Addr}{cs:List (Nat×Nat)},Cs H xs cs->xs.length=cs.length
 | [],[],_=>rfl
 | x::xs,c::cs,h=>by rw [AH_,AH_,Cs.len h.2]
theorem Cs.snoc {H:Hp}{y:Addr}{d:Nat×Nat}(hy:H y=some (cV d)):∀ {xs:List Addr}{cs:List (Nat×Nat)},Cs H xs cs->Cs H (xs++[y]) (cs++[d])
 | [],[],_=>⟨hy,trivial⟩
 | x::xs,c::cs,h=>⟨h.1,Cs.snoc hy h.2⟩
theorem Cs.get {H:Hp}:∀ {xs:List Addr}{cs:List (Nat×Nat)}{i:Nat}{d:Nat×Nat},Cs H xs cs->cs[i]?=some d->∃ x,xs[i]?=some x/\H x=some (cV d)
 | [],[],i,d,h,e=>by cases e
 | [],_::_,_,_,h,_=>h.elim
 | _::_,[],_,_,h,_=>h.elim
 | x::xs,c::cs,0,d,h,e=>by cases e;exact ⟨x,rfl,h.1⟩
 | x::xs,c::cs,i+1,d,h,e=>Cs.get (i:=i) h.2 e
def dC (c:Nat×Nat):Dt:=.tup [.int c.1,.int c.2]
theorem nW_ {H:Hp}{x:Addr}{c:Nat×Nat}(h:H x=some (cV c)):Rep H (.ref x) (dC c):=⟨x,_,rfl,h,_,_,rfl,rfl,_,_,rfl,rfl,rfl⟩
theorem q8_ (a b:Nat×Nat):deq (dC a) (dC b)=some (decide (a=b)):=by
 by_cases h1:(a.1:Int)=b.1 <;> by_cases h2:(a.2:Int)=b.2
 ·have e:a=b:=B9_ (by lia) (by lia);subst e;simp [dC,deq,deqs]
 ·have e:a≠b:=fun z=>h2 (by rw [z]);simp [dC,deq,deqs,h1,h2,e]
 ·have e:a≠b:=fun z=>h1 (by rw [z]);simp [dC,deq,deqs,h1,h2,e]
 ·have e:a≠b:=fun z=>h1 (by rw [z]);simp [dC,deq,deqs,h1,h2,e]
abbrev FE_:Stmt:=stN 57
theorem eZ_:E2_ ["_law_turns_here", "_law_posts", "_law_mates_here", "_law_corner", "_law_found", "_law_here"] ["_law_turns_here", "_law_posts", "_law_mates_here", "_law_corner"] (EW_ FE_):=⟨rfl,rfl,rfl,by rfl',rfl,by rfl',by rfl'⟩
theorem g3_:LK FE_ "_law_turns_here" .local:=by rfl'
theorem g4_:LK FE_ "_law_posts" .local:=by rfl'
theorem g5_:LK FE_ "_law_mates_here" .local:=by rfl'
theorem eu_:LK FE_ "_law_corner" .local:=by rfl'
theorem ev_:LK FE_ "_law_found" .local:=by rfl'
theorem cp_:LK FE_ "_law_here" .local:=by rfl'
theorem bD_:LK FE_ "_law_corner_behind" .globalImplicit:=by rfl'
def GC_:Sp:=fun vs H Q _=>∃ (α:Type)(_:DecidableEq α)(lab:α->V)(l m c:Addr)(as_:List Addr)(T:List (List α))(P:Nat)(e:Nat×Nat),vs=[.ref l,.int P,.ref m,.ref c]/\Tg lab H l as_ T/\Gq_ H m T/\Tw T/\0<P/\P<=T.length/\H c=some (cV e)/\IsC T P e/\(corners T P).length<=900 /\
 ∀ R H' xs cs,EX_ H H'->H R=none->H' R=some (.lst (xs.map V.ref))->Cs H' xs cs->cs≠[]->cs.length<=(corners T P).length->(∀ d∈cs,IsC T P d)->Way T P cs e->cs.head?=some e->cs.Nodup->Q (.ref R) H'
theorem mL_ (T:Txt K mg)(F:Fn0 K mg "_law_region" FE_) (F5_:Cal P w K mg base "_law_corner_behind" ["_law_turns_here", "_law_posts", "_law_mates_here", "_law_corner"] 1 Hk_):Cal P w K mg base "_law_region" ["_law_turns_here", "_law_posts", "_law_mates_here", "_law_corner"] 2 GC_:=by
 refine aR_ F eZ_ (fun _ _ _ _ _ _=>byL4 fun _ _ _ _=>rfl) ?len ?body
 case len=>rintro vs H Q E ⟨_,_,_,l,m,c,as_,T,P,e,rfl,_⟩;rfl
 case body =>
  intro f cdv A outer s H vs Q E hr h;obtain ⟨α,dec,lab,l,m,c,as_,Tt,Pp,e,rfl,hT,hm,tw,P0,PT,hc,ic,c9,k⟩:=h;refine' ⟨_,?D,?R⟩
  case D =>
   refine' ai_ (aj_ (i:=4) eZ_.nd rfl ev_ (a5_ (pa_c (pv1 3 rfl eu_) ab_))) (ai_ ?g7 (ai_ ?g19 (ag_ (au_ (pv1 4 rfl ev_)))))
   case' g7=>refine' aj_ (i:=5) eZ_.nd rfl cp_ (al_ F5_ (hr.mono (by decide)) bD_ (pa_c (pv1 0 rfl g3_) (pa_c (pv1 1 rfl g4_) (pa_c (pv1 2 rfl g5_) (pa_c (pv1 3 rfl eu_) ab_)))))
   case' g19=>refine' fN_ Au_ (aq_ (kh_ (hr.units)) (pv1 5 rfl cp_) (pv1 3 rfl eu_) (E9_ _)) (ai_ (aI_ (FQ_ Aw_ AK_ AL_ aT_ (pv1 4 rfl ev_) (pa_c (pv1 5 rfl cp_) ab_))) ?g26)
   case' g26=>refine' ag_ (aj_ (i:=5) eZ_.nd rfl cp_ (al_ F5_ (hr.mono (by decide)) bD_ (pa_c (pv1 0 rfl g3_) (pa_c (pv1 1 rfl g4_) (pa_c (pv1 2 rfl g5_) (pa_c (pv1 5 rfl cp_) ab_))))))
  case R =>
   nofun;refine ⟨by decide,fun R hR=>?_⟩;have s0:EX_ H (upd H R (.lst [.ref c])):=EX_.new hR;refine ⟨_,_,_,l,m,c,as_,Tt,Pp,e,rfl,hT.mono s0,hm.mono s0,tw,P0,s0 _ _ hc,ic,fun q H1 d s1 hq hd nx=>?_⟩;nofun
   refine hM_ (fun σ H'=>∃ (S:Hp)(xs:List Addr)(cs:List (Nat×Nat))(h:Addr)(d:Nat×Nat),σ=[some (.ref l),some (.int Pp),some (.ref m),some (.ref c),some (.ref R),some (.ref h)]/\EX_ H S/\S R=none/\EX_ S H'/\H' R=some (.lst (xs.map V.ref))/\Cs S xs cs/\S h=some (cV d)/\Way Tt Pp cs d/\cs.head?=some e/\cs.Nodup)
    (fun σ H'=>match H' R with|some (.lst xs)=>(corners Tt Pp).length+1-xs.length|_=>0) ?_ ?_
   ·have h0R:upd H R (.lst [.ref c]) R=some (.lst [.ref c]):=aa_;exact ⟨grow H (upd H R (.lst [.ref c])) H1,[c],[e],q,d,rfl,bT_ s0,by rw [cg_ h0R];exact hR,gx_ s0 s1,s1 _ _ h0R,⟨bT_ s0 _ _ hc,trivial⟩,by rw [gw_ hq];exact hd,.one nx,rfl,by simp⟩
   ·rintro σ H' ⟨S,xs,cs,h,d,rfl,hS,SR,SH,hxs,hcs,hh,wy,hd0,nd⟩;nofun;have wl:=nu_ tw P0 PT wy hd0 ic nd;have wa:=fq_ tw P0 PT wy hd0 ic;have xl:=hcs.len;refine ⟨_,nW_ (SH _ _ hh),_,nW_ (SH _ _ (hS _ _ hc)),_,q8_ d e,by simp [dC,dep,deps],?_⟩;by_cases hde:d=e
    ·rw [if_neg (by simp [hde])];exact k R H' xs cs (hS.trans SH) hR hxs (hcs.mono SH) (hW_ wy) wl wa.2.1 (hde ▸ wy) hd0 nd
    ·rw [if_pos (by simp [hde])];refine ⟨_,N_ok,?_⟩;nofun;have sz:(xs.map V.ref).length<sizeLine:=by have:=EY_ (show xs.length+1<=1000 by lia);rw [Ab_];lia
     have dn:=ll_ tw P0 PT wy hd0 ic nd hde;refine ⟨.inl ⟨_,SqL.of hxs⟩,_,hxs,sz,?_⟩;have SH2:EX_ S (upd H' R (.lst (xs.map V.ref++[.ref h]))):=aM_ SH SR;have e2:upd H' R (.lst (xs.map V.ref++[.ref h])) R=some (.lst (xs.map V.ref++[.ref h])):=aa_;generalize upd H' R (.lst (xs.map V.ref++[.ref h]))=H2 at SH2 e2 ⊢;refine ⟨_,_,_,l,m,h,as_,Tt,Pp,d,rfl,(hT.mono hS).mono SH2,(hm.mono hS).mono SH2,tw,P0,SH2 _ _ hh,wa.1,fun q2 H3 d2 s3 hq2 hd2 nx2=>⟨⟨grow S H2 H3,xs++[h],cs++[d],q2,rfl,hS.trans (bT_ SH2),?_,gx_ SH2 s3,?_,?_,d2,?_,.more wy nx2,?_,?_⟩,?_⟩⟩
     ·rw [cg_ e2];exact SR
     ·rw [Ap_];exact s3 _ _ e2
     ·exact Cs.snoc (bT_ SH2 _ _ hh) (hcs.mono (bT_ SH2))
     ·rw [gw_ hq2];exact hd2
     ·cases cs with
      | nil=>exact absurd rfl (hW_ wy)
      | cons a b=>exact hd0
     ·rw [A0_];refine ⟨nd,by simp,fun a ha b hb ab=>?_⟩;rw [Ai_.mp hb] at ab;exact dn (ab ▸ ha)
     ·rw [s3 _ _ e2,hxs];simp only [Ah_,Ab_,A4_];lia
def FT_ (T:List (List Nat))(P n:Nat):List (Nat×Nat):=(List.range n).flatMap fun p=>(List.range (rl T p+(if p<P then 1 else 0))).map fun k=>(p,k)
theorem dg_ (T:List (List Nat))(P n:Nat):FT_ T P (n+1)=FT_ T P n++(List.range (rl T n+(if n<P then 1 else 0))).map fun k=>(n,k):=by unfold FT_;rw [BJ_,CA_];simp
theorem g6_ (T:List (List Nat))(P:Nat){n:Nat}:∀ {m:Nat},n<=m->(FT_ T P n).length<=(FT_ T P m).length
 | 0,h=>by rw [Nat.le_zero.mp h];exact Af_ _
 | m+1,h=>by
  by_cases e:n=m+1
  ·rw [e];exact Af_ _
  ·have:=g6_ T P (n:=n) (m:=m) (by lia);rw [dg_,Ah_];lia
theorem pK_ {H:Hp}:∀ {vs:List V}{cs:List (Nat×Nat)},Fg_ H vs (cs.map dC)->∃ xs:List Addr,vs=xs.map V.ref/\Cs H xs cs
 | [],[],_=>⟨[],rfl,trivial⟩
 | v::vs,c::cs,h=>by
  obtain ⟨x,r,e,hx,hr⟩:=h;cases e;obtain ⟨q,ys,e1,hq,a,b,e2,ha,a2,b2,e3,ha2,e4⟩:=hx;cases ha;cases ha2;subst e1 e2 e3 e4;obtain ⟨xs,e5,hc⟩:=pK_ hr;exact ⟨q::xs,by rw [e5];rfl,hq,hc⟩
 | [],_::_,h=>by obtain ⟨x,r,e,_⟩:=h;cases e
 | _::_,[],h=>by cases h
abbrev Fq_:Stmt:=stN 55
theorem dN_:E2_ ["_law_turns_here", "_law_posts", "_law_found", "_law_p"] ["_law_turns_here", "_law_posts"] (EW_ Fq_):=⟨rfl,rfl,rfl,by rfl',rfl,by rfl',by rfl'⟩
theorem f4_:LK Fq_ "_law_turns_here" .local:=by rfl'
theorem jJ_:LK Fq_ "_law_posts" .local:=by rfl'
theorem cz_:LK Fq_ "_law_found" .local:=by rfl'
theorem dO_:LK Fq_ "_law_p" .cell:=by rfl'
theorem ic_:LK Fq_ "int" .globalImplicit:=by rfl'
theorem ew_:LK Fq_ "len" .globalImplicit:=by rfl'
theorem dv_:LK Fq_ "range" .globalImplicit:=by rfl'
def G1_:Sp:=fun vs H Q _=>∃ (l:Addr)(as_:List Addr)(T:List (List Nat))(P:Nat),vs=[.ref l,.int P]/\Tn H l as_ T/\T.length<=16/\(corners T P).length<=900 /\
 ∀ R H',EX_ H H'->Rep (GK_ H H') (.ref R) (.lst ((corners T P).map dC))->Q (.ref R) H'
theorem ly_ (T:Txt K mg)(F:Fn0 K mg "_law_corners" Fq_):Cal P w K mg base "_law_corners" ["_law_turns_here", "_law_posts"] 1 G1_:=by
 refine aR_ F dN_ (fun _ _ _ _ _ _=>byL2 fun _ _=>rfl) ?len ?body
 case len=>rintro vs H Q E ⟨l,as_,T,P,rfl,_⟩;rfl
 case body =>
  intro f cdv A outer s H vs Q E hr h;obtain ⟨l,as_,Tt,Pp,rfl,hT,t16,c9,k⟩:=h;refine' ⟨_,?D,?R⟩
  case D =>
   refine' ai_ (aj_ (i:=2) dN_.nd rfl cz_ (a5_ ab_)) ?g2
   case' g2=>refine' ai_ (aV_ Au_ rfl (aE_ dv_ T.n_range (pa_c (an_ ap_ ew_ T.n_len aL_ (pa_c (pv1 0 rfl f4_) ab_)) ab_)) ?g8 ?g9) (ag_ (au_ (pv1 2 rfl cz_)))
   case g8=>exact hv_ (i:=3) dN_.nd rfl dO_ rfl
   case' g9=>refine' ag_ (aj_ (i:=2) dN_.nd rfl cz_ (EZ_ iU_ (pv1 2 rfl cz_) (bd_ (N':=["_law_k", "_law_p"]) (ix:=[none,some 3]) rfl rfl (a6_ ?g20) (aE_ dv_ T.n_range ?g25) (fun _ _ _=>?g22) (fun _ _ _=>?g23) (fun _ _ _=>(ax_ (pa_c (pvc 1 rfl rfl) (pa_c (pv1 0 rfl rfl) ab_)))))))
   case g20=>exact (by show Ge_ (EW_ Fq_) ["_law_turns_here", "_law_posts", "_law_found", "_law_p"] _ _ _=true;decide +kernel)
   case' g25=>refine' pa_c (EZ_ aY_ (an_ ap_ ew_ T.n_len aL_ (pa_c (E0_ ao_ (pv1 0 rfl f4_) (pvc 3 rfl dO_) (fun _ _=>rfl)) ab_)) (aX_ hJ_ ic_ T.n_int ni_ (pa_c (en_ Im_ (pvc 3 rfl dO_) (pv1 1 rfl jJ_) (E9_ _)) ab_))) ab_
   case g22=>exact ae_ (i:=0) (by show List.Nodup (["_law_k", "_law_p"]:List Str);decide +kernel) rfl rfl
   case g23=>exact cn_
  case R =>
   nofun;refine ⟨by decide,fun R hR=>?_⟩;have s0:EX_ H (upd H R (.lst [])):=EX_.new hR;refine ⟨_,.inl (s0 _ _ hT.top),?_⟩;rw [Ab_,hT.len];refine ⟨by lia,by lia,?_⟩;rw [AC_];refine fO_ (fun i σ H'=>∃ (R:Addr)(e:Option V),σ=[some (.ref l),some (.int Pp),some (.ref R),e]/\EX_ H H'/\Rep (GK_ H H') (.ref R) (.lst ((FT_ Tt Pp i).map dC))) ?_ ?_ ?_
   ·refine ⟨R,none,rfl,s0,R,[],rfl,?_,rfl⟩;rw [df_ hR,aa_]
   ·rintro i σ H' hi ⟨R,e,rfl,sH,rep⟩;nofun;have hT':=hT.mono sH;obtain ⟨a,ea,at0,ra⟩:=hT'.at_ hi;rw [Bw_];refine ⟨_,hT'.top,_,at0,_,rfl,_,.inl ra,?_⟩;right
    have eN:(((Tt.getD i []).map fun n:Nat=>V.int n).length:Int)+(if (i:Int)<(Pp:Int) then 1 else 0)=((rl Tt i+(if i<Pp then 1 else 0):Nat):Int):=by
     rw [Ab_];unfold rl;by_cases z:i<Pp
     ·rw [if_pos (by lia),if_pos z];lia
     ·rw [if_neg (by lia),if_neg z];lia
    rw [eN];have c1:=g6_ Tt Pp (n:=i+1) (m:=Tt.length) hi;have c2:(FT_ Tt Pp Tt.length).length<=900:=c9;rw [dg_,Ah_,Ab_,Ba_] at c1;clear eN;generalize hN:rl Tt i+(if i<Pp then 1 else 0)=N at c1 ⊢;refine ⟨by lia,by lia,?_⟩;obtain ⟨R',vs,eR,hR',reps⟩:=rep;cases eR;obtain ⟨nR,hR1⟩:=a0_ hR';have lv:=reps.length;rw [Ab_] at lv;refine bv_ (n:=N) (B:=H) (Pσ:=fun σ=>∃ e,σ=[e,some (.int i)]) (ds:=((List.range N).map fun k=>(i,k)).map dC) sH ⟨none,rfl⟩ (by simp) (by lia) (fun j H2 hj s2=>by show j<Int.toNat _;lia) (fun H2 s2=>by show Int.toNat _<=_;lia) ?_ ?_
    ·rintro D j z d σ' H2 H2' hD hDo hs2 hj hdj ⟨rfl,rfl⟩ ⟨e2,rfl⟩ R2 kR;nofun;refine ⟨by decide,fun p hp=>kR _ _ _ ⟨_,rfl⟩ (EX_.new hp) ?_⟩;have:d=dC (i,j):=by rw [Bf_,Ae_,CB_ hj] at hdj;exact (Aq_ hdj).symm
     rw [this];refine nW_ ?_;obtain ⟨oD,hoD⟩:=hDo;rw [bB_ (fun z=>by rw [z,hoD] at hp;cases hp) ((sH.trans hs2).free hp),aa_];show some (HO.tup [V.int i,V.int (0+(j:Int))])=some (HO.tup [V.int i,V.int j]);rw [Bw_]
    ·intro D H2 hD s2 rep2;obtain ⟨D',ws,eD,hD',reps2⟩:=rep2;cases eD;obtain ⟨nD,hD1⟩:=a0_ hD';have lw:=reps2.length;rw [Ab_,Ab_,Ba_] at lw;refine ⟨_,rfl,_,s2 _ _ hR1,_,hD1,AR_ (EY_ (show vs.length+ws.length<=1000 by rw [lv,lw];lia)),fun p hp=>⟨(sH.trans s2).trans (EX_.new hp),p,vs++ws,rfl,?_,?_⟩⟩
     ·rw [df_ ((sH.trans s2).free hp),aa_]
     ·rw [dg_,hN,Ap_];exact (Fg_.mono (ki_ (s2.trans (EX_.new hp))) _ reps).append (Fg_.mono (ki_ (EX_.new hp)) _ reps2)
   ·rintro σ H' ⟨R,e,rfl,sH,rep⟩;nofun;exact k R H' sH rep
def Dn (p k:Nat)(e:Nat×Nat):Prop:=e.1<p\/(e.1=p/\e.2<k)
theorem nX_ {a b:Nat×Nat}(h:cK a=cK b):a=b:=by
 unfold cK at h;injection h with h1 h2
 injection h2 with h2 _
 injection h1 with h1
 injection h2 with h2
 exact B9_ (by lia) (by lia)
structure Mi {α:Type}(ky:α->Key)(T:List (List α))(S:Hp)(D:Nat×Nat->Prop)(k1:List (Key×V))(k2:List (List Key×V)):Prop where
 fi:∀ w:α,(∃ c q,D c/\wi T c=some w/\Ft_ k1 (ky w)=some (.ref q)/\S q=some (cV c))\/((∀ c,D c->wi T c≠some w)/\Ft_ k1 (ky w)=none)
 ma:∀ a b,I4_ T a b->D a->D b->∃ q,Ft_ k2 (cK a)=some (.ref q)/\S q=some (cV b)
theorem Mi.mono {α:Type}{ky:α->Key}{T:List (List α)}{S S':Hp}{D:Nat×Nat->Prop}{k1:List (Key×V)}{k2:List (List Key×V)}(h:Mi ky T S D k1 k2)(s:EX_ S S'):Mi ky T S' D k1 k2 :=
 ⟨fun w=>(h.fi w).imp (fun ⟨c,q,a,b,d,e⟩=>⟨c,q,a,b,d,s _ _ e⟩) id,fun a b m x y=>(h.ma a b m x y).elim fun q z=>⟨q,z.1,s _ _ z.2⟩⟩
theorem Mi.imp {α:Type}{ky:α->Key}{T:List (List α)}{S:Hp}{D D':Nat×Nat->Prop}{k1:List (Key×V)}{k2:List (List Key×V)}(h:Mi ky T S D k1 k2)(i:∀ c w,wi T c=some w->(D c ↔ D' c)):Mi ky T S D' k1 k2 :=
 ⟨fun w=>(h.fi w).imp (fun ⟨c,q,a,b,d,e⟩=>⟨c,q,(i c _ b).mp a,b,d,e⟩) (fun ⟨a,b⟩=>⟨fun c x y=>a c ((i c _ y).mpr x) y,b⟩),fun a b m x y=>by obtain ⟨_,w,wa,wb⟩:=id m;exact h.ma a b m ((i a _ wa).mpr x) ((i b _ wb).mpr y)⟩
theorem Mi.new {α:Type}[DecidableEq α]{ky:α->Key}{T:List (List α)}{S:Hp}{D:Nat×Nat->Prop}{k1:List (Key×V)}{k2:List (List Key×V)}(h:Mi ky T S D k1 k2){c0:Nat×Nat}{w:α}{q0:Addr}(inj:∀ a b,ky a=ky b->a=b)(hw:wi T c0=some w)(hn:Ft_ k1 (ky w)=none)(h0:S q0=some (cV c0)) :
  Mi ky T S (fun c=>D c\/c=c0) (FR_ k1 (ky w) (.ref q0)) k2:=by
 have no:∀ c,D c->wi T c≠some w:=by
  rcases h.fi w with ⟨c,q,_,_,e,_⟩|⟨a,_⟩
  ·rw [hn] at e;cases e
  ·exact a
 refine ⟨fun w'=>?_,fun a b m x y=>?_⟩
 ·rw [a7_];by_cases e:w'=w
  ·subst e;exact .inl ⟨c0,q0,.inr rfl,hw,by rw [if_pos rfl],h0⟩
  ·rw [if_neg (fun z=>e (inj _ _ z))]
   rcases h.fi w' with ⟨c,q,a,b,d,f⟩|⟨a,b⟩
   ·exact .inl ⟨c,q,.inl a,b,d,f⟩
   ·refine .inr ⟨fun c hc hcw=>?_,b⟩
    rcases hc with hc|hc
    ·exact a c hc hcw
    ·rw [hc,hw] at hcw;cases hcw;exact e rfl
 ·obtain ⟨ne,w',wa,wb⟩:=id m
  rcases x with x|x <;> rcases y with y|y
  ·exact h.ma a b m x y
  ·rw [y,hw] at wb;cases wb;exact absurd wa (no a x)
  ·rw [x,hw] at wa;cases wa;exact absurd wb (no b y)
  ·exact absurd (x.trans y.symm) ne
theorem Mi.old {α:Type}[DecidableEq α]{ky:α->Key}{T:List (List α)}{S:Hp}{D:Nat×Nat->Prop}{k1:List (Key×V)}{k2:List (List Key×V)}(tw:Tw T)(h:Mi ky T S D k1 k2){c0 c:Nat×Nat}{w:α}{q q0:Addr}(hw:wi T c0=some w)(hD:¬ D c0)(hc:D c)(hcw:wi T c=some w)(hq:S q=some (cV c))(h0:S q0=some (cV c0)) :
  Mi ky T S (fun c=>D c\/c=c0) k1 (FR_ (FR_ k2 (cK c0) (.ref q)) (cK c) (.ref q0)):=by
 have ne:c≠c0:=fun z=>hD (z ▸ hc);have m0:I4_ T c c0:=⟨ne,w,hcw,hw⟩;refine ⟨fun w'=>?_,fun a b m x y=>?_⟩
 ·rcases h.fi w' with ⟨c,q,a,b,d,f⟩|⟨a,b⟩
  ·exact .inl ⟨c,q,.inl a,b,d,f⟩
  ·refine .inr ⟨fun c' hc' hcw'=>?_,b⟩
   rcases hc' with hc'|hc'
   ·exact a c' hc' hcw'
   ·rw [hc',hw] at hcw';cases hcw';exact a c hc hcw
 ·rw [a7_,a7_];by_cases e1:a=c
  ·subst e1;rw [if_pos rfl,fU_ tw m m0];exact ⟨q0,rfl,h0⟩
  ·rw [if_neg (fun z=>e1 (nX_ z))];by_cases e2:a=c0
   ·subst e2;rw [if_pos rfl,fU_ tw m m0.symm];exact ⟨q,rfl,hq⟩
   ·rw [if_neg (fun z=>e2 (nX_ z))];have da:=x.resolve_right e2
    rcases y with y|y
    ·exact h.ma a b m da y
    ·rw [y] at m;exact absurd (fU_ tw m.symm m0.symm) e1
structure MS (H S H':Hp)(F M:Addr)(k1:List (Key×V))(k2:List (List Key×V)):Prop where
 hS:EX_ H S
 sF:S F=none
 sM:S M=none
 sH:EX_ S H'
 f:H' F=some (.dK k1)
 m:H' M=some (.dT k2)
theorem MS.new {H S H':Hp}{F M p:Addr}{o:HO}{k1:List (Key×V)}{k2:List (List Key×V)}(h:MS H S H' F M k1 k2)(hp:H' p=none):MS H (upd S p o) (upd H' p o) F M k1 k2:=by
 have nF:F≠p:=fun z=>by rw [<-z,h.f] at hp;cases hp
 have nM:M≠p:=fun z=>by rw [<-z,h.m] at hp;cases hp
 exact ⟨h.hS.trans (aO_ h.sH hp),by rw [ah_ nF];exact h.sF,by rw [ah_ nM];exact h.sM,eS_ h.sH hp,by rw [ah_ nF];exact h.f,by rw [ah_ nM];exact h.m⟩
theorem MS.ne {H S H':Hp}{F M:Addr}{k1:List (Key×V)}{k2:List (List Key×V)}(h:MS H S H' F M k1 k2):F≠M:=fun z=>by have:=h.f;rw [z,h.m] at this;cases this
theorem MS.putF {H S H':Hp}{F M:Addr}{k1:List (Key×V)}{k2:List (List Key×V)}(h:MS H S H' F M k1 k2)(k1':List (Key×V)):MS H S (upd H' F (.dK k1')) F M k1' k2 :=
 ⟨h.hS,h.sF,h.sM,aM_ h.sH h.sF,aa_,by rw [ah_ h.ne.symm];exact h.m⟩
theorem MS.putM {H S H':Hp}{F M:Addr}{k1:List (Key×V)}{k2:List (List Key×V)}(h:MS H S H' F M k1 k2)(k2':List (List Key×V)):MS H S (upd H' M (.dT k2')) F M k1 k2' :=
 ⟨h.hS,h.sF,h.sM,aM_ h.sH h.sM,by rw [ah_ h.ne];exact h.f,aa_⟩
abbrev FI_:Stmt:=stN 54
theorem dw_:E2_ ["_law_turns_here", "_law_first", "_law_mates_here", "_law_p", "_law_k", "_law_wire"] ["_law_turns_here"] (EW_ FI_):=⟨rfl,rfl,rfl,by rfl',rfl,by rfl',by rfl'⟩
theorem ft_:LK FI_ "_law_turns_here" .local:=by rfl'
theorem cP_:LK FI_ "_law_first" .local:=by rfl'
theorem dP_:LK FI_ "_law_mates_here" .local:=by rfl'
theorem b9_:LK FI_ "_law_p" .local:=by rfl'
theorem cQ_:LK FI_ "_law_k" .local:=by rfl'
theorem cR_:LK FI_ "_law_wire" .local:=by rfl'
theorem f5_:LK FI_ "len" .globalImplicit:=by rfl'
theorem ex_:LK FI_ "range" .globalImplicit:=by rfl'
def Hc_:Sp:=fun vs H Q _=>∃ (α:Type)(_:DecidableEq α)(lab:α->V)(ky:α->Key)(l:Addr)(as_:List Addr)(T:List (List α)),vs=[.ref l]/\(∀ w,lab w=kV (ky w))/\(∀ a b,ky a=ky b->a=b)/\Tg lab H l as_ T/\Tw T/\T.length<=16/\(∀ p,rl T p<=30)/\∀ m H',EX_ H H'->H m=none->Gq_ H' m T->Q (.ref m) H'
theorem nY_ (T:Txt K mg)(F:Fn0 K mg "_law_mates" FI_):Cal P w K mg base "_law_mates" ["_law_turns_here"] 1 Hc_:=by
 refine aR_ F dw_ (fun _ _ _ _ _ _=>byL1 fun _=>rfl) ?len ?body
 case len=>rintro vs H Q E ⟨_,_,_,_,l,as_,T,rfl,_⟩;rfl
 case body =>
  intro f cdv A outer s H vs Q E hr h;obtain ⟨α,dec,lab,ky,l,as_,Tt,rfl,hlab,inj,hT,tw,t16,r30,k⟩:=h;refine' ⟨_,?D,?R⟩
  case D =>
   refine' ai_ ?g1 (ai_ ?g3 ?g4)
   case g1=>exact aj_ (i:=1) dw_.nd rfl cP_ dJ_
   case g3=>exact aj_ (i:=2) dw_.nd rfl dP_ fT_
   case' g4=>refine' ai_ (aV_ Au_ rfl (aE_ ex_ T.n_range (pa_c (an_ ap_ f5_ T.n_len aL_ (pa_c (pv1 0 rfl ft_) ab_)) ab_)) ?g8 ?g9) (ag_ (au_ (pv1 2 rfl dP_)))
   case g8=>exact ae_ (i:=3) dw_.nd rfl b9_
   case' g9=>refine' ag_ (aV_ Au_ rfl ?g17 ?g18 (ad_ (aj_ (i:=5) dw_.nd rfl cR_ (E0_ ao_ (E0_ ao_ (pv1 0 rfl ft_) (pv1 3 rfl b9_) (fun _ _=>rfl)) (pv1 4 rfl cQ_) (fun _ _=>rfl))) ?g29))
   case' g17=>refine' aE_ ex_ T.n_range (pa_c (an_ ap_ f5_ T.n_len aL_ (pa_c (E0_ ao_ (pv1 0 rfl ft_) (pv1 3 rfl b9_) (fun _ _=>rfl)) ab_)) ab_)
   case g18=>exact ae_ (i:=4) dw_.nd rfl cQ_
   case' g29=>refine' ag_ (Fx_ (j3_ (ps_ (un1 hr.units) (pv1 5 rfl cR_) (pv1 1 rfl cP_))) ?g37 (ag_ (cL_ (un1 hr.units) (pv1 1 rfl cP_) (pv1 5 rfl cR_) (ax_ (pa_c (pv1 3 rfl b9_) (pa_c (pv1 4 rfl cQ_) ab_))) rfl)))
   case' g37=>refine' ad_ (cL_ (un1 hr.units) (pv1 2 rfl dP_) (ax_ (pa_c (pv1 3 rfl b9_) (pa_c (pv1 4 rfl cQ_) ab_))) (bU_ (un1 hr.units) (pv1 1 rfl cP_) (pv1 5 rfl cR_) (fun _ _=>rfl)) rfl) ?g42
   case' g42=>refine' ag_ (cL_ (un1 hr.units) (pv1 2 rfl dP_) (bU_ (un1 hr.units) (pv1 1 rfl cP_) (pv1 5 rfl cR_) (fun _ _=>rfl)) (ax_ (pa_c (pv1 3 rfl b9_) (pa_c (pv1 4 rfl cQ_) ab_))) rfl)
  case R =>
   nofun;intro Fd hFd Md hMd;have s0:EX_ H (upd (upd H Fd (HO.dK [])) Md (HO.dT [])):=(EX_.new hFd).trans (EX_.new hMd);have nF:Fd≠Md:=fun z=>by rw [<-z,aa_] at hMd;cases hMd
   have hM0:H Md=none:=(EX_.new hFd).free hMd;have ms0:MS H H (upd (upd H Fd (HO.dK [])) Md (HO.dT [])) Fd Md [] []:=⟨EX_.refl _,hFd,hM0,s0,by rw [ah_ nF];exact aa_,aa_⟩;generalize upd (upd H Fd (HO.dK [])) Md (HO.dT [])=H0 at s0 ms0 ⊢;refine ⟨_,.inl (s0 _ _ hT.top),?_⟩;rw [Ab_,hT.len];refine ⟨by lia,by lia,?_⟩;rw [AC_];refine br_ (fun i σ H'=>∃ (S:Hp)(k1:List (Key×V))(k2:List (List Key×V))(e3 e4 e5:Option V),σ=[some (.ref l),some (.ref Fd),some (.ref Md),e3,e4,e5]/\MS H S H' Fd Md k1 k2/\Mi ky Tt S (Dn i 0) k1 k2/\k1.length<=30*i/\k2.length<=60*i) ?_ ?_ ?_
   ·refine ⟨H,[],[],_,_,_,rfl,ms0,⟨fun w=>.inr ⟨fun c hc=>?_,rfl⟩,fun a b m x y=>?_⟩,Af_ _,Af_ _⟩
    ·rcases hc with z|z <;> lia
    ·rcases x with z|z <;> lia
   ·rintro i σ H' hi kc kb hkc hkb G hG ⟨S,k1,k2,e3,e4,e5,rfl,ms,mi,l1,l2⟩;refine hG ?_;have hT1:=(hT.mono ms.hS).mono ms.sH;obtain ⟨a,ea,at0,ra⟩:=hT1.at_ hi;nofun;rw [Bw_];refine ⟨_,hT1.top,_,at0,_,rfl,_,.inl ra,?_⟩;rw [Ab_];have r3:=r30 i;unfold rl at r3;refine ⟨by lia,by lia,?_⟩;rw [AC_];refine br_ (fun j σ H'=>∃ (S:Hp)(k1:List (Key×V))(k2:List (List Key×V))(e4 e5:Option V),σ=[some (.ref l),some (.ref Fd),some (.ref Md),some (.int i),e4,e5]/\MS H S H' Fd Md k1 k2/\Mi ky Tt S (Dn i j) k1 k2/\k1.length<=30*i+j/\k2.length<=60*i+2*j) ?_ ?_ ?_
    ·exact ⟨S,k1,k2,_,_,rfl,ms,mi,by lia,by lia⟩
    ·clear ms mi l1 l2 hT1 ra ea at0 a k1 k2 S;rintro j σ H' hj kc2 kb2 hkc2 hkb2 G2 hG2 ⟨S,k1,k2,e4,e5,rfl,ms,mi,l1,l2⟩;refine hG2 ?_;have hT1:=(hT.mono ms.hS).mono ms.sH;obtain ⟨a,ea,at0,ra⟩:=hT1.at_ hi;nofun;simp only [Bw_];obtain ⟨w,hw⟩:∃ w,(Tt.getD i [])[j]?=some w:=⟨_,Aa_ hj⟩;have hwi:wi Tt (i,j)=some w:=hw;have i16:i<16:=by lia
     have nD:¬ Dn i j (i,j):=by unfold Dn;lia
     have eD:∀ c w',wi Tt c=some w'->((Dn i j c\/c=(i,j)) ↔ Dn i (j+1) c):=fun c w' _=>by
      unfold Dn;constructor
      ·rintro ((z|⟨z,z2⟩)|z)
       ·exact .inl z
       ·exact .inr ⟨z,by lia⟩
       ·rw [z];exact .inr ⟨rfl,DS_ _⟩
      ·rintro (z|⟨z,z2⟩)
       ·exact .inl (.inl z)
       ·by_cases y:c.2=j
        ·exact .inr (B9_ z y)
        ·exact .inl (.inr ⟨z,by lia⟩)
     refine ⟨_,hT1.top,_,at0,_,rfl,_,ra,kV (ky w),?_,?_⟩
     ·exact c0_ (by lia) (by rw [AC_,Ae_,hw,Ce_,hlab])
     nofun;refine ⟨_,F7_.k (k:=ky w) ms.f,?_⟩
     rcases mi.fi w with ⟨c,q,dc,wc,hv,hq⟩|⟨no,hv⟩
     ·rw [if_pos (by rw [hv];rfl)];nofun;refine ⟨.ref q,hv ▸ F7_.k (k:=ky w) ms.f,by decide,fun p hp=>?_⟩;have ms1:=ms.new (o:=cV (i,j)) hp;have ms2:=ms1.putM (FR_ k2 (cK (i,j)) (.ref q));have z1:=aP_ k2 (cK (i,j)) (.ref q);refine ⟨_,Ho_.t (k:=cK (i,j)) ms1.m aa_ (EY_ (by lia)),?_⟩;nofun;refine ⟨by decide,fun q0 hq0=>?_⟩;have ms3:=ms2.new (o:=cV (i,j)) hq0;have mi3:=(mi.mono (aO_ (o:=cV (i,j)) ms.sH hp)).mono (aO_ (o:=cV (i,j)) ms2.sH hq0);have hqS:=aO_ (o:=cV (i,j)) ms2.sH hq0 _ _ (aO_ (o:=cV (i,j)) ms.sH hp _ _ hq);have z2:=aP_ (FR_ k2 (cK (i,j)) (.ref q)) (cK c) (.ref q0);refine ⟨.ref q,hv ▸ F7_.k (k:=ky w) ms3.f,_,Ho_.t (k:=cK c) ms3.m (ms3.sH _ _ hqS) (EY_ (by lia)),?_⟩;exact hkc2 _ _ ⟨_,_,_,_,_,rfl,ms3.putM _,(Mi.old tw mi3 hwi nD dc wc hqS aa_).imp eD,by lia,by lia⟩
     ·rw [if_neg (by rw [hv];decide)];refine ⟨by decide,fun q0 hq0=>?_⟩;have ms1:=ms.new (o:=cV (i,j)) hq0;have z1:=aP_ k1 (ky w) (.ref q0);refine ⟨_,Ho_.k (k:=ky w) ms1.f (EY_ (by lia)),?_⟩;exact hkc2 _ _ ⟨_,_,_,_,_,rfl,ms1.putF _,((mi.mono (aO_ ms.sH hq0)).new inj hwi hv aa_).imp eD,by lia,by lia⟩
    ·rintro σ H' ⟨S,k1,k2,e4,e5,rfl,ms,mi,l1,l2⟩;refine hkc _ _ ⟨S,k1,k2,_,_,_,rfl,ms,mi.imp fun c w hw=>?_,by lia,by lia⟩;have:=(HT_ hw).1;unfold rl at this;unfold Dn;constructor
     ·rintro (z|⟨z,z2⟩)
      ·exact .inl (by lia)
      ·exact .inl (by lia)
     ·rintro (z|⟨z,z2⟩)
      ·by_cases y:c.1=i
       ·rw [y] at this;exact .inr ⟨y,this⟩
       ·exact .inl (by lia)
      ·lia
   ·rintro σ H' ⟨S,k1,k2,e3,e4,e5,rfl,ms,mi,l1,l2⟩;nofun;refine k Md H' (ms.hS.trans ms.sH) hM0 ⟨k2,ms.m,fun a b m=>?_⟩;obtain ⟨ne,w,wa,wb⟩:=id m;obtain ⟨q,h1,h2⟩:=mi.ma a b m (.inl (HT_ wa).2) (.inl (HT_ wb).2);exact ⟨q,h1,ms.sH _ _ h2⟩
structure To (B H:Hp)(l:Addr)(as_:List Addr)(T:List (List Nat)):Prop where
 tn:Tn H l as_ T
 nd:as_.Nodup
 nl:l∉as_
 fl:B l=none
 fa:∀ a∈as_,B a=none
theorem To.mono {B H H':Hp}{l:Addr}{as_:List Addr}{T:List (List Nat)}(h:To B H l as_ T)(s:EX_ H H'):To B H' l as_ T:=⟨h.tn.mono s,h.nd,h.nl,h.fl,h.fa⟩
theorem lz_ (n p:Nat):(List.replicate n ([]:List Nat)).getD p []=[]:=by rw [Ac_,D5_];split <;> rfl
theorem Jf_ (T:List (List Nat))(p:Nat):rl T p<=T.flatten.length:=by
 unfold rl;rw [Ac_];cases e:T[p]? with
 | none=>exact AA_ _
 | some l =>
  obtain ⟨hp,e1⟩:=Ag_.mp e;have h2:T.flatten.length=(T.take p).flatten.length+(T.drop p).flatten.length:=by rw [<-Ah_,<-A6_,Bb_]
  rw [DL_ hp,e1,AJ_,Ah_] at h2;show l.length<=_;lia
theorem both {c1:Prop}[Decidable c1]{α:Type}{C:α->Prop}{c2:α->Prop}[∀ x,Decidable (c2 x)]{X:α->Prop}{Y:Prop}(a:α)(ha:C a)(hX:c1->c2 a->X a)(hY:Y):if c1 then ∃ x,C x/\(if c2 x then X x else Y) else Y:=by
 by_cases h1:c1
 ·rw [if_pos h1];refine ⟨a,ha,?_⟩;by_cases h2:c2 a
  ·rw [if_pos h2];exact hX h1 h2
  ·rw [if_neg h2];exact hY
 ·rw [if_neg h1];exact hY
theorem lA_ (l:List Nat)(k wire:Nat):(l.map fun n:Nat=>V.int n).take k++V.int (0+(wire:Nat))::(l.map fun n:Nat=>V.int n).drop k=(RimT.ins l k wire).map fun n:Nat=>V.int n:=by unfold RimT.ins;rw [Ap_,AB_,DF_,EG_,Bw_]
theorem To.ins {B H:Hp}{l:Addr}{as_:List Addr}{T:List (List Nat)}(h:To B H l as_ T){c:Nat×Nat}{a:Addr}(ha:as_[c.1]?=some a)(wire:Nat):To B (upd H a (.lst ((RimT.ins (T.getD c.1 []) c.2 wire).map fun n:Nat=>V.int n))) l as_ (FM_ T c wire):=by
 have la:l≠a:=fun e=>h.nl (by rw [e];exact Ak_ ha);have cl:c.1<as_.length:=(Ag_.mp ha).1;refine ⟨⟨by rw [ah_ la];exact h.tn.top,by rw [aN_];exact h.tn.len,fun p b hb=>?_⟩,h.nd,h.nl,h.fl,h.fa⟩;by_cases e:c.1=p
 ·subst e;rw [ha] at hb;cases hb;rw [aa_];unfold FM_;rw [Ac_ (l:=T.set _ _),Bj_,if_pos rfl,if_pos (by rw [<-h.tn.len];exact cl)];rfl
 ·have ba:b≠a:=fun z=>by rw [z] at hb;exact e ((AU_ cl h.nd).mp (ha.trans hb.symm))
  rw [ah_ ba,h.tn.row p b hb];unfold FM_;rw [Ac_ (l:=T.set _ _),Bj_,if_neg e,<-Ac_]
theorem To.more {B H:Hp}{l:Addr}{as_:List Addr}{T:List (List Nat)}(h:To B H l as_ T)(sB:EX_ B H){a:Addr}(na:H a=none)(r:List Nat):To B (upd (upd H a (.lst (r.map fun n:Nat=>V.int n))) l (.lst ((as_++[a]).map V.ref))) l (as_++[a]) (T++[r]):=by
 have la:l≠a:=af_ h.tn.top na;have an:a∉as_:=fun z=>by obtain ⟨p,hp,e⟩:=Ar_.mp z;have:=h.tn.row p a (by rw [Aa_ hp,e]);rw [na] at this;cases this
 refine ⟨⟨aa_,by simp [h.tn.len],fun p b hb=>?_⟩,A0_.mpr ⟨h.nd,by simp,fun x hx y hy e=>an (by rw [<-Ai_.mp hy,<-e];exact hx)⟩,fun z=>?_,h.fl,fun b hb=>?_⟩
 ·have bl:b≠l:=fun e=>by
   rw [e] at hb
   rcases Ax_.mp (Ak_ hb) with z|z
   ·exact h.nl z
   ·exact la (Ai_.mp z)
  rw [ah_ bl];by_cases hp:p<as_.length
  ·rw [AP_ hp] at hb;have e:=h.tn.row p b hb;rw [ah_ (fun z=>by rw [z,na] at e;cases e),e,Ac_,Ac_,AP_ (by rw [<-h.tn.len];exact hp)]
  ·rw [A2_ (by lia)] at hb;have e:=Ai_.mp (Ak_ hb);have hz:p=as_.length:=by have:=(Ag_.mp hb).1;simp at this;lia
   rw [e,aa_,hz,h.tn.len,Ac_,A2_ (Af_ _)];simp
 ·rcases Ax_.mp z with z|z
  ·exact h.nl z
  ·exact la (Ai_.mp z)
 ·rcases Ax_.mp hb with z|z
  ·exact h.fa b z
  ·rw [Ai_.mp z];exact sB.free na
abbrev Fd_:Stmt:=stN 58
theorem bg_:E2_ ["_law_big_here", "_law_posts", "_law_many", "_law_within", "_law_turns_here", "_law_wire", "_law_corners_here", "_law_one", "_law_way", "_law_region_here", "_law_other", "_law_p", "_law_k"] ["_law_big_here", "_law_posts", "_law_many", "_law_within"] (EW_ Fd_):=⟨rfl,rfl,rfl,by rfl',rfl,by rfl',by rfl'⟩
theorem bb_:LK Fd_ "_law_big_here" .local:=by rfl'
theorem dQ_:LK Fd_ "_law_posts" .local:=by rfl'
theorem lB_:LK Fd_ "_law_many" .local:=by rfl'
theorem lC_:LK Fd_ "_law_within" .local:=by rfl'
theorem bl_:LK Fd_ "_law_turns_here" .local:=by rfl'
theorem dR_:LK Fd_ "_law_wire" .local:=by rfl'
theorem dS_:LK Fd_ "_law_corners_here" .local:=by rfl'
theorem cS_:LK Fd_ "_law_one" .local:=by rfl'
theorem id_:LK Fd_ "_law_way" .local:=by rfl'
theorem dT_:LK Fd_ "_law_region_here" .local:=by rfl'
theorem g7_:LK Fd_ "_law_other" .local:=by rfl'
theorem g8_:LK Fd_ "_law_p" .local:=by rfl'
theorem g9_:LK Fd_ "_law_k" .local:=by rfl'
theorem f6_:LK Fd_ "_law_corners" .globalImplicit:=by rfl'
theorem hh_:LK Fd_ "_law_mates" .globalImplicit:=by rfl'
theorem gG_:LK Fd_ "_law_region" .globalImplicit:=by rfl'
theorem bW_:LK Fd_ "len" .globalImplicit:=by rfl'
theorem ey_:LK Fd_ "range" .globalImplicit:=by rfl'
theorem hi_:LK Fd_ "sorted" .globalImplicit:=by rfl'
def H3_:Sp:=fun vs H Q _=>∃ (z:Int)(P W:Nat),vs=[.int z,.int P,.int W,.int 10]/\1<=P/\P<=6/\W<=15 /\
 ∀ (p l:Addr)(as_:List Addr)(T:List (List Nat))(y:Int) H',EX_ H H'->H' p=some (.tup [.ref l,.int y])->To H H' l as_ T->Gr P W T->Q (.ref p) H'
theorem nZ_ (T:Txt K mg)(F:Fn0 K mg "_law_grown" Fd_) (In_:Cal P w K mg base "_law_corners" ["_law_turns_here", "_law_posts"] 1 G1_) (Hg_:Cal P w K mg base "_law_mates" ["_law_turns_here"] 1 Hc_) (GG_:Cal P w K mg base "_law_region" ["_law_turns_here", "_law_posts", "_law_mates_here", "_law_corner"] 2 GC_):Cal P w K mg base "_law_grown" ["_law_big_here", "_law_posts", "_law_many", "_law_within"] 3 H3_:=by
 refine aR_ F bg_ (fun _ _ _ _ _ _=>byL4 fun _ _ _ _=>rfl) ?len ?body
 case len=>rintro vs H Q E ⟨a,b,c,rfl,_⟩;rfl
 case body =>
  intro f cdv A outer s H vs Q E hr h;obtain ⟨z,Pp,W,rfl,P1,P6,W15,k⟩:=h;refine' ⟨_,?D,?R⟩
  case D =>
   refine' ad_ (gv_ (i:=4) (N':=["_law_p"]) (ix:=[none]) rfl rfl bg_.nd rfl bl_ rfl (a6_ ?g3) (aE_ ey_ T.n_range (pa_c (pv1 1 rfl dQ_) ab_)) (fun _ _ _=>?g5) (fun _ _ _=>?g6) (fun _ _ _=>(a5_ ab_))) ?g2
   case g3=>exact (by show Ge_ (EW_ Fd_) ["_law_big_here", "_law_posts", "_law_many", "_law_within", "_law_turns_here", "_law_wire", "_law_corners_here", "_law_one", "_law_way", "_law_region_here", "_law_other", "_law_p", "_law_k"] _ _ _=true;decide +kernel)
   case g5=>exact ae_ (i:=0) (by show List.Nodup (["_law_p"]:List Str);decide +kernel) rfl rfl
   case g6=>exact cn_
   case' g2=>refine' ai_ ?g12 (ag_ (au_ (ax_ (pa_c (pv1 4 rfl bl_) (pa_c (pv1 0 rfl bb_) ab_)))))
   case' g12=>refine' aV_ Au_ rfl (aE_ ey_ T.n_range (pa_c (pv1 2 rfl lB_) ab_)) ?g15 (ad_ (aj_ (i:=6) bg_.nd rfl dS_ (al_ In_ (hr.mono (by decide)) f6_ (pa_c (pv1 4 rfl bl_) (pa_c (pv1 1 rfl dQ_) ab_)))) ?g21)
   case g15=>exact ae_ (i:=5) bg_.nd rfl dR_
   case' g21=>refine' ad_ (aj_ (i:=7) bg_.nd rfl cS_ (E0_ ao_ (pv1 6 rfl dS_) (EZ_ aK_ (pv1 0 rfl bb_) (an_ ap_ bW_ T.n_len aL_ (pa_c (pv1 6 rfl dS_) ab_))) (fun _ _=>rfl))) ?g29
   case' g29=>refine' ad_ (aj_ (i:=0) bg_.nd rfl bb_ (EZ_ av_ (pv1 0 rfl bb_) (an_ ap_ bW_ T.n_len aL_ (pa_c (pv1 6 rfl dS_) ab_)))) ?g39
   case' g39=>refine' ad_ (aj_ (i:=8) bg_.nd rfl id_ (EZ_ aK_ (pv1 0 rfl bb_) ac_)) (ad_ (aj_ (i:=0) bg_.nd rfl bb_ (EZ_ av_ (pv1 0 rfl bb_) ac_)) (ag_ ?g56))
   case' g56=>refine' Fx_ ?g57 (ad_ ?g73 (ag_ (aI_ (FQ_ Aw_ AK_ AL_ aT_ (pv1 4 rfl bl_) (pa_c (a5_ (pa_c (pv1 5 rfl dR_) ab_)) ab_))))) ?g59
   case' g57=>refine' PW.pt (qG_ (aq_ FZ_ (pv1 8 rfl id_) ac_ (E9_ _)) (pP_ (aq_ Im_ (an_ ap_ bW_ T.n_len aL_ (pa_c (pv1 4 rfl bl_) ab_)) (EZ_ aY_ (pv1 1 rfl dQ_) (pv1 3 rfl lC_)) (E9_ _))))
   case' g73=>refine' aI_ (FQ_ Aw_ CO_ CP_ hS_ (E0_ ao_ (pv1 4 rfl bl_) (E0_ am_ (pv1 7 rfl cS_) ac_ (fun _ _=>rfl)) (fun _ _=>rfl)) (pa_c (E0_ am_ (pv1 7 rfl cS_) ac_ (fun _ _=>rfl)) (pa_c (pv1 5 rfl dR_) ab_)))
   case' g59=>refine' ad_ ?g97 (ad_ (aj_ (i:=10) bg_.nd rfl g7_ (E0_ ao_ (pv1 9 rfl dT_) (EZ_ aK_ (pv1 0 rfl bb_) (an_ ap_ bW_ T.n_len aL_ (pa_c (pv1 9 rfl dT_) ab_))) (fun _ _=>rfl))) ?g113)
   case' g97=>refine' aj_ (i:=9) bg_.nd rfl dT_ (al_ GG_ (hr.mono (by decide)) gG_ (pa_c (pv1 4 rfl bl_) (pa_c (pv1 1 rfl dQ_) (pa_c (al_ Hg_ (hr.mono (by decide)) hh_ (pa_c (pv1 4 rfl bl_) ab_)) (pa_c (pv1 7 rfl cS_) ab_)))))
   case' g113=>refine' ad_ (aj_ (i:=0) bg_.nd rfl bb_ (EZ_ av_ (pv1 0 rfl bb_) (an_ ap_ bW_ T.n_len aL_ (pa_c (pv1 9 rfl dT_) ab_)))) ?g123
   case' g123=>refine' ag_ (aV_ Au_ rfl ?g131 (aJ_ (K:=K) (n:=2) rfl rfl (ak_ ?g144 (ak_ ?g146 aC_))) ?g133)
   case' g131=>refine' ay_ (K:=K) rfl (mC_ hr.units hi_ T.n_sorted (pa_c (a5_ (pa_c (pv1 7 rfl cS_) (pa_c (pv1 10 rfl g7_) ab_))) ab_))
   case g144=>exact ae_ (i:=11) bg_.nd rfl g8_
   case g146=>exact ae_ (i:=12) bg_.nd rfl g9_
   case' g133=>refine' ag_ (aI_ (FQ_ Aw_ CO_ CP_ hS_ (E0_ ao_ (pv1 4 rfl bl_) (pv1 11 rfl g8_) (fun _ _=>rfl)) (pa_c (pv1 12 rfl g9_) (pa_c (pv1 5 rfl dR_) ab_))))
  case R =>
   nofun;refine ⟨by lia,by lia,?_⟩;rw [show Int.toNat (Pp:Int)=Pp by lia];intro D hD;refine ⟨fun i m σ H'=>m=Pp-i/\i<=Pp/\(∃ e,σ=[e])/\EX_ H H'/\∃ as_:List Addr,as_.length=i/\To H H' D as_ (List.replicate i []),⟨Pp,by simp,AA_ _,⟨_,rfl⟩,EX_.new hD,[],rfl,⟨⟨aa_,rfl,fun p a h=>(by cases h)⟩,Bh_,fun h=>(by cases h),hD,fun a h=>(by cases h)⟩⟩,?_⟩;rintro i m σ H' ⟨rfl,hi,⟨e,rfl⟩,s1,as_,al,hT⟩;by_cases hlt:i<Pp
   ·refine .inr ⟨hlt,fun σ2 H2=>(∃ e,σ2=[e])/\EX_ H H2/\∃ as_:List Addr,as_.length=i+1/\To H H2 D as_ (List.replicate (i+1) []),fun σ2 H2 ⟨a,b,c⟩=>⟨Pp-(i+1),by lia,rfl,hlt,a,b,c⟩,?_⟩;rintro x H'' ⟨rfl,rfl⟩;nofun;refine ⟨AA_ _,fun a na=>?_⟩;have fa:H a=none:=s1.free na;have Da:D≠a:=af_ hT.tn.top na;refine ⟨as_.map V.ref,by rw [ah_ Da];exact hT.tn.top,EY_ (by rw [Ab_];lia),⟨_,rfl⟩,fun b o hb=>?_,as_++[a],by simp [al],?_⟩
    ·rw [ah_ (af_ hb hD),ah_ (af_ hb fa)];exact s1 _ _ hb
    ·have an:a∉as_:=fun h=>by obtain ⟨p,hp,e⟩:=Ar_.mp h;have:=hT.tn.row p a (by rw [Aa_ hp,e]);rw [na] at this;cases this
     refine ⟨⟨by rw [aa_,Ap_];rfl,by simp [al],fun p b hb=>?_⟩,?_,?_,hD,fun b hb=>?_⟩
     ·have hbD:b≠D:=fun e=>by
       rw [e] at hb
       rcases Ax_.mp (Ak_ hb) with h|h
       ·exact hT.nl h
       ·exact Da (Ai_.mp h)
      rw [ah_ hbD];by_cases hp:p<as_.length
      ·rw [AP_ hp] at hb;have e:=hT.tn.row p b hb;rw [ah_ (fun z=>by rw [z,na] at e;cases e),e,lz_,show ([]:List Nat)::List.replicate i []=List.replicate (i+1) [] from rfl,lz_]
      ·have e:b=a:=by rw [A2_ (by lia)] at hb;have:=Ak_ hb;exact Ai_.mp this
       rw [e,aa_,show ([]:List Nat)::List.replicate i []=List.replicate (i+1) [] from rfl,lz_];rfl
     ·exact A0_.mpr ⟨hT.nd,by simp,fun x hx y hy e=>an (by rw [<-Ai_.mp hy,<-e];exact hx)⟩
     ·intro h
      rcases Ax_.mp h with h|h
      ·exact hT.nl h
      ·exact Da (Ai_.mp h)
     ·rcases Ax_.mp hb with h|h
      ·exact hT.fa b h
      ·rw [Ai_.mp h];exact fa
   ·have e:i=Pp:=by lia
    subst e;refine .inl ⟨Af_ _,?_⟩;nofun;refine ⟨by lia,by lia,?_⟩;rw [show Int.toNat (W:Int)=W by lia];refine br_ (fun v σ H2=>∃ (z:Int)(e5 e6 e7 e8 e9 e10 e11 e12:Option V)(as_:List Addr)(T:List (List Nat)),σ=[some (.int z),some (.int i),some (.int W),some (.int 10),some (.ref D),e5,e6,e7,e8,e9,e10,e11,e12]/\EX_ H H2/\To H H2 D as_ T/\Gr i v T) ⟨z,none,none,none,none,none,none,none,none,as_,_,rfl,s1,hT,oK_ i⟩ ?_ ?_
    ·rintro v σ H2 hv kc kb hkc hkb G hG ⟨z,e5,e6,e7,e8,e9,e10,e11,e12,as_,T,rfl,s2,hT,gr⟩;refine hG ?_;have hv':v<W:=hv;have gc:=gr.corners;have gl:=gr.len;have gm:=gr.most;nofun;refine ⟨D,as_,T,i,rfl,hT.tn,by lia,by lia,fun R H3 s3 repR=>?_⟩;obtain ⟨_,vs,e0,hR',hvs⟩:=id repR;cases e0;obtain ⟨nR,hR⟩:=a0_ hR';have hvl:vs.length=(corners T i).length:=by rw [hvs.length,Ab_]
     have c0:0<(corners T i).length:=by have:(0,0)∈corners T i:=fp_.mpr ⟨by show 0<T.length;lia,by show 0<_+(if 0<i then 1 else 0);rw [if_pos (by lia)];lia⟩;exact Ej_ this
     obtain ⟨j,hj,jl⟩:∃ j:Nat,z%(vs.length:Int)=j/\j<vs.length:=⟨(z%(vs.length:Int)).toNat,by have:=AS_ z (show (vs.length:Int)≠0 by lia);lia,by have:=AS_ z (show (vs.length:Int)≠0 by lia);have:=AN_ z (show (0:Int)<(vs.length:Int) by lia);lia⟩;obtain ⟨xs,ex,hcs⟩:=pK_ (Fg_.mono be_ _ hvs);have ec:(corners T i)[j]?=some ((corners T i)[j]'(by lia)):=Aa_ _;obtain ⟨q,hxq,hq⟩:=hcs.get ec;have ic:IsC T i ((corners T i)[j]'(by lia)):=fp_.mp (A1_ _);generalize (corners T i)[j]'(by lia)=c at *
     have lg:((vs.length:Int)).natAbs.log2<9000:=by
      have:((vs.length:Int)).natAbs<=1000:=by lia
      by_cases h0:((vs.length:Int)).natAbs=0
      ·rw [h0];decide
      ·rw [Dv_ h0];exact BC_ this (by rfl')
     nofun;refine ⟨vs,.inl hR,by lia,vs,hR,.ref q,?_,?_⟩
     ·rw [hj];refine c0_ (by lia) ?_;rw [AC_,ex,Ae_,hxq];rfl
     nofun;refine ⟨vs,.inl hR,by lia,lg,?_⟩;nofun;refine ⟨by decide,?_⟩;nofun;refine ⟨by decide,by rfl',?_⟩;nofun;have hT3:=hT.mono s3;have s23:=s2.trans s3;have cb:c.2<=rl T c.1:=by have:=ic.2;split at this <;> lia
     refine both (as_.map V.ref) (.inl hT3.tn.top) (fun h1 h2=>?_) ?_
     ·obtain ⟨a,ea,at0,ra⟩:=hT3.tn.at_ ic.1;have rw30:rl T c.1<=30:=by have:=Jf_ T c.1;rw [gr.tot] at this;lia
      have rln:(T.getD c.1 []).length=rl T c.1:=rfl;have Da:D≠a:=fun e=>hT3.nl (by rw [e];exact Ak_ ea);have fa:=hT3.fa a (Ak_ ea);nofun;refine ⟨_,hq,_,FC_,_,_,rfl,hT3.tn.top,.ref a,at0,.inl ⟨_,.inl (.inl ra)⟩,_,hq,_,Fw_,a,rfl,_,_,rfl,ra,by lia,by rw [Ab_,rln];lia,by rw [Ab_,rln];lia,?_⟩;rw [AC_,lA_];have hT4:=hT3.ins ea v;have s4:EX_ H (upd H3 a (.lst ((RimT.ins (T.getD c.1 []) c.2 v).map fun n:Nat=>V.int n))):=fun b o hb=>by rw [ah_ (af_ hb fa)];exact s23 _ _ hb
      generalize upd H3 a (.lst ((RimT.ins (T.getD c.1 []) c.2 v).map fun n:Nat=>V.int n))=H4 at *;nofun;refine ⟨.inl ⟨_,.inl (.inl hT4.tn.top)⟩,by decide,fun p np=>?_⟩;have Dp:D≠p:=af_ hT4.tn.top np;have hT5:=hT4.more s4 np [v];refine ⟨as_.map V.ref,by rw [ah_ Dp];exact hT4.tn.top,EY_ (by rw [Ab_];have:=hT4.tn.len;rw [aN_] at this;lia),?_⟩;have e1:as_.map V.ref++[V.ref p]=(as_++[p]).map V.ref:=by simp
      have e2:[V.int (0+(v:Nat))]=[v].map fun n:Nat=>V.int n:=by simp
      rw [e1,e2];refine hkc _ _ ⟨_,_,_,_,_,_,_,_,_,_,_,rfl,fun b o hb=>?_,hT5,p3_ gr ic.1 (by rw [Ab_] at h2;have:=hT3.tn.len;lia)⟩;rw [ah_ (af_ hb hT.fl),ah_ (af_ hb (s4.free np))];exact s4 _ _ hb
     ·have rl30:∀ p,rl T p<=30:=fun p=>by have:=Jf_ T p;rw [gr.tot] at this;lia
      nofun;refine ⟨Nat,_,_,fun n:Nat=>.inl (n:Int),D,as_,T,rfl,fun _=>rfl,fun a b h=>Int.ofNat.inj (ET_ h),hT3.tn,gr.tw,by lia,rl30,fun M H4 s4 nM hM=>?_⟩;refine ⟨_,_,_,D,M,q,as_,T,i,c,rfl,hT3.tn.mono s4,hM,gr.tw,by lia,gl,s4 _ _ hq,ic,by lia,fun R2 H5 xs2 cs2 s5 nR2 hR2 hcs2 ne2 len2 all2 _ _ _=>?_⟩;have x2l:xs2.length=cs2.length:=hcs2.len;have l2:0<cs2.length:=BP_.mpr ne2
      have lg2:(((xs2.map V.ref).length:Int)).natAbs.log2<9000:=by
       rw [Ab_];by_cases h0:((xs2.length:Int)).natAbs=0
       ·rw [h0];decide
       ·rw [Dv_ h0];exact BC_ (show ((xs2.length:Int)).natAbs<=1000 by lia) (by rfl')
      generalize hy:z/(vs.length:Int)/3=y;obtain ⟨j2,hj2,jl2⟩:∃ j:Nat,y%((xs2.map V.ref).length:Int)=j/\j<xs2.length:=by rw [Ab_];have a1:=AS_ y (show (xs2.length:Int)≠0 by lia);have a2:=AN_ y (show (0:Int)<(xs2.length:Int) by lia);exact ⟨(y%(xs2.length:Int)).toNat,by lia,by lia⟩
      have ec2:cs2[j2]?=some (cs2[j2]'(by lia)):=Aa_ _;obtain ⟨q2,hxq2,hq2⟩:=hcs2.get ec2;have ic2:IsC T i (cs2[j2]'(by lia)):=all2 _ (A1_ _);generalize cs2[j2]'(by lia)=d at *;have hq5:=s5 _ _ (s4 _ _ hq);nofun;refine ⟨_,.inl hR2,by rw [Ab_];lia,_,hR2,.ref q2,?_,?_⟩
      ·rw [hj2];refine c0_ (by lia) ?_;rw [AC_,Ae_,hxq2];rfl
      nofun;refine ⟨_,.inl hR2,by rw [Ab_];lia,lg2,?_⟩;nofun;refine ⟨by decide,fun p np=>⟨(c.1,c.2),(EX_.new np) _ _ hq5,(d.1,d.2),(EX_.new np) _ _ hq2,fun l zs nl hzs=>⟨⟨_,.inl (.inl aa_)⟩,?_⟩⟩⟩
      obtain ⟨r1,r2,a1,a2,ez,g1,g2,i1,i2⟩:∃ (r1 r2:Addr)(a1 a2:Nat×Nat),zs=[V.ref r1,V.ref r2]/\H5 r1=some (cV a1)/\H5 r2=some (cV a2)/\IsC T i a1/\IsC T i a2:=by
       rcases hzs with e|e
       ·exact ⟨q,q2,c,d,e,hq5,hq2,ic,ic2⟩
       ·exact ⟨q2,q,d,c,e,hq2,hq5,ic2,ic⟩
      have S6:EX_ H5 (upd (upd H5 p (HO.lst [V.ref q,V.ref q2])) l (HO.lst zs)):=(EX_.new np).trans (EX_.new nl);have hT6:=((hT3.mono s4).mono s5).mono S6;have s6:EX_ H (upd (upd H5 p (HO.lst [V.ref q,V.ref q2])) l (HO.lst zs)):=s23.trans (s4.trans (s5.trans S6));have hl6:=aa_ (H:=upd H5 p (HO.lst [V.ref q,V.ref q2])) (a:=l) (o:=HO.lst zs);have h61:=S6 _ _ g1;have h62:=S6 _ _ g2;have lT:l∉as_:=fun z=>by obtain ⟨p',hp',e⟩:=Ar_.mp z;have e2:=((hT3.mono s4).mono s5).tn.row p' l (by rw [Aa_ hp',e]);have e3:=(EX_.new np (o:=HO.lst [V.ref q,V.ref q2])) _ _ e2;rw [nl] at e3;cases e3
      generalize upd (upd H5 p (HO.lst [V.ref q,V.ref q2])) l (HO.lst zs)=H6 at *;have notT:∀ r a,H6 r=some (cV a)->r∉as_:=fun r a hr z=>by obtain ⟨p',hp',e⟩:=Ar_.mp z;have e2:=hT6.tn.row p' r (by rw [Aa_ hp',e]);rw [hr] at e2;cases e2
      subst ez
      have step:∀ (T':List (List Nat))(a:Nat×Nat)(H7:Hp),T'.length=T.length->(∀ p,rl T p<=rl T' p)->(∀ p,rl T' p<=40)->IsC T i a->To H H7 D as_ T'->EX_ H H7->∃ ad,atI (as_.map V.ref) (a.1:Int)=some (.ref ad)/\H7 ad=some (.lst ((T'.getD a.1 []).map fun n:Nat=>V.int n))/\(a.2:Nat)<=(T'.getD a.1 []).length/\(T'.getD a.1 []).length<1000/\ad∈as_/\To H (upd H7 ad (.lst ((RimT.ins (T'.getD a.1 []) a.2 v).map fun n:Nat=>V.int n))) D as_ (FM_ T' a v)/\EX_ H (upd H7 ad (.lst ((RimT.ins (T'.getD a.1 []) a.2 v).map fun n:Nat=>V.int n))):=fun T' a H7 hl hm h40 ia hT7 s7=>by
       obtain ⟨ad,ea,at0,ra⟩:=hT7.tn.at_ (p:=a.1) (by rw [hl];exact ia.1);have:=ia.2;have m1:=hm a.1;have m2:=h40 a.1;have ab:a.2<=rl T a.1:=by split at this <;> lia
       refine ⟨ad,at0,ra,by unfold rl at *;lia,by unfold rl at *;lia,Ak_ ea,hT7.ins ea v,fun b o hb=>?_⟩;rw [ah_ (af_ hb (hT7.fa ad (Ak_ ea)))];exact s7 _ _ hb
      have lenS:∀ (T':List (List Nat))(a:Nat×Nat)(p:Nat),rl (FM_ T' a v) p<=rl T' p+1:=fun T' a p=>by
       unfold FM_ rl;rw [Ac_,Ac_,Bj_];by_cases h:a.1=p
       ·subst h;by_cases h2:a.1<T'.length
        ·simp only [if_true,h2,C3_,gy_];rw [Ac_];exact Af_ _
        ·simp [h2,BA_ (Cw_.mp h2)]
       ·simp [h]
      refine eX_ (xs:=[V.ref r1,V.ref r2]) (fun t σ H7=>∃ (e11 e12:Option V),σ=[some (.int (y/((xs2.map V.ref).length:Int))),some (.int i),some (.int W),some (.int 10),some (.ref D),some (.int (0+(v:Nat))),some (.ref R),some (.ref q),some (.int (z/(vs.length:Int)%3)),some (.ref R2),some (.ref q2),e11,e12]/\EX_ H H7/\(∀ b o,b∉as_->H6 b=some o->H7 b=some o)/\To H H7 D as_ (if t=0 then T else if t=1 then FM_ T a1 v else FM_ (FM_ T a1 v) a2 v)) ⟨e11,e12,rfl,s6,fun b o _ h=>h,hT6⟩ ?_ ?_ ?_
      ·rintro t σ H7 ht ⟨e11,e12,rfl,s7,k7,hT7⟩;exact .inl (.inl (k7 _ _ lT hl6))
      ·rintro t x σ H7 hx kc2 kb2 hkc2 hkb2 G2 hG2 ⟨e11,e12,rfl,s7,k7,hT7⟩;refine hG2 ?_
       match t,hx with
       | 0,hx =>
        cases hx;have hr1:=k7 _ _ (notT _ _ h61) h61;obtain ⟨ad,at0,ra,ab,a1000,ain,hT8,s8⟩:=step T a1 H7 rfl (fun _=>Af_ _) (fun p=>by have:=rl30 p;lia) i1 hT7 s7;nofun;refine ⟨_,SqT.of hr1,rfl,_,_,rfl,_,_,rfl,rfl,_,_,rfl,hT7.tn.top,.ref ad,at0,.inl ⟨_,.inl (.inl ra)⟩,ad,rfl,_,_,rfl,ra,by lia,by rw [Ab_,AC_];exact ab,by rw [Ab_];exact a1000,?_⟩;rw [AC_,lA_];exact hkc2 _ _ ⟨_,_,rfl,s8,fun b o hb h=>by rw [ah_ (fun e=>hb (by rw [e];exact ain))];exact k7 b o hb h,hT8⟩
       | 1,hx =>
        cases hx;have hr2:=k7 _ _ (notT _ _ h62) h62;obtain ⟨ad,at0,ra,ab,a1000,ain,hT8,s8⟩:=step (FM_ T a1 v) a2 H7 (aN_ ..) (fun p=>hA_ v p) (fun p=>by have:=rl30 p;have:=lenS T a1 p;lia) i2 hT7 s7;nofun;refine ⟨_,SqT.of hr2,rfl,_,_,rfl,_,_,rfl,rfl,_,_,rfl,hT7.tn.top,.ref ad,at0,.inl ⟨_,.inl (.inl ra)⟩,ad,rfl,_,_,rfl,ra,by lia,by rw [Ab_,AC_];exact ab,by rw [Ab_];exact a1000,?_⟩;rw [AC_,lA_];exact hkc2 _ _ ⟨_,_,rfl,s8,fun b o hb h=>by rw [ah_ (fun e=>hb (by rw [e];exact ain))];exact k7 b o hb h,hT8⟩
      ·rintro σ H7 ⟨e11,e12,rfl,s7,k7,hT7⟩;exact hkc _ _ ⟨_,_,_,_,_,_,_,_,_,as_,_,rfl,s7,hT7,qZ_ gr i1.1 i2.1⟩
    ·rintro σ H2 ⟨z,e5,e6,e7,e8,e9,e10,e11,e12,as_,T,rfl,s2,hT,gr⟩;nofun;exact ⟨by decide,fun p np=>k p D as_ T z _ (s2.trans (EX_.new np)) aa_ (hT.mono (EX_.new np)) gr⟩
def sgs:List Nat:=(Str.ofString "abcdefghijklmnopqrstuvwxyz0123456789").cps.toList
theorem n0_:sgs.length=36:=by rfl'
theorem q9_:sgs.Nodup:=by rfl'
def sg (i:Nat):Nat:=sgs.getD i 0
theorem J8_ {i:Nat}(h:i<36):sgs[i]?=some (sg i):=by unfold sg;rw [Ac_,Aa_ (by rw [n0_];exact h)];rfl
theorem n1_ {i j:Nat}(hi:i<36)(hj:j<36)(h:sg i=sg j):i=j:=(AU_ (by rw [n0_];exact hi) q9_).mp (by rw [J8_ hi,J8_ hj,h])
theorem mg_ {z:Int}(h0:0<=z)(h1:z<36):atI sgs z=some (sg z.toNat):=c0_ h0 (J8_ (by lia))
def one (c:Nat):Str:=⟨#[c]⟩
def nmA (hd tl:Str)(fi k:Nat):Str:=hd++one (sg ((fi+7*k)%36))++tl
theorem o0_ (a b:Str):(a++b).cps.toList=a.cps.toList++b.cps.toList:=by show (a.cps++b.cps).toList=_;simp
theorem qj_ {hd tl:Str}{fi a b:Nat}(ha:a<16)(hb:b<16)(h:nmA hd tl fi a=nmA hd tl fi b):a=b:=by have e:=congrArg (fun s:Str=>s.cps.toList) h;simp only [nmA,o0_] at e;have e2:=List.append_cancel_right e;have e3:=List.append_cancel_left e2;have e4:sg ((fi+7*a)%36)=sg ((fi+7*b)%36):=(List.cons.inj e3).1;have:=n1_ (BT_ _ (by decide)) (BT_ _ (by decide)) e4;lia
def nmB (fi k:Nat):Str:=⟨(List.replicate (1+k%7) (sg fi)++if 6<k then [sg ((fi+1+k/7)%36)] else []).toArray⟩
theorem qk_ {fi a b:Nat}(hf:fi<36)(ha:a<16)(hb:b<16)(h:nmB fi a=nmB fi b):a=b:=by
 have e0:=congrArg (fun s:Str=>s.cps.toList) h;have e:List.replicate (1+a%7) (sg fi)++(if 6<a then [sg ((fi+1+a/7)%36)] else [])=List.replicate (1+b%7) (sg fi)++(if 6<b then [sg ((fi+1+b/7)%36)] else []):=by simpa [nmB] using e0
 have ne:∀ c,6<c->c<16->sg ((fi+1+c/7)%36)≠sg fi:=fun c h1 h2 z=>by have:=n1_ (BT_ _ (by decide)) hf z;lia
 have len:=congrArg List.length e;simp only [Ah_,Ep_] at len;have last:=congrArg List.getLast? e;by_cases h1:6<a <;> by_cases h2:6<b
 ·rw [if_pos h1,if_pos h2] at last len;rw [BN_,BN_] at last;have e4:sg ((fi+1+a/7)%36)=sg ((fi+1+b/7)%36):=by simpa using last
  have:=n1_ (BT_ _ (by decide)) (BT_ _ (by decide)) e4;simp at len;lia
 ·rw [if_pos h1,if_neg h2] at last;rw [BN_,Bd_,ES_ 1 (b%7),EC_,BN_] at last;exact absurd (by simpa using last) (ne a h1 ha)
 ·rw [if_neg h1,if_pos h2] at last;rw [Bd_,ES_ 1 (a%7),EC_,BN_,BN_] at last;exact absurd (by simpa using last.symm) (ne b h2 hb)
 ·rw [if_neg h1,if_neg h2] at len;simp at len;lia
theorem mh_ {f:Nat->Str}{n:Nat}(h:∀ a b,a<n->b<n->f a=f b->a=b):((List.range n).map f).Nodup:=by unfold List.Nodup;rw [Bo_];exact D3_ (fun {a b} ha hb ne e=>ne (h a b (A3_.mp ha) (A3_.mp hb) e)) List.nodup_range
theorem mul_one {c:Nat}:∀ m:Nat,1<=m->m<=7->MulOk (one c) (m:Int)/\Txt.mul (one c) (m:Int)=⟨(List.replicate m c).toArray⟩
 | 0,h,_=>absurd h (by decide)
 | 1,_,_=>⟨⟨by decide,fun _ h=>absurd h (by simp),fun _ h=>absurd h (by simp)⟩,rfl⟩
 | 2,_,_=>⟨⟨by decide,fun _ _=>(by show ¬ ((1:Int) > _);decide),fun _ _=>(by show Builtin.Str.tooLong 2=false;decide +kernel)⟩,rfl⟩
 | 3,_,_=>⟨⟨by decide,fun _ _=>(by show ¬ ((1:Int) > _);decide),fun _ _=>(by show Builtin.Str.tooLong 3=false;decide +kernel)⟩,rfl⟩
 | 4,_,_=>⟨⟨by decide,fun _ _=>(by show ¬ ((1:Int) > _);decide),fun _ _=>(by show Builtin.Str.tooLong 4=false;decide +kernel)⟩,rfl⟩
 | 5,_,_=>⟨⟨by decide,fun _ _=>(by show ¬ ((1:Int) > _);decide),fun _ _=>(by show Builtin.Str.tooLong 5=false;decide +kernel)⟩,rfl⟩
 | 6,_,_=>⟨⟨by decide,fun _ _=>(by show ¬ ((1:Int) > _);decide),fun _ _=>(by show Builtin.Str.tooLong 6=false;decide +kernel)⟩,rfl⟩
 | 7,_,_=>⟨⟨by decide,fun _ _=>(by show ¬ ((1:Int) > _);decide),fun _ _=>(by show Builtin.Str.tooLong 7=false;decide +kernel)⟩,rfl⟩
 | m+8,_,h=>absurd h (by lia)
def opt (x:Str)(b:Bool):Str:=if b then x else Str.empty
theorem ql_ (x:Str)(p:Prop)[Decidable p]:MulOk x (if p then 1 else 0)/\Txt.mul x (if p then 1 else 0)=opt x (decide p):=by
 by_cases h:p
 ·rw [if_pos h,show decide p=true from AQ_ h];exact ⟨⟨by decide,fun _ h=>absurd h (by simp),fun _ h=>absurd h (by simp)⟩,rfl⟩
 ·rw [if_neg h,show decide p=false from Az_ h];exact ⟨⟨by decide,fun h=>absurd (by decide) h,fun h=>absurd (by decide) h⟩,rfl⟩
theorem ra_ (fi k:Nat):(⟨(List.replicate (1+k%7) (sg fi)).toArray⟩:Str)++opt (one (sg ((fi+1+k/7)%36))) (decide (6<k))=nmB fi k:=by
 unfold nmB opt;by_cases h:6<k
 ·rw [if_pos (AQ_ h),if_pos h];show (⟨(List.replicate (1+k%7) (sg fi)).toArray++[sg ((fi+1+k/7)%36)].toArray⟩:Str)=_;rw [List.append_toArray]
 ·rw [if_neg (by simp [h]),if_neg h];show (⟨_ ++ #[]⟩:Str)=_;simp
theorem a2_ {H:Hp}:∀ (ts:List Str),Fg_ H (ts.map V.str) (ts.map Dt.str)
 | []=>rfl
 | t::ts=>⟨_,_,rfl,rfl,a2_ ts⟩
theorem cj_ {H:Hp}:∀ {us:List V}{ts:List Str},Fg_ H us (ts.map Dt.str)->us=ts.map V.str
 | us,[],h=>h
 | us,n::ns,⟨x,r,e,hx,hr⟩=>by
  cases hx;rw [e,cj_ hr];rfl
theorem mi_ {B H:Hp}{D:Addr}{ts:List Str}(hB:B D=none)(h:H D=some (.lst (ts.map V.str))):Rep (GK_ B H) (.ref D) (.lst (ts.map Dt.str)):=⟨D,_,rfl,by rw [df_ hB];exact h,a2_ ts⟩
abbrev Fi_:Stmt:=stN 59
theorem aW_:E2_ ["_law_big_here", "_law_many", "_law_signs", "_law_size", "_law_spot", "_law_word", "_law_rest", "_law_k", "_law_first", "_law_head", "_law_tail", "_law_names_here", "_law_more"] ["_law_big_here", "_law_many"] (EW_ Fi_):=⟨rfl,rfl,rfl,by rfl',rfl,by rfl',by rfl'⟩
theorem fu_:LK Fi_ "_law_big_here" .local:=by rfl'
theorem ie_:LK Fi_ "_law_many" .local:=by rfl'
theorem dU_:LK Fi_ "_law_signs" .cell:=by rfl'
theorem fv_:LK Fi_ "_law_size" .local:=by rfl'
theorem fw_:LK Fi_ "_law_spot" .local:=by rfl'
theorem cT_:LK Fi_ "_law_word" .local:=by rfl'
theorem ca_:LK Fi_ "_law_rest" .local:=by rfl'
theorem cU_:LK Fi_ "_law_k" .local:=by rfl'
theorem fx_:LK Fi_ "_law_first" .cell:=by rfl'
theorem lD_:LK Fi_ "_law_head" .cell:=by rfl'
theorem kO_:LK Fi_ "_law_tail" .cell:=by rfl'
theorem c4_:LK Fi_ "_law_names_here" .local:=by rfl'
theorem ha_:LK Fi_ "_law_more" .local:=by rfl'
theorem jK_:LK Fi_ "int" .globalImplicit:=by rfl'
theorem cV_:LK Fi_ "range" .globalImplicit:=by rfl'
def H9_:Sp:=fun vs H Q _=>∃ (z:Int)(n:Nat),vs=[.int z,.int n]/\n<=16/\∀ D (nms:List Str) H',EX_ H H'->Rep (GK_ H H') (.ref D) (.lst (nms.map Dt.str))->nms.length=n->nms.Nodup->Q (.ref D) H'
theorem n2_ (T:Txt K mg)(F:Fn0 K mg "_law_names" Fi_):Cal P w K mg base "_law_names" ["_law_big_here", "_law_many"] 1 H9_:=by
 refine aR_ F aW_ (fun _ _ _ _ _ _=>byL2 fun _ _=>rfl) ?len ?body
 case len=>rintro vs H Q E ⟨a,b,rfl,_⟩;rfl
 case body =>
  intro f cdv A outer s H vs Q E hr h;obtain ⟨z,n,rfl,n16,k⟩:=h;refine' ⟨_,?D,?R⟩
  case D =>
   refine' ai_ (de_ (i:=2) aW_.nd rfl dU_ rfl cm_ rfl) (ai_ (aj_ (i:=3) aW_.nd rfl fv_ (EZ_ aY_ ac_ (EZ_ aK_ (pv1 0 rfl fu_) ac_))) ?g5)
   case' g5=>refine' ai_ (aj_ (i:=4) aW_.nd rfl fw_ (EZ_ aK_ (EZ_ av_ (pv1 0 rfl fu_) ac_) (pv1 3 rfl fv_))) (ai_ (aj_ (i:=5) aW_.nd rfl cT_ cm_) ?g19)
   case' g19=>refine' ai_ (aj_ (i:=6) aW_.nd rfl ca_ (EZ_ av_ (pv1 0 rfl fu_) ac_)) (ad_ (aV_ Au_ rfl (aE_ cV_ T.n_range (pa_c (pv1 3 rfl fv_) ab_)) ?g29 ?g30) ?g27)
   case g29=>exact ae_ (i:=7) aW_.nd rfl cU_
   case' g30=>refine' ai_ (aj_ (i:=5) aW_.nd rfl cT_ (EZ_ cI_ (pv1 5 rfl cT_) (E0_ lT_ (pvc 2 rfl dU_) (EZ_ aK_ (pv1 6 rfl ca_) ac_) (fun _ _=>rfl)))) (ag_ (aj_ (i:=6) aW_.nd rfl ca_ (EZ_ av_ (pv1 6 rfl ca_) ac_)))
   case' g27=>refine' ai_ (de_ (i:=8) aW_.nd rfl fx_ rfl (EZ_ aK_ (pv1 6 rfl ca_) ac_) rfl) (ad_ (fM_ ?g54 (aJ_ (K:=K) (n:=2) rfl rfl (ak_ ?g72 (ak_ ?g74 aC_)))) ?g53)
   case' g54=>refine' ax_ (pa_c (eQ_ pw_ (pv1 5 rfl cT_) ?g60 (gs_ (pv1 4 rfl fw_))) (pa_c (eQ_ pw_ (pv1 5 rfl cT_) (gs_ (EZ_ aY_ (pv1 4 rfl fw_) ac_)) ?g67) ab_))
   case g60=>exact gr_
   case g67=>exact gr_
   case g72=>exact hv_ (i:=9) aW_.nd rfl lD_ rfl
   case g74=>exact hv_ (i:=10) aW_.nd rfl kO_ rfl
   case' g53=>refine' ad_ (gv_ (i:=11) (N':=["_law_k", "_law_head", "_law_signs", "_law_first", "_law_tail"]) (ix:=[none,some 9,some 2,some 8,some 10]) rfl rfl aW_.nd rfl c4_ rfl (a6_ ?g78) (aE_ cV_ T.n_range (pa_c (pv1 1 rfl ie_) ab_)) (fun _ _ _=>?g80) (fun _ _ _=>?g81) (fun _ _ _=>?g82)) ?g77
   case g78=>exact (by show Ge_ (EW_ Fi_) ["_law_big_here", "_law_many", "_law_signs", "_law_size", "_law_spot", "_law_word", "_law_rest", "_law_k", "_law_first", "_law_head", "_law_tail", "_law_names_here", "_law_more"] _ _ _=true;decide +kernel)
   case g80=>exact ae_ (i:=0) (by show List.Nodup (["_law_k", "_law_head", "_law_signs", "_law_first", "_law_tail"]:List Str);decide +kernel) rfl rfl
   case g81=>exact cn_
   case' g82=>refine' EZ_ cI_ (EZ_ cI_ (pvc 1 rfl rfl) (E0_ lT_ (pvc 2 rfl rfl) (EZ_ aK_ (EZ_ aY_ (pvc 3 rfl rfl) (EZ_ lR_ ac_ (pv1 0 rfl rfl))) ac_) (fun _ _=>rfl))) (pvc 4 rfl rfl)
   case' g77=>refine' ai_ (Fx_ (aq_ FZ_ (EZ_ aK_ (EZ_ av_ (pv1 6 rfl ca_) ac_) ac_) ac_ (E9_ _)) ?g101 aB_) (ag_ (au_ (pv1 11 rfl c4_)))
   case' g101=>refine' ai_ (aj_ (i:=11) aW_.nd rfl c4_ (a5_ ab_)) (ag_ (aV_ Au_ rfl (aE_ cV_ T.n_range (pa_c (pv1 1 rfl ie_) ab_)) ?g115 ?g116))
   case g115=>exact ae_ (i:=7) aW_.nd rfl cU_
   case' g116=>refine' ad_ (aj_ (i:=12) aW_.nd rfl ha_ (E0_ lT_ (pvc 2 rfl dU_) (EZ_ aK_ (EZ_ aY_ (EZ_ aY_ (pvc 8 rfl fx_) ac_) (EZ_ av_ (pv1 7 rfl cU_) ac_)) ac_) (fun _ _=>rfl))) (ag_ ?g133)
   case' g133=>refine' aI_ (FQ_ Aw_ AK_ AL_ aT_ (pv1 11 rfl c4_) (pa_c (EZ_ cI_ (EZ_ i1_ (E0_ lT_ (pvc 2 rfl dU_) (pvc 8 rfl fx_) (fun _ _=>rfl)) (EZ_ aY_ ac_ (EZ_ aK_ (pv1 7 rfl cU_) ac_))) ?g140) ab_))
   case' g140=>refine' EZ_ i1_ (pv1 12 rfl ha_) (aX_ hJ_ jK_ T.n_int ni_ (pa_c (en_ HR_ (pv1 7 rfl cU_) ac_ (E9_ _)) ab_))
  case R =>
   nofun;have m8:=AS_ z (show (8:Int)≠0 by decide);have l8:=AN_ z (show (0:Int)<8 by decide);refine ⟨by decide,by decide,by rfl',by lia,by decide,by rfl',?_⟩;nofun;refine ⟨by lia,by lia,?_⟩;have sz:100000<=sizeLine:=by rw [CV_];decide
   have sl:(Str.ofString "abcdefghijklmnopqrstuvwxyz0123456789").length<=sizeLine:=Ay_ (by rfl') sz;have e1:∀ c,(one c).length=1:=fun _=>rfl;generalize z/8%(1+z%8)=spot;obtain ⟨size,hsize,s8⟩:∃ m:Nat,(1+z%8).toNat=m/\m<=8:=⟨_,rfl,by lia⟩;rw [hsize];generalize hz8:1+z%8=z8;generalize z/64=r0;refine br_ (fun i σ H'=>∃ (word:Str)(rest:Int)(e7:Option V),σ=[some (.int z),some (.int n),some (.str (Str.ofString "abcdefghijklmnopqrstuvwxyz0123456789")),some (.int z8),some (.int spot),some (.str word),some (.int rest),e7,none,none,none,none,none]/\H'=H/\word.length<=i) ⟨_,r0,none,rfl,rfl,by rfl'⟩ ?_ ?_
   ·rintro i σ H' hi kc kb hkc hkb G hG ⟨word,rest,e7,rfl,rfl,wl⟩;refine hG ?_;have hi':i<size:=hi;nofun;have m36:=AS_ rest (show (36:Int)≠0 by decide);have l36:=AN_ rest (show (0:Int)<36 by decide);refine ⟨by decide,sl,_,mg_ m36 l36,?_⟩;have e2:(⟨#[sg (rest%36).toNat]⟩:Str).length=1:=rfl;exact ⟨by lia,by decide,by rfl',hkc _ _ ⟨_,_,_,rfl,rfl,by rw [nB_];lia⟩⟩
   ·rintro σ H' ⟨word,rest,e7,rfl,rfl,wl⟩;nofun;refine ⟨by decide,?_⟩;nofun;refine ⟨by lia,fun hd hl _=>⟨by lia,fun tl tl' _=>⟨by decide,fun p np=>⟨_,SqT.of aa_,rfl,_,_,rfl,_,_,rfl,rfl,?_⟩⟩⟩⟩;nofun;refine ⟨by lia,by lia,?_⟩;have S1:EX_ H' (upd H' p (HO.tup [V.str hd,V.str tl])):=EX_.new np;generalize upd H' p (HO.tup [V.str hd,V.str tl])=H1 at *;obtain ⟨fi,hfi,fi36⟩:∃ fi:Nat,rest%36=fi/\fi<36:=by have a1:=AS_ rest (show (36:Int)≠0 by decide);have a2:=AN_ rest (show (0:Int)<36 by decide);exact ⟨(rest%36).toNat,by lia,by lia⟩
    rw [hfi,show Int.toNat (n:Int)=n by lia];refine bv_ (n:=n) (B:=fun _=>none) (Pσ:=fun σ=>∃ e,σ=[e,some (.str hd),some (.str (Str.ofString "abcdefghijklmnopqrstuvwxyz0123456789")),some (.int fi),some (.str tl)]) (ds:=((List.range n).map (nmA hd tl fi)).map Dt.str) (fun b o e=>by cases e) ⟨_,rfl⟩ (by simp) (by lia) (fun j H2 hj s2=>hj) (fun H2 s2=>Af_ _) ?_ ?_
    ·rintro D i x d σ' H2 H2' hD hDo hs2 hi hdi ⟨rfl,rfl⟩ ⟨e,rfl⟩ R kR;nofun;have hi':i<n:=hi;have hd2:d=Dt.str (nmA hd tl fi i):=by rw [Ae_,Ae_,CB_ hi'] at hdi;exact (Aq_ hdi).symm
     have eI:((fi:Int)+7*(0+(i:Nat)))%36=(((fi+7*i)%36:Nat):Int):=by lia
     have lt36:(fi+7*i)%36<36:=BT_ _ (by decide);rw [eI];refine ⟨.inl ⟨by decide,by decide⟩,by decide,sl,_,mg_ (by lia) (by lia),?_⟩;rw [AC_];have e2:(⟨#[sg ((fi+7*i)%36)]⟩:Str).length=1:=rfl;refine ⟨by lia,by rw [nB_];lia,?_⟩;refine kR _ _ _ ⟨_,rfl⟩ (EX_.refl _) ?_;rw [hd2];exact rfl
    ·intro D H2 hD s2 rep2;nofun;refine ⟨by decide,by rfl',by decide,ite2 (fun _=>?_) (fun _=>?_)⟩
     ·refine ⟨AA_ _,fun l nl=>⟨by lia,by lia,?_⟩⟩;have nl':H' l=none:=(S1.trans s2).free nl;refine br_ (fun i σ H3=>∃ (e7 e12:Option V),σ=[some (.int z),some (.int n),some (.str (Str.ofString "abcdefghijklmnopqrstuvwxyz0123456789")),some (.int z8),some (.int spot),some (.str word),some (.int rest),e7,some (.int fi),some (.str hd),some (.str tl),some (.ref l),e12]/\EX_ H' H3/\H3 l=some (.lst (((List.range i).map (nmB fi)).map V.str))) ⟨_,_,rfl,(S1.trans s2).upd nl',aa_⟩ ?_ ?_
      ·rintro i σ H3 hi kc kb hkc hkb G hG ⟨e7,e12,rfl,s3,hl3⟩;refine hG ?_;have hi':i<n:=hi;nofun;have eI:((fi:Int)+1+(0+(i:Nat))/7)%36=(((fi+1+i/7)%36:Nat):Int):=by lia
       have lt36:(fi+1+i/7)%36<36:=BT_ _ (by decide);have eM:(1:Int)+(0+(i:Nat))%7=((1+i%7:Nat):Int):=by lia
       rw [eI];obtain ⟨mo,me⟩:=mul_one (c:=sg fi) (1+i%7) (by lia) (by lia);refine ⟨by decide,by rfl',by decide,sl,_,mg_ (by lia) (by lia),?_⟩;nofun;refine ⟨.inl ⟨_,.inl (.inl hl3)⟩,sl,_,mg_ (by lia) (by lia),by decide,?_⟩;rw [eM,AC_,AC_];change MulOk (one (sg fi)) _/\_;refine ⟨mo,.inr ?_⟩;change MulOk (one (sg ((fi+1+i/7)%36))) _/\((Txt.mul (one (sg fi)) _).length+(Txt.mul (one (sg ((fi+1+i/7)%36))) _).length<=sizeLine)/\∃ x,_/\_/\kc _ (upd H3 l (HO.lst (x++[V.str (Txt.mul (one (sg fi)) _++Txt.mul (one (sg ((fi+1+i/7)%36))) _)])));obtain ⟨p1,p2⟩:=ql_ (one (sg ((fi+1+i/7)%36))) (6<0+(i:Int));have ln:(⟨(List.replicate (1+i%7) (sg fi)).toArray⟩:Str).length<=7:=by show ((List.replicate (1+i%7) (sg fi)).toArray).size<=7;simp;lia
       have lo:(opt (one (sg ((fi+1+i/7)%36))) (decide (6<0+(i:Int)))).length<=1:=by
        unfold opt;split
        ·exact Af_ _
        ·exact AA_ _
       rw [me,p2];have eD:decide (6<0+(i:Int))=decide (6<i):=by apply BM_.mpr;lia
       refine ⟨p1,by lia,_,hl3,EY_ (by simp;lia),hkc _ _ ⟨_,_,rfl,fun b o hb=>?_,?_⟩⟩
       ·rw [ah_ (af_ hb nl')];exact s3 _ _ hb
       ·rw [aa_,eD,ra_,BJ_,Ap_,Ap_];rfl
      ·rintro σ H3 ⟨e7,e12,rfl,s3,hl3⟩;nofun;exact k l _ H3 s3 (mi_ nl' hl3) (by simp) (mh_ fun a b ha hb e=>qk_ fi36 (by lia) (by lia) e)
     ·obtain ⟨_,us,e0,hD2,hus⟩:=id rep2;cases e0;rw [cj_ hus] at hD2;exact k D _ H2 (S1.trans s2) (mi_ (S1.free hD) (a0_ hD2).2) (by simp) (mh_ fun a b ha hb e=>qj_ (by lia) (by lia) e)
def rot (l:List Nat)(t:Nat):List Nat:=l.drop t++l.take t
theorem n3_ (l:List Nat)(t:Nat):(rot l t).length=l.length:=by unfold rot;rw [Ah_,Ct_,AO_];lia
theorem n4_ (l:List Nat)(t x:Nat):(rot l t).count x=l.count x:=by unfold rot;rw [Bz_,ES_,<-Bz_,Bb_]
theorem rb_ {P W p t:Nat}{T:List (List Nat)}(g:Gr P W T)(hp:p<T.length):Gr P W (T.set p (rot (T.getD p []) t)):=by
 have fc:∀ x,(T.set p (rot (T.getD p []) t)).flatten.count x=T.flatten.count x:=fun x=>by have:=hX_ x (rot (T.getD p []) t) T p hp;rw [n4_] at this;lia
 refine ⟨by rw [Bq_];exact g.len,by rw [Bq_];exact g.most,fun w hw=>by rw [fc];exact g.two w hw,fun w hw=>?_,fun q h1 h2=>?_,?_⟩
 ·have:=Ci_.mpr hw;rw [fc] at this;exact g.lt w (Ci_.mp this)
 ·rw [Bq_] at h2;have:=g.ne q h1 h2;unfold rl at this ⊢;rw [Ac_,Bj_];by_cases e:p=q
  ·subst e;rw [if_pos rfl,if_pos hp];show 0<(rot (T.getD p []) t).length;rw [n3_];exact this
  ·rw [if_neg e,<-Ac_];exact this
 ·have:=lm_ (rot (T.getD p []) t) T p hp;rw [n3_,g.tot] at this;lia
theorem kP_ {a:Addr}:∀ {l:List Addr}{p:Nat},a∉l->l.Nodup->(l.set p a).Nodup
 | [],_,_,_=>Bh_
 | x::l,0,ha,h=>by
  rw [CL_];exact AW_.mpr ⟨fun z=>ha (An_ _ z),(AW_.mp h).2⟩
 | x::l,p+1,ha,h=>by
  rw [CM_];refine AW_.mpr ⟨fun z=>?_,kP_ (fun z=>ha (An_ _ z)) (AW_.mp h).2⟩
  rcases DM_ z with z|z
  ·exact (AW_.mp h).1 z
  ·exact ha (by rw [z];exact At_)
theorem To.put {B H:Hp}{l:Addr}{as_:List Addr}{T:List (List Nat)}(h:To B H l as_ T)(sB:EX_ B H){a:Addr}{p:Nat}(hp:p<T.length)(na:H a=none)(r:List Nat):To B (upd (upd H a (.lst (r.map fun n:Nat=>V.int n))) l (.lst ((as_.set p a).map V.ref))) l (as_.set p a) (T.set p r):=by
 have la:l≠a:=af_ h.tn.top na;have an:a∉as_:=fun z=>by obtain ⟨p,hp,e⟩:=Ar_.mp z;have:=h.tn.row p a (by rw [Aa_ hp,e]);rw [na] at this;cases this
 have mem:∀ b,b∈as_.set p a->b=a\/b∈as_:=fun b hb=>DM_ hb |>.symm;have pl:p<as_.length:=by rw [h.tn.len];exact hp
 refine ⟨⟨aa_,by rw [Bq_,Bq_];exact h.tn.len,fun q b hb=>?_⟩,?_,fun z=>?_,h.fl,fun b hb=>?_⟩
 ·have bl:b≠l:=fun e=>by
   rcases mem b (Ak_ hb) with z|z
   ·exact la (e.symm.trans z)
   ·exact h.nl (by rw [<-e];exact z)
  rw [ah_ bl,Ac_,Bj_];rw [Bj_] at hb;by_cases e:p=q
  ·rw [if_pos e,if_pos hp];rw [if_pos e,if_pos pl] at hb;cases hb;rw [aa_];rfl
  ·rw [if_neg e] at hb ⊢;have e2:=h.tn.row q b hb;rw [ah_ (fun z=>by rw [z,na] at e2;cases e2),e2,Ac_]
 ·exact kP_ an h.nd
 ·rcases mem l z with z|z
  ·exact la z
  ·exact h.nl z
 ·rcases mem b hb with z|z
  ·rw [z];exact sB.free na
  ·exact h.fa b z
abbrev FL_:Stmt:=stN 60
theorem f7_:E2_ ["_law_turns_here", "_law_posts", "_law_big_here", "_law_p", "_law_turn"] ["_law_turns_here", "_law_posts", "_law_big_here"] (EW_ FL_):=⟨rfl,rfl,rfl,by rfl',rfl,by rfl',by rfl'⟩
theorem bI_:LK FL_ "_law_turns_here" .local:=by rfl'
theorem lE_:LK FL_ "_law_posts" .local:=by rfl'
theorem fy_:LK FL_ "_law_big_here" .local:=by rfl'
theorem cb_:LK FL_ "_law_p" .local:=by rfl'
theorem fz_:LK FL_ "_law_turn" .local:=by rfl'
theorem dV_:LK FL_ "len" .globalImplicit:=by rfl'
theorem if_:LK FL_ "range" .globalImplicit:=by rfl'
def H1_:Sp:=fun vs H Q _=>∃ (B:Hp)(l:Addr)(as_:List Addr)(T:List (List Nat))(P W:Nat)(z:Int),vs=[.ref l,.int P,.int z]/\EX_ B H/\To B H l as_ T/\Gr P W T/\P<=6/\W<=15 /\
 ∀ bs T' H',EX_ B H'->(∀ b o,b≠l->H b=some o->H' b=some o)->To B H' l bs T'->Gr P W T'->T'.length=T.length->Q (.ref l) H'
theorem n5_ (T:Txt K mg)(F:Fn0 K mg "_law_begun" FL_):Cal P w K mg base "_law_begun" ["_law_turns_here", "_law_posts", "_law_big_here"] 1 H1_:=by
 refine aR_ F f7_ (fun _ _ _ _ _ _=>byL3 fun _ _ _=>rfl) ?len ?body
 case len=>rintro vs H Q E ⟨a,b,c,d,e,f,g,rfl,_⟩;rfl
 case body =>
  intro f cdv A outer s H vs Q E hr h;obtain ⟨B,l,as_,Tt,Pp,W,z,rfl,sB,hT,gr,P6,W15,k⟩:=h;have gl:=gr.len;have gm:=gr.most;refine' ⟨_,?D,?R⟩
  case D =>
   refine' ai_ ?g1 (ag_ (au_ (pv1 0 rfl bI_)))
   case' g1=>refine' aV_ Au_ rfl (m0_ if_ T.n_range (pa_c (pv1 1 rfl lE_) (pa_c (an_ ap_ dV_ T.n_len aL_ (pa_c (pv1 0 rfl bI_) ab_)) ab_))) ?g4 ?g5
   case g4=>exact ae_ (i:=3) f7_.nd rfl cb_
   case' g5=>refine' ad_ (aj_ (i:=4) f7_.nd rfl fz_ (EZ_ aK_ (pv1 2 rfl fy_) (an_ ap_ dV_ T.n_len aL_ (pa_c (E0_ ao_ (pv1 0 rfl bI_) (pv1 3 rfl cb_) (fun _ _=>rfl)) ab_)))) ?g15
   case' g15=>refine' ad_ (aj_ (i:=2) f7_.nd rfl fy_ (EZ_ av_ (pv1 2 rfl fy_) (an_ ap_ dV_ T.n_len aL_ (pa_c (E0_ ao_ (pv1 0 rfl bI_) (pv1 3 rfl cb_) (fun _ _=>rfl)) ab_)))) (ag_ ?g34)
   case' g34=>refine' fM_ (EZ_ iU_ (eQ_ hx_ (E0_ ao_ (pv1 0 rfl bI_) (pv1 3 rfl cb_) (fun _ _=>rfl)) (gs_ (pv1 4 rfl fz_)) ?g42) (eQ_ hx_ (E0_ ao_ (pv1 0 rfl bI_) (pv1 3 rfl cb_) (fun _ _=>rfl)) ?g47 (gs_ (pv1 4 rfl fz_)))) (qI_ (pv1 0 rfl bI_) (pv1 3 rfl cb_) ow_)
   case g42=>exact gr_
   case g47=>exact gr_
  case R =>
   nofun;have al:=hT.tn.len;refine ⟨_,.inl hT.tn.top,by lia,by lia,by rw [Ab_];lia,by rw [Ab_];lia,?_⟩;rw [Ab_,show Int.toNat ((as_.length:Nat)-(Pp:Nat):Int)=Tt.length-Pp by lia];refine br_ (fun i σ H'=>∃ (z:Int)(e3 e4:Option V)(bs:List Addr)(T':List (List Nat)),σ=[some (.ref l),some (.int Pp),some (.int z),e3,e4]/\EX_ B H'/\(∀ b o,b≠l->H b=some o->H' b=some o)/\To B H' l bs T'/\Gr Pp W T'/\T'.length=Tt.length) ⟨z,none,none,as_,Tt,rfl,sB,fun b o _ h=>h,hT,gr,rfl⟩ ?_ ?_
   ·rintro i σ H' hi kc kb hkc hkb G hG ⟨z,e3,e4,bs,T',rfl,sB',kp,hT',gr',hl⟩;refine hG ?_;have hi':i<Tt.length-Pp:=hi;obtain ⟨a,ea,at0,ra⟩:=hT'.tn.at_ (p:=Pp+i) (by lia);have r0:=gr'.ne (Pp+i) (by lia) (by lia);have rt:rl T' (Pp+i)<=30:=by have:=Jf_ T' (Pp+i);rw [gr'.tot] at this;lia
    have rle:(T'.getD (Pp+i) []).length=rl T' (Pp+i):=rfl;have eP:(Pp:Int)+(i:Nat)=((Pp+i:Nat):Int):=by lia
    nofun;rw [eP];have rdef:T'.getD (Pp+i) []=T'.getD (Pp+i) []:=rfl;generalize hr0:T'.getD (Pp+i) []=r at *;obtain ⟨t,ht,tl⟩:∃ t:Nat,z%(((r.map fun n:Nat=>V.int n).length:Nat):Int)=t/\t<r.length:=by rw [Ab_];have a1:=AS_ z (show (r.length:Int)≠0 by lia);have a2:=AN_ z (show (0:Int)<(r.length:Int) by lia);exact ⟨(z%(r.length:Int)).toNat,by lia,by lia⟩
    have lg:(((r.map fun n:Nat=>V.int n).length:Int)).natAbs.log2<9000:=by
     rw [Ab_];by_cases h0:((r.length:Int)).natAbs=0
     ·rw [h0];decide
     ·rw [Dv_ h0];exact BC_ (show ((r.length:Int)).natAbs<=1000 by lia) (by rfl')
    have c1:Ii_ (r.map fun n:Nat=>V.int n) (some (t:Int)) none=(r.drop t).map fun n:Nat=>V.int n:=by rw [oE_ _ _ (by simp;lia),EG_]
    have c2:Ii_ (r.map fun n:Nat=>V.int n) none (some (t:Int))=(r.take t).map fun n:Nat=>V.int n:=by rw [nl_ _ _ (by simp;lia),DF_]
    have top:=hT'.tn.top;refine ⟨_,top,_,at0,a,rfl,_,.inl ra,by rw [Ab_];lia,?_⟩;nofun;refine ⟨_,top,_,at0,a,rfl,_,.inl ra,by rw [Ab_];lia,lg,?_⟩;nofun;refine ⟨_,top,_,at0,a,rfl,_,ra,fun p1 n1=>⟨_,(EX_.new n1) _ _ top,_,at0,a,rfl,_,(EX_.new n1) _ _ ra,fun p2 n2=>?_⟩⟩;rw [ht,c1] at n2 ⊢;rw [c2];have S2:EX_ H' (upd (upd H' p1 (HO.lst ((r.drop t).map fun n:Nat=>V.int n))) p2 (HO.lst ((r.take t).map fun n:Nat=>V.int n))):=(EX_.new n1).trans (EX_.new n2);have h1:=(EX_.new n2 (o:=HO.lst ((r.take t).map fun n:Nat=>V.int n))) _ _ (aa_ (H:=H') (a:=p1) (o:=HO.lst ((r.drop t).map fun n:Nat=>V.int n)));generalize upd (upd H' p1 (HO.lst ((r.drop t).map fun n:Nat=>V.int n))) p2 (HO.lst ((r.take t).map fun n:Nat=>V.int n))=H2 at *;refine ⟨_,h1,by rw [Ab_,Ab_];exact Ay_ (show _<=1000 by rw [Ct_,AO_];lia) (by rw [CV_];decide),fun p3 n3=>?_⟩;have e3:((r.drop t).map fun n:Nat=>V.int n)++((r.take t).map fun n:Nat=>V.int n)=(rot r t).map fun n:Nat=>V.int n:=by rw [<-Ap_];rfl
    rw [e3];have hT2:=(hT'.mono S2).put (sB'.trans S2) (p:=Pp+i) (by lia) n3 (rot r t);rw [List.map_set] at hT2;have lp:l≠p3:=af_ (S2 _ _ top) n3;refine ⟨_,by rw [ah_ lp];exact S2 _ _ top,Pp+i,?_,hkc _ _ ⟨_,_,_,bs.set (Pp+i) p3,T'.set (Pp+i) (rot r t),rfl,fun b o hb=>?_,fun b o hb h=>?_,hT2,?_,by rw [Bq_];exact hl⟩⟩
    ·have bl:=hT'.tn.len;unfold ixN;rw [Ab_];rw [if_pos (by lia),if_pos (by lia),AC_]
    ·rw [ah_ (af_ hb hT.fl),ah_ (af_ hb ((sB'.trans S2).free n3))];exact S2 _ _ (sB' _ _ hb)
    ·have e4:=kp b o hb h;rw [ah_ hb,ah_ (af_ (S2 _ _ e4) n3)];exact S2 _ _ e4
    ·have g2:=rb_ (t:=t) gr' (p:=Pp+i) (by lia);rw [hr0] at g2;exact g2
   ·rintro σ H' ⟨z,e3,e4,bs,T',rfl,sB',kp,hT',gr',hl⟩;nofun;exact k bs T' H' sB' kp hT' gr' hl
def dS (x:Str):Dt:=.str x
def dRw (r:Str×List Str):Dt:=.tup [.str r.1,.lst (r.2.map dS)]
def dWo (r:Str×(Int×Int)):Dt:=.tup [.str r.1,.tup [.int r.2.1,.int r.2.2]]
def Go_ (N:Net Str):Dt:=.tup [.lst (N.posts.map dS),.lst (N.rows.map dRw),.lst (N.worths.map dWo)]
theorem a3_ {xs:List Str}{i:Nat}(h:i<xs.length):(xs.map V.str)[i]?=some (.str (xs.getD i Str.empty)):=by rw [Ae_,Aa_ h,Ac_,Aa_ h];rfl
theorem mj_ {xs:List Str}(h:xs.Nodup){a b:Nat}(ha:a<xs.length)(hb:b<xs.length)(e:xs.getD a Str.empty=xs.getD b Str.empty):a=b:=by refine (AU_ ha h).mp ?_;rw [Ac_,Ac_,Aa_ ha,Aa_ hb] at e;rw [Aa_ ha,Aa_ hb];exact congrArg some e
theorem kQ_ {α β:Type}(f:α->β):∀ (l:List α)(t:Nat),(l.map f).eraseIdx t=(l.eraseIdx t).map f
 | [],_=>rfl
 | _::_,0=>rfl
 | x::l,t+1=>by show f x::(l.map f).eraseIdx t=f x::(l.eraseIdx t).map f;rw [kQ_ f l t]
theorem i5_:∀ {l:List Nat}{t:Nat}(h:t<l.length),(l[t]::l.eraseIdx t).Perm l
 | x::l,0,_=>.refl _
 | x::l,t+1,h=>by have ih:=i5_ (l:=l) (t:=t) (by simpa using h);show (l[t]'(by simpa using h)::x::l.eraseIdx t).Perm (x::l);exact (List.Perm.swap _ _ _).trans (ih.cons x)
theorem ig_ {H:Hp}:∀ {us:List V}{ts:List Str},Fg_ H us (ts.map dS)->us=ts.map V.str:=fun h=>cj_ h
theorem n6_ {α:Type}(f:α->Dt){H:Hp}{zs ws:List V}(h:zs.Perm ws):∀ {wl:List α},Fg_ H ws (wl.map f)->∃ wl':List α,wl'.Perm wl/\Fg_ H zs (wl'.map f):=by
 induction h with
 | nil=>exact fun {wl} r=>⟨wl,.refl _,r⟩
 | cons x _ ih =>
  intro wl r;cases wl with
  | nil=>cases r
  | cons d wl =>
   obtain ⟨_,_,e,hx,hr⟩:=r;cases e;obtain ⟨wl',p,r'⟩:=ih hr;exact ⟨d::wl',p.cons d,_,_,rfl,hx,r'⟩
 | swap x y l =>
  intro wl r;cases wl with
  | nil=>cases r
  | cons d wl =>
   obtain ⟨_,_,e,hx,hr⟩:=r;cases e;cases wl with
   | nil=>cases hr
   | cons d2 wl =>
    obtain ⟨_,_,e,hy,hr⟩:=hr;cases e;exact ⟨d2::d::wl,.swap _ _ _,_,_,rfl,hy,_,_,rfl,hx,hr⟩
 | trans _ _ h1 h2 =>intro wl r;obtain ⟨w1,p1,r1⟩:=h2 r;obtain ⟨w2,p2,r2⟩:=h1 r1;exact ⟨w2,p2.trans p1,r2⟩
def Lv_ (H6:Hp)(a l D1 D2 O R:Addr)(Pp W n:Nat)(nms wns:List Str)(T':List (List Nat))(σ:L2.St)(H':Hp):Prop :=
 ∃ (z:Int)(e11:Option V)(S:Hp)(rem dn:List Nat)(ys:List V),σ=[some (.ref a),some (.int 0),some (.int 7),some (.int z),some (.int Pp),some (.int W),some (.ref l),some (.ref D1),some (.ref D2),some (.ref O),some (.ref R),e11,none,none,none]/\EX_ H6 S/\EX_ S H'/\S O=none/\S R=none/\H' O=some (.lst (rem.map fun n:Nat=>V.int n))/\H' R=some (.lst ys)/\Fg_ S ys ((FJ_ (fun p=>nms.getD p Str.empty) (fun v=>wns.getD v Str.empty) T' dn).map dRw)/\(dn++rem).Perm (List.range n)
def LP_ (O:Addr)(H:Hp):Nat:=match H O with|some (.lst xs)=>xs.length|_=>0
abbrev E4_:Stmt:=stN 61
theorem aD_:E2_ ["_law_script", "_law_at", "_law_most", "_law_big_here", "_law_posts", "_law_many", "_law_turns_here", "_law_names_here", "_law_wires", "_law_order", "_law_rows", "_law_p", "_law_worths", "_law_wire", "_law_worth"] ["_law_script", "_law_at", "_law_most"] (EW_ E4_):=⟨rfl,rfl,rfl,by rfl',rfl,by rfl',by rfl'⟩
theorem c5_:LK E4_ "_law_script" .local:=by rfl'
theorem c6_:LK E4_ "_law_at" .local:=by rfl'
theorem c7_:LK E4_ "_law_most" .local:=by rfl'
theorem aF_:LK E4_ "_law_big_here" .local:=by rfl'
theorem c8_:LK E4_ "_law_posts" .local:=by rfl'
theorem cq_:LK E4_ "_law_many" .local:=by rfl'
theorem bN_:LK E4_ "_law_turns_here" .local:=by rfl'
theorem ez_:LK E4_ "_law_names_here" .local:=by rfl'
theorem hb_:LK E4_ "_law_wires" .cell:=by rfl'
theorem cr_:LK E4_ "_law_order" .local:=by rfl'
theorem dW_:LK E4_ "_law_rows" .local:=by rfl'
theorem dX_:LK E4_ "_law_p" .local:=by rfl'
theorem dY_:LK E4_ "_law_worths" .local:=by rfl'
theorem f8_:LK E4_ "_law_wire" .local:=by rfl'
theorem f9_:LK E4_ "_law_worth" .local:=by rfl'
theorem gH_:LK E4_ "_law_begun" .globalImplicit:=by rfl'
theorem bX_:LK E4_ "_law_big" .globalImplicit:=by rfl'
theorem gI_:LK E4_ "_law_grown" .globalImplicit:=by rfl'
theorem dx_:LK E4_ "_law_names" .globalImplicit:=by rfl'
theorem e5_:LK E4_ "_law_worth_of" .globalImplicit:=by rfl'
theorem ck_:LK E4_ "len" .globalImplicit:=by rfl'
theorem ih_:LK E4_ "list" .globalImplicit:=by rfl'
theorem ee_:LK E4_ "range" .globalImplicit:=by rfl'
theorem gJ_:LK E4_ "sorted" .globalImplicit:=by rfl'
structure WOk (N:Net Str):Prop where
 nd:(N.worths.map (·.1)).Nodup
 mem:∀ x,x∈N.worths.map (·.1) ↔ x∈N.all
 ws:∀ x∈N.worths,Ws x.2
def JC_ (K:PySem.W.Frag):Sp:=fun vs H Q _=>∃ (a:Addr)(ns:List Int),vs=[.ref a,.int 0,.int 7]/\SqL K H a (ns.map V.int)/\∀ v (N:Net Str) H',EX_ H H'->Rep H' v (Go_ N)->Fk_ N->Fv_ N->WOk N->N.worths.Pairwise (fun a b=>eLe (a.1,0) (b.1,0))->Q v H'
theorem mM_ (T:Txt K mg)(F:Fn0 K mg "_law_net_by" E4_) (G3_:Cal P w K mg base "_law_big" ["_law_script", "_law_at"] 2 (Ix_ K)) (Jh_:Cal P w K mg base "_law_grown" ["_law_big_here", "_law_posts", "_law_many", "_law_within"] 3 H3_) (Ib_:Cal P w K mg base "_law_names" ["_law_big_here", "_law_many"] 1 H9_) (Ji_:Cal P w K mg base "_law_begun" ["_law_turns_here", "_law_posts", "_law_big_here"] 1 H1_) (Gf_:Cal P w K mg base "_law_worth_of" ["_law_big_here"] 2 G5_):Cal P w K mg base "_law_net_by" ["_law_script", "_law_at", "_law_most"] 4 (JC_ K):=by
 refine aR_ F aD_ (fun _ _ _ _ _ _=>byL3 fun _ _ _=>rfl) ?len ?body
 case len=>rintro vs H Q E ⟨a,b,rfl,_⟩;rfl
 case body =>
  intro f cdv A outer s H vs Q E hr h;obtain ⟨a,ns,rfl,hS,k⟩:=h;refine' ⟨_,?D,?R⟩
  case D =>
   refine' ad_ (aj_ (i:=3) aD_.nd rfl aF_ (al_ G3_ (hr.mono (by decide)) bX_ (pa_c (pv1 0 rfl c5_) (pa_c (pv1 1 rfl c6_) ab_)))) ?g2
   case' g2=>refine' ad_ (aj_ (i:=4) aD_.nd rfl c8_ (EZ_ aY_ ac_ (EZ_ aK_ (pv1 3 rfl aF_) ac_))) ?g10
   case' g10=>refine' ad_ (aj_ (i:=5) aD_.nd rfl cq_ (EZ_ aK_ (EZ_ av_ (pv1 3 rfl aF_) ac_) (EZ_ aY_ (pv1 2 rfl c7_) ac_))) ?g17
   case' g17=>refine' ai_ (iV_ (Fx_ (aq_ FZ_ (EZ_ aK_ (EZ_ av_ (EZ_ av_ (pv1 3 rfl aF_) ac_) (EZ_ aY_ (pv1 2 rfl c7_) ac_)) ac_) ac_ (E9_ _)) ?g29 aB_)) ?g26
   case' g29=>refine' ag_ (aj_ (i:=5) aD_.nd rfl cq_ (EZ_ aK_ (EZ_ av_ (EZ_ av_ (pv1 3 rfl aF_) ac_) (EZ_ aY_ (pv1 2 rfl c7_) ac_)) ac_))
   case' g26=>refine' ad_ (fM_ ?g53 (aJ_ (K:=K) (n:=2) rfl rfl (ak_ ?g71 (ak_ ?g73 aC_)))) (ad_ (aj_ (i:=7) aD_.nd rfl ez_ (al_ Ib_ (hr.mono (by decide)) dx_ ?g78)) ?g76)
   case' g53=>refine' al_ Jh_ (hr.mono (by decide)) gI_ (pa_c (EZ_ av_ (EZ_ av_ (pv1 3 rfl aF_) ac_) (EZ_ aY_ (pv1 2 rfl c7_) ac_)) (pa_c (pv1 4 rfl c8_) (pa_c (pv1 5 rfl cq_) (pa_c ac_ ab_))))
   case g71=>exact ae_ (i:=6) aD_.nd rfl bN_
   case g73=>exact ae_ (i:=3) aD_.nd rfl aF_
   case' g78=>refine' pa_c (al_ G3_ (hr.mono (by decide)) bX_ (pa_c (pv1 0 rfl c5_) (pa_c (EZ_ aY_ (pv1 1 rfl c6_) ac_) ab_))) (pa_c (an_ ap_ ck_ T.n_len aL_ (pa_c (pv1 6 rfl bN_) ab_)) ab_)
   case' g76=>refine' ad_ ?g93 (ad_ (aj_ (i:=6) aD_.nd rfl bN_ (al_ Ji_ (hr.mono (by decide)) gH_ (pa_c (pv1 6 rfl bN_) (pa_c (pv1 4 rfl c8_) (pa_c (pv1 3 rfl aF_) ab_))))) ?g109)
   case' g93=>refine' de_ (i:=8) aD_.nd rfl hb_ rfl (al_ Ib_ (hr.mono (by decide)) dx_ (pa_c (al_ G3_ (hr.mono (by decide)) bX_ (pa_c (pv1 0 rfl c5_) (pa_c (EZ_ aY_ (pv1 1 rfl c6_) ac_) ab_))) (pa_c (pv1 5 rfl cq_) ab_))) rfl
   case' g109=>refine' ad_ ?g118 (ad_ ?g127 (ad_ (aj_ (i:=10) aD_.nd rfl dW_ (a5_ ab_)) ?g138))
   case' g118=>refine' aj_ (i:=9) aD_.nd rfl cr_ (ko_ rfl ih_ T.n_list ee_ T.n_range (pa_c (an_ ap_ ck_ T.n_len aL_ (pa_c (pv1 6 rfl bN_) ab_)) ab_))
   case' g127=>refine' aj_ (i:=3) aD_.nd rfl aF_ (al_ G3_ (hr.mono (by decide)) bX_ (pa_c (pv1 0 rfl c5_) (pa_c (EZ_ aY_ (pv1 1 rfl c6_) ac_) ab_)))
   case' g138=>refine' ai_ (fN_ Au_ (aq_ (kh_ (hr.units)) (pv1 9 rfl cr_) (a5_ ab_) (E9_ _)) ?g144) (ad_ (aj_ (i:=12) aD_.nd rfl dY_ (a5_ ab_)) ?g194)
   case' g144=>refine' ad_ ?g148 (ad_ ?g160 (ag_ (aI_ (FQ_ Aw_ AK_ AL_ aT_ (pv1 10 rfl dW_) (pa_c ?g174 ab_)))))
   case' g148=>refine' aj_ (i:=11) aD_.nd rfl dX_ (FQ_ Aw_ PySem.F.slot_list_pop PySem.F.type_list_pop ox_ (pv1 9 rfl cr_) (pa_c (EZ_ aK_ (pv1 3 rfl aF_) (an_ ap_ ck_ T.n_len aL_ (pa_c (pv1 9 rfl cr_) ab_))) ab_))
   case' g160=>refine' aj_ (i:=3) aD_.nd rfl aF_ (EZ_ av_ (pv1 3 rfl aF_) (EZ_ aY_ (an_ ap_ ck_ T.n_len aL_ (pa_c (pv1 9 rfl cr_) ab_)) ac_))
   case' g174=>refine' ax_ (pa_c (E0_ ao_ (pv1 7 rfl ez_) (pv1 11 rfl dX_) (fun _ _=>rfl)) (pa_c (bd_ (N':=["_law_wire", "_law_wires"]) (ix:=[none,some 8]) rfl rfl (a6_ ?g183) (ay_ (K:=K) rfl (E0_ ao_ (pv1 6 rfl bN_) (pv1 11 rfl dX_) (fun _ _=>rfl))) (fun _ _ _=>?g185) (fun _ _ _=>?g186) (fun _ _ _=>(E0_ ao_ (pvc 1 rfl rfl) (pv1 0 rfl rfl) (fun _ _=>rfl)))) ab_))
   case g183=>exact (by show Ge_ (EW_ E4_) ["_law_script", "_law_at", "_law_most", "_law_big_here", "_law_posts", "_law_many", "_law_turns_here", "_law_names_here", "_law_wires", "_law_order", "_law_rows", "_law_p", "_law_worths", "_law_wire", "_law_worth"] _ _ _=true;decide +kernel)
   case g185=>exact ae_ (i:=0) (by show List.Nodup (["_law_wire", "_law_wires"]:List Str);decide +kernel) rfl rfl
   case g186=>exact cn_
   case' g194=>refine' ai_ (aV_ Au_ rfl (aE_ ee_ T.n_range (pa_c (pv1 5 rfl cq_) ab_)) ?g200 ?g201) (ag_ (au_ ?g231))
   case g200=>exact ae_ (i:=13) aD_.nd rfl f8_
   case' g201=>refine' ad_ (fM_ (al_ Gf_ (hr.mono (by decide)) e5_ (pa_c (pv1 3 rfl aF_) ab_)) (aJ_ (K:=K) (n:=2) rfl rfl (ak_ ?g213 (ak_ ?g215 aC_)))) ?g206
   case g213=>exact ae_ (i:=14) aD_.nd rfl f9_
   case g215=>exact ae_ (i:=3) aD_.nd rfl aF_
   case' g206=>refine' ag_ (aI_ (FQ_ Aw_ AK_ AL_ aT_ (pv1 12 rfl dY_) (pa_c (ax_ (pa_c (E0_ ao_ (pvc 8 rfl hb_) (pv1 13 rfl f8_) (fun _ _=>rfl)) (pa_c (pv1 14 rfl f9_) ab_))) ab_)))
   case' g231=>refine' ax_ (pa_c (eQ_ hx_ (pv1 7 rfl ez_) ?g236 (gs_ (pv1 4 rfl c8_))) (pa_c (pv1 10 rfl dW_) (pa_c (an_ (gC_ hr.units) gJ_ T.n_sorted dr_ (pa_c (pv1 12 rfl dY_) ab_)) ab_)))
   case g236=>exact gr_
  case R =>
   nofun;refine ⟨a,ns,0,rfl,by decide,hS,fun z0 H0 s0=>?_⟩;nofun;obtain ⟨Pp,hP,P1,P6⟩:∃ m:Nat,(1+z0%6:Int)=m/\1<=m/\m<=6:=by have a1:=AS_ z0 (show (6:Int)≠0 by decide);have a2:=AN_ z0 (show (0:Int)<6 by decide);exact ⟨(1+z0%6).toNat,by lia,by lia,by lia⟩
   rw [hP];refine ⟨by decide,?_⟩;nofun;refine ⟨by decide,by rfl',by decide,?_⟩;nofun;refine ⟨fun σ Hx=>∃ W:Nat,σ=[some (.ref a),some (.int 0),some (.int 7),some (.int z0),some (.int Pp),some (.int W),none,none,none,none,none,none,none,none,none]/\Hx=H0/\W<=15,?_,?_⟩
   ·nofun;have a1:=AS_ (z0/6) (show (7+1:Int)≠0 by decide);have a2:=AN_ (z0/6) (show (0:Int)<7+1 by decide);have a3:=AS_ (z0/48/(7+1)) (show (16:Int)≠0 by decide);have a4:=AN_ (z0/48/(7+1)) (show (0:Int)<16 by decide);refine ⟨by decide,by rfl',by decide,by rfl',by decide,ite2 (fun _=>?_) (fun _=>?_)⟩
    ·exact ⟨by decide,by rfl',by decide,by rfl',by decide,(z0/48/(7+1)%16).toNat,by lia,by lia⟩
    ·exact ⟨(z0/6%(7+1)).toNat,by lia,by lia⟩
   rintro σ Hx ⟨W,rfl,rfl,W15⟩;have hS0:=s0.seq hS;nofun;refine ⟨by decide,by rfl',by decide,by rfl',?_⟩;refine ⟨_,Pp,W,rfl,P1,P6,W15,fun pg l as_ T y H1 s1 hpg hT gr=>?_⟩;have gl:=gr.len;have gm:=gr.most;refine ⟨pg,rfl,_,SqT.of hpg,rfl,_,_,rfl,_,_,rfl,rfl,?_⟩;nofun;refine ⟨a,ns,_,rfl,by decide,(s1.seq hS0),fun z1 H2 s2=>?_⟩;have hT2:=hT.mono s2;have al:=hT2.tn.len;refine ⟨_,.inl hT2.tn.top,?_⟩;rw [Ab_];refine ⟨z1,as_.length,rfl,by lia,fun D1 nms H3 s3 rep1 nl1 nd1=>?_⟩;have s03:=s1.trans (s2.trans s3);nofun;refine ⟨a,ns,_,rfl,by decide,s03.seq hS0,fun z2 H4 s4=>⟨z2,W,rfl,by lia,fun D2 wns H5 s5 rep2 nl2 nd2=>?_⟩⟩;have s05:=s03.trans (s4.trans s5);have hT5:=hT2.mono (s3.trans (s4.trans s5));nofun;refine ⟨Hx,l,as_,T,Pp,W,y,rfl,s05,hT5,gr,P6,W15,fun bs T' H6 s6 kp hT6 gr' hl6=>?_⟩;obtain ⟨_,us1,e1,hD1',hus1⟩:=id rep1;cases e1;rw [cj_ hus1] at hD1';obtain ⟨_,us2,e2,hD2',hus2⟩:=id rep2;cases e2;rw [cj_ hus2] at hD2';have D1l:D1≠l:=(af_ hT2.tn.top (a0_ hD1').1).symm;have D2l:D2≠l:=(af_ ((hT2.mono (s3.trans s4)).tn.top) (a0_ hD2').1).symm;have hD1:H6 D1=some (.lst (nms.map V.str)):=kp _ _ D1l ((s4.trans s5) _ _ (a0_ hD1').2);have hD2:H6 D2=some (.lst (wns.map V.str)):=kp _ _ D2l (a0_ hD2').2;clear hD1' hD2' hus1 hus2 rep1 rep2;have hS6:=s6.seq hS0;have bl:=hT6.tn.len;have gl6:=gr'.len;have gm6:=gr'.most;clear hT hT2 hT5 s1 s2 s3 s4 s5 s03 s05 kp hpg;nofun;refine ⟨_,.inl hT6.tn.top,bs.length,by rw [Ab_],by lia,fun O nO=>?_⟩;have S7:EX_ H6 (upd H6 O (HO.lst (GM_ bs.length))):=EX_.new nO;have hO:=aa_ (H:=H6) (a:=O) (o:=HO.lst (GM_ bs.length));generalize upd H6 O (HO.lst (GM_ bs.length))=H7 at *;nofun;refine ⟨a,ns,_,rfl,by decide,S7.seq hS6,fun z3 H8 s8=>?_⟩;nofun;refine ⟨AA_ _,fun R nR=>?_⟩;nofun;have R6:H6 R=none:=(S7.trans s8).free nR;have RO:R≠O:=(af_ (s8 _ _ hO) nR).symm;have eN:GM_ bs.length=(List.range bs.length).map fun n:Nat=>V.int n:=rfl
   refine oQ_ (Lv_ H6 a l D1 D2 O R Pp W bs.length nms wns T')
    (fun _ H'=>LP_ O H') ⟨z3,none,H6,List.range bs.length,[],[],rfl,EX_.refl _,(S7.trans s8).upd R6,nO,R6,by rw [ah_ RO.symm];exact s8 _ _ hO,aa_,rfl,.refl _⟩ ?_
   rintro σ H' kb hkb G hG ⟨z,e11,S,rem,dn,ys,rfl,sS,sH,SO,SR,hO',hR',repS,pm⟩;refine hG ?_;nofun;refine ⟨AA_ _,fun p np=>?_⟩;have Sp:EX_ H' (upd H' p (HO.lst [])):=EX_.new np
   have repO:Rep (upd H' p (HO.lst [])) (.ref O) (.lst (rem.map fun n:Nat=>Dt.int n)):=⟨O,_,rfl,Sp _ _ hO',by
    clear hO' pm
    induction rem with
    | nil=>exact rfl
    | cons x r ih=>exact ⟨_,_,rfl,rfl,ih⟩⟩
   have repp:Rep (upd H' p (HO.lst [])) (.ref p) (.lst []):=⟨p,[],rfl,aa_,rfl⟩;have pO:p≠O:=(af_ hO' np).symm;have pR:p≠R:=(af_ hR' np).symm
   have dle:dep (.lst (rem.map fun n:Nat=>Dt.int n))<=60:=by
    have:deps (rem.map fun n:Nat=>Dt.int n)=0:=by
     clear hO' pm repO
     induction rem with
     | nil=>rfl
     | cons x r ih=>show max 0 (deps (r.map fun n:Nat=>Dt.int n))=0;rw [ih];rfl
    show deps _+1<=60;lia
   have sH2:EX_ S (upd H' p (HO.lst [])):=sH.trans Sp;generalize upd H' p (HO.lst [])=Hq at *;have hOq:=Sp _ _ hO';have hRq:=Sp _ _ hR'
   refine ⟨_,repO,_,repp,decide (rem=[]),by
    cases rem with
    | nil=>rfl
    | cons x r=>simp [deq,deqs],dle,?_⟩
   refine ite2 (fun hne=>?_) (fun hemp=>?_)
   ·have rne:rem≠[]:=Bm_ hne;have rl0:0<rem.length:=BP_.mpr rne;refine ⟨_,N_ok,?_⟩;obtain ⟨t,ht,tl⟩:∃ t:Nat,z%(((rem.map fun n:Nat=>V.int n).length:Nat):Int)=t/\t<rem.length:=by rw [Ab_];have a1:=AS_ z (show (rem.length:Int)≠0 by lia);have a2:=AN_ z (show (0:Int)<(rem.length:Int) by lia);exact ⟨(z%(rem.length:Int)).toNat,by lia,by lia⟩
    have rl16:rem.length<=16:=by have:=pm.length_eq;rw [Ah_,Ba_] at this;lia
    have er:((rem.map fun n:Nat=>V.int n).eraseIdx t)=(rem.eraseIdx t).map fun n:Nat=>V.int n:=kQ_ _ _ _;have el:(rem.eraseIdx t).length=rem.length-1:=List.length_eraseIdx_of_lt tl
    have lg:((((rem.map fun n:Nat=>V.int n).eraseIdx t).length:Int)+1).natAbs.log2<9000:=by
     rw [er,Ab_];by_cases h0:(((rem.eraseIdx t).length:Int)+1).natAbs=0
     ·rw [h0];decide
     ·rw [Dv_ h0];exact BC_ (show (((rem.eraseIdx t).length:Int)+1).natAbs<=1000 by lia) (by rfl')
    have hp0:rem[t]?=some (rem[t]):=Aa_ tl;have pn:rem[t]<bs.length:=A3_.mp (pm.mem_iff.mp (AM_ _ (A1_ tl)));have pm2:(dn++[rem[t]]++rem.eraseIdx t).Perm (List.range bs.length):=by refine List.Perm.trans ?_ pm;rw [A5_];exact (i5_ tl).append_left dn
    generalize rem[t]=pt at *;nofun;refine ⟨.inl ⟨_,.inl (.inl hOq)⟩,_,.inl hOq,by rw [Ab_];lia,_,hOq,by rw [ht];lia,by rw [ht];lia,t,?_,.int pt,by rw [Ae_,hp0];rfl,?_⟩
    ·rw [ht,Ab_];rw [Eg_ (by lia) (by lia),AC_]
    nofun;refine ⟨by lia,lg,?_⟩;rw [er];nofun;have OR:O≠R:=RO.symm;have sH3:EX_ S (upd Hq O (HO.lst ((rem.eraseIdx t).map fun n:Nat=>V.int n))):=aM_ sH2 SO;have hR3:upd Hq O (HO.lst ((rem.eraseIdx t).map fun n:Nat=>V.int n)) R=some (.lst ys):=by rw [ah_ RO];exact hRq
    have hO3:=aa_ (H:=Hq) (a:=O) (o:=HO.lst ((rem.eraseIdx t).map fun n:Nat=>V.int n));generalize upd Hq O (HO.lst ((rem.eraseIdx t).map fun n:Nat=>V.int n))=H3 at *;have s63:EX_ H6 H3:=sS.trans sH3;obtain ⟨a1,ea1,at1,ra1⟩:=hT6.tn.at_ (p:=pt) (by lia);have ra3:=s63 _ _ ra1
    have lt:∀ v∈T'.getD pt [],v<wns.length:=fun v hv=>by
     rw [nl2];refine gr'.lt v ?_;have hm:T'.getD pt []∈T':=by rw [Ac_,Aa_ (show pt<T'.length by lia)];exact A1_ _
     exact Bu_.mpr ⟨_,hm,hv⟩
    have rl30:(T'.getD pt []).length<=30:=by have:=Jf_ T' pt;rw [gr'.tot] at this;unfold rl at this;lia
    have atn:atI (nms.map V.str) ((pt:Nat):Int)=some (.str (nms.getD pt Str.empty)):=c0_ (by lia) (by rw [AC_];exact a3_ (by lia));refine ⟨.inl ⟨_,.inl (.inl hR3)⟩,_,s63 _ _ hD1,_,atn,_,s63 _ _ hT6.tn.top,_,at1,a1,rfl,⟨_,.inl (.inl ra3)⟩,?_⟩;generalize hrow:T'.getD pt []=row at *;have hD2':=s63 _ _ hD2;refine bv_ (n:=row.length) (B:=fun _=>none) (Pσ:=fun σ=>∃ e,σ=[e,some (.ref D2)]) (ds:=(row.map fun v=>wns.getD v Str.empty).map dS) (fun b o e=>by cases e) ⟨_,rfl⟩ (by simp) (by lia) (fun j Hj hj sj=>⟨_,.int (row[j]:Nat),.inl (.inl (sj _ _ ra3)),by simp [hj]⟩) (fun Hj sj=>⟨_,.inl (.inl (sj _ _ ra3)),by simp⟩) ?_ ?_
    ·rintro D j x d σ' Hj Hj' hD hDo hsj hj hdj ⟨rfl,hy⟩ ⟨e,rfl⟩ R0 kR;have hx:=hy _ (.inl (.inl (hsj _ _ ra3)));rw [Ae_,Aa_ hj] at hx;cases hx;have hd:d=dS (wns.getD row[j] Str.empty):=by rw [Ae_,Ae_,Aa_ hj] at hdj;exact (Aq_ hdj).symm
     nofun;refine ⟨_,hsj _ _ hD2',_,c0_ (by lia) (by rw [AC_];exact a3_ (lt _ (A1_ hj))),kR _ _ _ ⟨_,rfl⟩ (EX_.refl _) ?_⟩;rw [hd];exact rfl
    ·intro D H4 hD s4 rep4;refine ⟨by decide,fun q nq=>?_⟩;have hD3:H3 D=none:=hD;obtain ⟨_,us,e4,hD4',hus⟩:=id rep4;cases e4;have hD4:=(a0_ hD4').2;rw [ig_ hus] at hD4;have qR:q≠R:=(af_ (s4 _ _ hR3) nq).symm;have qO:q≠O:=(af_ (s4 _ _ hO3) nq).symm;have g1:EX_ S (grow S H3 H4):=bT_ sH3;have g2:EX_ (grow S H3 H4) H4:=gx_ sH3 s4;have gO:grow S H3 H4 O=none:=by rw [cg_ hO3];exact SO
     have gR:grow S H3 H4 R=none:=by rw [cg_ hR3];exact SR
     have gD:grow S H3 H4 D=some (.lst ((row.map fun v=>wns.getD v Str.empty).map V.str)):=by rw [gw_ hD3];exact hD4
     have g3:EX_ (grow S H3 H4) (upd (grow S H3 H4) q (.tup [.str (nms.getD pt Str.empty),.ref D])):=aO_ g2 nq;have g4:EX_ (upd (grow S H3 H4) q (.tup [.str (nms.getD pt Str.empty),.ref D])) (upd H4 q (.tup [.str (nms.getD pt Str.empty),.ref D])):=eS_ g2 nq;have gO2:upd (grow S H3 H4) q (.tup [.str (nms.getD pt Str.empty),.ref D]) O=none:=by rw [ah_ qO.symm];exact gO
     have gR2:upd (grow S H3 H4) q (.tup [.str (nms.getD pt Str.empty),.ref D]) R=none:=by rw [ah_ qR.symm];exact gR
     have yl:ys.length=dn.length:=by rw [repS.length,Ab_];unfold FJ_;rw [Ab_]
     have dl:dn.length<=16:=by have:=pm.length_eq;rw [Ah_,Ba_] at this;lia
     refine ⟨ys,by rw [ah_ qR.symm];exact s4 _ _ hR3,EY_ (by lia),⟨_,_,upd (grow S H3 H4) q (.tup [.str (nms.getD pt Str.empty),.ref D]),rem.eraseIdx t,dn++[pt],ys++[.ref q],rfl,sS.trans (g1.trans g3),aM_ g4 gR2,gO2,gR2,?_,aa_,?_,pm2⟩,?_⟩
     ·rw [ah_ OR,ah_ qO.symm];exact s4 _ _ hO3
     ·have er2:FJ_ (fun p=>nms.getD p Str.empty) (fun v=>wns.getD v Str.empty) T' (dn++[pt])=FJ_ (fun p=>nms.getD p Str.empty) (fun v=>wns.getD v Str.empty) T' dn++[(nms.getD pt Str.empty,row.map fun v=>wns.getD v Str.empty)]:=by unfold FJ_;rw [Ap_,AB_,Co_,hrow]
      rw [er2,Ap_];refine Fg_.append (Fg_.mono (g1.trans g3) _ repS) ⟨_,_,rfl,⟨q,_,rfl,aa_,_,_,rfl,rfl,_,_,rfl,⟨D,_,rfl,g3 _ _ gD,a2_ _⟩,rfl⟩,rfl⟩
     ·unfold LP_;rw [ah_ OR,ah_ qO.symm,s4 _ _ hO3,hO'];show ((rem.eraseIdx t).map _).length<(rem.map _).length;rw [Ab_,Ab_];lia
   ·have re:rem=[]:=by
     by_cases h:rem=[]
     ·exact h
     ·exact absurd (Az_ h) hemp
    subst re;rw [Bd_] at pm;refine hkb _ _ ?_;nofun;refine ⟨AA_ _,fun L nL=>?_⟩;nofun;refine ⟨by lia,by lia,?_⟩;rw [show Int.toNat (W:Int)=W by lia];have s6q:EX_ H6 Hq:=sS.trans sH2;have hD2q:=s6q _ _ hD2;have hD1q:=s6q _ _ hD1;refine br_ (fun i σ H'=>∃ (z:Int)(e13 e14:Option V)(S':Hp)(vs:List V)(wl:List (Str×(Int×Int))),σ=[some (.ref a),some (.int 0),some (.int 7),some (.int z),some (.int Pp),some (.int W),some (.ref l),some (.ref D1),some (.ref D2),some (.ref O),some (.ref R),e11,some (.ref L),e13,e14]/\EX_ Hq S'/\EX_ S' H'/\S' L=none/\H' L=some (.lst vs)/\Fg_ S' vs (wl.map dWo)/\wl.map (·.1)=wns.take i/\∀ x∈wl,Ws x.2) ⟨z,none,none,Hq,[],[],rfl,EX_.refl _,EX_.new nL,nL,aa_,rfl,rfl,fun x hx=>by cases hx⟩ ?_ ?_
    ·rintro i σ H5 hi kc kb hkc hkb G hG ⟨z,e13,e14,S',vs,wl,rfl,sq,sS5,SL,hL,repW,wnm,wws⟩;refine hG ?_;have hi':i<W:=hi;have iw:i<wns.length:=by lia
     nofun;refine ⟨z,rfl,fun pw qw H7 t0 b0 y0 s7 npw nqw tw hpw hqw=>?_⟩;have s57:=sS5.trans s7;have wll:wl.length=i:=by have:=congrArg List.length wnm;rw [Ab_,AO_] at this;lia
     have vl:vs.length=i:=by rw [repW.length,Ab_];exact wll
     refine ⟨pw,rfl,_,SqT.of hpw,rfl,_,_,rfl,_,_,rfl,rfl,?_⟩;nofun;refine ⟨.inl ⟨_,.inl (.inl (s7 _ _ hL))⟩,_,(sq.trans s57) _ _ hD2q,_,c0_ (by lia) (by rw [show Int.toNat (0+(i:Nat):Int)=i by lia];exact a3_ iw),by decide,fun q nq=>?_⟩;have g1:EX_ S' (grow S' H5 H7):=bT_ sS5;have g2:EX_ (grow S' H5 H7) H7:=gx_ sS5 s7;have gL:grow S' H5 H7 L=none:=by rw [cg_ hL];exact SL
     have gq:grow S' H5 H7 qw=some (.tup [.int (nf t0 b0).1,.int (nf t0 b0).2]):=by rw [gw_ nqw];exact hqw
     have qL:q≠L:=(af_ (s7 _ _ hL) nq).symm;have g3:EX_ (grow S' H5 H7) (upd (grow S' H5 H7) q (.tup [.str (wns.getD i Str.empty),.ref qw])):=aO_ g2 nq;have g4:EX_ (upd (grow S' H5 H7) q (.tup [.str (wns.getD i Str.empty),.ref qw])) (upd H7 q (.tup [.str (wns.getD i Str.empty),.ref qw])):=eS_ g2 nq;have gL2:upd (grow S' H5 H7) q (.tup [.str (wns.getD i Str.empty),.ref qw]) L=none:=by rw [ah_ qL.symm];exact gL
     refine ⟨vs,by rw [ah_ qL.symm];exact s7 _ _ hL,EY_ (by lia),hkc _ _ ⟨y0,_,_,upd (grow S' H5 H7) q (.tup [.str (wns.getD i Str.empty),.ref qw]),_,wl++[(wns.getD i Str.empty,nf t0 b0)],rfl,sq.trans (g1.trans g3),aM_ g4 gL2,gL2,aa_,?_,?_,fun x hx=>(Ax_.mp hx).elim (wws x) fun hx=>by rw [Ai_.mp hx];exact tw⟩⟩
     ·rw [Ap_];exact Fg_.append (Fg_.mono (g1.trans g3) _ repW) ⟨_,_,rfl,⟨q,_,rfl,aa_,_,_,rfl,rfl,_,_,rfl,⟨qw,_,rfl,g3 _ _ gq,_,_,rfl,rfl,_,_,rfl,rfl,rfl⟩,rfl⟩,rfl⟩
     ·rw [Ap_,wnm,Be_,Aa_ iw,Ac_,Aa_ iw];rfl
    ·rintro σ H5 ⟨z,e13,e14,S',vs,wl,rfl,sq,sS5,SL,hL,repW,wnm,wws⟩;rw [AT_ (by lia)] at wnm;nofun;have wll:wl.length=W:=by rw [<-nl2,<-wnm,Ab_]
     have vl:vs.length=wl.length:=by rw [repW.length,Ab_]
     have sq5:=sq.trans sS5;have c1:Ii_ (nms.map V.str) none (some ((Pp:Nat):Int))=(nms.take Pp).map V.str:=by rw [nl_ _ _ (by rw [Ab_];lia),DF_]
     refine ⟨_,sq5 _ _ hD1q,fun q nq=>?_⟩;rw [c1];have Sq:EX_ H5 (upd H5 q (HO.lst ((nms.take Pp).map V.str))):=EX_.new nq;have hq:=aa_ (H:=H5) (a:=q) (o:=HO.lst ((nms.take Pp).map V.str));generalize upd H5 q (HO.lst ((nms.take Pp).map V.str))=H6' at *;refine ⟨vs,Sq _ _ hL,wl,Fg_.mono (sS5.trans Sq) _ repW,by lia,by rw [wnm];exact nd2,fun l' zs wl' nl' repW' pw srt=>?_⟩
     ·refine ⟨by decide,fun pe npe=>?_⟩;have Sl:EX_ H6' (upd H6' l' (HO.lst zs)):=EX_.new nl';have hl':=aa_ (H:=H6') (a:=l') (o:=HO.lst zs);generalize upd H6' l' (HO.lst zs)=H7' at *;have Se:EX_ H7' (upd H7' pe (HO.tup [V.ref q,V.ref R,V.ref l'])):=EX_.new npe;have he:=aa_ (H:=H7') (a:=pe) (o:=HO.tup [V.ref q,V.ref R,V.ref l']);generalize upd H7' pe (HO.tup [V.ref q,V.ref R,V.ref l'])=H8' at *;have tot:EX_ H5 H8':=Sq.trans (Sl.trans Se);refine k (.ref pe) ⟨nms.take Pp,FJ_ (fun p=>nms.getD p Str.empty) (fun v=>wns.getD v Str.empty) T' dn,wl'⟩ H8' (s0.trans (s6.trans (s6q.trans (sq5.trans tot)))) ⟨pe,_,rfl,he,_,_,rfl,⟨q,_,rfl,(Sl.trans Se) _ _ hq,a2_ _⟩,_,_,rfl,⟨R,ys,rfl,tot _ _ (sq5 _ _ hRq),Fg_.mono (sH2.trans (sq5.trans tot)) _ repS⟩,_,_,rfl,⟨l',zs,rfl,Se _ _ hl',Fg_.mono (Sl.trans Se) _ repW'⟩,rfl⟩ ?_ ?_ ?_ srt
      ·exact q1_ gr' (by rw [<-bl];exact pm) P6 W15 (fun x y hx hy e=>mj_ nd1 (by lia) (by lia) e) (fun x y hx hy e=>mj_ nd2 (by lia) (by lia) e) (by rw [AO_];lia) (by rw [pw.length_eq];lia)
      ·have nl1':nms.length=T'.length:=by lia
       refine ⟨List.Nodup.sublist (List.take_sublist _ _) nd1,fun x hx=>?_,by rw [AO_];lia⟩;obtain ⟨j,hj,ej⟩:=Ar_.mp hx;have hj2:j<nms.length:=by rw [AO_] at hj;lia
       refine Al_.mpr ⟨_,Al_.mpr ⟨j,pm.mem_iff.mpr (A3_.mpr (by lia)),rfl⟩,?_⟩;show nms.getD j Str.empty=x;rw [Ac_,Aa_ hj2];rw [List.getElem_take] at ej;exact ej
      ·have pn:=pw.map (·.1);rw [wnm] at pn;refine ⟨pn.nodup_iff.mpr nd2,fun x=>?_,fun x hx=>wws x (pw.mem_iff.mp hx)⟩;rw [pn.mem_iff];have al:=l6_ (S:=Str) (ns:=fun p=>nms.getD p Str.empty) (ws:=fun v=>wns.getD v Str.empty) (T:=T') (ord:=dn) (by rw [<-bl];exact pm);show x∈wns ↔ x∈((FJ_ _ _ T' dn).map (·.2)).flatten;rw [al.mem_iff];constructor
       ·intro hx;obtain ⟨j,hj,ej⟩:=Ar_.mp hx;refine Al_.mpr ⟨j,Ci_.mp (by rw [gr'.two j (by lia)];decide),?_⟩;show wns.getD j Str.empty=x;rw [Ac_,Aa_ hj];exact ej
       ·intro hx;obtain ⟨j,hj,ej⟩:=Al_.mp hx;have hl:=gr'.lt j hj;have ej':wns.getD j Str.empty=x:=ej;rw [Ac_,Aa_ (show j<wns.length by lia)] at ej';rw [<-ej'];exact A1_ _
def dE (e:End Str):Dt:=.tup [.str e.1,.int e.2]
def F2_ (acc:List (Str×List (End Str)))(ls:List Addr):List (Key×V):=List.zipWith (fun kv l=>(Sum.inr kv.1,V.ref l)) acc ls
structure DE (en:End Str->Dt)(S H:Hp)(d:Addr)(ls:List Addr)(acc:List (Str×List (End Str))):Prop where
 sH:EX_ S H
 dict:H d=some (.dK (F2_ acc ls))
 len:ls.length=acc.length
 nd:ls.Nodup
 dn:d∉ls
 lst:∀ (i:Nat)(l:Addr)(kv:Str×List (End Str)),ls[i]?=some l->acc[i]?=some kv->∃ vs,H l=some (.lst vs)/\Fg_ S vs (kv.2.map en)
 fd:S d=none
 fl:∀ l∈ls,S l=none
theorem DE.mono {en:End Str->Dt}{S H H':Hp}{d:Addr}{ls:List Addr}{acc:List (Str×List (End Str))}(h:DE en S H d ls acc)(s:EX_ H H'):DE en S H' d ls acc :=
 ⟨h.sH.trans s,s _ _ h.dict,h.len,h.nd,h.dn,fun i l kv h1 h2=>(h.lst i l kv h1 h2).elim fun vs z=>⟨vs,s _ _ z.1,z.2⟩,h.fd,h.fl⟩
theorem DE.stay {en:End Str->Dt}{S H:Hp}{d:Addr}{ls:List Addr}{acc:List (Str×List (End Str))}(h:DE en S H d ls acc){q:Addr}(nq:H q=none)(o:HO):DE en (upd S q o) (upd H q o) d ls acc:=by
 have qd:q≠d:=(af_ h.dict nq).symm;have ql:∀ l∈ls,q≠l:=fun l hl e=>by obtain ⟨i,hi,ei⟩:=Ar_.mp hl;obtain ⟨vs,z,_⟩:=h.lst i l (acc[i]'(by rw [<-h.len];exact hi)) (by rw [Aa_ hi,ei]) (Aa_ _);rw [<-e,nq] at z;cases z
 exact ⟨eS_ h.sH nq,by rw [ah_ qd.symm];exact h.dict,h.len,h.nd,h.dn,fun i l kv h1 h2=>(h.lst i l kv h1 h2).elim fun vs z=>⟨vs,by rw [ah_ (ql l (Ak_ h1)).symm];exact z.1,Fg_.mono (aO_ h.sH nq) _ z.2⟩,by rw [ah_ qd.symm];exact h.fd,fun l hl=>by rw [ah_ (ql l hl).symm];exact h.fl l hl⟩
theorem lF_ {acc:List (Str×List (End Str))}{ls:List Addr}(h:ls.length=acc.length):(F2_ acc ls).length=acc.length:=by unfold F2_;rw [List.length_zipWith];lia
theorem e0_ {w:Str}:∀ {acc:List (Str×List (End Str))}{ls:List Addr}{i:Nat}{es:List (End Str)},ls.length=acc.length->acc[i]?=some (w,es)->(∀ j kv,j<i->acc[j]?=some kv->kv.1≠w)->∃ l,ls[i]?=some l/\Ft_ (F2_ acc ls) (.inr w)=some (.ref l)
 | [],_,_,_,_,h,_=>by cases h
 | kv::acc,[],_,_,h,_,_=>by cases h
 | kv::acc,l::ls,0,es,_,h,_=>by
  cases h;exact ⟨l,rfl,bz_ rfl⟩
 | kv::acc,l::ls,i+1,es,hl,h,hn=>by obtain ⟨l',h1,h2⟩:=e0_ (w:=w) (acc:=acc) (ls:=ls) (i:=i) (by simpa using hl) h fun j kv hj hkv=>hn (j+1) kv (by lia) hkv;refine ⟨l',h1,?_⟩;show Ft_ ((Sum.inr kv.1,V.ref l)::F2_ acc ls) (.inr w)=_;rw [bw_ (fun z=>hn 0 kv (by lia) rfl (Bx_ z))];exact h2
theorem hF_ {w:Str}:∀ {acc:List (Str×List (End Str))}{ls:List Addr},(∀ kv∈acc,kv.1≠w)->Ft_ (F2_ acc ls) (.inr w)=none
 | [],_,_=>by unfold F2_;rw [List.zipWith_nil_left];rfl
 | kv::acc,[],_=>rfl
 | kv::acc,l::ls,h=>by show Ft_ ((Sum.inr kv.1,V.ref l)::F2_ acc ls) (.inr w)=_;rw [bw_ (fun z=>h kv At_ (Bx_ z))];exact hF_ fun kv hkv=>h kv (An_ _ hkv)
theorem o1_ {w:Str}{acc:List (Str×List (End Str))}{ls:List Addr}{q:Addr}{e:End Str}(hl:ls.length=acc.length)(h:∀ kv∈acc,kv.1≠w):FR_ (F2_ acc ls) (.inr w) (.ref q)=F2_ (acc++[(w,[e])]) (ls++[q]):=by have hv:=hF_ (ls:=ls) h;unfold FR_;rw [if_neg (by rw [dI_,hv];decide)];unfold F2_;rw [List.zipWith_append hl.symm];rfl
theorem DE.old {en:End Str->Dt}{S H:Hp}{d:Addr}{ls:List Addr}{acc:List (Str×List (End Str))}(h:DE en S H d ls acc){w:Str}{e:End Str}{i:Nat}{es:List (End Str)}{l:Addr}{t:V}{vs:List V}(hi:acc[i]?=some (w,es))(hl:ls[i]?=some l)(hv:H l=some (.lst vs))(hr:Fg_ S vs (es.map en))(ht:Rep S t (en e)) :
  DE en S (upd H l (.lst (vs++[t]))) d ls (acc.set i (w,es++[e])):=by
 have dl:d≠l:=fun z=>h.dn (by rw [z];exact Ak_ hl);have il:i<ls.length:=(Ag_.mp hl).1;have ia:i<acc.length:=by rw [<-h.len];exact il
 refine ⟨aM_ h.sH (h.fl l (Ak_ hl)),?_,by rw [Bq_];exact h.len,h.nd,h.dn,fun j l' kv h1 h2=>?_,h.fd,h.fl⟩
 ·rw [ah_ dl,h.dict];congr 2;unfold F2_;apply C4_
  ·simp
  ·intro j g1 g2;rw [ED_,ED_];by_cases z:i=j
   ·subst z;rw [Es_];rw [Aa_ ia] at hi;rw [Aq_ hi]
   ·rw [EN_ z]
 ·rw [Bj_] at h2;by_cases z:i=j
  ·subst z;rw [if_pos rfl,if_pos ia] at h2;cases h2;rw [hl] at h1;cases h1;refine ⟨_,aa_,?_⟩;rw [Ap_];exact Fg_.append hr ⟨_,_,rfl,ht,rfl⟩
  ·rw [if_neg z] at h2;obtain ⟨vs',g1,g2⟩:=h.lst j l' kv h1 h2;have ll:l'≠l:=fun y=>by rw [y] at h1;exact z ((AU_ il h.nd).mp (hl.trans h1.symm))
   exact ⟨vs',by rw [ah_ ll];exact g1,g2⟩
theorem DE.new {en:End Str->Dt}{S H:Hp}{d:Addr}{ls:List Addr}{acc:List (Str×List (End Str))}(h:DE en S H d ls acc){w:Str}{e:End Str}{q:Addr}{t:V}(hn:∀ kv∈acc,kv.1≠w)(hq:H q=some (.lst []))(qd:q≠d)(ql:q∉ls)(Sq:S q=none)(ht:Rep S t (en e)) :
  DE en S (upd (upd H d (.dK (FR_ (F2_ acc ls) (.inr w) (.ref q)))) q (.lst [t])) d (ls++[q]) (acc++[(w,[e])]):=by
 refine ⟨aM_ (aM_ h.sH h.fd) Sq,?_,by simp [h.len],?_,?_,fun j l' kv h1 h2=>?_,h.fd,fun l hl=>?_⟩
 ·rw [ah_ qd.symm,aa_,o1_ h.len hn]
 ·exact A0_.mpr ⟨h.nd,by simp,fun x hx y hy z=>ql (by rw [<-Ai_.mp hy,<-z];exact hx)⟩
 ·intro z
  rcases Ax_.mp z with z|z
  ·exact h.dn z
  ·exact qd (Ai_.mp z).symm
 ·by_cases hj:j<ls.length
  ·rw [AP_ hj] at h1;rw [AP_ (by rw [<-h.len];exact hj)] at h2;obtain ⟨vs',g1,g2⟩:=h.lst j l' kv h1 h2;have e1:l'≠q:=fun z=>ql (by rw [<-z];exact Ak_ h1);have e2:l'≠d:=fun z=>h.dn (by rw [<-z];exact Ak_ h1);exact ⟨vs',by rw [ah_ e1,ah_ e2];exact g1,g2⟩
  ·rw [A2_ (by lia)] at h1;rw [A2_ (by rw [<-h.len];lia)] at h2;have e1:=Ai_.mp (Ak_ h1);have e2:=Ai_.mp (Ak_ h2);subst e1 e2;exact ⟨_,aa_,_,_,rfl,ht,rfl⟩
 ·rcases Ax_.mp hl with z|z
  ·exact h.fl l z
  ·rw [Ai_.mp z];exact Sq
theorem bC_ {H:Hp}{v:V}{N:Net Str}(h:Rep H v (Go_ N)):∃ (pn p0 p1 p2:Addr)(rs ws:List V),v=.ref pn/\H pn=some (.tup [.ref p0,.ref p1,.ref p2])/\H p0=some (.lst (N.posts.map V.str))/\H p1=some (.lst rs)/\Fg_ H rs (N.rows.map dRw)/\H p2=some (.lst ws)/\Fg_ H ws (N.worths.map dWo):=by obtain ⟨pn,_,rfl,hn,_,_,rfl,⟨p0,ps,rfl,h0,r0⟩,_,_,rfl,⟨p1,rs,rfl,h1,r1⟩,_,_,rfl,⟨p2,ws,rfl,h2,r2⟩,rfl⟩:=h;rw [ig_ r0] at h0;exact ⟨pn,p0,p1,p2,rs,ws,rfl,hn,h0,h1,r1,h2,r2⟩
theorem n7_ {H:Hp}{v:V}{r:Str×List Str}(h:Rep H v (dRw r)):∃ q l,v=.ref q/\H q=some (.tup [.str r.1,.ref l])/\H l=some (.lst (r.2.map V.str)):=by obtain ⟨q,_,rfl,hq,x,_,rfl,hx,_,_,rfl,⟨l,us,rfl,hl,rl⟩,rfl⟩:=h;rw [ig_ rl] at hl;cases hx;exact ⟨q,l,rfl,hq,hl⟩
theorem bm_ {H:Hp}{rs:List V}{rows:List (Str×List Str)}{i:Nat}{x:V}(h:Fg_ H rs (rows.map dRw))(e:rs[i]?=some x):∃ r q l,rows[i]?=some r/\x=.ref q/\H q=some (.tup [.str r.1,.ref l])/\H l=some (.lst (r.2.map V.str)):=by
 obtain ⟨d,hd,hr⟩:=h.of_get e;rw [Ae_] at hd;cases e2:rows[i]? with
 | none=>rw [e2] at hd;cases hd
 | some r =>rw [e2] at hd;rw [<-Aq_ hd] at hr;obtain ⟨q,l,h1,h2,h3⟩:=n7_ hr;exact ⟨r,q,l,rfl,h1,h2,h3⟩
theorem gK_ (p:Str):∀ (ws:List Str)(k j:Nat),(Fj_ p k ws)[j]?=(ws[j]?).map fun x=>(x,(p,k+j))
 | [],_,_=>by simp [Fj_]
 | w::ws,k,0=>rfl
 | w::ws,k,j+1=>by show (Fj_ p (k+1) ws)[j]?=(ws[j]?).map fun x=>(x,(p,k+(j+1)));rw [gK_ p ws (k+1) j,show k+1+j=k+(j+1) by lia]
theorem i6_ (p:Str)(ws:List Str)(k:Nat):(Fj_ p k ws).length=ws.length:=by
 have:=congrArg List.length (gz_ p ws k)
 rwa [Ab_] at this
theorem hG_ {rows:List (Str×List Str)}{i:Nat}{r:Str×List Str}(h:rows[i]?=some r):occ (rows.take (i+1))=occ (rows.take i)++Fj_ r.1 0 r.2:=by unfold occ;rw [Be_,h,Ap_,A6_];simp
theorem jL_ {N:Net Str}(ok:Fk_ N)(l m:List (Str×End Str))(h:l++m=occ N.rows):(FA_ l).length<=30:=by
 have e:∀ l:List (Str×End Str),(FA_ l).length<=l.length:=fun l=>by
  have key:∀ n (l:List (Str×End Str)),l.length=n->(FA_ l).length<=n:=fun n=>by
   induction n with
   | zero=>intro l h;rw [Bk_ h];exact Af_ _
   | succ n ih =>
    intro l h;obtain ⟨m,x,rfl⟩:∃ m x,l=m++[x]:=⟨l.dropLast,l.getLast (fun e=>by rw [e] at h;cases h),(BR_ _).symm⟩;rw [eU_];have h2:=ih m (by simpa using h);have h3:=congrArg List.length (ep_ (w:=x.1) (e:=x.2) (a:=FA_ m));rw [Ab_] at h3;split at h3
    ·rw [Ab_] at h3;lia
    ·rw [Ah_,Ab_] at h3;simp at h3;lia
  exact key _ l rfl
 have h1:=e l;have h2:=congrArg List.length h;have h3:=congrArg List.length (gA_ N.rows);rw [Ab_] at h3;have h4:=ok.tot;unfold Net.all at h4;rw [Ah_] at h2;lia
theorem i7_ {N:Net Str}(ok:Fk_ N)(l m:List (Str×End Str))(h:l++m=occ N.rows):∀ kv∈FA_ l,kv.2.length<=30:=fun kv hkv=>by
 have h0:=(bM_ _ l rfl).2.1 kv hkv;have h1:kv.2.length<=l.length:=by rw [h0,Ab_];exact Bp_ _ _
 have h2:=congrArg List.length h;have h3:=congrArg List.length (gA_ N.rows);rw [Ab_] at h3;have h4:=ok.tot;unfold Net.all at h4;rw [Ah_] at h2;lia
theorem mk_ {H:Hp}{a b:Addr}{x y:HO}(h:a≠b):upd (upd H a x) b y=upd (upd H b y) a x:=by
 funext c;by_cases h1:c=a
 ·subst h1;rw [ah_ h,aa_,aa_]
 ·by_cases h2:c=b
  ·subst h2;rw [aa_,ah_ h1,aa_]
  ·rw [ah_ h2,ah_ h1,ah_ h1,ah_ h2]
abbrev Fb_:Stmt:=stN 19
theorem bh_:E2_ ["net", "ends", "point", "wires", "place", "wire"] ["net"] (EW_ Fb_):=⟨rfl,rfl,rfl,by rfl',rfl,by rfl',by rfl'⟩
theorem gL_:LK Fb_ "net" .local:=by rfl'
theorem cc_:LK Fb_ "ends" .local:=by rfl'
theorem dy_:LK Fb_ "point" .local:=by rfl'
theorem dz_:LK Fb_ "wires" .local:=by rfl'
theorem dA_:LK Fb_ "place" .local:=by rfl'
theorem dB_:LK Fb_ "wire" .local:=by rfl'
theorem dh_:LK Fb_ "enumerate" .globalImplicit:=by rfl'
def IJ_:Sp:=fun vs H Q _=>∃ (v:V)(N:Net Str),vs=[v]/\Rep H v (Go_ N)/\Fk_ N/\∀ d S ls H',EX_ H S->DE dE S H' d ls (FK_ N)->H d=none->Q (.ref d) H'
theorem ii_ (T:Txt K mg)(F:Fn0 K mg "ends_by_wire" Fb_):Cal P w K mg base "ends_by_wire" ["net"] 1 IJ_:=by
 refine aR_ F bh_ (fun _ _ _ _ _ _=>byL1 fun _=>rfl) ?len ?body
 case len=>rintro vs H Q E ⟨a,b,rfl,_⟩;rfl
 case body =>
  intro f cdv A outer s H vs Q E hr h;obtain ⟨v,N,rfl,hv,ok,k⟩:=h;refine' ⟨_,?D,?R⟩
  case D =>
   refine' ai_ ?g1 (ai_ ?g3 (ag_ (au_ (pv1 1 rfl cc_))))
   case g1=>exact aj_ (i:=1) bh_.nd rfl cc_ dJ_
   case' g3=>refine' aV_ Au_ rfl (ay_ (K:=K) rfl (E0_ am_ (pv1 0 rfl gL_) ac_ (fun _ _=>rfl))) (aJ_ (K:=K) (n:=2) rfl rfl (ak_ ?g12 (ak_ ?g14 aC_))) ?g7
   case g12=>exact ae_ (i:=2) bh_.nd rfl dy_
   case g14=>exact ae_ (i:=3) bh_.nd rfl dz_
   case' g7=>refine' ag_ (aV_ Au_ rfl (lj_ (K:=K) rfl dh_ T.n_enumerate (pa_c (pv1 3 rfl dz_) ab_)) (aJ_ (K:=K) (n:=2) rfl rfl (ak_ ?g24 (ak_ ?g26 aC_))) ?g19)
   case g24=>exact ae_ (i:=4) bh_.nd rfl dA_
   case g26=>exact ae_ (i:=5) bh_.nd rfl dB_
   case' g19=>refine' ag_ (aI_ (FQ_ Aw_ AK_ AL_ aT_ (FQ_ BF_ Cr_ Dt_ fV_ (pv1 1 rfl cc_) (pa_c (pv1 5 rfl dB_) (pa_c (a5_ ab_) ab_))) ?g31))
   case' g31=>refine' pa_c (ax_ (pa_c (pv1 2 rfl dy_) (pa_c (pv1 4 rfl dA_) ab_))) ab_
  case R =>
   nofun;obtain ⟨pn,p0,p1,p2,rs,ws,rfl,hn,h0,h1,r1,h2,r2⟩:=bC_ hv;have rl:rs.length=N.rows.length:=by rw [r1.length,Ab_]
   intro d nd;have Sd:EX_ H (upd H d (HO.dK [])):=EX_.new nd;refine ⟨pn,rfl,_,Sd _ _ hn,_,Fw_,p1,rfl,⟨_,.inl (.inl (Sd _ _ h1))⟩,?_⟩;have D0:DE dE H (upd H d (HO.dK [])) d [] (FA_ (occ (N.rows.take 0))):=⟨Sd,aa_,rfl,Bh_,fun z=>(by cases z),fun i l kv z=>(by cases z),nd,fun l z=>(by cases z)⟩;refine gt_ (xs:=rs) (fun i σ H'=>∃ (e2 e3 e4 e5:Option V)(S:Hp)(ls:List Addr),σ=[some (.ref pn),some (.ref d),e2,e3,e4,e5]/\EX_ H S/\DE dE S H' d ls (FA_ (occ (N.rows.take i)))) ⟨none,none,none,none,H,[],rfl,EX_.refl _,D0⟩ ?_ ?_ ?_
   ·rintro i σ H' hi ⟨e2,e3,e4,e5,S,ls,rfl,sS,de⟩;exact .inl (.inl (de.sH _ _ (sS _ _ h1)))
   ·rintro i x σ H' hx ⟨e2,e3,e4,e5,S,ls,rfl,sS,de⟩;obtain ⟨r,q,l,hr1,rfl,hq,hl⟩:=bm_ r1 hx;have s1:=sS.trans de.sH;rw [hG_ hr1];have occle:∀ j,∃ m,(occ (N.rows.take i)++(Fj_ r.1 0 r.2).take j)++m=occ N.rows:=fun j=>by refine ⟨(Fj_ r.1 0 r.2).drop j++occ (N.rows.drop (i+1)),?_⟩;rw [A5_,<-A5_ (List.take j _),Bb_,<-A5_,<-hG_ hr1];unfold occ;rw [<-A6_,<-Ap_,Bb_]
    nofun;refine ⟨_,SqT.of (s1 _ _ hq),rfl,_,_,rfl,_,_,rfl,rfl,l,rfl,⟨_,.inl (.inl (s1 _ _ hl))⟩,?_⟩;refine nF_ (xs:=r.2.map V.str) (fun j σ H'=>∃ (e4 e5:Option V)(S:Hp)(ls:List Addr),σ=[some (.ref pn),some (.ref d),some (.str r.1),some (.ref l),e4,e5]/\EX_ H S/\DE dE S H' d ls (FA_ (occ (N.rows.take i)++(Fj_ r.1 0 r.2).take j))) ⟨e4,e5,S,ls,rfl,sS,by rw [List.take_zero,Bd_];exact de⟩ ?_ ?_ ?_
    ·rintro j σ H2 hj ⟨e4,e5,S,ls,rfl,sS,de⟩;exact .inl (.inl ((sS.trans de.sH) _ _ hl))
    ·rintro j x T0 σ H2 hx ⟨e4,e5,S,ls,rfl,sS,de⟩ nT;rw [Ae_] at hx
     obtain ⟨wr,hw,rfl⟩:∃ wr,r.2[j]?=some wr/\x=.str wr:=by
      cases e:r.2[j]? with
      | none=>rw [e] at hx;cases hx
      | some wr=>rw [e] at hx;cases hx;exact ⟨wr,rfl,rfl⟩
     have tk:(Fj_ r.1 0 r.2).take (j+1)=(Fj_ r.1 0 r.2).take j++[(wr,(r.1,j))]:=by rw [Be_,gK_,hw];simp
     obtain ⟨m,hm⟩:=occle j;have few:=jL_ ok _ _ hm;have short:=i7_ ok _ _ hm;rw [tk,<-A5_,eU_];generalize FA_ (occ (N.rows.take i)++(Fj_ r.1 0 r.2).take j)=acc at *;have de2:=de.mono (EX_.new nT (o:=HO.tup [V.int j,V.str wr]));have hT:=aa_ (H:=H2) (a:=T0) (o:=HO.tup [V.int j,V.str wr]);generalize upd H2 T0 (HO.tup [V.int j,V.str wr])=H3 at *;nofun;refine ⟨_,SqT.of hT,rfl,_,_,rfl,_,_,rfl,rfl,.inr (.inr (.inl (.inl ⟨_,de2.dict⟩))),AA_ _,fun q nq=>?_⟩;have qd:q≠d:=(af_ de2.dict nq).symm;have ql:q∉ls:=fun z=>by obtain ⟨i0,hi0,ei⟩:=Ar_.mp z;obtain ⟨vs,z2,_⟩:=de2.lst i0 q (acc[i0]'(by rw [<-de2.len];exact hi0)) (by rw [Aa_ hi0,ei]) (Aa_ _);rw [nq] at z2;cases z2
     have Sq:S q=none:=de2.sH.free nq;have de3:=de2.mono (EX_.new nq (o:=HO.lst []));have hq4:=aa_ (H:=H3) (a:=q) (o:=HO.lst []);generalize upd H3 q (HO.lst [])=H4 at *;refine ⟨_,.inr wr,rfl,de3.dict,by rw [lF_ de3.len];lia,fun v2 hv2=>?_,fun hnone=>?_⟩
     ·have hex:∃ kv∈acc,kv.1=wr:=by
       by_cases hc:∃ kv∈acc,kv.1=wr
       ·exact hc
       ·rw [hF_ (fun kv hkv z=>hc ⟨kv,hkv,z⟩)] at hv2;cases hv2
      obtain ⟨i0,es,g1,g2,g3⟩:=dt_ (e:=(r.1,j)) hex;obtain ⟨lw,l1,l2⟩:=e0_ de3.len g1 g2;rw [l2] at hv2;cases hv2;obtain ⟨vs,hvs,hrep⟩:=de3.lst i0 lw _ l1 g1;have vle:vs.length<=30:=by rw [hrep.length,Ab_];exact short _ (Ak_ g1)
      refine ⟨.inl ⟨_,.inl (.inl hvs)⟩,by decide,fun t nt=>⟨lw,rfl,vs,(EX_.new nt) _ _ hvs,EY_ (by lia),?_⟩⟩;have de5:=de3.stay nt (.tup [.str r.1,.int j]);have de6:=de5.old g1 l1 ((EX_.new nt) _ _ hvs) (Fg_.mono (aO_ de3.sH nt) _ hrep) (e:=(r.1,j)) ⟨t,_,rfl,aa_,_,_,rfl,rfl,_,_,rfl,rfl,rfl⟩;rw [g3];exact ⟨_,sS.trans (aO_ de3.sH nt),ls,de6⟩
     ·have hno:∀ kv∈acc,kv.1≠wr:=fun kv hkv z=>by obtain ⟨i0,es,g1,g2,g3⟩:=dt_ (e:=(r.1,j)) ⟨kv,hkv,z⟩;obtain ⟨lw,l1,l2⟩:=e0_ de3.len g1 g2;rw [l2] at hnone;cases hnone
      have hqd:upd H4 d (HO.dK (FR_ (F2_ acc ls) (Sum.inr wr) (V.ref q))) q=some (.lst []):=by rw [ah_ qd];exact hq4
      refine ⟨.inl ⟨_,.inl (.inl hqd)⟩,by decide,fun t nt=>?_⟩;have td:t≠d:=fun z=>by rw [z,aa_] at nt;cases nt
      have nt4:H4 t=none:=by rw [ah_ td] at nt;exact nt
      have tq:t≠q:=(af_ hq4 nt4).symm;have de5:=de3.stay nt4 (.tup [.str r.1,.int j]);have de6:=de5.new (e:=(r.1,j)) (q:=q) hno (by rw [ah_ tq.symm];exact hq4) qd ql (by rw [ah_ tq.symm];exact Sq) ⟨t,_,rfl,aa_,_,_,rfl,rfl,_,_,rfl,rfl,rfl⟩;refine ⟨[],by rw [ah_ tq.symm];exact hqd,EY_ (by decide),upd S t (.tup [.str r.1,.int j]),sS.trans (aO_ de3.sH nt4),ls++[q],?_⟩;rw [h4_ hno,mk_ td.symm];exact de6
    ·rintro σ H2 ⟨e4,e5,S,ls,rfl,sS,de⟩;rw [AT_ (l:=Fj_ r.1 0 r.2) (by rw [i6_,Ab_];exact Af_ _)] at de;exact ⟨_,_,_,_,rfl,S,sS,ls,de⟩
   ·rintro σ H' ⟨e2,e3,e4,e5,S,ls,rfl,sS,de⟩;rw [AT_ (by lia)] at de;nofun;exact k d S ls H' sS de nd
mutual
theorem hH_:∀ d:Dt,deq d d=some true
 | .non=>rfl
 | .bl a=>by simp [deq]
 | .int a=>by simp [deq]
 | .str a=>by simp [deq]
 | .tup xs=>ij_ xs
 | .lst xs=>by rw [deq,if_pos rfl];exact ij_ xs
theorem ij_:∀ ds:List Dt,deqs ds ds=some true
 | []=>rfl
 | d::ds=>by rw [deqs,hH_ d,ij_ ds];rfl
end
theorem fA_ {α:Type}{f:α->Dt}{n:Nat}(h:∀ a,dep (f a)<=n):∀ l:List α,deps (l.map f)<=n
 | []=>AA_ _
 | a::l=>Nat.max_le.mpr ⟨h a,fA_ h l⟩
theorem rc_ (e:End Str):dep (dE e)<=1:=by simp [dE,dep,deps]
theorem lG_ (N:Net Str):dep (Go_ N)<=60:=by
 have h1:dep (.lst (N.posts.map dS))<=5:=Ay_ (BL_ (fA_ (f:=dS) (n:=1) (fun a=>by simp [dS,dep]) _)) (by decide);have h2:dep (.lst (N.rows.map dRw))<=5:=Ay_ (BL_ (fA_ (f:=dRw) (n:=3) (fun r=>by have:dep (.lst (r.2.map dS))<=2:=BL_ (fA_ (f:=dS) (n:=1) (fun a=>by simp [dS,dep]) _);show max 0 (max (dep (.lst (r.2.map dS))) 0)+1<=3;lia) _)) (by decide);have h3:dep (.lst (N.worths.map dWo))<=5:=Ay_ (BL_ (fA_ (f:=dWo) (n:=3) (fun r=>by simp [dWo,dep,deps]) _)) (by decide);show max (dep (.lst (N.posts.map dS))) (max (dep (.lst (N.rows.map dRw))) (max (dep (.lst (N.worths.map dWo))) 0))+1<=60;lia
abbrev Gp_:Stmt:=stN 62
theorem o2_:E2_ ["_law_net"] ["_law_net"] (EW_ Gp_):=⟨rfl,rfl,rfl,by rfl',rfl,by rfl',by rfl'⟩
theorem gM_:LK Gp_ "_law_net" .local:=by rfl'
theorem ga_:LK Gp_ "list" .globalImplicit:=by rfl'
def IN_:Sp:=fun vs H Q _=>∃ (v:V)(N:Net Str),vs=[v]/\Rep H v (Go_ N)/\Fk_ N/\∀ v' H',EX_ H H'->Rep H' v' (Go_ N)->Q v' H'
abbrev E7_:Stmt:=stN 9
theorem aG_:E2_ ["one", "other", "pair", "rest"] ["one", "other"] (EW_ E7_):=⟨rfl,rfl,rfl,by rfl',rfl,by rfl',by rfl'⟩
theorem aH_:LK E7_ "one" .local:=by rfl'
theorem aA_:LK E7_ "other" .local:=by rfl'
theorem a8_:LK E7_ "pair" .local:=by rfl'
theorem cs_:LK E7_ "rest" .local:=by rfl'
theorem cx_:LK E7_ "LONG_BITS" .globalImplicit:=by rfl'
theorem dZ_:LK E7_ "max" .globalImplicit:=by rfl'
theorem d0_:LK E7_ "min" .globalImplicit:=by rfl'
def Jv_:Sp:=fun vs H Q _=>∃ a b:Int,vs=[.int a,.int b]/\0<=a/\0<=b/\Builtin.Int.intBits a<=8000/\Builtin.Int.intBits b<=8000/\∀ H',EX_ H H'->Q (.int (Int.gcd a b:Nat)) H'
theorem fB_ (T:Txt K mg)(F:Fn0 K mg "greatest_divisor" E7_):Cal P w K mg base "greatest_divisor" ["one", "other"] 1 Jv_:=by
 refine aR_ F aG_ (fun _ _ _ _ _ _=>byL2 fun _ _=>rfl) ?len ?body
 case len=>rintro vs H Q E ⟨a,b,rfl,_⟩;rfl
 case body =>
  intro f cdv A outer s H vs Q E hr h;obtain ⟨a,b,rfl,ha,hb,la,lb,k⟩:=h;refine' ⟨_,?D,?R⟩
  case D =>
   refine' ai_ (aj_ (i:=2) aG_.nd rfl a8_ (ax_ ?g4)) ?g2
   case' g4=>refine' pa_c (an_ (m6_ rfl) dZ_ T.n_max qR_ (pa_c (pv1 0 rfl aH_) (pa_c (pv1 1 rfl aA_) ab_))) (pa_c (an_ (m7_ rfl) d0_ T.n_min qS_ (pa_c (pv1 0 rfl aH_) (pa_c (pv1 1 rfl aA_) ab_))) ab_)
   case' g2=>refine' ai_ (fN_ Au_ (aq_ HR_ (pn_ PySem.F.plainAttrs_int PySem.F.slot_int_bit_length PySem.F.type_int_bit_length pV_ (E0_ am_ (pv1 2 rfl a8_) ac_ (fun _ _=>rfl))) ?g24 (E9_ _)) ?g22) (ai_ (aj_ (i:=0) aG_.nd rfl aH_ (E0_ am_ (pv1 2 rfl a8_) ac_ (fun _ _=>rfl))) ?g29)
   case g24=>exact pW_ T.c_LONG_BITS cx_
   case g22=>exact dq_
   case' g29=>refine' ai_ (aj_ (i:=1) aG_.nd rfl aA_ (E0_ am_ (pv1 2 rfl a8_) ac_ (fun _ _=>rfl))) (ai_ (fN_ Au_ (aq_ IU_ (pv1 1 rfl aA_) ac_ (E9_ _)) ?g41) (ag_ (au_ (pv1 0 rfl aH_))))
   case' g41=>refine' ai_ (aj_ (i:=3) aG_.nd rfl cs_ (EZ_ aK_ (pv1 0 rfl aH_) (pv1 1 rfl aA_))) (ai_ (aj_ (i:=0) aG_.nd rfl aH_ (pv1 1 rfl aA_)) (ag_ (aj_ (i:=1) aG_.nd rfl aA_ (pv1 3 rfl cs_))))
  case R =>
   nofun;refine ⟨(by decide),fun p hp=>?_⟩;refine hM_ (fun σ H1=>σ=[some (.int a),some (.int b),some (.ref p),none]/\H1=upd H p (.tup [V.int (if b > a then b else a),V.int (if b<a then b else a)])) (fun _ _=>0) ⟨rfl,rfl⟩ ?_;rintro σ H1 ⟨rfl,rfl⟩;nofun;have hm:¬ (8000:Int)<(Builtin.Int.intBits (if b<a then b else a):Nat):=by split <;> lia
   rw [if_neg hm]
   refine hM_ (fun σ H1=>∃ (x y:Int)(z:Option V),σ=[some (.int x),some (.int y),some (.ref p),z]/\H1=upd H p (.tup [V.int (if b > a then b else a),V.int (if b<a then b else a)])/\0<=x/\0<=y/\Int.gcd x y=Int.gcd a b)
    (fun σ _=>match σ with | [_,some (.int y),_,_]=>y.toNat|_=>0) ?_ ?_
   ·refine ⟨_,_,_,rfl,rfl,?_,?_,?_⟩
    ·split <;> lia
    ·split <;> lia
    ·by_cases h:b<a
     ·rw [if_pos h,if_neg (by lia)]
     ·rw [if_neg h];by_cases h':b > a
      ·rw [if_pos h',Int.gcd_comm]
      ·rw [if_neg h',Int.gcd_comm];congr 1 <;> lia
   ·rintro σ H1 ⟨x,y,z,rfl,rfl,hx,hy,e⟩;nofun;refine ite2 (fun hne=>?_) (fun he=>?_)
    ·refine ⟨_,N_ok,?_⟩;nofun;have h0:0<y:=by lia
     have h1:=AS_ x hne;have h2:=AN_ x h0;exact ⟨h0,hy,h1,(mf_ hx h0).trans e,by lia⟩
    ·have hy0:y=0:=CT_.mp he;have:x=(Int.gcd a b:Nat):=by rw [<-e,hy0,Int.gcd_zero_right];lia
     rw [this];exact k _ (EX_.new hp)
theorem qm_ (t b:Int):Int.gcd (if t<0 then -t else t) (if b<0 then -b else b)=Int.gcd t b:=by split <;> split <;> simp [Int.gcd_neg,EU_]
theorem ml_ {t:Int}{n:Nat}(h:Builtin.Int.intBits t<=n):Builtin.Int.intBits (if t<0 then -t else t)<=n :=
 AY_ (b:=t) (by split <;> lia) h
abbrev FG_:Stmt:=stN 10
theorem fC_:E2_ ["top", "bottom", "divisor"] ["top", "bottom"] (EW_ FG_):=⟨rfl,rfl,rfl,by rfl',rfl,by rfl',by rfl'⟩
theorem gb_:LK FG_ "top" .local:=by rfl'
theorem cA_:LK FG_ "bottom" .local:=by rfl'
theorem bY_:LK FG_ "divisor" .local:=by rfl'
theorem eA_:LK FG_ "abs" .globalImplicit:=by rfl'
theorem cB_:LK FG_ "greatest_divisor" .globalImplicit:=by rfl'
def F4_:Sp:=fun vs H Q _=>∃ t b:Int,vs=[.int t,.int b]/\b≠0/\Builtin.Int.intBits t<=8000/\Builtin.Int.intBits b<=8000/\∀ p H',EX_ H H'->H p=none->H' p=some (.tup [.int (nf t b).1,.int (nf t b).2])->Q (.ref p) H'
theorem lH_ (T:Txt K mg)(F:Fn0 K mg "fraction" FG_) (Gk_:Cal P w K mg base "greatest_divisor" ["one", "other"] 1 Jv_):Cal P w K mg base "fraction" ["top", "bottom"] 2 F4_:=by
 refine aR_ F fC_ (fun _ _ _ _ _ _=>byL2 fun _ _=>rfl) ?len ?body
 case len=>rintro vs H Q E ⟨a,b,rfl,_⟩;rfl
 case body =>
  intro f cdv A outer s H vs Q E hr h;obtain ⟨t,b,rfl,hb,lt,lb,k⟩:=h;refine' ⟨_,?D,?R⟩
  case D =>
   refine' ai_ (Fx_ (aq_ FZ_ (pv1 1 rfl cA_) ac_ (E9_ _)) (ag_ ?g8) aB_) ?g2
   case g8=>exact ot_
   case' g2=>refine' ai_ ?g9 (ai_ (Fx_ (aq_ Im_ (pv1 1 rfl cA_) ac_ (E9_ _)) (ag_ (aj_ (i:=2) fC_.nd rfl bY_ (LH_ qK_ (pv1 2 rfl bY_)))) aB_) ?g24)
   case' g9=>refine' aj_ (i:=2) fC_.nd rfl bY_ (al_ Gk_ (hr.mono (by decide)) cB_ (pa_c (an_ jk_ eA_ T.n_abs nh_ (pa_c (pv1 0 rfl gb_) ab_)) (pa_c (an_ jk_ eA_ T.n_abs nh_ (pa_c (pv1 1 rfl cA_) ab_)) ab_)))
   case' g24=>refine' ag_ (au_ (ax_ (pa_c (EZ_ lV_ (pv1 0 rfl gb_) (pv1 2 rfl bY_)) (pa_c (EZ_ lV_ (pv1 1 rfl cA_) (pv1 2 rfl bY_)) ab_))))
  case R =>
   nofun;rw [if_neg hb];refine ⟨_,_,rfl,?_,?_,ml_ lt,ml_ lb,fun H1 s1=>?_⟩
   ·split <;> lia
   ·split <;> lia
   ·rw [qm_];have g:=gpos (t:=t) hb;have d1:=DW_ (a:=t) (b:=b);have d2:=Cn_ (a:=t) (b:=b);have gl:(Int.gcd t b:Int).natAbs<=b.natAbs:=by have:=Ev_.mpr d2;exact Nat.le_of_dvd (by lia) this
    have lg:=pJ_ (g:=(Int.gcd t b:Int)) (by lia) gl lb;nofun;refine ite2 (fun hn=>?_) (fun hn=>?_)
    ·have e:nf t b=(t.fdiv (-(Int.gcd t b:Int)),b.fdiv (-(Int.gcd t b:Int))):=by unfold nf;rw [if_pos hn,Cd_ (Int.neg_dvd.mpr d1),Cd_ (Int.neg_dvd.mpr d2)]
     rw [e] at k;have lg':(-(Int.gcd t b:Int)).natAbs.log2<9000:=by rw [Int.natAbs_neg];exact lg
     exact ⟨by lia,lg',by lia,lg',by decide,fun p hp=>k p _ (s1.trans (EX_.new hp)) (s1.free hp) aa_⟩
    ·have e:nf t b=(t.fdiv (Int.gcd t b:Int),b.fdiv (Int.gcd t b:Int)):=by unfold nf;rw [if_neg hn,Cd_ d1,Cd_ d2]
     rw [e] at k;exact ⟨by lia,lg,by lia,lg,by decide,fun p hp=>k p _ (s1.trans (EX_.new hp)) (s1.free hp) aa_⟩
def FQ (K:PySem.W.Frag)(H:Hp)(v:V)(p:Int×Int):Prop:=∃ a,v=.ref a/\SqT K H a [.int p.1,.int p.2]
theorem FQ.of {H:Hp}{v:V}{p:Int×Int}(h:Rep H v (dF p)):FQ K H v p:=let ⟨a,h1,h2⟩:=fa_ h;⟨a,h1,SqT.of h2⟩
structure Sm (p:Int×Int):Prop where
 low:Low p
 top:Builtin.Int.intBits p.1<=1500
 bot:Builtin.Int.intBits p.2<=1500
theorem b6_ {x y:Int}{n m:Nat}(hx:Builtin.Int.intBits x<=n)(hy:Builtin.Int.intBits y<=m)(h:n+m<=9000):Builtin.Int.intBits (x*y)<=n+m/\Builtin.Int.intBits x+Builtin.Int.intBits y<=134217728:=⟨Bc_ hx hy,by lia⟩
theorem jM_ {x y:Int}{n:Nat}(hx:Builtin.Int.intBits x<=n)(hy:Builtin.Int.intBits y<=n):Builtin.Int.intBits (x-y)<=n+1:=by have h:Builtin.Int.intBits (-y)<=n:=AY_ (b:=y) (by lia) hy;have:=BB_ hx h;rw [Int.sub_eq_add_neg];lia
def GT_ (K:PySem.W.Frag)(t b:Int×Int->Int×Int->Int):Sp:=fun vs H Q _=>∃ v u p q,vs=[v,u]/\FQ K H v p/\FQ K H u q/\Sm p/\Sm q/\b p q≠0/\∀ z H',EX_ H H'->H z=none->H' z=some (.tup [.int (nf (t p q) (b p q)).1,.int (nf (t p q) (b p q)).2])->Q (.ref z) H'
abbrev G0_:Stmt:=stN 11
theorem qn_:E2_ ["one", "other"] ["one", "other"] (EW_ G0_):=⟨rfl,rfl,rfl,by rfl',rfl,by rfl',by rfl'⟩
theorem ik_:LK G0_ "one" .local:=by rfl'
theorem il_:LK G0_ "other" .local:=by rfl'
theorem hj_:LK G0_ "fraction" .globalImplicit:=by rfl'
theorem qo_ (T:Txt K mg)(F:Fn0 K mg "plus" G0_) (F0_:Cal P w K mg base "fraction" ["top", "bottom"] 2 F4_):Cal P w K mg base "plus" ["one", "other"] 3 (GT_ K (fun p q=>p.1*q.2+q.1*p.2) (fun p q=>p.2*q.2)):=by
 refine aR_ F qn_ (fun _ _ _ _ _ _=>byL2 fun _ _=>rfl) ?len ?body
 case len=>rintro vs H Q E ⟨a,b,c,d,rfl,_⟩;rfl
 case body =>
  intro f cdv A outer s H vs Q E hr h;obtain ⟨v,u,p,q,rfl,⟨x,rfl,hx⟩,⟨y,rfl,hy⟩,sp,sq,nz,k⟩:=h;have p1:=sp.top;have p2:=sp.bot;have q1:=sq.top;have q2:=sq.bot;have a1:=b6_ p1 q2 (by decide);have a2:=b6_ q1 p2 (by decide);have a3:=b6_ p2 q2 (by decide);have a4:=b6_ p1 q1 (by decide);have a5:=b6_ p2 q1 (by decide);have b1:=BB_ a1.1 a2.1;have b2:=jM_ a1.1 a2.1;refine' ⟨_,?D,?R⟩
  case D =>
   refine' ag_ (au_ (al_ F0_ (hr.mono (by decide)) hj_ (pa_c ?g4 (pa_c (EZ_ bS_ (E0_ (bV_ (K:=K) rfl) (pv1 0 rfl ik_) ac_ (fun _ _=>rfl)) (E0_ (bV_ (K:=K) rfl) (pv1 1 rfl il_) ac_ (fun _ _=>rfl))) ab_))))
   case' g4=>refine' EZ_ aY_ (EZ_ bS_ (E0_ (bV_ (K:=K) rfl) (pv1 0 rfl ik_) ac_ (fun _ _=>rfl)) (E0_ (bV_ (K:=K) rfl) (pv1 1 rfl il_) ac_ (fun _ _=>rfl))) (EZ_ bS_ (E0_ (bV_ (K:=K) rfl) (pv1 1 rfl il_) ac_ (fun _ _=>rfl)) (E0_ (bV_ (K:=K) rfl) (pv1 0 rfl ik_) ac_ (fun _ _=>rfl)))
  case R =>nofun;exact ⟨_,hx,_,FC_,_,hy,_,Fw_,_,rfl,_,rfl,by lia,_,hy,_,FC_,_,hx,_,Fw_,_,rfl,_,rfl,by lia,_,hx,_,Fw_,_,hy,_,Fw_,_,rfl,_,rfl,by lia,_,_,rfl,nz,by lia,by lia,fun z H' s' n' h'=>k z H' s' n' h'⟩
abbrev Gt_:Stmt:=stN 12
theorem o3_:E2_ ["one", "other"] ["one", "other"] (EW_ Gt_):=⟨rfl,rfl,rfl,by rfl',rfl,by rfl',by rfl'⟩
theorem i8_:LK Gt_ "one" .local:=by rfl'
theorem i9_:LK Gt_ "other" .local:=by rfl'
theorem gN_:LK Gt_ "fraction" .globalImplicit:=by rfl'
theorem o4_ (T:Txt K mg)(F:Fn0 K mg "times" Gt_) (F0_:Cal P w K mg base "fraction" ["top", "bottom"] 2 F4_):Cal P w K mg base "times" ["one", "other"] 3 (GT_ K (fun p q=>p.1*q.1) (fun p q=>p.2*q.2)):=by
 refine aR_ F o3_ (fun _ _ _ _ _ _=>byL2 fun _ _=>rfl) ?len ?body
 case len=>rintro vs H Q E ⟨a,b,c,d,rfl,_⟩;rfl
 case body =>
  intro f cdv A outer s H vs Q E hr h;obtain ⟨v,u,p,q,rfl,⟨x,rfl,hx⟩,⟨y,rfl,hy⟩,sp,sq,nz,k⟩:=h;have p1:=sp.top;have p2:=sp.bot;have q1:=sq.top;have q2:=sq.bot;have a1:=b6_ p1 q2 (by decide);have a2:=b6_ q1 p2 (by decide);have a3:=b6_ p2 q2 (by decide);have a4:=b6_ p1 q1 (by decide);have a5:=b6_ p2 q1 (by decide);have b1:=BB_ a1.1 a2.1;have b2:=jM_ a1.1 a2.1;refine' ⟨_,?D,?R⟩
  case D =>
   refine' ag_ (au_ (al_ F0_ (hr.mono (by decide)) gN_ ?g3))
   case' g3=>refine' pa_c (EZ_ bS_ (E0_ (bV_ (K:=K) rfl) (pv1 0 rfl i8_) ac_ (fun _ _=>rfl)) (E0_ (bV_ (K:=K) rfl) (pv1 1 rfl i9_) ac_ (fun _ _=>rfl))) (pa_c (EZ_ bS_ (E0_ (bV_ (K:=K) rfl) (pv1 0 rfl i8_) ac_ (fun _ _=>rfl)) (E0_ (bV_ (K:=K) rfl) (pv1 1 rfl i9_) ac_ (fun _ _=>rfl))) ab_)
  case R =>nofun;exact ⟨_,hx,_,FC_,_,hy,_,FC_,_,rfl,_,rfl,by lia,_,hx,_,Fw_,_,hy,_,Fw_,_,rfl,_,rfl,by lia,_,_,rfl,nz,by lia,by lia,fun z H' s' n' h'=>k z H' s' n' h'⟩
abbrev GX_:Stmt:=stN 13
theorem qp_:E2_ ["one", "other"] ["one", "other"] (EW_ GX_):=⟨rfl,rfl,rfl,by rfl',rfl,by rfl',by rfl'⟩
theorem kR_:LK GX_ "one" .local:=by rfl'
theorem kS_:LK GX_ "other" .local:=by rfl'
theorem hk_:LK GX_ "fraction" .globalImplicit:=by rfl'
theorem qq_ (T:Txt K mg)(F:Fn0 K mg "over" GX_) (F0_:Cal P w K mg base "fraction" ["top", "bottom"] 2 F4_):Cal P w K mg base "over" ["one", "other"] 3 (GT_ K (fun p q=>p.1*q.2) (fun p q=>p.2*q.1)):=by
 refine aR_ F qp_ (fun _ _ _ _ _ _=>byL2 fun _ _=>rfl) ?len ?body
 case len=>rintro vs H Q E ⟨a,b,c,d,rfl,_⟩;rfl
 case body =>
  intro f cdv A outer s H vs Q E hr h;obtain ⟨v,u,p,q,rfl,⟨x,rfl,hx⟩,⟨y,rfl,hy⟩,sp,sq,nz,k⟩:=h;have p1:=sp.top;have p2:=sp.bot;have q1:=sq.top;have q2:=sq.bot;have a1:=b6_ p1 q2 (by decide);have a2:=b6_ q1 p2 (by decide);have a3:=b6_ p2 q2 (by decide);have a4:=b6_ p1 q1 (by decide);have a5:=b6_ p2 q1 (by decide);have b1:=BB_ a1.1 a2.1;have b2:=jM_ a1.1 a2.1;refine' ⟨_,?D,?R⟩
  case D =>
   refine' ag_ (au_ (al_ F0_ (hr.mono (by decide)) hk_ ?g3))
   case' g3=>refine' pa_c (EZ_ bS_ (E0_ (bV_ (K:=K) rfl) (pv1 0 rfl kR_) ac_ (fun _ _=>rfl)) (E0_ (bV_ (K:=K) rfl) (pv1 1 rfl kS_) ac_ (fun _ _=>rfl))) (pa_c (EZ_ bS_ (E0_ (bV_ (K:=K) rfl) (pv1 0 rfl kR_) ac_ (fun _ _=>rfl)) (E0_ (bV_ (K:=K) rfl) (pv1 1 rfl kS_) ac_ (fun _ _=>rfl))) ab_)
  case R =>nofun;exact ⟨_,hx,_,FC_,_,hy,_,Fw_,_,rfl,_,rfl,by lia,_,hx,_,Fw_,_,hy,_,FC_,_,rfl,_,rfl,by lia,_,_,rfl,nz,by lia,by lia,fun z H' s' n' h'=>k z H' s' n' h'⟩
def Jc_ (t:Int×Int->Int×Int->Int):Sp:=fun vs H Q _=>∃ v u p q,vs=[v,u]/\Rep H v (dF p)/\Rep H u (dF q)/\0<p.2/\0<q.2/\Builtin.Int.intBits p.1<=3900/\Builtin.Int.intBits p.2<=3900/\Builtin.Int.intBits q.1<=3900/\Builtin.Int.intBits q.2<=3900 /\
 ∀ z H',EX_ H H'->Rep (GK_ H H') (.ref z) (dF (nf (t p q) (p.2*q.2)))->Q (.ref z) H'
abbrev GY_:Stmt:=stN 68
theorem qr_:E2_ ["_law_one", "_law_other"] ["_law_one", "_law_other"] (EW_ GY_):=⟨rfl,rfl,rfl,by rfl',rfl,by rfl',by rfl'⟩
theorem im_:LK GY_ "_law_one" .local:=by rfl'
theorem in_:LK GY_ "_law_other" .local:=by rfl'
theorem kT_:LK GY_ "_law_low" .globalImplicit:=by rfl'
theorem qs_ (T:Txt K mg)(F:Fn0 K mg "_law_add" GY_) (GF_:Cal P w K mg base "_law_low" ["_law_top", "_law_bottom"] 1 Hu_):Cal P w K mg base "_law_add" ["_law_one", "_law_other"] 2 (Jc_ (fun p q=>p.1*q.2+q.1*p.2)):=by
 refine aR_ F qr_ (fun _ _ _ _ _ _=>byL2 fun _ _=>rfl) ?len ?body
 case len=>rintro vs H Q E ⟨a,b,c,d,rfl,_⟩;rfl
 case body =>
  intro f cdv A outer s H vs Q E hr h;obtain ⟨v,u,p,q,rfl,hv,hu,p0,q0,p1,p2,q1,q2,k⟩:=h;obtain ⟨x,rfl,hx⟩:=fa_ hv;obtain ⟨y,rfl,hy⟩:=fa_ hu;have a3:=b6_ p2 q2 (by decide);refine' ⟨_,?D,?R⟩
  case D =>
   refine' ag_ (au_ (al_ GF_ (hr.mono (by decide)) kT_ (pa_c ?g4 (pa_c (EZ_ bS_ (E0_ am_ (pv1 0 rfl im_) ac_ (fun _ _=>rfl)) (E0_ am_ (pv1 1 rfl in_) ac_ (fun _ _=>rfl))) ab_))))
   case' g4=>refine' EZ_ aY_ (EZ_ bS_ (E0_ am_ (pv1 0 rfl im_) ac_ (fun _ _=>rfl)) (E0_ am_ (pv1 1 rfl in_) ac_ (fun _ _=>rfl))) (EZ_ bS_ (E0_ am_ (pv1 1 rfl in_) ac_ (fun _ _=>rfl)) (E0_ am_ (pv1 0 rfl im_) ac_ (fun _ _=>rfl)))
  case R =>nofun;simp only [hx,hy,Cl_,HO.tup.injEq,Dm_];nofun;exact ⟨by lia,by lia,by lia,_,_,rfl,Br_ p0 q0,by lia,fun z H' s' rep=>k z H' s' rep⟩
abbrev GV_:Stmt:=stN 69
theorem qt_:E2_ ["_law_one", "_law_other"] ["_law_one", "_law_other"] (EW_ GV_):=⟨rfl,rfl,rfl,by rfl',rfl,by rfl',by rfl'⟩
theorem kU_:LK GV_ "_law_one" .local:=by rfl'
theorem kV_:LK GV_ "_law_other" .local:=by rfl'
theorem kW_:LK GV_ "_law_low" .globalImplicit:=by rfl'
theorem qu_ (T:Txt K mg)(F:Fn0 K mg "_law_mul" GV_) (GF_:Cal P w K mg base "_law_low" ["_law_top", "_law_bottom"] 1 Hu_):Cal P w K mg base "_law_mul" ["_law_one", "_law_other"] 2 (Jc_ (fun p q=>p.1*q.1)):=by
 refine aR_ F qt_ (fun _ _ _ _ _ _=>byL2 fun _ _=>rfl) ?len ?body
 case len=>rintro vs H Q E ⟨a,b,c,d,rfl,_⟩;rfl
 case body =>
  intro f cdv A outer s H vs Q E hr h;obtain ⟨v,u,p,q,rfl,hv,hu,p0,q0,p1,p2,q1,q2,k⟩:=h;obtain ⟨x,rfl,hx⟩:=fa_ hv;obtain ⟨y,rfl,hy⟩:=fa_ hu;have a3:=b6_ p2 q2 (by decide);refine' ⟨_,?D,?R⟩
  case D =>
   refine' ag_ (au_ (al_ GF_ (hr.mono (by decide)) kW_ ?g3))
   case' g3=>refine' pa_c (EZ_ bS_ (E0_ am_ (pv1 0 rfl kU_) ac_ (fun _ _=>rfl)) (E0_ am_ (pv1 1 rfl kV_) ac_ (fun _ _=>rfl))) (pa_c (EZ_ bS_ (E0_ am_ (pv1 0 rfl kU_) ac_ (fun _ _=>rfl)) (E0_ am_ (pv1 1 rfl kV_) ac_ (fun _ _=>rfl))) ab_)
  case R =>nofun;simp only [hx,hy,Cl_,HO.tup.injEq,Dm_];nofun;exact ⟨by lia,by lia,_,_,rfl,Br_ p0 q0,by lia,fun z H' s' rep=>k z H' s' rep⟩
def KM_:Sp:=fun vs H Q _=>∃ v u p q,vs=[v,u]/\Rep H v (dF p)/\Rep H u (dF q)/\0<p.2/\0<q.1/\Builtin.Int.intBits p.1<=3900/\Builtin.Int.intBits p.2<=3900/\Builtin.Int.intBits q.1<=3900/\Builtin.Int.intBits q.2<=3900 /\
 ∀ z H',EX_ H H'->Rep (GK_ H H') (.ref z) (dF (nf (p.1*q.2) (p.2*q.1)))->Q (.ref z) H'
abbrev Ij_:Stmt:=stN 70
theorem rd_:E2_ ["_law_one", "_law_other"] ["_law_one", "_law_other"] (EW_ Ij_):=⟨rfl,rfl,rfl,by rfl',rfl,by rfl',by rfl'⟩
theorem mm_:LK Ij_ "_law_one" .local:=by rfl'
theorem mn_:LK Ij_ "_law_other" .local:=by rfl'
theorem lI_:LK Ij_ "_law_low" .globalImplicit:=by rfl'
theorem re_ (T:Txt K mg)(F:Fn0 K mg "_law_by" Ij_) (GF_:Cal P w K mg base "_law_low" ["_law_top", "_law_bottom"] 1 Hu_):Cal P w K mg base "_law_by" ["_law_one", "_law_other"] 2 KM_:=by
 refine aR_ F rd_ (fun _ _ _ _ _ _=>byL2 fun _ _=>rfl) ?len ?body
 case len=>rintro vs H Q E ⟨a,b,c,d,rfl,_⟩;rfl
 case body =>
  intro f cdv A outer s H vs Q E hr h;obtain ⟨v,u,p,q,rfl,hv,hu,p0,q0,p1,p2,q1,q2,k⟩:=h;obtain ⟨x,rfl,hx⟩:=fa_ hv;obtain ⟨y,rfl,hy⟩:=fa_ hu;have a3:=b6_ p2 q1 (by decide);refine' ⟨_,?D,?R⟩
  case D =>
   refine' ag_ (au_ (al_ GF_ (hr.mono (by decide)) lI_ ?g3))
   case' g3=>refine' pa_c (EZ_ bS_ (E0_ am_ (pv1 0 rfl mm_) ac_ (fun _ _=>rfl)) (E0_ am_ (pv1 1 rfl mn_) ac_ (fun _ _=>rfl))) (pa_c (EZ_ bS_ (E0_ am_ (pv1 0 rfl mm_) ac_ (fun _ _=>rfl)) (E0_ am_ (pv1 1 rfl mn_) ac_ (fun _ _=>rfl))) ab_)
  case R =>nofun;simp only [hx,hy,Cl_,HO.tup.injEq,Dm_];nofun;exact ⟨by lia,by lia,_,_,rfl,Br_ p0 q0,by lia,fun z H' s' rep=>k z H' s' rep⟩
structure Exs (K:PySem.W.Frag)(mg:Str->Option Value)(CS:Addr):Prop where
 m_NoStep:mg "NoStep" = some (.ref CS)
 own_NoStep:ExC K CS
 hnd_NoStep:HnC K CS
 sub:PySem.W.mroIn K CS (.ref CS)=some true
variable {CR CS:Addr}
theorem n8_ {C:Addr}{E:XK}{v:V}{D:G7_}{σ:L2.St}{H:Hp}(h:E (.ref C) none H):JD_ C E (Ie_ (tC v) Kr_) D σ H:=⟨by show 1<=sizeLine;decide,h⟩
theorem jN_:bootBuiltins "dict" = some (.type "dict"):=by rfl'
theorem bZ_ {X:Cx}(hK:X.K=K):OpR X (compareOp .NotIn) (rIn K true):=by subst hK;exact ka_
theorem rf_ {X:Cx}(hK:X.K=K):OpR X (compareOp .In) (rIn K false):=by subst hK;exact nd_
theorem gc_ (x:Str):∀ (r:List Str),inV (.str x) (r.map V.str)=decide (x∈r)
 | []=>rfl
 | y::r=>by
  have:=gc_ x r;simp only [inV,AB_,B2_,eqV] at this ⊢;rw [this];by_cases h:y=x
  ·subst h;simp
  ·have h2:x≠y:=fun z=>h z.symm;simp [h,h2]
theorem hI_:∀ (kvs D:List (Key×V)),((D++kvs).map (·.1)).Nodup->FB_ D kvs=D++kvs
 | [],D,_=>by rw [Bd_];rfl
 | kv::kvs,D,h=>by
  have hn:Ft_ D kv.1=none:=by
   cases e:Ft_ D kv.1 with
   | none=>rfl
   | some v =>have h1:=p1_ e;rw [Ap_,A0_] at h;exact absurd rfl (h.2.2 _ h1 kv.1 (by simp))
  show FB_ (FR_ D kv.1 kv.2) kvs=_;rw [oG_ _ hn,hI_ kvs (D++[kv]) (by rw [A5_];exact h),A5_];rfl
theorem jO_:∀ {kvs:List (Key×V)}{k:Key}{v:V},(kvs.map (·.1)).Nodup->(k,v)∈kvs->Ft_ kvs k=some v
 | kv::kvs,k,v,h,hm=>by
  rcases Ao_.mp hm with e|e
  ·rw [<-e];exact bz_ rfl
  ·have h':=AW_.mp h;rw [bw_ (fun c=>h'.1 (Al_.mpr ⟨_,e,(show kv.1=k from c).symm⟩))];exact jO_ h'.2 e
def wN (N:Net Str)(x:Str):Int×Int:=((N.worths.find? fun r=>decide (r.1=x)).map (·.2)).getD (0,1)
def p2 (kv:Str×List (End Str)):Str:=(kv.2[1]?.map (·.1)).getD Str.empty
theorem jP_ {H:Hp}:∀ {rs:List V}{rows:List (Str×List Str)},Fg_ H rs (rows.map dRw)->∃ kvs:List (Key×V),kvs.map (·.1)=rows.map (fun r=>Sum.inr r.1)/\rs.length=kvs.length/\(∀ (i:Nat)(q:Key×V),kvs[i]?=some q->∃ a,rs[i]?=some (.ref a)/\H a=some (.tup [kV q.1,q.2]))/\∀ r∈rows,∃ l,(Sum.inr r.1,V.ref l)∈kvs/\H l=some (.lst (r.2.map V.str))
 | _,[],h=>by
  cases h;exact ⟨[],rfl,rfl,fun i q e=>(nomatch e),fun r hr=>(nomatch hr)⟩
 | _,r::rows,⟨x,l,e,hx,hl⟩=>by
  subst e;obtain ⟨kvs,k1,k2,k3,k4⟩:=jP_ hl;obtain ⟨q,l',e1,hq,hl'⟩:=n7_ hx;subst e1;refine ⟨(.inr r.1,.ref l')::kvs,by rw [AB_,AB_,k1],by rw [AH_,AH_,k2],fun i z e=>?_,fun r' hr=>?_⟩
  ·cases i with
   | zero=>cases e;exact ⟨q,rfl,hq⟩
   | succ i=>exact k3 i z e
  ·rcases Ao_.mp hr with rfl|hr
   ·exact ⟨l',At_,hl'⟩
   ·obtain ⟨v,hv1,hv2⟩:=k4 r' hr;exact ⟨v,An_ _ hv1,hv2⟩
theorem lJ_ {H:Hp}{v:V}{e:End Str}(h:Rep H v (dE e)):∃ q,v=.ref q/\H q=some (.tup [.str e.1,.int e.2]):=by obtain ⟨q,_,rfl,hq,_,_,rfl,hx1,_,_,rfl,hx2,rfl⟩:=h;cases hx1;cases hx2;exact ⟨q,rfl,hq⟩
theorem qv_ {H:Hp}{l:Addr}{a b:End Str}(h:Rep H (.ref l) (.lst [dE a,dE b])):∃ p q,H l=some (.lst [.ref p,.ref q])/\H p=some (.tup [.str a.1,.int a.2])/\H q=some (.tup [.str b.1,.int b.2]):=by obtain ⟨_,ys,e0,hl,x,_,rfl,hx,y,_,rfl,hy,rfl⟩:=h;cases e0;obtain ⟨p,rfl,hp⟩:=lJ_ hx;obtain ⟨q,rfl,hq⟩:=lJ_ hy;exact ⟨p,q,hl,hp,hq⟩
variable {P:Program}{w:World}{K:PySem.W.Frag}{mg:Str->Option Value}{base:Heap}{CR CS:Addr}
structure GE_ (H H':Hp)(v:V)(M:Net Str):Prop where
 rep:Rep H' v (Go_ M)
 new:∃ (pn p0 p1 p2:Addr)(rs:List V),v=.ref pn/\H' pn=some (.tup [.ref p0,.ref p1,.ref p2])/\H' p1=some (.lst rs)/\H p0=none/\H p1=none/\H p2=none/\p0≠p1/\∀ (i:Nat)(x:V),rs[i]?=some x->∃ q nm l,x=.ref q/\H' q=some (.tup [.str nm,.ref l])/\H l=none
def cut2 (H:Hp)(R T:Addr):Hp:=fun b=>if b=R\/b=T then none else H b
theorem n9_ {H:Hp}{R T b:Addr}(h1:b≠R)(h2:b≠T):cut2 H R T b=H b:=if_neg (fun z=>z.elim h1 h2)
theorem oa_ {H:Hp}{R T:Addr}:EX_ (cut2 H R T) H:=fun b o h=>by
 unfold cut2 at h;split at h
 ·cases h
 ·exact h
theorem io_ {H H':Hp}{R T:Addr}(h:∀ b o,b≠R->b≠T->H b=some o->H' b=some o):EX_ (cut2 H R T) (cut2 H' R T):=fun b o e=>by
 unfold cut2 at e ⊢;split at e
 ·cases e
 ·rename_i z;rw [if_neg z];exact h b o (fun c=>z (.inl c)) (fun c=>z (.inr c)) e
structure Ch (H0 H:Hp)(R T:Addr)(rows rt:List (Str×List Str)):Prop where
 s0:EX_ H0 H
 nR:H0 R=none
 nT:H0 T=none
 ne:R≠T
 hR:∃ ys,H R=some (.lst ys)/\Fg_ (cut2 H R T) ys (rows.map dRw)/\∀ (i:Nat)(x:V),ys[i]?=some x->∃ q nm l,x=.ref q/\cut2 H R T q=some (.tup [.str nm,.ref l])/\H0 l=none
 hT:∃ kv,H T=some (.dK kv)/\kv.length<=(rt.map (·.2)).flatten.length/\∀ x,(Ft_ kv (.inr x)).isSome=decide (x∈(rt.map (·.2)).flatten)
theorem Ch.mono {H0 H H':Hp}{R T:Addr}{rows rt:List (Str×List Str)}(c:Ch H0 H R T rows rt)(s:EX_ H H'):Ch H0 H' R T rows rt:=by have sc:EX_ (cut2 H R T) (cut2 H' R T):=io_ fun b o _ _ e=>s _ _ e;obtain ⟨ys,h1,h2,h3⟩:=c.hR;obtain ⟨kv,g1,g2,g3⟩:=c.hT;exact ⟨c.s0.trans s,c.nR,c.nT,c.ne,⟨ys,s _ _ h1,Fg_.mono sc _ h2,fun i x hx=>(h3 i x hx).elim fun q z=>⟨q,z.elim fun nm z=>⟨nm,z.elim fun l z=>⟨l,z.1,sc _ _ z.2.1,z.2.2⟩⟩⟩⟩,⟨kv,s _ _ g1,g2,g3⟩⟩
theorem Ch.addR {H0 H:Hp}{R T Kp t:Addr}{rows rt:List (Str×List Str)}(c:Ch H0 H R T rows rt){ys:List V}{p:Str}{ws:List Str}(hy:H R=some (.lst ys))(hK:H Kp=some (.lst (ws.map V.str)))(kR:Kp≠R)(kT:Kp≠T)(k0:H0 Kp=none)(nt:H t=none) :
  Ch H0 (upd (upd H t (.tup [.str p,.ref Kp])) R (.lst (ys++[.ref t]))) R T (rows++[(p,ws)]) rt:=by
 obtain ⟨ys',h1,h2,h3⟩:=c.hR;rw [hy] at h1;cases h1;obtain ⟨kv,g1,g2,g3⟩:=c.hT;have tR:t≠R:=(af_ hy nt).symm;have tT:t≠T:=(af_ g1 nt).symm;have tK:Kp≠t:=af_ hK nt;have sc:EX_ (cut2 H R T) (cut2 (upd (upd H t (.tup [.str p,.ref Kp])) R (.lst (ys++[.ref t]))) R T):=io_ fun b o b1 _ e=>by rw [ah_ b1];exact (EX_.new nt) _ _ e
 have ct:cut2 (upd (upd H t (.tup [.str p,.ref Kp])) R (.lst (ys++[.ref t]))) R T t=some (.tup [.str p,.ref Kp]):=by rw [n9_ tR tT,ah_ tR,aa_]
 refine ⟨(c.s0.trans (EX_.new nt)).upd c.nR,c.nR,c.nT,c.ne,⟨_,aa_,?_,fun i x hx=>?_⟩,⟨kv,?_,g2,g3⟩⟩
 ·rw [Ap_];refine (Fg_.mono sc _ h2).append ⟨_,_,rfl,⟨t,_,rfl,ct,_,_,rfl,rfl,_,_,rfl,⟨Kp,_,rfl,?_,a2_ _⟩,rfl⟩,rfl⟩;rw [n9_ kR kT,ah_ kR,ah_ tK];exact hK
 ·by_cases hi:i<ys.length
  ·rw [AP_ hi] at hx;obtain ⟨q,nm,l,e1,e2,e3⟩:=h3 i x hx;exact ⟨q,nm,l,e1,sc _ _ e2,e3⟩
  ·rw [A2_ (by lia)] at hx;have:i-ys.length=0:=by have:=(Ag_.mp hx).1;simp at this;lia
   rw [this] at hx;cases hx;exact ⟨t,p,Kp,rfl,ct,k0⟩
 ·rw [ah_ c.ne.symm];exact (EX_.new nt) _ _ g1
theorem ip_ (k:Key):∀ (more kvs:List (Key×V)),(Ft_ (FB_ kvs more) k).isSome=((Ft_ kvs k).isSome || more.any fun q=>decide (q.1=k))
 | [],kvs=>by simp [FB_]
 | p::more,kvs=>by
  show (Ft_ (FB_ (FR_ kvs p.1 p.2) more) k).isSome=_;rw [ip_ k more,a7_,B2_];by_cases e:k=p.1
  ·subst e;simp
  ·have e':¬ p.1=k:=fun z=>e z.symm;simp [e,e']
theorem Ch.addT {H0 H:Hp}{R T:Addr}{rows rt:List (Str×List Str)}(c:Ch H0 H R T rows rt){kv:List (Key×V)}{p:Str}{ws:List Str}(hT:H T=some (.dK kv)) :
  Ch H0 (upd H T (.dK (FB_ kv (ws.map fun x=>(Sum.inr x,V.bl true))))) R T rows (rt++[(p,ws)]):=by
 obtain ⟨ys,h1,h2,h3⟩:=c.hR;obtain ⟨kv',g1,g2,g3⟩:=c.hT;rw [hT] at g1;cases g1;have sc:EX_ (cut2 H R T) (cut2 (upd H T (.dK (FB_ kv (ws.map fun x=>(Sum.inr x,V.bl true))))) R T):=io_ fun b o _ b2 e=>by rw [ah_ b2];exact e
 have e:((rt++[(p,ws)]).map (·.2)).flatten=(rt.map (·.2)).flatten++ws:=by rw [Ap_,A6_];simp
 refine ⟨c.s0.upd c.nT,c.nR,c.nT,c.ne,⟨ys,by rw [ah_ c.ne];exact h1,Fg_.mono sc _ h2,fun i x hx=>(h3 i x hx).elim fun q z=>⟨q,z.elim fun nm z=>⟨nm,z.elim fun l z=>⟨l,z.1,sc _ _ z.2.1,z.2.2⟩⟩⟩⟩,⟨_,aa_,?_,fun x=>?_⟩⟩
 ·have:=dK_ (ws.map fun x=>(Sum.inr x,V.bl true)) kv;rw [Ab_] at this;rw [e,Ah_];lia
 ·rw [ip_,g3,e,List.any_map]
  have:(ws.any ((fun q:Key×V=>decide (q.1=Sum.inr x)) ∘ fun y=>(Sum.inr y,V.bl true)))=decide (x∈ws):=by
   rw [B0_,DV_,Cj_];constructor
   ·rintro ⟨y,hy,hz⟩;have:(Sum.inr y:Key)=Sum.inr x:=AG_ hz;rw [<-Bx_ this];exact hy
   ·intro h;exact ⟨x,h,AQ_ rfl⟩
  rw [this,<-Bool.decide_or];exact BM_.mpr Ax_.symm
def eK (e:End Str):List Key:=[.inr e.1,.inl e.2]
theorem ja_:∀ {l:List Nat}{n:Nat},n∈l->n<=l.sum
 | a::l,n,h=>by
  rw [List.sum_cons]
  rcases Ao_.mp h with rfl|h
  ·lia
  ·have:=ja_ h;lia
theorem iq_ {a b:End Str}(h:eK a=eK b):a=b:=by
 unfold eK at h;injection h with h1 h2
 injection h2 with h3
 exact B9_ (Bx_ h1) (Int.ofNat.inj (ET_ h3))
def dPt (x:Str):Dt:=.tup [.str x,.bl true]
theorem o5_ {H:Hp}{p:Addr}{ks:List Str}(h:Rep H (.ref p) (.lst (ks.map dPt))):JF_ H p (ks.map fun x=>(Sum.inr x,V.bl true)):=by
 obtain ⟨_,ys,e0,hp,hys⟩:=h;cases e0;have yl:ys.length=ks.length:=by rw [hys.length,Ab_]
 refine ⟨ys,hp,by rw [yl,Ab_],fun i q hq=>?_⟩;rw [Ae_] at hq;cases e:ks[i]? with
 | none=>rw [e] at hq;cases hq
 | some x =>rw [e] at hq;cases hq;obtain ⟨v,hv,hr⟩:=hys.get (i:=i) (d:=dPt x) (by rw [Ae_,e];rfl);obtain ⟨a,_,rfl,ha,_,_,rfl,hx1,_,_,rfl,hx2,rfl⟩:=hr;cases hx1;cases hx2;exact ⟨a,hv,ha⟩
theorem ir_ {H:Hp}{ws:List V}{wo:List (Str×(Int×Int))}{i:Nat}{x:V}(h:Fg_ H ws (wo.map dWo))(e:ws[i]?=some x):∃ r q u,wo[i]?=some r/\x=.ref q/\H q=some (.tup [.str r.1,.ref u])/\H u=some (.tup [.int r.2.1,.int r.2.2]):=by
 obtain ⟨d,hd,hr⟩:=h.of_get e;rw [Ae_] at hd;cases z:wo[i]? with
 | none=>rw [z] at hd;cases hd
 | some r =>rw [z] at hd;cases hd;obtain ⟨a,_,ea,ha,x1,_,e1,hx1,x2,_,e2,hx2,e3⟩:=hr;subst e3 e2 e1;cases hx1;obtain ⟨u,rfl,hu⟩:=fa_ hx2;exact ⟨r,a,u,rfl,ea,ha,hu⟩
theorem kX_ {α β:Type}(l:List α)(z:α)(p:α->Bool)(f:α->β):((List.range l.length).filter fun j=>p (l.getD j z)).map (fun j=>f (l.getD j z))=(l.filter p).map f:=by
 have e:=eT_ z l
 have:l.filter p=(((List.range l.length).filter fun j=>p (l.getD j z))).map fun j=>l.getD j z:=by
  conv=>lhs;rw [<-e]
  rw [Ck_];rfl
 rw [this,Bf_];rfl
abbrev Fh_:Stmt:=stN 31
theorem bO_:E2_ ["net", "instead", "gone", "worths", "rows", "standing", "point", "wires", "kept", "place", "wire"] ["net", "instead", "gone", "worths"] (EW_ Fh_):=⟨rfl,rfl,rfl,by rfl',rfl,by rfl',by rfl'⟩
theorem eB_:LK Fh_ "net" .local:=by rfl'
theorem kY_:LK Fh_ "instead" .local:=by rfl'
theorem kZ_:LK Fh_ "gone" .local:=by rfl'
theorem eC_:LK Fh_ "rows" .local:=by rfl'
theorem hc_:LK Fh_ "standing" .cell:=by rfl'
theorem c9_:LK Fh_ "point" .local:=by rfl'
theorem hd_:LK Fh_ "wires" .local:=by rfl'
theorem da_:LK Fh_ "kept" .local:=by rfl'
theorem he_:LK Fh_ "place" .local:=by rfl'
theorem gd_:LK Fh_ "wire" .local:=by rfl'
theorem e6_:LK Fh_ "enumerate" .globalImplicit:=by rfl'
theorem is_:LK Fh_ "list" .globalImplicit:=by rfl'
structure Ins (H:Hp)(di dw:Addr)(ins:End Str->Option (List Str))(wf:Str->Option (Int×Int)):Prop where
 d:∃ kvs,H di=some (.dT kvs)/\∀ e,match ins e with|none=>Ft_ kvs (eK e)=none|some ls=>∃ l,Ft_ kvs (eK e)=some (.ref l)/\H l=some (.lst (ls.map V.str))
 w:∃ kw,H dw=some (.dK kw)/\∀ x,match wf x with|none=>Ft_ kw (.inr x)=none|some p=>∃ v,Ft_ kw (.inr x)=some v/\Rep H v (dF p)
 two:∀ e l,ins e=some l->l.length<=2
def Kv_:Sp:=fun vs H Q _=>∃ (v:V)(N:Net Str)(di gl dw:Addr)(ins:End Str->Option (List Str))(g:List Str)(wf:Str->Option (Int×Int)),vs=[v,.ref di,.ref gl,.ref dw]/\Rep H v (Go_ N)/\Fk_ N/\Ins H di dw ins wf/\H gl=some (.lst (g.map V.str))/\∀ v' H',EX_ H H'->GE_ H H' v' (chG N ins g wf)->Q v' H'
theorem mN_ (T:Txt K mg)(F:Fn0 K mg "changed" Fh_):Cal P w K mg base "changed" ["net", "instead", "gone", "worths"] 1 Kv_:=by
 refine aR_ F bO_ (fun _ _ _ _ _ _=>byL4 fun _ _ _ _=>rfl) ?len ?body
 case len=>rintro vs H Q E ⟨a,b,c,d,e,f,g,h,rfl,_⟩;rfl
 case body =>
  intro f cdv A outer s H vs Q E hr h;obtain ⟨v,N,di,gl,dw,ins,g,wf,rfl,hv,ok,hin,hgl,k⟩:=h;obtain ⟨kvs,hdi,hdi2⟩:=hin.d;obtain ⟨kw,hdw,hdw2⟩:=hin.w;obtain ⟨pn,p0,p1,p2,rs,ws,rfl,hn,h0,h1,r1,h2,r2⟩:=bC_ hv;have rl:rs.length=N.rows.length:=by rw [r1.length,Ab_]
  have few:=ok.few;have tot:=ok.tot;refine' ⟨_,?D,?R⟩
  case D =>
   refine' ad_ (aj_ (i:=4) bO_.nd rfl eC_ (a5_ ab_)) (ad_ (de_ (i:=5) bO_.nd rfl hc_ rfl dJ_ rfl) ?g6)
   case' g6=>refine' ad_ (aV_ Au_ rfl (ay_ (K:=K) rfl (E0_ am_ (pv1 0 rfl eB_) ac_ (fun _ _=>rfl))) (aJ_ (K:=K) (n:=2) rfl rfl (ak_ ?g17 (ak_ ?g19 aC_))) ?g12) (ag_ ?g90)
   case g17=>exact ae_ (i:=6) bO_.nd rfl c9_
   case g19=>exact ae_ (i:=7) bO_.nd rfl hd_
   case' g12=>refine' ag_ (Fx_ (aq_ (bZ_ (K:=K) rfl) (pv1 6 rfl c9_) (pv1 2 rfl kZ_) (by with_unfolding_all rfl)) (ad_ (aj_ (i:=8) bO_.nd rfl da_ (a5_ ab_)) (ad_ ?g31 ?g32)) aB_)
   case' g31=>refine' aV_ Au_ rfl (lj_ (K:=K) rfl e6_ T.n_enumerate (pa_c (pv1 7 rfl hd_) ab_)) (aJ_ (K:=K) (n:=2) rfl rfl (ak_ ?g40 (ak_ ?g42 aC_))) (ag_ (aI_ ?g45))
   case g40=>exact ae_ (i:=9) bO_.nd rfl he_
   case g42=>exact ae_ (i:=10) bO_.nd rfl gd_
   case' g45=>refine' FQ_ Aw_ PySem.F.slot_list_extend PySem.F.type_list_extend ne_ (pv1 8 rfl da_) (pa_c (hy_ (un1 hr.units) (pv1 1 rfl kY_) (ax_ (pa_c (pv1 6 rfl c9_) (pa_c (pv1 9 rfl he_) ab_))) (a5_ (pa_c (pv1 10 rfl gd_) ab_)) ⟨rfl,rfl,rfl,rfl⟩) ab_)
   case' g32=>refine' ad_ (aI_ (FQ_ Aw_ AK_ AL_ aT_ (pv1 4 rfl eC_) (pa_c (ax_ (pa_c (pv1 6 rfl c9_) (pa_c (pv1 8 rfl da_) ab_))) ab_))) (ag_ ?g73)
   case' g73=>refine' aI_ (FQ_ BF_ PySem.F.slot_dict_update PySem.F.type_dict_update (mE_ rfl) (pvc 5 rfl hc_) (pa_c (bd_ (N':=["wire"]) (ix:=[none]) rfl rfl (a6_ ?g79) (ay_ (K:=K) rfl (pv1 8 rfl da_)) (fun _ _ _=>?g81) (fun _ _ _=>?g82) (fun _ _ _=>(ax_ (pa_c (pv1 0 rfl rfl) (pa_c Gj_ ab_))))) ab_))
   case g79=>exact (by show Ge_ (EW_ Fh_) ["net", "instead", "gone", "worths", "rows", "standing", "point", "wires", "kept", "place", "wire"] _ _ _=true;decide +kernel)
   case g81=>exact ae_ (i:=0) (by show List.Nodup (["wire"]:List Str);decide +kernel) rfl rfl
   case g82=>exact cn_
   case' g90=>refine' au_ (ax_ (pa_c (aX_ bL_ is_ T.n_list dc_ (pa_c (E0_ am_ (pv1 0 rfl eB_) ac_ (fun _ _=>rfl)) ab_)) (pa_c (pv1 4 rfl eC_) (pa_c ?g102 ab_))))
   case' g102=>refine' bd_ (N':=["wire", "worth", "standing", "worths"]) (ix:=[none,none,some 5,some 3]) rfl rfl (a6_ ?g104) (ay_ (K:=K) rfl (E0_ am_ (pv1 0 rfl eB_) ac_ (fun _ _=>rfl))) (fun _ _ _=>(aJ_ (K:=K) (n:=2) rfl rfl (ak_ ?g113 (ak_ ?g115 aC_)))) (fun _ _ _=>(ec_ (j3_ (ps_ (un1 hr.units) (pv1 0 rfl rfl) (pvc 2 rfl rfl))))) (fun _ _ _=>?g108)
   case g104=>exact (by show Ge_ (EW_ Fh_) ["net", "instead", "gone", "worths", "rows", "standing", "point", "wires", "kept", "place", "wire"] _ _ _=true;decide +kernel)
   case g113=>exact ae_ (i:=0) (by show List.Nodup (["wire", "worth", "standing", "worths"]:List Str);decide +kernel) rfl rfl
   case g115=>exact ae_ (i:=1) (by show List.Nodup (["wire", "worth", "standing", "worths"]:List Str);decide +kernel) rfl rfl
   case' g108=>refine' ax_ (pa_c (pv1 0 rfl rfl) (pa_c (hy_ (un1 hr.units) (pvc 3 rfl rfl) (pv1 0 rfl rfl) (pv1 1 rfl rfl) ⟨rfl,rfl,rfl,rfl⟩) ab_))
  case R =>
   nofun;refine ⟨AA_ _,fun R nR=>?_⟩;have S1:=EX_.new nR (o:=HO.lst []);have hR0:=aa_ (H:=H) (a:=R) (o:=HO.lst []);generalize upd H R (HO.lst [])=H1 at *;nofun;intro T0 nT;have c0:Ch H (upd H1 T0 (HO.dK [])) R T0 [] []:=⟨S1.trans (EX_.new nT),nR,S1.free nT,af_ hR0 nT,⟨[],(EX_.new nT) _ _ hR0,rfl,fun i x hx=>(nomatch hx)⟩,⟨[],aa_,Af_ _,fun x=>rfl⟩⟩;generalize upd H1 T0 (HO.dK [])=H2 at *;nofun;refine ⟨_,c0.s0 _ _ hn,_,Fw_,p1,rfl,⟨_,.inl (.inl (c0.s0 _ _ h1))⟩,?_⟩;refine eX_ (xs:=rs) (fun i σ H'=>∃ (e6 e7 e8 e9 e10:Option V),σ=[some (.ref pn),some (.ref di),some (.ref gl),some (.ref dw),some (.ref R),some (.ref T0),e6,e7,e8,e9,e10]/\Ch H H' R T0 (Gs_ (N.rows.take i) ins g) (Gs_ (N.rows.take i) ins g)) ⟨none,none,none,none,none,rfl,c0⟩ ?_ ?_ ?_
   ·rintro i σ H' hi ⟨e6,e7,e8,e9,e10,rfl,c⟩;exact .inl (.inl (c.s0 _ _ h1))
   ·rintro i x σ H' hx kk kb hk hb G hG ⟨e6,e7,e8,e9,e10,rfl,c⟩;refine hG ?_;obtain ⟨r,q,l,hr1,rfl,hq,hl⟩:=bm_ r1 hx;have ir:=(Ag_.mp hr1).1;have tk:N.rows.take (i+1)=N.rows.take i++[r]:=by rw [Be_,hr1];rfl
    nofun;refine ⟨_,SqT.of (c.s0 _ _ hq),rfl,_,_,rfl,_,_,rfl,rfl,_,.inl (.inl (.inl (c.s0 _ _ hgl))),rfl,by simp [Gd_],?_⟩;rw [gc_];refine ite2 (fun c1=>?_) (fun c1=>?_)
    ·have c1':=Bm_ c1;have er:Gs_ (N.rows.take (i+1)) ins g=Gs_ (N.rows.take i) ins g++[(r.1,kpG ins r.1 0 r.2)]:=by rw [tk];unfold Gs_;rw [BD_,Ap_,BH_ (by simp [c1'])];rfl
     have lr:r.2.length<=30:=by
      have:r.2.length<=N.all.length:=by have hm:=Ak_ hr1;unfold Net.all;rw [List.length_flatten];exact ja_ (Al_.mpr ⟨r.2,Al_.mpr ⟨r,hm,rfl⟩,rfl⟩)
      lia
     nofun;refine ⟨AA_ _,fun Kp nK=>?_⟩;have S3:=EX_.new nK (o:=HO.lst []);have hK:=aa_ (H:=H') (a:=Kp) (o:=HO.lst []);have c3:=c.mono S3;have K0:H Kp=none:=c.s0.free nK;obtain ⟨ys,y1,y2,y3⟩:=c.hR;obtain ⟨kv,t1,t2,t3⟩:=c.hT;have KR:Kp≠R:=(af_ y1 nK).symm;have KT:Kp≠T0:=(af_ t1 nK).symm;generalize upd H' Kp (HO.lst [])=H3 at *;nofun;refine ⟨⟨_,.inl (.inl (c3.s0 _ _ hl))⟩,?_⟩;refine l8_ (xs:=r.2.map V.str) (fun j σ Hy=>∃ (e9 e10:Option V),σ=[some (.ref pn),some (.ref di),some (.ref gl),some (.ref dw),some (.ref R),some (.ref T0),some (.str r.1),some (.ref l),some (.ref Kp),e9,e10]/\(∀ b o,b≠Kp->H3 b=some o->Hy b=some o)/\Hy Kp=some (.lst ((kpG ins r.1 0 (r.2.take j)).map V.str))) ⟨_,_,rfl,fun b o _ z=>z,hK⟩ ?_ ?_ ?_
     ·rintro j σ Hy hj ⟨e9,e10,rfl,hy,hKy⟩;exact .inl (.inl (hy _ _ (fun z=>by rw [z] at hl;rw [K0] at hl;cases hl) (c3.s0 _ _ hl)))
     ·rintro j x Tx σ Hy hx2 kk2 kb2 hk2 hb2 G2 hG2 ⟨e9,e10,rfl,hy,hKy⟩ nTx;refine hG2 ?_;rw [Ae_] at hx2
      obtain ⟨wr,hw,rfl⟩:∃ wr,r.2[j]?=some wr/\x=.str wr:=by
       cases e:r.2[j]? with
       | none=>rw [e] at hx2;cases hx2
       | some wr=>rw [e] at hx2;cases hx2;exact ⟨wr,rfl,rfl⟩
      have S5:=EX_.new nTx (o:=HO.tup [V.int j,V.str wr]);have hTx:=aa_ (H:=Hy) (a:=Tx) (o:=HO.tup [V.int j,V.str wr]);generalize upd Hy Tx (HO.tup [V.int j,V.str wr])=Hz at *;have old:∀ b o,H b=some o->Hz b=some o:=fun b o z=>S5 _ _ (hy b o (fun e=>by rw [e,K0] at z;cases z) (c3.s0 _ _ z));have hKz:=S5 _ _ hKy;nofun;refine ⟨_,SqT.of hTx,rfl,_,_,rfl,_,_,rfl,rfl,.inl ⟨_,.inl (.inl hKz)⟩,.inr ⟨_,.inl (old _ _ hdi)⟩,by decide,fun t nt=>⟨by decide,fun d2 nd2=>?_⟩⟩;have S6:=EX_.new nt (o:=HO.tup [V.str r.1,V.int j]);have ht:=aa_ (H:=Hz) (a:=t) (o:=HO.tup [V.str r.1,V.int j]);generalize upd Hz t (HO.tup [V.str r.1,V.int j])=H6 at *;have S7:=EX_.new nd2 (o:=HO.lst [V.str wr]);have hd2:=aa_ (H:=H6) (a:=d2) (o:=HO.lst [V.str wr]);generalize upd H6 d2 (HO.lst [V.str wr])=H7 at *;have s67:=S6.trans S7;have g:=F7_.t (k:=eK (r.1,j)) (s67 _ _ (old _ _ hdi)) (S7 _ _ ht)
      obtain ⟨lx,elx,hlx⟩:∃ lx,(Ft_ kvs (eK (r.1,j))).getD (.ref d2)=.ref lx/\H7 lx=some (.lst (((ins (r.1,0+j)).getD [wr]).map V.str)):=by
       have:=hdi2 (r.1,j);rw [CK_];cases e:ins (r.1,j) with
       | none =>
        rw [e] at this;rw [show Ft_ kvs (eK (r.1,j))=none from this];exact ⟨d2,rfl,hd2⟩
       | some ls =>rw [e] at this;obtain ⟨l2,z1,z2⟩:=this;rw [z1];exact ⟨l2,rfl,s67 _ _ (old _ _ z2)⟩
      have jl:=(Ag_.mp hw).1;have ek:kpG ins r.1 0 (r.2.take (j+1))=kpG ins r.1 0 (r.2.take j)++(ins (r.1,0+j)).getD [wr]:=by have:=jG_ (ins:=ins) (p:=r.1) (w:=wr) (r.2.take j) 0;rw [AO_,CE_ (by lia)] at this;rw [<-this,Be_,hw];rfl
      refine ⟨_,g,lx,elx,_,s67 _ _ hKz,_,hlx,?_,hk2 _ _ ⟨_,_,rfl,fun b o hb z=>?_,?_⟩⟩
      ·have k1:=gD_ hin.two (p:=r.1) (r.2.take j) 0;rw [AO_] at k1;rw [Ab_,Ab_]
       have:((ins (r.1,0+j)).getD [wr]).length<=2:=by
        cases e:ins (r.1,0+j) with
        | none=>exact (by decide:1<=2)
        | some ls=>exact hin.two _ _ e
       exact AR_ (EY_ (by lia))
      ·rw [ah_ hb];exact s67 _ _ (S5 _ _ (hy b o hb z))
      ·rw [aa_,ek,Ap_]
     ·rintro σ Hy ⟨e9,e10,rfl,hy,hKy⟩;rw [Ab_,Cb_] at hKy;have sHy:EX_ H' Hy:=fun b o z=>hy b o (af_ z nK) (S3 _ _ z);have cy:=c.mono sHy;have lk:=gD_ hin.two (p:=r.1) r.2 0;generalize hws:kpG ins r.1 0 r.2=ks at *
      have kvl:kv.length<=60:=by
       have h1:=mc_ hin.two g (N.rows.take i);have h2:((N.rows.take i).map (·.2)).flatten.length+((N.rows.drop i).map (·.2)).flatten.length=N.all.length:=by rw [<-Ah_,<-A6_,<-Ap_,Bb_];rfl
       lia
      have ysl:ys.length<=16:=by rw [y2.length,Ab_];unfold Gs_;rw [Ab_];have:=Bp_ (fun r:Str×List Str=>decide (r.1∉g)) (N.rows.take i);rw [AO_] at this;lia
      nofun;refine ⟨.inl ⟨_,.inl (.inl (sHy _ _ y1))⟩,by decide,fun t nt=>⟨ys,(EX_.new nt) _ _ (sHy _ _ y1),EY_ (by lia),?_⟩⟩;have c8:=cy.addR (p:=r.1) (sHy _ _ y1) hKy KR KT K0 nt;have hK8:upd (upd Hy t (HO.tup [V.str r.1,V.ref Kp])) R (HO.lst (ys++[V.ref t])) Kp=some (.lst (ks.map V.str)):=by rw [ah_ KR];exact (EX_.new nt) _ _ hKy
      have hT8:upd (upd Hy t (HO.tup [V.str r.1,V.ref Kp])) R (HO.lst (ys++[V.ref t])) T0=some (.dK kv):=by rw [ah_ c.ne.symm];exact (EX_.new nt) _ _ (sHy _ _ t1)
      generalize upd (upd Hy t (HO.tup [V.str r.1,V.ref Kp])) R (HO.lst (ys++[V.ref t]))=H8 at *;nofun;refine ⟨.inr (.inr (.inl (.inl ⟨_,hT8⟩))),⟨_,.inl (.inl hK8)⟩,?_⟩;refine bv_ (n:=ks.length) (B:=fun _=>none) (Pσ:=fun σ=>∃ e,σ=[e]) (ds:=ks.map dPt) (fun b o e=>by cases e) ⟨_,rfl⟩ (by simp) (by lia) (fun j Hj hj sj=>⟨_,.str ks[j],.inl (.inl (sj _ _ hK8)),by simp [hj]⟩) (fun Hj sj=>⟨_,.inl (.inl (sj _ _ hK8)),by simp⟩) ?_ ?_
      ·rintro D j y dd σ' H9 H9' hD hDo hs9 hj hdj ⟨rfl,hyj⟩ ⟨e,rfl⟩ RR kR;obtain ⟨oD,hDo⟩:=hDo;have hxj:=hyj _ (.inl (.inl (hs9 _ _ hK8)));rw [Ae_,Aa_ hj] at hxj;cases hxj;rw [Ae_,Aa_ hj] at hdj;cases hdj;nofun;refine ⟨by decide,fun z nz=>kR _ _ _ ⟨_,rfl⟩ (EX_.new nz) ?_⟩;exact ⟨z,_,rfl,by rw [bB_ ((af_ hDo nz).symm) rfl];exact aa_,_,_,rfl,rfl,_,_,rfl,rfl,rfl⟩
      ·intro D H9 hD s9 rep9;have c9:=(c8.mono s9).addT (p:=r.1) (ws:=ks) (s9 _ _ hT8);refine ⟨D,rfl,kv,s9 _ _ hT8,_,o5_ (Rep.mono be_ _ rep9),by rw [Ab_];lia,?_⟩
       try nofun
       rw [er];exact c9
    ·have er:Gs_ (N.rows.take (i+1)) ins g=Gs_ (N.rows.take i) ins g:=by rw [tk];unfold Gs_;have:r.1∈g:=CT_.mp fun z=>c1 (Az_ z);rw [BD_,Ap_,BG_ (by simp [this])];exact Bd_ _
     try nofun
     rw [er];exact c
   ·rintro σ H' ⟨e6,e7,e8,e9,e10,rfl,c⟩;rw [show N.rows.take rs.length=N.rows from by rw [rl,Cb_]] at c;have hps:=c.s0 _ _ h0;nofun;refine ⟨_,c.s0 _ _ hn,_,FC_,p0,rfl,_,.inl hps,fun l0 nl0=>?_⟩;have S3:=EX_.new nl0 (o:=HO.lst (N.posts.map V.str));have hl0:=aa_ (H:=H') (a:=l0) (o:=HO.lst (N.posts.map V.str));have c3:=c.mono S3;have l00:H l0=none:=c.s0.free nl0;have l0R:l0≠R:=c.hR.elim fun ys z=>(af_ z.1 nl0).symm;generalize upd H' l0 (HO.lst (N.posts.map V.str))=H3 at *;have s3:=c3.s0;obtain ⟨ys,y1,y2,y3⟩:=c3.hR;obtain ⟨kv,t1,t2,t3⟩:=c3.hT;refine ⟨_,s3 _ _ hn,_,Gi_,p2,rfl,⟨_,.inl (.inl (s3 _ _ h2))⟩,?_⟩;have wl:=ok.wl;have wsl:ws.length=N.worths.length:=by rw [r2.length,Ab_]
    refine eo_ (n:=ws.length) (B:=fun _=>none) (Pσ:=fun σ=>∃ e e',σ=[e,e',some (.ref T0),some (.ref dw)]) (bs:=fun j=>decide ((N.worths.getD j (Str.empty,(0,0))).1∈((Gs_ N.rows ins g).map (·.2)).flatten)) (val:=fun j=>dWo ((N.worths.getD j (Str.empty,(0,0))).1,(wf (N.worths.getD j (Str.empty,(0,0))).1).getD (N.worths.getD j (Str.empty,(0,0))).2)) (fun b o e=>by cases e) ⟨_,_,rfl⟩ (by lia) (fun j Hj hj sj=>⟨ws,ws[j],.inl (.inl (sj _ _ (s3 _ _ h2))),Aa_ _⟩) (fun Hj sj=>⟨ws,.inl (.inl (sj _ _ (s3 _ _ h2))),Af_ _⟩) ?_ ?_
    ·rintro D j y σ' H5 H5' hD hDo hs5 hj ⟨rfl,hyj⟩ ⟨e,e',rfl⟩ Y RR kY kR;obtain ⟨r,q,u,er,rfl,hq,hu⟩:=ir_ r2 (hyj _ (.inl (.inl (hs5 _ _ (s3 _ _ h2)))));have eg:N.worths.getD j (Str.empty,(0,0))=r:=by rw [Ac_,er];rfl
     rw [eg] at kY kR;have s5:=s3.trans hs5;obtain ⟨oD,hDo⟩:=hDo;have gT:=F7_.k (k:=.inr r.1) (hs5 _ _ t1);have gW:=F7_.k (k:=.inr r.1) (s5 _ _ hdw);nofun;refine ⟨_,SqT.of (s5 _ _ hq),rfl,_,_,rfl,_,_,rfl,rfl,_,gT,?_⟩;rw [t3];refine ite2 (fun hb=>?_) (fun hb=>kR (Bool.not_eq_true _ ▸ hb) _ _ ⟨_,_,rfl⟩ (EX_.refl _));refine ⟨.inl ⟨_,.inl (s5 _ _ hdw)⟩,_,gW,by decide,fun z nz=>kY hb _ _ _ ⟨_,_,rfl⟩ (EX_.new nz) ?_⟩;have zD:z≠D:=(af_ hDo nz).symm;have S8:=EX_.new nz (o:=HO.tup [V.str r.1,(Ft_ kw (Sum.inr r.1)).getD (V.ref u)])
     have hrep:Rep H ((Ft_ kw (.inr r.1)).getD (.ref u)) (dF ((wf r.1).getD r.2)):=by
      have:=hdw2 r.1;cases e:wf r.1 with
      | none =>
       rw [e] at this;rw [show Ft_ kw (.inr r.1)=none from this];exact ⟨u,_,rfl,hu,_,_,rfl,rfl,_,_,rfl,rfl,rfl⟩
      | some p =>rw [e] at this;obtain ⟨v,z1,z2⟩:=this;rw [z1];exact z2
     have cut:EX_ H (GN_ (fun _=>none) D (upd H5' z (HO.tup [V.str r.1,(Ft_ kw (Sum.inr r.1)).getD (V.ref u)]))):=fun b o hb=>by rw [bB_ (af_ hb (s3.free hD)) rfl];exact S8 _ _ (s5 _ _ hb)
     exact ⟨z,_,rfl,by rw [bB_ zD rfl];exact aa_,_,_,rfl,rfl,_,_,rfl,Rep.mono cut _ hrep,rfl⟩
    ·intro D H5 hD s5 rep5;have s05:=s3.trans s5;rw [wsl,kX_ N.worths (Str.empty,(0,0)) (fun r=>decide (r.1∈((Gs_ N.rows ins g).map (·.2)).flatten)) fun r=>dWo (r.1,(wf r.1).getD r.2)] at rep5;have c5:=c3.mono s5;obtain ⟨ys5,z1,z2,z3⟩:=c5.hR;refine ⟨by decide,fun pe ne=>?_⟩;have S6:=EX_.new ne (o:=HO.tup [V.ref l0,V.ref R,V.ref D]);have s56:=s5.trans S6;refine k _ _ (s05.trans S6) ⟨?_,pe,l0,R,D,ys5,rfl,aa_,S6 _ _ z1,l00,c.nR,s3.free hD,l0R,fun i x hx=>?_⟩
     ·exact ⟨pe,_,rfl,aa_,_,_,rfl,⟨l0,_,rfl,s56 _ _ hl0,a2_ _⟩,_,_,rfl,⟨R,ys5,rfl,S6 _ _ z1,Fg_.mono (oa_.trans S6) _ z2⟩,_,_,rfl,by unfold chG;rw [Bf_];exact Rep.mono (be_.trans S6) _ rep5,rfl⟩
     ·obtain ⟨q,nm,l',e1,e2,e3⟩:=z3 i x hx;exact ⟨q,nm,l',e1,S6 _ _ (oa_ _ _ e2),e3⟩
def eV (e:End Str):HO:=.tup [.str e.1,.int e.2]
theorem e1_:∀ (r:List Str),(r.map V.str).all Gd_=true
 | []=>rfl
 | y::r=>by simp [Gd_]
theorem jb_ {α β:Type}(d:α)(f:α->Bool)(g:α->β)(ls:List α):((List.range ls.length).filter fun i=>f (ls.getD i d)).map (fun i=>g (ls.getD i d))=(ls.filter f).map g:=by
 conv=>rhs;rw [<-RimT.eT_ d ls,Ck_,Bf_]
 rfl
def MO (S:Hp)(acc:List (Str×List (End Str)))(i:Nat)(k2:List (List Key×V)):Prop :=
 ∀ (j:Nat)(x:Str)(a b:End Str),j<i->acc[j]?=some (x,[a,b])->(∃ q,Ft_ k2 (eK a)=some (.ref q)/\S q=some (eV b))/\∃ q,Ft_ k2 (eK b)=some (.ref q)/\S q=some (eV a)
theorem MO.step {N:Net Str}(ok:Fk_ N){S:Hp}{i:Nat}{k2:List (List Key×V)}(h:MO S (FK_ N) i k2){x:Str}{a b:End Str}{qa qb:Addr}(hi:(FK_ N)[i]?=some (x,[a,b]))(ha:S qa=some (eV a))(hb:S qb=some (eV b)) :
  MO S (FK_ N) (i+1) (FR_ (FR_ k2 (eK a) (.ref qb)) (eK b) (.ref qa)):=by
 have hm:=Ak_ hi;have ne:=nH_ ok hm rfl;intro j y c d hj hjs
 have nk:∀ e,j≠i->e∈[c,d]->e≠a/\e≠b:=fun e ji he=>by
  have hmj:=Ak_ hjs
  have key:∀ f,f∈[a,b]->e≠f:=fun f hf z=>by
   subst z;have:=mD_ ok hmj hm he hf;have k1:((FK_ N).map (·.1))[j]?=((FK_ N).map (·.1))[i]?:=by rw [Ae_,Ae_,hjs,hi];exact congrArg some this
   exact ji ((AU_ (by rw [Ab_];exact (Ag_.mp hjs).1) (nG_ N)).mp k1)
  exact ⟨key a (by simp),key b (by simp)⟩
 by_cases ji:j=i
 ·subst ji;rw [hi] at hjs;cases hjs;constructor
  ·refine ⟨qb,?_,hb⟩;rw [a7_,if_neg (fun z=>ne (iq_ z)),a7_,if_pos rfl]
  ·refine ⟨qa,?_,ha⟩;rw [a7_,if_pos rfl]
 ·obtain ⟨g1,g2⟩:=h j y c d (by lia) hjs;obtain ⟨n1,n2⟩:=nk c ji (by simp);obtain ⟨n3,n4⟩:=nk d ji (by simp);rw [a7_,if_neg (fun z=>n2 (iq_ z)),a7_,if_neg (fun z=>n1 (iq_ z)),a7_,if_neg (fun z=>n4 (iq_ z)),a7_,if_neg (fun z=>n3 (iq_ z))];exact ⟨g1,g2⟩
theorem ob_ {κ:Type}[DecidableEq κ](kvs:List (κ×V))(k:κ)(v:V):(FR_ kvs k v).length<=kvs.length+1:=aP_ kvs k v
theorem qw_ {acc:List (Str×List (End Str))}{ls:List Addr}{i:Nat}{k:Key}{x:V}(h:(F2_ acc ls)[i]?=some (k,x)):∃ kv l,acc[i]?=some kv/\ls[i]?=some l/\k=.inr kv.1/\x=.ref l:=by
 unfold F2_ at h;rw [List.getElem?_zipWith] at h;cases e1:acc[i]? with
 | none=>rw [e1] at h;cases h
 | some kv =>
  cases e2:ls[i]? with
  | none=>rw [e1,e2] at h;cases h
  | some l =>rw [e1,e2] at h;cases h;exact ⟨kv,l,rfl,rfl,rfl,rfl⟩
theorem o6_ {S:Hp}{vs:List V}{a b:End Str}(h:Fg_ S vs ([a,b].map dE)):∃ qa qb,vs=[.ref qa,.ref qb]/\S qa=some (eV a)/\S qb=some (eV b):=by obtain ⟨_,_,rfl,⟨qa,_,rfl,ha,_,_,rfl,hx,_,_,rfl,hy,rfl⟩,_,_,rfl,⟨qb,_,rfl,hb,_,_,rfl,hz,_,_,rfl,hu,rfl⟩,rfl⟩:=h;cases hx;cases hy;cases hz;cases hu;exact ⟨qa,qb,rfl,ha,hb⟩
abbrev Fy_:Stmt:=stN 20
theorem d1_:E2_ ["net", "others", "pair"] ["net"] (EW_ Fy_):=⟨rfl,rfl,rfl,by rfl',rfl,by rfl',by rfl'⟩
theorem it_:LK Fy_ "net" .local:=by rfl'
theorem b0_:LK Fy_ "others" .local:=by rfl'
theorem by_:LK Fy_ "pair" .local:=by rfl'
theorem cY_:LK Fy_ "ends_by_wire" .globalImplicit:=by rfl'
def Hp_:Sp:=fun vs H Q _=>∃ (v:V)(N:Net Str),vs=[v]/\Rep H v (Go_ N)/\Fk_ N/\∀ d k2 H',EX_ H H'->H' d=some (.dT k2)->MO H' (FK_ N) (FK_ N).length k2->H d=none->Q (.ref d) H'
theorem jQ_ (T:Txt K mg)(F:Fn0 K mg "other_ends" Fy_) (GP_:Cal P w K mg base "ends_by_wire" ["net"] 1 IJ_):Cal P w K mg base "other_ends" ["net"] 2 Hp_:=by
 refine aR_ F d1_ (fun _ _ _ _ _ _=>byL1 fun _=>rfl) ?len ?body
 case len=>rintro vs H Q E ⟨a,b,rfl,_⟩;rfl
 case body =>
  intro f cdv A outer s H vs Q E hr h;obtain ⟨v,N,rfl,hv,ok,k⟩:=h;refine' ⟨_,?D,?R⟩
  case D =>
   refine' ai_ ?g1 (ai_ (aV_ Au_ rfl (oN_ (al_ GP_ (hr.mono (by decide)) cY_ (pa_c (pv1 0 rfl it_) ab_))) ?g6 ?g7) (ag_ (au_ (pv1 1 rfl b0_))))
   case g1=>exact aj_ (i:=1) d1_.nd rfl b0_ fT_
   case g6=>exact ae_ (i:=2) d1_.nd rfl by_
   case' g7=>refine' ai_ (cL_ (un1 hr.units) (pv1 1 rfl b0_) (E0_ ao_ (pv1 2 rfl by_) ac_ (fun _ _=>rfl)) (E0_ ao_ (pv1 2 rfl by_) ac_ (fun _ _=>rfl)) rfl) (ag_ (cL_ (un1 hr.units) (pv1 1 rfl b0_) (E0_ ao_ (pv1 2 rfl by_) ac_ (fun _ _=>rfl)) (E0_ ao_ (pv1 2 rfl by_) ac_ (fun _ _=>rfl)) rfl))
  case R =>
   nofun;intro O nO;have SO:EX_ H (upd H O (HO.dT [])):=EX_.new nO;have hO:=aa_ (H:=H) (a:=O) (o:=HO.dT []);generalize upd H O (HO.dT [])=H1 at *;refine ⟨v,N,rfl,Rep.mono SO _ hv,ok,fun d S ls H2 sS de nd=>?_⟩;have SO2:=sS _ _ hO;have dO:d≠O:=(af_ hO nd).symm;have lO:∀ l∈ls,l≠O:=fun l hl z=>by have:=de.fl l hl;rw [z,SO2] at this;cases this
   let S':Hp:=fun b=>if b=O then none else S b
   have S'O:S' O=none:=if_pos rfl;have S'ne:∀ b,b≠O->S' b=S b:=fun b hb=>if_neg hb
   have S'S:∀ b o,S' b=some o->S b=some o:=fun b o hb=>by
    by_cases z:b=O
    ·rw [z,S'O] at hb;cases hb
    ·rw [S'ne b z] at hb;exact hb
   have tupO:∀ q e,S q=some (eV e)->S' q=some (eV e):=fun q e hq=>by rw [S'ne q (fun z=>by rw [z,SO2] at hq;cases hq)];exact hq
   have hHS:EX_ H S':=fun b o hb=>by rw [S'ne b (af_ hb nO)];exact sS _ _ (SO _ _ hb)
   refine ⟨d,rfl,_,de.dict,fun ob=>?_⟩;have el:(F2_ (FK_ N) ls).length=(FK_ N).length:=lF_ de.len;have few:(FK_ N).length<=30:=jL_ ok _ [] (by rw [Bd_]);refine LG_ (fun i σ H'=>∃ (e2:Option V)(k2:List (List Key×V)),σ=[some v,some (.ref O),e2]/\EX_ S' H'/\H' d=some (.frz ob (.dK (F2_ (FK_ N) ls)))/\(∀ l∈ls,H' l=H2 l)/\H' O=some (.dT k2)/\MO S' (FK_ N) i k2/\k2.length<=2*i) ⟨none,[],rfl,aM_ (fun b o hb=>de.sH _ _ (S'S b o hb)) (by rw [S'ne d dO];exact de.fd),aa_,fun l hl=>ah_ (fun z=>de.dn (by rw [<-z];exact hl)),by rw [ah_ dO.symm];exact de.sH _ _ SO2,fun j x a b hj=>absurd hj (by lia),by simp⟩ ?_ ?_ ?_
   ·rintro i σ H' hi ⟨e2,k2,rfl,sS',hd',hls,hO',mo,kl⟩;exact hd'
   ·rintro i key x σ H' hx ⟨e2,k2,rfl,sS',hd',hls,hO',mo,kl⟩;obtain ⟨kv,l,h1,h2,rfl,rfl⟩:=qw_ hx;have ii:i<(FK_ N).length:=(Ag_.mp h1).1;obtain ⟨a,b,eab⟩:=l7_ ok (Ak_ h1);obtain ⟨vs,hvs,hrep⟩:=de.lst i l kv h2 h1;rw [eab] at hrep;obtain ⟨qa,qb,rfl,ha,hb⟩:=o6_ hrep;have ha':=tupO _ _ ha;have hb':=tupO _ _ hb;have hl':H' l=some (.lst [.ref qa,.ref qb]):=by rw [hls l (Ak_ h2)];exact hvs
    have h1':(FK_ N)[i]?=some (kv.1,[a,b]):=by rw [h1,<-eab]
    have mo2:=mo.step ok h1' ha' hb';have lO':=lO l (Ak_ h2);nofun;have p1:=ob_ k2 (eK a) (.ref qb);have p2:=ob_ (FR_ k2 (eK a) (.ref qb)) (eK b) (.ref qa);have qaO:qb≠O:=fun z=>by rw [z,S'O] at hb';cases hb'
    refine ⟨_,hl',_,Fw_,_,hl',_,FC_,_,Ho_.t (k:=eK a) hO' (sS' _ _ ha') (EY_ (by lia)),_,by rw [ah_ lO'];exact hl',_,FC_,_,by rw [ah_ lO'];exact hl',_,Fw_,_,Ho_.t (k:=eK b) aa_ (by rw [ah_ qaO];exact sS' _ _ hb') (EY_ (by lia)),aM_ (aM_ sS' S'O) S'O,by rw [ah_ dO,ah_ dO];exact hd',fun l2 hl2=>by rw [ah_ (lO l2 hl2),ah_ (lO l2 hl2)];exact hls l2 hl2,_,aa_,mo2,by lia⟩
   ·rintro σ H' ⟨e2,k2,rfl,sS',hd',hls,hO',mo,kl⟩;rw [el] at mo;nofun;refine k O k2 H' (hHS.trans sS') hO' (fun j x a b hj hjs=>?_) nO;obtain ⟨⟨q1,g1,g2⟩,q2,g3,g4⟩:=mo j x a b hj hjs;exact ⟨⟨q1,g1,sS' _ _ g2⟩,q2,g3,sS' _ _ g4⟩
abbrev FU_:Stmt:=stN 27
theorem k0_:E2_ ["net"] ["net"] (EW_ FU_):=⟨rfl,rfl,rfl,by rfl',rfl,by rfl',by rfl'⟩
theorem iM_:LK FU_ "net" .local:=by rfl'
def JE_:Sp:=fun vs H Q _=>∃ (v:V)(N:Net Str),vs=[v]/\Rep H v (Go_ N)/\Fk_ N/\∀ D H',EX_ H H'->H D=none->H' D=some (.lst ((N.rows.map (·.1)).map V.str))->Q (.ref D) H'
theorem k1_ (T:Txt K mg)(F:Fn0 K mg "points_of" FU_):Cal P w K mg base "points_of" ["net"] 1 JE_:=by
 refine aR_ F k0_ (fun _ _ _ _ _ _=>byL1 fun _=>rfl) ?len ?body
 case len=>rintro vs H Q E ⟨a,b,rfl,_⟩;rfl
 case body =>
  intro f cdv A outer s H vs Q E hr h;obtain ⟨v,N,rfl,hv,ok,k⟩:=h;obtain ⟨pn,p0,p1,p2,rs,ws,rfl,hn,h0,h1,r1,h2,r2⟩:=bC_ hv;have rl:rs.length=N.rows.length:=by rw [r1.length,Ab_]
  have few:=ok.few;refine' ⟨_,?D,?R⟩
  case D =>
   refine' ag_ (au_ (bd_ (N':=["point", "wires"]) (ix:=[none,none]) rfl rfl (a6_ ?g3) (ay_ (K:=K) rfl (E0_ am_ (pv1 0 rfl iM_) ac_ (fun _ _=>rfl))) (fun _ _ _=>(aJ_ (K:=K) (n:=2) rfl rfl (ak_ ?g12 (ak_ ?g14 aC_)))) (fun _ _ _=>?g6) (fun _ _ _=>(pv1 0 rfl rfl))))
   case g3=>exact (by show Ge_ (EW_ FU_) ["net"] _ _ _=true;decide +kernel)
   case g12=>exact ae_ (i:=0) (by show List.Nodup (["point", "wires"]:List Str);decide +kernel) rfl rfl
   case g14=>exact ae_ (i:=1) (by show List.Nodup (["point", "wires"]:List Str);decide +kernel) rfl rfl
   case g6=>exact cn_
  case R =>
   nofun;refine ⟨_,hn,_,Fw_,p1,rfl,⟨_,.inl (.inl h1)⟩,?_⟩;refine bv_ (n:=N.rows.length) (B:=fun _=>none) (Pσ:=fun σ=>∃ e e',σ=[e,e']) (ds:=(N.rows.map (·.1)).map dS) (fun b o e=>by cases e) ⟨_,_,rfl⟩ (by simp) (by lia) (fun i H' hi s'=>⟨rs,rs[i]'(by lia),.inl (.inl (s' _ _ h1)),Aa_ _⟩) (fun H' s'=>⟨rs,.inl (.inl (s' _ _ h1)),by lia⟩) ?_ ?_
   ·rintro D i x d σ' H2 H2' hD hDo hs2 hi hdi ⟨rfl,hy⟩ ⟨e,e',rfl⟩ R kR;have hx:=hy _ (.inl (.inl (hs2 _ _ h1)));obtain ⟨r,q,l,hr1,rfl,hq,hl⟩:=bm_ r1 hx;have hd:d=dS r.1:=by rw [Ae_,Ae_,hr1] at hdi;exact (Aq_ hdi).symm
    nofun;refine ⟨_,SqT.of (hs2 _ _ hq),rfl,_,_,rfl,_,_,rfl,rfl,kR _ _ _ ⟨_,_,rfl⟩ (EX_.refl _) ?_⟩;rw [hd];exact rfl
   ·intro D H2 hD s2 rep2;obtain ⟨_,us,e0,hu',hus⟩:=id rep2;cases e0;rw [ig_ hus] at hu';exact k D H2 s2 hD (a0_ hu').2
abbrev Fr_:Stmt:=stN 28
theorem hl_:E2_ ["net"] ["net"] (EW_ Fr_):=⟨rfl,rfl,rfl,by rfl',rfl,by rfl',by rfl'⟩
theorem ge_:LK Fr_ "net" .cell:=by rfl'
theorem cZ_:LK Fr_ "points_of" .globalImplicit:=by rfl'
def Gr_ (N:Net Str):List Str:=(N.rows.map (·.1)).filter fun p=>decide (p∉N.posts)
def Hm_:Sp:=fun vs H Q _=>∃ (v:V)(N:Net Str),vs=[v]/\Rep H v (Go_ N)/\Fk_ N/\∀ D H',EX_ H H'->H D=none->H' D=some (.lst ((Gr_ N).map V.str))->Q (.ref D) H'
theorem hm_ (T:Txt K mg)(F:Fn0 K mg "points_within" Fr_) (HU_:Cal P w K mg base "points_of" ["net"] 1 JE_):Cal P w K mg base "points_within" ["net"] 2 Hm_:=by
 refine aR_ F hl_ (fun _ _ _ _ _ _=>byL1 fun _=>rfl) ?len ?body
 case len=>rintro vs H Q E ⟨a,b,rfl,_⟩;rfl
 case body =>
  intro f cdv A outer s H vs Q E hr h;obtain ⟨v,N,rfl,hv,ok,k⟩:=h;obtain ⟨pn,p0,p1,p2,rs,ws,rfl,hn,h0,h1,r1,h2,r2⟩:=bC_ hv;have few:=ok.few;refine' ⟨_,?D,?R⟩
  case D =>
   refine' ag_ ?g1
   case' g1=>refine' au_ (bd_ (N':=["point", "net"]) (ix:=[none,some 0]) rfl rfl (a6_ ?g3) (ay_ (K:=K) rfl (al_ HU_ (hr.mono (by decide)) cZ_ (pa_c (pvc 0 rfl ge_) ab_))) (fun _ _ _=>?g5) (fun _ _ _=>(ec_ (aq_ (bZ_ (K:=K) rfl) (pv1 0 rfl rfl) (E0_ am_ (pvc 1 rfl rfl) ac_ (fun _ _=>rfl)) (by with_unfolding_all rfl)))) (fun _ _ _=>(pv1 0 rfl rfl)))
   case g3=>exact (by show Ge_ (EW_ Fr_) ["net"] _ _ _=true;decide +kernel)
   case g5=>exact ae_ (i:=0) (by show List.Nodup (["point", "net"]:List Str);decide +kernel) rfl rfl
  case R =>
   nofun;refine ⟨_,N,rfl,hv,ok,fun D1 H1 s1 nD1 hD1=>⟨D1,rfl,⟨_,.inl (.inl hD1)⟩,?_⟩⟩;obtain ⟨ps,hps,pl⟩:∃ ps:List Str,ps=N.rows.map (·.1)/\ps.length<=16:=⟨_,rfl,by rw [Ab_];exact few⟩;have ew:Gr_ N=ps.filter fun p=>decide (p∉N.posts):=by unfold Gr_;rw [hps]
   rw [<-hps] at hD1;rw [ew] at k;refine eo_ (n:=ps.length) (B:=fun _=>none) (Pσ:=fun σ=>∃ e,σ=[e,some (.ref pn)]) (bs:=fun i=>decide (ps.getD i Str.empty∉N.posts)) (val:=fun i=>dS (ps.getD i Str.empty)) (fun b o e=>by cases e) ⟨_,rfl⟩ (by lia) (fun j H2 hj s2=>⟨_,.str (ps.getD j Str.empty),.inl (.inl (s2 _ _ hD1)),a3_ hj⟩) (fun H2 s2=>⟨_,.inl (.inl (s2 _ _ hD1)),by simp⟩) ?_ ?_
   ·rintro D i y σ' H3 H3' hD hDo hs3 hi ⟨rfl,hy⟩ ⟨e2,rfl⟩ Y R kY kR;have hx2:=hy _ (.inl (.inl (hs3 _ _ hD1)));rw [a3_ hi] at hx2;cases hx2;have s13:=s1.trans hs3;nofun;refine ⟨_,s13 _ _ hn,_,FC_,p0,rfl,_,.inl (.inl (.inl (s13 _ _ h0))),rfl,e1_ _,?_⟩;rw [gc_];by_cases hc:ps.getD i Str.empty∈N.posts
    ·rw [if_neg (by rw [AQ_ hc];decide)];exact kR (Az_ fun z=>z hc) _ _ ⟨_,rfl⟩ (EX_.refl _)
    ·rw [if_pos (Az_ hc)];exact kY (AQ_ hc) _ _ _ ⟨_,rfl⟩ (EX_.refl _) rfl
   ·intro D H2 hD s2 rep2;have fr:=jb_ Str.empty (fun p=>decide (p∉N.posts)) dS ps;rw [fr] at rep2;obtain ⟨_,us,e0,hu',hus⟩:=id rep2;cases e0;rw [ig_ hus] at hu';exact k D H2 (s1.trans s2) (s1.free hD) (a0_ hu').2
abbrev Fe_:Stmt:=stN 33
theorem fD_:E2_ ["wires", "count"] ["wires", "count"] (EW_ Fe_):=⟨rfl,rfl,rfl,by rfl',rfl,by rfl',by rfl'⟩
theorem ct_:LK Fe_ "wires" .local:=by rfl'
theorem cu_:LK Fe_ "count" .local:=by rfl'
theorem b1_:LK Fe_ "len" .globalImplicit:=by rfl'
theorem d2_:LK Fe_ "set" .globalImplicit:=by rfl'
def KC_:Sp:=fun vs H Q _=>∃ (l:Addr)(ws:List Str)(c:Nat),vs=[.ref l,.int c]/\H l=some (.lst (ws.map V.str))/\ws.length<=30/\∀ H',EX_ H H'->Q (.bl (decide (ws.length=c/\dc ws=c))) H'
theorem fE_ (T:Txt K mg)(F:Fn0 K mg "has_unlike_wires" Fe_):Cal P w K mg base "has_unlike_wires" ["wires", "count"] 1 KC_:=by
 refine aR_ F fD_ (fun _ _ _ _ _ _=>byL2 fun _ _=>rfl) ?len ?body
 case len=>rintro vs H Q E ⟨a,b,c,rfl,_⟩;rfl
 case body =>
  intro f cdv A outer s H vs Q E hr h;obtain ⟨l,ws,c,rfl,hl,few,k⟩:=h;refine' ⟨_,?D,?R⟩
  case D =>
   refine' ag_ (au_ (pg_ (en_ FZ_ (an_ ap_ b1_ T.n_len aL_ (pa_c (pv1 0 rfl ct_) ab_)) (pv1 1 rfl cu_) (E9_ _)) ?g4))
   case' g4=>refine' pf_ (en_ FZ_ (an_ kz_ b1_ T.n_len aL_ (pa_c (aX_ (mG_ rfl) d2_ T.n_set pG_ (pa_c (pv1 0 rfl ct_) ab_)) ab_)) (pv1 1 rfl cu_) (E9_ _))
  case R =>
   nofun;refine ⟨_,.inl hl,?_⟩;rw [Ab_];refine ite2 (fun c1=>?_) (fun c1=>?_)
   ·refine ⟨ws,hl,by lia,fun a na=>⟨_,rfl,?_⟩⟩;have e:decide ((dc ws:Int)=(c:Int))=decide (ws.length=c/\dc ws=c):=BM_.mpr ⟨fun z=>⟨by lia,by lia⟩,fun z=>by lia⟩;rw [e];exact k _ (EX_.new na)
   ·have e:false=decide (ws.length=c/\dc ws=c):=(Az_ fun z=>c1 (by lia)).symm;rw [e];exact k _ (EX_.refl _)
theorem qx_ {N:Net Str}(ok:Fk_ N){r r':Str×List Str}(h:r∈N.rows)(h':r'∈N.rows)(e:r.1=r'.1):r=r':=by obtain ⟨i,hi,rfl⟩:=Ar_.mp h;obtain ⟨j,hj,rfl⟩:=Ar_.mp h';have:=(AU_ (l:=N.rows.map (·.1)) (i:=i) (j:=j) (by rw [Ab_];exact hi) ok.nd).mp (by rw [Ae_,Ae_,Aa_ hi,Aa_ hj];exact congrArg some e);subst this;rfl
abbrev Ff_:Stmt:=stN 34
theorem fb_:E2_ ["net", "point", "count", "wires"] ["net", "point", "count"] (EW_ Ff_):=⟨rfl,rfl,rfl,by rfl',rfl,by rfl',by rfl'⟩
theorem ef_:LK Ff_ "net" .local:=by rfl'
theorem eg_:LK Ff_ "point" .local:=by rfl'
theorem hn_:LK Ff_ "count" .local:=by rfl'
theorem cy_:LK Ff_ "wires" .local:=by rfl'
theorem cv_:LK Ff_ "NoStep" .globalImplicit:=by rfl'
theorem fF_:LK Ff_ "dict" .globalImplicit:=by rfl'
theorem cd_:LK Ff_ "has_unlike_wires" .globalImplicit:=by rfl'
theorem cC_:LK Ff_ "points_within" .globalImplicit:=by rfl'
def KB_ (CS:Addr):Sp:=fun vs H Q E=>∃ (v:V)(N:Net Str)(x:Str)(c:Nat),vs=[v,.str x,.int c]/\Rep H v (Go_ N)/\Fk_ N/\(∀ r∈N.rows,r.1=x->x∉N.posts->r.2.length=c->dc r.2=c->∀ l H',EX_ H H'->H' l=some (.lst (r.2.map V.str))->Q (.ref l) H')/\((∀ r∈N.rows,r.1=x->x∉N.posts->r.2.length=c->dc r.2=c->False)->∀ H',EX_ H H'->E (.ref CS) none H')
theorem iu_ (T:Txt K mg)(EX:Exs K mg CS)(F:Fn0 K mg "wires_asked" Ff_) (GH_:Cal P w K mg base "points_within" ["net"] 2 Hm_) (Gl_:Cal P w K mg base "has_unlike_wires" ["wires", "count"] 1 KC_):IH_ P w K mg base "wires_asked" ["net", "point", "count"] 3 (KB_ CS):=by
 refine lh_ F fb_ (fun _ _ _ _ _ _=>byL3 fun _ _ _=>rfl) ?len ?body
 case len=>rintro vs H Q E ⟨a,b,c,d,rfl,_⟩;rfl
 case body =>
  intro f cdv A outer s H vs Q E hr h;obtain ⟨v,N,x,c,rfl,hv,ok,k,kx⟩:=h;refine' ⟨_,?D,?R⟩
  case D =>
   refine' ai_ ?g1 (ai_ (aj_ (i:=3) fb_.nd rfl cy_ (bU_ (un1 hr.units) (aX_ (eW_ rfl) fF_ T.n_dict jN_ (pa_c (E0_ am_ (pv1 0 rfl ef_) ac_ (fun _ _=>rfl)) ab_)) (pv1 1 rfl eg_) (fun _ _=>rfl))) ?g16)
   case' g1=>refine' Fx_ (aq_ (bZ_ (K:=K) rfl) (pv1 1 rfl eg_) (al_ GH_ (hr.mono (by decide)) cC_ (pa_c (pv1 0 rfl ef_) ab_)) (by with_unfolding_all rfl)) (ag_ (jr_ EX.own_NoStep EX.m_NoStep hr.hd cv_ (pa_c cm_ ab_))) aB_
   case' g16=>refine' ai_ (Fx_ ?g27 (ag_ (jr_ EX.own_NoStep EX.m_NoStep hr.hd cv_ (pa_c cm_ ab_))) aB_) (ag_ (au_ (pv1 3 rfl cy_)))
   case' g27=>refine' gW_ (fL_ (al_ Gl_ (hr.mono (by decide)) cd_ (pa_c (pv1 3 rfl cy_) (pa_c (pv1 2 rfl hn_) ab_))))
  case R =>
   nofun;refine ⟨v,N,rfl,hv,ok,fun D1 H1 s1 nD1 hD1=>⟨D1,rfl,_,.inl (.inl (.inl hD1)),rfl,e1_ _,?_⟩⟩;rw [gc_];refine ite2 (fun c1=>?_) (fun c1=>?_)
   ·refine n8_ (kx (fun r hr hx np _ _=>Bm_ c1 ?_) H1 s1);unfold Gr_;exact A9_.mpr ⟨Al_.mpr ⟨r,hr,hx⟩,AQ_ np⟩
   ·have hin:x∈Gr_ N:=CT_.mp fun z=>c1 (Az_ z);unfold Gr_ at hin;obtain ⟨hx,np⟩:=A9_.mp hin
    replace np:=AG_ np
    obtain ⟨r,hr,rfl⟩:=Al_.mp hx;obtain ⟨pn,p0,p1,p2,rs,ws,rfl,hn,h0,h1,r1,h2,r2⟩:=bC_ hv;obtain ⟨kvs,k1,k2,k3,k4⟩:=jP_ r1;have rl:rs.length=N.rows.length:=by rw [r1.length,Ab_]
    have few:=ok.few;have knd:(kvs.map (·.1)).Nodup:=by rw [k1];have:=ok.nd;unfold List.Nodup at this ⊢;rw [Bo_] at this ⊢;exact this.imp fun h z=>h (Bx_ z)
    have em:FB_ [] kvs=kvs:=hI_ kvs [] (by rw [Dk_];exact knd);obtain ⟨l,m1,m2⟩:=k4 r hr
    try nofun
    have rsm:r.2.length<=30:=by
     have h1:r.2.length<=N.all.length:=by unfold Net.all;exact (Cs_ (Al_.mpr ⟨r,hr,rfl⟩)).length_le
     have:=ok.tot;lia
    refine ⟨_,s1 _ _ hn,_,Fw_,p1,rfl,rs,s1 _ _ h1,kvs,k2,by lia,fun i q hq=>(k3 i q hq).elim fun a z=>⟨a,z.1,s1 _ _ z.2⟩,fun d nd=>?_⟩;rw [em];have S2:=EX_.new nd (o:=HO.dK kvs);have hd:=aa_ (H:=H1) (a:=d) (o:=HO.dK kvs);generalize upd H1 d (HO.dK kvs)=H2 at *;have vl:=jO_ knd m1;have s2:=s1.trans S2;refine ⟨.ref l,by have:=F7_.k (k:=.inr r.1) hd;rw [vl] at this;exact this,l,r.2,c,rfl,s2 _ _ m2,rsm,fun H3 S3=>⟨_,rfl,?_⟩⟩;have s3:=s2.trans S3;refine ite2 (fun c2=>?_) (fun c2=>?_)
    ·refine n8_ (kx (fun r' hr' hx' _ e1 e2=>Bm_ c2 ?_) H3 s3);have:r'=r:=qx_ ok hr' hr hx';rw [<-this];exact ⟨e1,e2⟩
    ·have c3:r.2.length=c/\dc r.2=c:=CT_.mp fun z=>c2 (Az_ z);exact k r hr rfl np c3.1 c3.2 l H3 s3 (s3 _ _ m2)
variable {P:Program}{w:World}{K:PySem.W.Frag}{mg:Str->Option Value}{base:Heap}{CR CS CD:Addr}
structure Nk (N:Net Str):Prop where
 ok:Fk_ N
 wo:WOk N
 ri:N.worths.Pairwise (fun a b=>eLe (a.1,0) (b.1,0))
theorem Nk.hw {N:Net Str}(h:Nk N):∀ y∈N.worths.map (·.1),y∈N.all:=fun y hy=>(h.wo.mem y).mp hy
theorem GE_.back {H H1 H':Hp}{v:V}{M:Net Str}(f:GE_ H1 H' v M)(s:EX_ H H1):GE_ H H' v M:=by obtain ⟨r,pn,p0,p1,p2,rs,h1,h2,h3,h4,h5,h6,h8,h7⟩:=f;exact ⟨r,pn,p0,p1,p2,rs,h1,h2,h3,s.free h4,s.free h5,s.free h6,h8,fun i x hx=>(h7 i x hx).elim fun q z=>⟨q,z.elim fun nm z=>⟨nm,z.elim fun l z=>⟨l,z.1,z.2.1,s.free z.2.2⟩⟩⟩⟩
def F3_ (p q:Int×Int):Int×Int:=nf (p.1*q.2+q.1*p.2) (p.2*q.2)
def GB_ (p q:Int×Int):Int×Int:=nf (p.1*q.1) (p.2*q.2)
def fBy (p q:Int×Int):Int×Int:=nf (p.1*q.2) (p.2*q.1)
theorem k2_ (p q:Int×Int):GB_ p q=GB_ q p:=by unfold GB_;rw [Int.mul_comm p.1,Int.mul_comm p.2]
def Kw_ (CS:Addr)(due:Net Str->Str->Option (Net Str)):Sp:=fun vs H Q E=>∃ (v:V)(N:Net Str)(x:Str),vs=[v,.str x]/\Rep H v (Go_ N)/\Nk N/\(∀ M,due N x=some M->∀ v' H',EX_ H H'->GE_ H H' v' M->Q v' H')/\(due N x=none->∀ H',EX_ H H'->E (.ref CS) none H')
theorem rg_ (A B:Str):dc [A,B]=2 ↔ A≠B:=by
 have h1:dc [A]=1:=rfl;have h2:=lo_ [A] B;rw [h1] at h2;rw [show [A,B]=[A]++[B] from rfl,h2];by_cases h:A=B
 ·subst h;rw [if_pos (by simp [inT])];simp
 ·rw [if_neg (by simp [inT];exact fun z=>h z.symm)];simp [h]
theorem jc_ {H:Hp}:∀ {ws:List V}{wo:List (Str×(Int×Int))},Fg_ H ws (wo.map dWo)->∃ kvs:List (Key×V),kvs.map (·.1)=wo.map (fun r=>Sum.inr r.1)/\ws.length=kvs.length/\(∀ (i:Nat)(q:Key×V),kvs[i]?=some q->∃ a,ws[i]?=some (.ref a)/\H a=some (.tup [kV q.1,q.2]))/\∀ r∈wo,∃ u,(Sum.inr r.1,u)∈kvs/\Rep H u (dF r.2)
 | _,[],h=>by
  cases h;exact ⟨[],rfl,rfl,fun i q e=>(nomatch e),fun r hr=>(nomatch hr)⟩
 | _,r::wo,⟨x,l,e,hx,hl⟩=>by
  subst e;obtain ⟨kvs,k1,k2,k3,k4⟩:=jc_ hl;obtain ⟨q,_,rfl,hq,_,_,rfl,e2,u,_,rfl,e3,rfl⟩:=hx;cases e2;refine ⟨(.inr r.1,u)::kvs,by rw [AB_,AB_,k1],by rw [AH_,AH_,k2],fun i z e=>?_,fun r' hr=>?_⟩
  ·cases i with
   | zero=>cases e;exact ⟨q,rfl,hq⟩
   | succ i=>exact k3 i z e
  ·rcases Ao_.mp hr with rfl|hr
   ·exact ⟨u,At_,e3⟩
   ·obtain ⟨u',m1,m2⟩:=k4 r' hr;exact ⟨u',An_ _ m1,m2⟩
theorem HS_ {N:Net Str}(wo:WOk N){x:Str}(h:x∈N.all):(x,wN N x)∈N.worths:=by
 obtain ⟨r,hr,e⟩:=Al_.mp ((wo.mem x).mpr h);unfold wN;cases z:N.worths.find? fun r=>decide (r.1=x) with
 | none =>
  have:=List.find?_eq_none.mp z r hr;simp [e] at this
 | some r' =>have h1:=B5_ z;have h2:r'.1=x:=AG_ (by simpa using Dn_ z);rw [<-h2];exact h1
theorem oc_ {N:Net Str}(nk:Nk N){H:Hp}{ws:List V}(r2:Fg_ H ws (N.worths.map dWo)):∃ kvs:List (Key×V),ws.length=kvs.length/\kvs.length<=900/\(∀ (i:Nat)(q:Key×V),kvs[i]?=some q->∃ a,ws[i]?=some (.ref a)/\H a=some (.tup [kV q.1,q.2]))/\FB_ [] kvs=kvs/\∀ x∈N.all,∃ u,Ft_ kvs (.inr x)=some u/\Rep H u (dF (wN N x)):=by
 obtain ⟨kvs,k1,k2,k3,k4⟩:=jc_ r2;have rl:ws.length=N.worths.length:=by rw [r2.length,Ab_]
 have few:=nk.ok.wl;have knd:(kvs.map (·.1)).Nodup:=by rw [k1];have:=nk.wo.nd;unfold List.Nodup at this ⊢;rw [Bo_] at this ⊢;exact this.imp fun h z=>h (Bx_ z)
 refine ⟨kvs,k2,by lia,k3,hI_ kvs [] (by rw [Dk_];exact knd),fun x hx=>?_⟩;obtain ⟨u,m1,m2⟩:=k4 _ (HS_ nk.wo hx);exact ⟨u,jO_ knd m1,m2⟩
theorem Sm.ws {p:Int×Int}(h:Ws p):Low p/\Builtin.Int.intBits p.1<=10/\Builtin.Int.intBits p.2<=10:=by have:=h.1.pos;obtain ⟨h1,h2,h3,h4⟩:=h;exact ⟨h1,AY_ (b:=1000) (by lia) (by decide),AY_ (b:=1000) (by lia) (by decide)⟩
theorem Sm.nf {t b:Int}(hb:b≠0)(h1:Builtin.Int.intBits t<=100)(h2:Builtin.Int.intBits b<=100):Sm (nf t b):=by have ha:=h7_ (t:=t) (b:=b) hb;have a1:=AY_ ha.1 h1;have a2:=AY_ ha.2 h2;exact ⟨(nr_ hb).1,by lia,by lia⟩
structure Two (p q:Int×Int):Prop where
 sp:Sm p
 sq:Sm q
 bn:p.2*q.2≠0
 sm:Sm (GB_ p q)
 sa:Sm (F3_ p q)
 on:(GB_ p q).2*(F3_ p q).1≠0
theorem Two.of {p q:Int×Int}(hp:Ws p)(hq:Ws q):Two p q:=by obtain ⟨l1,b1,b2⟩:=Sm.ws hp;obtain ⟨l2,c1,c2⟩:=Sm.ws hq;have p0:=l1.pos;have q0:=l2.pos;have bn:p.2*q.2≠0:=Do_ (by lia) (by lia);have m1:=Bc_ b1 c1;have m2:=Bc_ b2 c2;have m3:=Bc_ b1 c2;have m4:=Bc_ c1 b2;have m5:=BB_ m3 m4;refine ⟨⟨l1,by lia,by lia⟩,⟨l2,by lia,by lia⟩,bn,Sm.nf bn (by lia) (by lia),Sm.nf bn (by lia) (by lia),?_⟩;have t0:0<p.1*q.2+q.1*p.2:=EV_ (Br_ hp.2.1 q0) (Br_ hq.2.1 p0);have h:=Il_ (t:=p.1*q.2+q.1*p.2) (b:=p.2*q.2) bn;have hm:=(Il_ (t:=p.1*q.1) (b:=p.2*q.2) bn).low.pos;refine Do_ (by unfold GB_;lia) fun z=>?_;have e:=h.eq;have z':(RimM.nf (p.1*q.2+q.1*p.2) (p.2*q.2)).1=0:=z;rw [z',Int.zero_mul] at e;have:=Br_ t0 h.low.pos;lia
theorem jR_ (A B C:Str):dc [A,B,C]=3 ↔ A≠B/\A≠C/\B≠C:=by
 have h1:=rg_ A B;have h2:=lo_ [A,B] C;have h3:=KV_ [A,B];rw [show [A,B,C]=[A,B]++[C] from rfl,h2];by_cases h:C=A\/C=B
 ·rw [if_pos (by simp [inT];exact h)];exact ⟨fun z=>absurd z (by simp at h3;lia),fun z=>absurd h (fun y=>y.elim (fun y=>z.2.1 y.symm) fun y=>z.2.2 y.symm)⟩
 ·rw [if_neg (by simp [inT];exact ⟨fun z=>h (.inl z),fun z=>h (.inr z)⟩)];exact ⟨fun z=>⟨h1.mp (by lia),fun y=>h (.inl y.symm),fun y=>h (.inr y.symm)⟩,fun z=>by have:=h1.mpr z.1;lia⟩
structure I6_ (p q r:Int×Int):Prop where
 sp:Sm p
 sq:Sm q
 sr:Sm r
 pq:p.2*q.2≠0
 sa:Sm (F3_ p q)
 ar:(F3_ p q).2*r.2≠0
 sw:Sm (F3_ (F3_ p q) r)
 tp:0<(F3_ (F3_ p q) r).1
 mul:∀ u v,(u=p\/u=q\/u=r)->(v=p\/v=q\/v=r)->u.2*v.2≠0/\Sm (GB_ u v)/\(GB_ u v).2*(F3_ (F3_ p q) r).1≠0
theorem I6_.of {p q r:Int×Int}(hp:Ws p)(hq:Ws q)(hr:Ws r):I6_ p q r:=by
 obtain ⟨l1,b1,b2⟩:=Sm.ws hp;obtain ⟨l2,c1,c2⟩:=Sm.ws hq;obtain ⟨l3,d1,d2⟩:=Sm.ws hr;have p0:=l1.pos;have q0:=l2.pos;have r0:=l3.pos;have t:=Two.of hp hq;have bn:=t.bn;have ha:=Il_ (t:=p.1*q.2+q.1*p.2) (b:=p.2*q.2) bn;have a0:0<(F3_ p q).2:=ha.low.pos;have m2:=Bc_ b2 c2;have m5:=BB_ (Bc_ b1 c2) (Bc_ c1 b2);have hab:=h7_ (t:=p.1*q.2+q.1*p.2) (b:=p.2*q.2) bn;have a1:Builtin.Int.intBits (F3_ p q).1<=21:=AY_ hab.1 (by lia);have a2:Builtin.Int.intBits (F3_ p q).2<=20:=AY_ hab.2 (by lia);have ar:(F3_ p q).2*r.2≠0:=Do_ (by lia) (by lia);have w1:=BB_ (Bc_ a1 d2) (Bc_ d1 a2);have w2:=Bc_ a2 d2
 have apos:0<(F3_ p q).1:=by
  have t0:0<p.1*q.2+q.1*p.2:=EV_ (Br_ hp.2.1 q0) (Br_ hq.2.1 p0);have e:=ha.eq;have e':(F3_ p q).1*(p.2*q.2)=(p.1*q.2+q.1*p.2)*(F3_ p q).2:=e;have h1:=Br_ t0 a0;have h2:=Br_ p0 q0;exact Int.lt_of_not_ge fun z=>by have:=CU_ z (DX_ h2);lia
 have hw:=Il_ (t:=(F3_ p q).1*r.2+r.1*(F3_ p q).2) (b:=(F3_ p q).2*r.2) ar
 have wp:0<(F3_ (F3_ p q) r).1:=by
  have e':(F3_ (F3_ p q) r).1*((F3_ p q).2*r.2)=((F3_ p q).1*r.2+r.1*(F3_ p q).2)*(F3_ (F3_ p q) r).2:=hw.eq;have t0:0<(F3_ p q).1*r.2+r.1*(F3_ p q).2:=EV_ (Br_ apos r0) (Br_ hr.2.1 a0);have w0:0<(F3_ (F3_ p q) r).2:=hw.low.pos;have h1:=Br_ t0 w0;have h2:=Br_ a0 r0;exact Int.lt_of_not_ge fun z=>by have:=CU_ z (DX_ h2);lia
 have wpos:(F3_ (F3_ p q) r).1≠0:=by lia
 refine ⟨t.sp,t.sq,⟨l3,by lia,by lia⟩,bn,t.sa,ar,Sm.nf ar (by lia) (by lia),wp,fun u v hu hv=>?_⟩;have us:Ws u:=by rcases hu with rfl|rfl|rfl <;> assumption
 have vs:Ws v:=by rcases hv with rfl|rfl|rfl <;> assumption
 have t2:=Two.of us vs;exact ⟨t2.bn,t2.sm,Do_ (by have:=(Il_ (t:=u.1*v.1) (b:=u.2*v.2) t2.bn).low.pos;unfold GB_;lia) wpos⟩
def FV_ (N:Net Str)(x G:Str):End Str:=((F1_ N G).find? fun e=>decide (e.1≠x)).getD (x,0)
theorem od_ {N:Net Str}{x G:Str}{far:End Str}(h1:far.1≠x)(h2:far∈F1_ N G)(h3:∀ e∈F1_ N G,e.1=x\/e=far):FV_ N x G=far:=by
 unfold FV_;cases z:(F1_ N G).find? fun e=>decide (e.1≠x) with
 | none =>
  have:=List.find?_eq_none.mp z far h2;simp [h1] at this
 | some e =>have h4:=B5_ z;have h5:e.1≠x:=AG_ (Dn_ (p:=fun e:End Str=>decide (e.1≠x)) z);exact (h3 e h4).resolve_left h5
def HA_ (N:Net Str)(A B C:Str):Int×Int:=F3_ (F3_ (wN N A) (wN N B)) (wN N C)
def wvS (N:Net Str)(A B C:Str):Str->Option (Int×Int):=wfS A B C (fBy (GB_ (wN N C) (wN N B)) (HA_ N A B C)) (fBy (GB_ (wN N A) (wN N C)) (HA_ N A B C)) (fBy (GB_ (wN N B) (wN N A)) (HA_ N A B C))
def inS (N:Net Str)(x A B C:Str):End Str->Option (List Str):=H2_ (FV_ N x A) (FV_ N x B) (FV_ N x C) A B C
def Hj_ (N:Net Str)(x:Str):Option (Net Str):=if x∈N.posts then none else match Gu_ N x with | [A,B,C]=>if A≠B/\A≠C/\B≠C then some (Gz_ N x (inS N x A B C) (wvS N A B C)) else none|_=>none
theorem k3_ {N:Net Str}(ok:Fk_ N){x A B C:Str}(hr:(x,[A,B,C])∈N.rows)(np:x∉N.posts)(h:A≠B/\A≠C/\B≠C):Hj_ N x=some (Gz_ N x (inS N x A B C) (wvS N A B C)):=by
 unfold Hj_;have:=c3_ ok hr
 dsimp only at this
 rw [if_neg np,this];exact if_pos h
theorem iv_ {N:Net Str}(ok:Fk_ N){x:Str}(h:∀ r∈N.rows,r.1=x->x∉N.posts->r.2.length=3->dc r.2=3->False):Hj_ N x=none:=by
 unfold Hj_;by_cases np:x∈N.posts
 ·rw [if_pos np]
 ·rw [if_neg np]
  match e:Gu_ N x with
  | []=>rfl
  | [A]=>rfl
  | [A,B]=>rfl
  | _::_::_::_::_=>rfl
  | [A,B,C] =>
   show (if A≠B/\A≠C/\B≠C then _ else none)=none;refine if_neg fun z=>?_;unfold Gu_ at e;cases e2:N.rows.find? fun r=>decide (r.1=x) with
   | none=>rw [e2] at e;cases e
   | some r =>rw [e2] at e;have e3:r.2=[A,B,C]:=e;exact h r (B5_ e2) (AG_ (Dn_ (p:=fun r:Str×List Str=>decide (r.1=x)) e2)) np (by rw [e3];rfl) (by rw [e3];exact (jR_ A B C).mpr z)
def lk {α β:Type}[DecidableEq α]:List (α×β)->α->Option β
 | [],_=>none
 | f::fs,e=>if e=f.1 then some f.2 else lk fs e
theorem iw_ {α β:Type}[DecidableEq α]{f:α×β}:∀ {fs:List (α×β)},lk fs f.1=none->∀ e,lk (fs++[f]) e=if e=f.1 then some f.2 else lk fs e
 | [],_,_=>rfl
 | g::fs,no,e=>by
  unfold lk at no;have h1:¬ f.1=g.1:=fun z=>by rw [if_pos z] at no;cases no
  rw [if_neg h1] at no;show (if e=g.1 then some g.2 else lk (fs++[f]) e)=_;rw [iw_ no e];by_cases h:e=g.1
  ·rw [if_pos h,if_neg (fun z=>h1 (z.symm.trans h))];exact (if_pos h).symm
  ·rw [if_neg h];split
   ·rfl
   ·exact (if_neg h).symm
structure SD (B H:Hp)(di dw:Addr)(fs:List (End Str×List Str))(gs:List (Str×(Int×Int))):Prop where
 sB:EX_ B H
 nd:B di=none
 nw:B dw=none
 i:∃ kvs,H di=some (.dT kvs)/\kvs.length<=fs.length/\∀ e,match lk fs e with|none=>Ft_ kvs (eK e)=none|some ls=>∃ l,Ft_ kvs (eK e)=some (.ref l)/\H l=some (.lst (ls.map V.str))
 w:∃ kw,H dw=some (.dK kw)/\kw.length<=gs.length/\∀ x,match lk gs x with|none=>Ft_ kw (.inr x)=none|some p=>∃ q,Ft_ kw (.inr x)=some (.ref q)/\H q=some (.tup [.int p.1,.int p.2])
theorem SD.mono {B H H':Hp}{di dw:Addr}{fs:List (End Str×List Str)}{gs:List (Str×(Int×Int))}(h:SD B H di dw fs gs)(s:EX_ H H'):SD B H' di dw fs gs:=by
 obtain ⟨kvs,a1,a2,a3⟩:=h.i;obtain ⟨kw,b1,b2,b3⟩:=h.w;refine ⟨h.sB.trans s,h.nd,h.nw,⟨kvs,s _ _ a1,a2,fun e=>?_⟩,⟨kw,s _ _ b1,b2,fun x=>?_⟩⟩
 ·have:=a3 e;cases z:lk fs e with
  | none=>rw [z] at this;exact this
  | some ls=>rw [z] at this;obtain ⟨l,y1,y2⟩:=this;exact ⟨l,y1,s _ _ y2⟩
 ·have:=b3 x;cases z:lk gs x with
  | none=>rw [z] at this;exact this
  | some ls=>rw [z] at this;obtain ⟨l,y1,y2⟩:=this;exact ⟨l,y1,s _ _ y2⟩
theorem SD.putI {B H:Hp}{di dw:Addr}{fs:List (End Str×List Str)}{gs:List (Str×(Int×Int))}(h:SD B H di dw fs gs){e:End Str}{ls:List Str}{l:Addr}(no:lk fs e=none)(hl:H l=some (.lst (ls.map V.str))):∃ kvs,H di=some (.dT kvs)/\kvs.length<=fs.length/\SD B (upd H di (.dT (FR_ kvs (eK e) (.ref l)))) di dw (fs++[(e,ls)]) gs:=by
 obtain ⟨kvs,a1,a2,a3⟩:=h.i;obtain ⟨kw,b1,b2,b3⟩:=h.w;have wd:dw≠di:=fun z=>by rw [z,a1] at b1;cases b1
 have lne:∀ {b:Addr}{xs:List V},H b=some (.lst xs)->b≠di:=fun y z=>by rw [z,a1] at y;cases y
 have tne:∀ {b:Addr}{xs:List V},H b=some (.tup xs)->b≠di:=fun y z=>by rw [z,a1] at y;cases y
 refine ⟨kvs,a1,a2,⟨aM_ h.sB h.nd,h.nd,h.nw,⟨_,aa_,by have:=aP_ kvs (eK e) (.ref l);rw [Ah_,A4_];lia,fun e'=>?_⟩,⟨kw,by rw [ah_ wd];exact b1,b2,fun x=>?_⟩⟩⟩
 ·rw [iw_ (f:=(e,ls)) no,a7_];by_cases c:e'=e
  ·subst c;rw [if_pos rfl,if_pos rfl];exact ⟨l,rfl,by rw [ah_ (lne hl)];exact hl⟩
  ·rw [if_neg c,if_neg (fun z=>c (iq_ z))];have:=a3 e';cases z:lk fs e' with
   | none=>rw [z] at this;exact this
   | some ls=>rw [z] at this;obtain ⟨l,y1,y2⟩:=this;exact ⟨l,y1,by rw [ah_ (lne y2)];exact y2⟩
 ·have:=b3 x;cases z:lk gs x with
  | none=>rw [z] at this;exact this
  | some ls=>rw [z] at this;obtain ⟨l,y1,y2⟩:=this;exact ⟨l,y1,by rw [ah_ (tne y2)];exact y2⟩
theorem SD.putW {B H:Hp}{di dw:Addr}{fs:List (End Str×List Str)}{gs:List (Str×(Int×Int))}(h:SD B H di dw fs gs){x:Str}{p:Int×Int}{q:Addr}(no:lk gs x=none)(hq:H q=some (.tup [.int p.1,.int p.2])):∃ kw,H dw=some (.dK kw)/\kw.length<=gs.length/\SD B (upd H dw (.dK (FR_ kw (.inr x) (.ref q)))) di dw fs (gs++[(x,p)]):=by
 obtain ⟨kvs,a1,a2,a3⟩:=h.i;obtain ⟨kw,b1,b2,b3⟩:=h.w;have wd:di≠dw:=fun z=>by rw [<-z,a1] at b1;cases b1
 have lne:∀ {b:Addr}{xs:List V},H b=some (.lst xs)->b≠dw:=fun y z=>by rw [z,b1] at y;cases y
 have tne:∀ {b:Addr}{xs:List V},H b=some (.tup xs)->b≠dw:=fun y z=>by rw [z,b1] at y;cases y
 refine ⟨kw,b1,b2,⟨aM_ h.sB h.nw,h.nd,h.nw,⟨kvs,by rw [ah_ wd];exact a1,a2,fun e'=>?_⟩,⟨_,aa_,by have:=aP_ kw (.inr x) (.ref q);rw [Ah_,A4_];lia,fun y=>?_⟩⟩⟩
 ·have:=a3 e';cases z:lk fs e' with
  | none=>rw [z] at this;exact this
  | some ls=>rw [z] at this;obtain ⟨l,y1,y2⟩:=this;exact ⟨l,y1,by rw [ah_ (lne y2)];exact y2⟩
 ·rw [iw_ (f:=(x,p)) no,a7_];by_cases c:y=x
  ·subst c;rw [if_pos rfl,if_pos rfl];exact ⟨q,rfl,by rw [ah_ (tne hq)];exact hq⟩
  ·rw [if_neg c,if_neg (fun z=>c (Bx_ z))];have:=b3 y;cases z:lk gs y with
   | none=>rw [z] at this;exact this
   | some ls=>rw [z] at this;obtain ⟨l,y1,y2⟩:=this;exact ⟨l,y1,by rw [ah_ (tne y2)];exact y2⟩
abbrev E3_:Stmt:=stN 42
theorem a9_:E2_ ["net", "point", "wires", "far", "old", "whole", "instead", "worths", "place", "wire"] ["net", "point"] (EW_ E3_):=⟨rfl,rfl,rfl,by rfl',rfl,by rfl',by rfl'⟩
theorem di_:LK E3_ "net" .cell:=by rfl'
theorem dj_:LK E3_ "point" .local:=by rfl'
theorem bE_:LK E3_ "wires" .local:=by rfl'
theorem fc_:LK E3_ "far" .local:=by rfl'
theorem bs_:LK E3_ "old" .local:=by rfl'
theorem fd_:LK E3_ "whole" .local:=by rfl'
theorem dk_:LK E3_ "instead" .local:=by rfl'
theorem dl_:LK E3_ "worths" .local:=by rfl'
theorem bt_:LK E3_ "place" .local:=by rfl'
theorem fe_:LK E3_ "wire" .local:=by rfl'
theorem e7_:LK E3_ "changed" .globalImplicit:=by rfl'
theorem ek_:LK E3_ "enumerate" .globalImplicit:=by rfl'
theorem d3_:LK E3_ "other_ends" .globalImplicit:=by rfl'
theorem gO_:LK E3_ "over" .globalImplicit:=by rfl'
theorem dC_:LK E3_ "plus" .globalImplicit:=by rfl'
theorem gf_:LK E3_ "times" .globalImplicit:=by rfl'
theorem dD_:LK E3_ "wires_asked" .globalImplicit:=by rfl'
theorem jS_ (T:Txt K mg)(EX:Exs K mg CS)(F:Fn0 K mg "star_done" E3_) (R_wires_asked:IH_ P w K mg base "wires_asked" ["net", "point", "count"] 3 (KB_ CS)) (Hy_:Cal P w K mg base "other_ends" ["net"] 2 Hp_) (IW_:Cal P w K mg base "changed" ["net", "instead", "gone", "worths"] 1 Kv_) (JH_:Cal P w K mg base "plus" ["one", "other"] 3 (GT_ K (fun p q=>p.1*q.2+q.1*p.2) (fun p q=>p.2*q.2))) (Ke_:Cal P w K mg base "times" ["one", "other"] 3 (GT_ K (fun p q=>p.1*q.1) (fun p q=>p.2*q.2))) (KX_:Cal P w K mg base "over" ["one", "other"] 3 (GT_ K (fun p q=>p.1*q.2) (fun p q=>p.2*q.1))):IH_ P w K mg base "star_done" ["net", "point"] 4 (Kw_ CS Hj_):=by
 refine lh_ F a9_ (fun _ _ _ _ _ _=>byL2 fun _ _=>rfl) ?len ?body
 case len=>rintro vs H Q E ⟨a,b,c,rfl,_⟩;rfl
 case body =>
  intro f cdv A outer s H vs Q E hr h;obtain ⟨v,N,x,rfl,hv,nk,k,kx⟩:=h;refine' ⟨_,?D,?R⟩
  case D =>
   refine' ad_ ?g1 (ad_ (aj_ (i:=3) a9_.nd rfl fc_ (al_ Hy_ (hr.mono (by decide)) d3_ (pa_c (pvc 0 rfl di_) ab_))) ?g12)
   case' g1=>refine' aj_ (i:=2) a9_.nd rfl bE_ (lX_ R_wires_asked (hr.mono (by decide)) KR_ dD_ (pa_c (pvc 0 rfl di_) (pa_c (pv1 1 rfl dj_) (pa_c ac_ ab_))))
   case' g12=>refine' ad_ (pr_ (gv_ (i:=4) (N':=["wire", "net"]) (ix:=[none,some 0]) rfl rfl a9_.nd rfl bs_ rfl (a6_ ?g20) (ay_ (K:=K) rfl (pv1 2 rfl bE_)) (fun _ _ _=>?g22) (fun _ _ _=>?g23) (fun _ _ _=>(bU_ (un1 hr.units) (aX_ (eW_ rfl) rfl T.n_dict jN_ (pa_c (E0_ am_ (pvc 1 rfl rfl) ac_ (fun _ _=>rfl)) ab_)) (pv1 0 rfl rfl) (fun _ _=>rfl))))) ?g18
   case g20=>exact (by show Ge_ (EW_ E3_) ["net", "point", "wires", "far", "old", "whole", "instead", "worths", "place", "wire"] _ _ _=true;decide +kernel)
   case g22=>exact ae_ (i:=0) (by show List.Nodup (["wire", "net"]:List Str);decide +kernel) rfl rfl
   case g23=>exact cn_
   case' g18=>refine' ad_ (aj_ (i:=5) a9_.nd rfl fd_ (al_ JH_ (hr.mono (by decide)) dC_ ?g36)) (ad_ ?g52 (ad_ ?g54 (ad_ ?g56 (ag_ ?g117))))
   case' g36=>refine' pa_c (al_ JH_ (hr.mono (by decide)) dC_ (pa_c (E0_ ao_ (pv1 4 rfl bs_) ac_ (fun _ _=>rfl)) (pa_c (E0_ ao_ (pv1 4 rfl bs_) ac_ (fun _ _=>rfl)) ab_))) (pa_c (E0_ ao_ (pv1 4 rfl bs_) ac_ (fun _ _=>rfl)) ab_)
   case g52=>exact aj_ (i:=6) a9_.nd rfl dk_ fT_
   case g54=>exact aj_ (i:=7) a9_.nd rfl dl_ dJ_
   case' g56=>refine' pr_ (aV_ Au_ rfl (lj_ (K:=K) rfl ek_ T.n_enumerate (pa_c (pv1 2 rfl bE_) ab_)) (aJ_ (K:=K) (n:=2) rfl rfl (ak_ ?g66 (ak_ ?g68 aC_))) ?g61)
   case g66=>exact ae_ (i:=8) a9_.nd rfl bt_
   case g68=>exact ae_ (i:=9) a9_.nd rfl fe_
   case' g61=>refine' ad_ (cL_ (un1 hr.units) (pv1 6 rfl dk_) (bU_ (un1 hr.units) (pv1 3 rfl fc_) (ax_ (pa_c (pv1 1 rfl dj_) (pa_c (pv1 8 rfl bt_) ab_))) (fun _ _=>rfl)) ?g74 rfl) ?g71
   case' g74=>refine' a5_ (pa_c (E0_ ao_ (pv1 2 rfl bE_) (EZ_ gX_ (pv1 8 rfl bt_) ac_) (fun _ _=>rfl)) (pa_c (E0_ ao_ (pv1 2 rfl bE_) (EZ_ gX_ (pv1 8 rfl bt_) ac_) (fun _ _=>rfl)) ab_))
   case' g71=>refine' ag_ (cL_ (un1 hr.units) (pv1 7 rfl dl_) (pv1 9 rfl fe_) (al_ KX_ (hr.mono (by decide)) gO_ (pa_c ?g100 (pa_c (pv1 5 rfl fd_) ab_))) rfl)
   case' g100=>refine' al_ Ke_ (hr.mono (by decide)) gf_ (pa_c (E0_ ao_ (pv1 4 rfl bs_) (EZ_ gX_ (pv1 8 rfl bt_) ac_) (fun _ _=>rfl)) (pa_c (E0_ ao_ (pv1 4 rfl bs_) (EZ_ gX_ (pv1 8 rfl bt_) ac_) (fun _ _=>rfl)) ab_))
   case' g117=>refine' au_ (al_ IW_ (hr.mono (by decide)) e7_ (pa_c (pvc 0 rfl di_) (pa_c (pv1 6 rfl dk_) (pa_c (a5_ (pa_c (pv1 1 rfl dj_) ab_)) (pa_c (pv1 7 rfl dl_) ab_)))))
  case R =>
   nofun;refine ⟨v,N,x,3,rfl,hv,nk.ok,fun r hr hx np hl hd l H1 s1 hl1=>?_,fun hno H1 s1=>kx (iv_ nk.ok hno) H1 s1⟩;obtain ⟨x',ws⟩:=r
   dsimp only at hx hl hd hl1
   subst hx
   obtain ⟨A0,B0,C0,rfl⟩:∃ A0 B0 C0,ws=[A0,B0,C0]:=by
    match ws,hl with
    | [a,b,c],_=>exact ⟨a,b,c,rfl⟩
   have hAB:=(jR_ A0 B0 C0).mp hd;have du:=k3_ nk.ok hr np hAB
   replace k:=k _ du
   clear kx du;nofun;refine ⟨v,N,rfl,Rep.mono s1 _ hv,nk.ok,fun d k2 H2 s2 hd2 mo nd=>?_⟩;nofun;have s12:=s1.trans s2;have hl2:=s2 _ _ hl1;obtain ⟨pn,p0,p1,p2,rs,ws,rfl,hn,h0,h1,r1,h2,r2⟩:=bC_ hv;obtain ⟨kw,k1,k2',k3,em,kv⟩:=oc_ nk r2;have inAll:∀ y∈[A0,B0,C0],y∈N.all:=fun y hy=>Bu_.mpr ⟨_,Al_.mpr ⟨_,hr,rfl⟩,hy⟩;refine ⟨⟨_,.inl (.inl hl2)⟩,?_⟩;refine bv_ (n:=3) (B:=fun _=>none) (Pσ:=fun σ=>∃ e,σ=[e,some (.ref pn)]) (ds:=[A0,B0,C0].map fun y=>dF (wN N y)) (fun b o e=>by cases e) ⟨_,rfl⟩ rfl (by decide) (fun j H' hj s'=>⟨[A0,B0,C0].map V.str,V.str ([A0,B0,C0].getD j Str.empty),.inl (.inl (s' _ _ hl2)),by rcases (show j=0\/j=1\/j=2 by lia) with rfl|rfl|rfl <;> rfl⟩) (fun H' s'=>⟨[A0,B0,C0].map V.str,.inl (.inl (s' _ _ hl2)),Af_ _⟩) ?_ ?_
   ·rintro D i y d' σ' Z Z' hD hDo hs2 hi hdi ⟨rfl,hy⟩ ⟨e,rfl⟩ R kR;have hy2:=hy _ (.inl (.inl (hs2 _ _ hl2)));have s13:=s12.trans hs2;rw [Ae_] at hdi hy2;obtain ⟨yw,hyw,rfl⟩:=CX_.mp hy2;rw [hyw] at hdi;cases hdi;obtain ⟨u,hu,ru⟩:=kv yw (inAll yw (Ak_ hyw));nofun;refine ⟨_,s13 _ _ hn,_,Gi_,p2,rfl,ws,s13 _ _ h2,kw,k1,k2',fun i q hq=>(k3 i q hq).elim fun a z=>⟨a,z.1,s13 _ _ z.2⟩,fun d4 nd4=>?_⟩;rw [em];have S4:=EX_.new nd4 (o:=HO.dK kw);have hd4:=aa_ (H:=Z') (a:=d4) (o:=HO.dK kw);generalize upd Z' d4 (HO.dK kw)=H4 at *;refine ⟨u,hu ▸ F7_.k (k:=.inr yw) hd4,?_⟩;refine kR _ _ _ ⟨_,rfl⟩ S4 (Rep.mono (fun b o e=>?_) _ ru);have bD:b≠D:=fun z=>by have:=s12.free hD;rw [<-z,e] at this;cases this
    rw [bB_ bD rfl];exact S4 _ _ (s13 _ _ e)
   ·intro D H3 hD s3 rep3;obtain ⟨_,us,e0,hD3,hus⟩:=id rep3;cases e0;obtain ⟨ua,_,rfl,ra,ub,_,rfl,rb,uc,_,rfl,rc,rfl⟩:=hus;have nwS:∀ b o,GK_ (fun _=>none) H3 b=some o->H3 b=some o:=fun b o e=>(a0_ e).2
    replace hD3:=nwS _ _ hD3
    replace ra:=Rep.mono nwS _ ra
    replace rb:=Rep.mono nwS _ rb
    replace rc:=Rep.mono nwS _ rc
    have th:=I6_.of (nk.wo.ws _ (HS_ nk.wo (inAll A0 (by simp)))) (nk.wo.ws _ (HS_ nk.wo (inAll B0 (by simp)))) (nk.wo.ws _ (HS_ nk.wo (inAll C0 (by simp))))
    dsimp only at th
    nofun;refine ⟨_,hD3,_,FC_,_,hD3,_,Fw_,?_⟩;refine ⟨ua,ub,wN N A0,wN N B0,rfl,FQ.of ra,FQ.of rb,th.sp,th.sq,th.pq,fun z1 G1 T1 nz1 hz1=>?_⟩;refine ⟨_,T1 _ _ hD3,_,Gi_,?_⟩;refine ⟨_,uc,F3_ (wN N A0) (wN N B0),wN N C0,rfl,⟨z1,rfl,SqT.of hz1⟩,FQ.of (Rep.mono T1 _ rc),th.sa,th.sr,th.ar,fun z2 G2 T2 nz2 hz2=>?_⟩;have s02:=(s12.trans s3).trans (T1.trans T2);nofun;intro di ndi;have S5:=EX_.new ndi (o:=HO.dT []);have hdi:=aa_ (H:=G2) (a:=di) (o:=HO.dT []);generalize upd G2 di (HO.dT [])=H5 at *;nofun;intro dw ndw;have S6:=EX_.new ndw (o:=HO.dK []);have hdw:=aa_ (H:=H5) (a:=dw) (o:=HO.dK []);generalize upd H5 dw (HO.dK [])=H6 at *;have ndw2:G2 dw=none:=S5.free ndw;have s06:=s02.trans (S5.trans S6);have t26:=S5.trans S6;have l6:H6 l=some (.lst [.str A0,.str B0,.str C0]):=(t26) _ _ ((s3.trans (T1.trans T2)) _ _ hl2);nofun;refine ⟨⟨_,.inl (.inl l6)⟩,?_⟩;have wnd:[A0,B0,C0].Nodup:=by simp only [AW_,Ao_,A8_,C2_,not_or,not_false_eq_true,Bh_,and_true];exact ⟨⟨hAB.1,hAB.2.1⟩,hAB.2.2⟩
    have farI:∀ (j:Nat)(y:Str),[A0,B0,C0][j]?=some y->(∃ qf,Ft_ k2 (eK (x',j))=some (.ref qf)/\H2 qf=some (eV (FV_ N x' y)))/\(FV_ N x' y).1≠x'/\(y,FV_ N x' y)∈occ N.rows:=fun j y hj=>by
     obtain ⟨far,hfe,hfx,hfm,hfa⟩:=nP_ nk.ok hr wnd hj;rw [od_ hfx hfm hfa];refine ⟨?_,hfx,fZ_.mp hfm⟩;obtain ⟨kv,hkv,ekv⟩:=jF_ (inAll y (Ak_ hj));obtain ⟨i,hi,ei⟩:=Ar_.mp hkv;have e2:=jE_ hkv;rw [ekv] at e2
     rcases hfe with e|e
     ·exact (mo i kv.1 (x',j) far hi (by rw [Aa_ hi,ei,<-e,<-e2])).1
     ·exact (mo i kv.1 far (x',j) hi (by rw [Aa_ hi,ei,<-e,<-e2])).2
    have ndo:=i3_ nk.ok.nd;obtain ⟨qA,fxA,foA⟩:=farI 0 A0 rfl;obtain ⟨qB,fxB,foB⟩:=farI 1 B0 rfl;obtain ⟨qC,fxC,foC⟩:=farI 2 C0 rfl;have fAB:FV_ N x' A0≠FV_ N x' B0:=fun z=>hAB.1 (BE_ (b8_ ndo foA foB z)).1;have fAC:FV_ N x' A0≠FV_ N x' C0:=fun z=>hAB.2.1 (BE_ (b8_ ndo foA foC z)).1;have fBC:FV_ N x' B0≠FV_ N x' C0:=fun z=>hAB.2.2 (BE_ (b8_ ndo foB foC z)).1
    let fs:List (End Str×List Str):=[(FV_ N x' A0,[C0,B0]),(FV_ N x' B0,[A0,C0]),(FV_ N x' C0,[B0,A0])]
    let gs:List (Str×(Int×Int)):=[(A0,fBy (GB_ (wN N C0) (wN N B0)) (HA_ N A0 B0 C0)),(B0,fBy (GB_ (wN N A0) (wN N C0)) (HA_ N A0 B0 C0)),(C0,fBy (GB_ (wN N B0) (wN N A0)) (HA_ N A0 B0 C0))]
    have key:∀ i:Nat,i<3->∃ (y a b:Str)(ua' ub':V),[V.str A0,V.str B0,V.str C0][i]?=some (.str y)/\atI [V.str A0,V.str B0,V.str C0] ((i:Int)-1)=some (.str a)/\atI [V.str A0,V.str B0,V.str C0] ((i:Int)-2)=some (.str b)/\atI [ua,ub,uc] ((i:Int)-1)=some ua'/\atI [ua,ub,uc] ((i:Int)-2)=some ub'/\Rep H3 ua' (dF (wN N a))/\Rep H3 ub' (dF (wN N b))/\(a=A0\/a=B0\/a=C0)/\(b=A0\/b=B0\/b=C0)/\(∃ qf,Ft_ k2 (eK (x',i))=some (.ref qf)/\H2 qf=some (eV (FV_ N x' y)))/\fs.take (i+1)=fs.take i++[(FV_ N x' y,[a,b])]/\gs.take (i+1)=gs.take i++[(y,fBy (GB_ (wN N a) (wN N b)) (HA_ N A0 B0 C0))]/\lk (fs.take i) (FV_ N x' y)=none/\lk (gs.take i) y=none:=by
     intro i hi
     rcases (show i=0\/i=1\/i=2 by lia) with rfl|rfl|rfl
     ·exact ⟨A0,C0,B0,uc,ub,rfl,rfl,rfl,rfl,rfl,rc,rb,.inr (.inr rfl),.inr (.inl rfl),qA,rfl,rfl,rfl,rfl⟩
     ·exact ⟨B0,A0,C0,ua,uc,rfl,rfl,rfl,rfl,rfl,ra,rc,.inl rfl,.inr (.inr rfl),qB,rfl,rfl,if_neg fAB.symm,if_neg (Ne.symm hAB.1)⟩
     ·exact ⟨C0,B0,A0,ub,ua,rfl,rfl,rfl,rfl,rfl,rb,ra,.inr (.inl rfl),.inl rfl,qC,rfl,rfl,(if_neg fAC.symm).trans (if_neg fBC.symm),(if_neg (Ne.symm hAB.2.1)).trans (if_neg (Ne.symm hAB.2.2))⟩
    refine l8_ (xs:=[V.str A0,V.str B0,V.str C0]) (fun i σ Hy=>∃ (e8 e9:Option V),σ=[some (.ref pn),some (.str x'),some (.ref l),some (.ref d),some (.ref D),some (.ref z2),some (.ref di),some (.ref dw),e8,e9]/\SD G2 Hy di dw (fs.take i) (gs.take i)) ⟨_,_,rfl,t26,ndi,ndw2,⟨[],S6 _ _ hdi,Af_ _,fun e=>rfl⟩,⟨[],hdw,Af_ _,fun e=>rfl⟩⟩ ?_ ?_ ?_
    ·rintro i σ Hy hi ⟨e8,e9,rfl,sd⟩;exact .inl (.inl (sd.sB _ _ ((s3.trans (T1.trans T2)) _ _ hl2)))
    ·rintro i y0 T0 σ Hy hy0 kc kb hkc hkb G hG ⟨e8,e9,rfl,sd⟩ nT;refine hG ?_;have i3:=(Ag_.mp hy0).1;obtain ⟨y,a,b,ua',ub',g1,g2,g3,g4,g5,g6,g7,g8,g9,⟨qf,v1,v2⟩,g10,g11,g12,g13⟩:=key i i3;rw [g1] at hy0;cases hy0;rw [g10,g11] at hkc;have sd2:=sd.mono (EX_.new nT (o:=HO.tup [V.int i,V.str y]));have hT:=aa_ (H:=Hy) (a:=T0) (o:=HO.tup [V.int i,V.str y]);generalize upd Hy T0 (HO.tup [V.int i,V.str y])=H7 at *;nofun;refine ⟨_,SqT.of hT,rfl,_,_,rfl,_,_,rfl,rfl,?_⟩;nofun;have tG:=s3.trans (T1.trans T2);have hl7:=sd2.sB _ _ (tG _ _ hl2);refine ⟨_,hl7,_,g2,_,hl7,_,g3,by decide,fun la nla=>⟨by decide,fun t nt=>?_⟩⟩;have sd3:=sd2.mono (EX_.new nla (o:=HO.lst [V.str a,V.str b]));have hla:=aa_ (H:=H7) (a:=la) (o:=HO.lst [V.str a,V.str b]);generalize upd H7 la (HO.lst [V.str a,V.str b])=H8 at *;have sd4:=sd3.mono (EX_.new nt (o:=HO.tup [V.str x',V.int i]));have ht:=aa_ (H:=H8) (a:=t) (o:=HO.tup [V.str x',V.int i]);have hla4:=(EX_.new nt (o:=HO.tup [V.str x',V.int i])) _ _ hla;generalize upd H8 t (HO.tup [V.str x',V.int i])=H9 at *;have t29:=tG.trans sd4.sB;refine ⟨.ref qf,v1 ▸ F7_.t (k:=eK (x',i)) (t29 _ _ hd2) ht,?_⟩;have fl:(fs.take i).length<=3:=by rw [AO_];exact C6_ _ _
     have gl3:(gs.take i).length<=3:=by rw [AO_];exact C6_ _ _
     obtain ⟨kvs,c1,c2,sd5⟩:=sd4.putI (e:=FV_ N x' y) (ls:=[a,b]) (l:=la) g12 hla4;refine ⟨_,Ho_.t (k:=eK (FV_ N x' y)) c1 (t29 _ _ v2) (EY_ (by lia)),?_⟩;generalize upd H9 di (HO.dT (FR_ kvs (eK (FV_ N x' y)) (V.ref la)))=HA at *;have hDA:=sd5.sB _ _ ((T1.trans T2) _ _ hD3);have tA:=(T1.trans T2).trans sd5.sB;nofun;refine ⟨_,hDA,_,g4,_,hDA,_,g5,?_⟩
     have or3:∀ {c:Str},(c=A0\/c=B0\/c=C0)->(wN N c=wN N A0\/wN N c=wN N B0\/wN N c=wN N C0)/\Sm (wN N c):=fun h=>by
      rcases h with rfl|rfl|rfl
      ·exact ⟨.inl rfl,th.sp⟩
      ·exact ⟨.inr (.inl rfl),th.sq⟩
      ·exact ⟨.inr (.inr rfl),th.sr⟩
     obtain ⟨m1,m2,m3⟩:=th.mul _ _ (or3 g8).1 (or3 g9).1;refine ⟨ua',ub',wN N a,wN N b,rfl,FQ.of (Rep.mono tA _ g6),FQ.of (Rep.mono tA _ g7),(or3 g8).2,(or3 g9).2,m1,fun z3 G3 T3 nz3 hz3=>?_⟩;refine ⟨_,_,GB_ (wN N a) (wN N b),HA_ N A0 B0 C0,rfl,⟨z3,rfl,SqT.of hz3⟩,⟨z2,rfl,SqT.of (T3 _ _ (sd5.sB _ _ hz2))⟩,m2,th.sw,m3,fun z4 G4 T4 nz4 hz4=>?_⟩;obtain ⟨kw2,c4,c5,sd6⟩:=(sd5.mono (T3.trans T4)).putW (x:=y) (p:=fBy (GB_ (wN N a) (wN N b)) (HA_ N A0 B0 C0)) (q:=z4) g13 hz4;exact ⟨_,Ho_.k (k:=.inr y) c4 (EY_ (by lia)),hkc _ _ ⟨_,_,rfl,sd6⟩⟩
    ·rintro σ Hy ⟨e8,e9,rfl,sd⟩;nofun;refine ⟨by decide,fun gl ngl=>?_⟩;have sd8:=sd.mono (EX_.new ngl (o:=HO.lst [V.str x']));have hgl:=aa_ (H:=Hy) (a:=gl) (o:=HO.lst [V.str x']);generalize upd Hy gl (HO.lst [V.str x'])=H8 at *;obtain ⟨kvs,c1,c2,c3⟩:=sd8.i;obtain ⟨kw',c4,c5,c6⟩:=sd8.w;have s08:=s02.trans sd8.sB;refine ⟨_,N,di,gl,dw,inS N x' A0 B0 C0,[x'],wvS N A0 B0 C0,rfl,Rep.mono s08 _ hv,nk.ok,⟨⟨kvs,c1,c3⟩,⟨kw',c4,fun y=>?_⟩,fun e ls he=>?_⟩,hgl,fun v' H' sF fr=>?_⟩
     ·have:=c6 y;show match lk gs y with|none=>_|some p=>_
      cases z:lk gs y with
      | none=>rw [show gs.take [V.str A0,V.str B0,V.str C0].length=gs from rfl,z] at this;exact this
      | some p=>rw [show gs.take [V.str A0,V.str B0,V.str C0].length=gs from rfl,z] at this;obtain ⟨q,y1,y2⟩:=this;exact ⟨.ref q,y1,⟨q,_,rfl,y2,_,_,rfl,rfl,_,_,rfl,rfl,rfl⟩⟩
     ·unfold inS H2_ at he;split at he
      ·cases he;exact Af_ _
      ·split at he
       ·cases he;exact Af_ _
       ·split at he
        ·cases he;exact Af_ _
        ·cases he
     ·have sdu:=oV_ (wf:=wvS N A0 B0 C0) nk.ok nk.hw foA foB foC fxA fxB fxC hAB.1 hAB.2.1 hAB.2.2 fun w' e ho ex=>by obtain ⟨r',hr',e1,e2⟩:=lr_ ho;have e3:=nN_ nk.ok hr' hr (by rw [<-e1];exact ex);subst e3;have:=Ak_ e2;simpa using this
      have fr':GE_ H8 H' v' (Gz_ N x' (inS N x' A0 B0 C0) (wvS N A0 B0 C0)):=by rw [<-show _=Gz_ N x' (inS N x' A0 B0 C0) (wvS N A0 B0 C0) from sdu];exact fr
      exact k v' H' (s08.trans sF) (fr'.back s08)
def IL_:List (Str×Int):=[(Str.ofString "loop",2),(Str.ofString "dead",2),(Str.ofString "chain",2),(Str.ofString "twins",3),(Str.ofString "star",2),(Str.ofString "ring",5)]
theorem Lz_:lkD IL_ (Str.ofString "star")=.int 2:=by rfl'
abbrev Fo_:Stmt:=stN 48
theorem hf_:E2_ ["net", "step", "kind"] ["net", "step"] (EW_ Fo_):=⟨rfl,rfl,rfl,by rfl',rfl,by rfl',by rfl'⟩
theorem iN_:LK Fo_ "net" .local:=by rfl'
theorem bF_:LK Fo_ "step" .local:=by rfl'
theorem bu_:LK Fo_ "kind" .local:=by rfl'
theorem fG_:LK Fo_ "NoStep" .globalImplicit:=by rfl'
theorem dm_:LK Fo_ "STEP_LENGTHS" .globalImplicit:=by rfl'
theorem eh_:LK Fo_ "len" .globalImplicit:=by rfl'
theorem el_:LK Fo_ "star_done" .globalImplicit:=by rfl'
def Kp_ (CS:Addr):Sp:=fun vs H Q E=>∃ (v:V)(N:Net Str)(st:Addr)(x:Str),vs=[v,.ref st]/\Rep H v (Go_ N)/\Nk N/\H st=some (.tup [.str (Str.ofString "star"),.str x])/\(∀ M,Hj_ N x=some M->∀ v' H',EX_ H H'->GE_ H H' v' M->Q v' H')/\(Hj_ N x=none->∀ H',EX_ H H'->E (.ref CS) none H')
theorem jT_ (T:Txt K mg)(EX:Exs K mg CS)(hM:Mt K mg "STEP_LENGTHS" CD IL_) (F:Fn0 K mg "step_done" Fo_) (R_star_done:IH_ P w K mg base "star_done" ["net", "point"] 4 (Kw_ CS Hj_)):IH_ P w K mg base "step_done" ["net", "step"] 5 (Kp_ CS):=by
 refine lh_ F hf_ (fun _ _ _ _ _ _=>byL2 fun _ _=>rfl) ?len ?body
 case len=>rintro vs H Q E ⟨a,b,c,d,rfl,_⟩;rfl
 case body =>
  intro f cdv A outer s H vs Q E hr h;obtain ⟨v,N,st,x,rfl,hv,nk,hst,k,kx⟩:=h;refine' ⟨_,?D,?R⟩
  case D =>
   refine' ai_ (Fx_ ?g3 (ag_ (jr_ EX.own_NoStep EX.m_NoStep hr.hd fG_ (pa_c cm_ ab_))) aB_) (ai_ (aj_ (i:=2) hf_.nd rfl bu_ (E0_ am_ (pv1 1 rfl bF_) ac_ (fun _ _=>rfl))) ?g28)
   case' g3=>refine' PW.pt (Hx_ (aq_ FZ_ (an_ ap_ eh_ T.n_len aL_ (pa_c (pv1 1 rfl bF_) ab_)) ac_ (E9_ _)) ?g8)
   case' g8=>refine' iT_ (aq_ IU_ (qa_ (K:=K) rfl hM dm_ (E0_ am_ (pv1 1 rfl bF_) ac_ (fun _ _=>rfl)) ⟨rfl,rfl,rfl,rfl⟩) (an_ ap_ eh_ T.n_len aL_ (pa_c (pv1 1 rfl bF_) ab_)) (E9_ _))
   case' g28=>refine' ai_ (Fx_ (aq_ FZ_ (pv1 2 rfl bu_) cm_ (E9_ _)) ?g35 aB_) (ai_ (Fx_ (aq_ FZ_ (pv1 2 rfl bu_) cm_ (E9_ _)) ?g42 aB_) ?g40)
   case g35=>exact dq_
   case g42=>exact dq_
   case' g40=>refine' ai_ (Fx_ (aq_ FZ_ (pv1 2 rfl bu_) cm_ (E9_ _)) ?g49 aB_) (ai_ (Fx_ (aq_ FZ_ (pv1 2 rfl bu_) cm_ (E9_ _)) ?g56 aB_) (ai_ ?g60 ?g61))
   case g49=>exact dq_
   case g56=>exact dq_
   case' g60=>refine' Fx_ (aq_ FZ_ (pv1 2 rfl bu_) cm_ (E9_ _)) (ag_ (au_ (lX_ R_star_done (hr.mono (by decide)) KR_ el_ (pa_c (pv1 0 rfl iN_) (pa_c (E0_ am_ (pv1 1 rfl bF_) ac_ (fun _ _=>rfl)) ab_))))) aB_
   case g61=>exact dq_
  case R =>nofun;refine ⟨_,.inr hst,?_⟩;rw [if_neg (by show ¬ (2:Int)=0;decide)];refine ⟨_,hst,_,FC_,_,rfl,_,.inr hst,?_⟩;rw [Lz_];refine ⟨rfl,?_⟩;rw [if_neg (fun z=>z rfl)];refine ⟨_,hst,_,FC_,?_⟩;refine ⟨rfl,?_⟩;rw [if_neg (show ¬ V.str (Str.ofString "star")=V.str (Str.ofString "loop") by rfl')];refine ⟨rfl,?_⟩;rw [if_neg (show ¬ V.str (Str.ofString "star")=V.str (Str.ofString "dead") by rfl')];refine ⟨rfl,?_⟩;rw [if_neg (show ¬ V.str (Str.ofString "star")=V.str (Str.ofString "chain") by rfl')];refine ⟨rfl,?_⟩;rw [if_neg (show ¬ V.str (Str.ofString "star")=V.str (Str.ofString "twins") by rfl')];refine ⟨rfl,?_⟩;rw [if_pos rfl];exact ⟨_,hst,_,Fw_,v,N,x,rfl,hv,nk,k,kx⟩
theorem oe_ {J:It}{g:TG}{tt:TT}{te:TE}{σ:L2.St}{H:Hp}{Q:VK}(n:Nat)(Pσ:L2.St->Prop)(h0:Pσ σ)(hgo:∀ i H',i<n->EX_ H H'->J.go i H')(hst:∀ H',EX_ H H'->J.stop n H')
  (hs:∀ D i x σ' H' H'',H D=none->EX_ H H'->i<n->J.yld i H' x H''->Pσ σ'->∀ X R:L2.St->Hp->Prop,(∀ σ2 H3,Pσ σ2->EX_ H' H3->R σ2 H3)->g x σ' H'' fun σ2 H2=>tt σ2 H2 fun b H3=>if b=true then X σ2 H3 else R σ2 H3)
  (hd:∀ D H',H D=none->EX_ H H'->H' D=some (.lst [])->Q (.ref D) H'):Gw_ J g tt te σ H Q:=by
 intro D hD;refine ⟨fun i m σ' H'=>m=n-i/\i<=n/\Pσ σ'/\EX_ H H'/\H' D=some (.lst []),⟨n,by simp,AA_ _,h0,EX_.new hD,aa_⟩,?_⟩;rintro i m σ' H' ⟨rfl,hi,hp,hs',hDD⟩;by_cases hlt:i<n
 ·refine .inr ⟨hgo i H' hlt hs',fun σ2 H2=>Pσ σ2/\EX_ H H2/\H2 D=some (.lst []),fun σ2 H2 ⟨a,b,c⟩=>⟨n-(i+1),by lia,rfl,hlt,a,b,c⟩,fun x H'' hy=>?_⟩;exact hs D i x σ' H' H'' hD hs' hlt hy hp _ _ fun σ2 H3 hp2 s3=>⟨hp2,hs'.trans s3,s3 _ _ hDD⟩
 ·have e:i=n:=by lia
  subst e;exact .inl ⟨hst H' hs',hd D H' hD hs' hDD⟩
abbrev Fl_:Stmt:=stN 65
theorem hg_:E2_ ["_law_found", "_law_due", "_law_lists"] ["_law_found", "_law_due"] (EW_ Fl_):=⟨rfl,rfl,rfl,by rfl',rfl,by rfl',by rfl'⟩
theorem bc_:LK Fl_ "_law_found" .local:=by rfl'
theorem iO_:LK Fl_ "_law_due" .local:=by rfl'
theorem ff_:LK Fl_ "_law_lists" .local:=by rfl'
theorem d4_:LK Fl_ "isinstance" .globalImplicit:=by rfl'
theorem ho_:LK Fl_ "len" .globalImplicit:=by rfl'
theorem gg_:LK Fl_ "tuple" .globalImplicit:=by rfl'
def Iy_:Sp:=fun vs H Q _=>∃ (v u:V)(N:Net Str),vs=[v,u]/\Rep H v (Go_ N)/\Rep H u (Go_ N)/\N.rows.length<=16/\∀ H',EX_ H H'->Q (.bl true) H'
theorem k4_ (T:Txt K mg)(F:Fn0 K mg "_law_same_net" Fl_):Cal P w K mg base "_law_same_net" ["_law_found", "_law_due"] 1 Iy_:=by
 refine aR_ F hg_ (fun _ _ _ _ _ _=>byL2 fun _ _=>rfl) ?len ?body
 case len=>rintro vs H Q E ⟨a,b,c,rfl,_⟩;rfl
 case body =>
  intro f cdv A outer s H vs Q E hr h;obtain ⟨v,u,N,rfl,hv,hu,r16,k⟩:=h;obtain ⟨pn,p0,p1,p2,rs,ws,rfl,hn,h0,h1,r1,h2,r2⟩:=bC_ hv;obtain ⟨un,_,eu,_⟩:=id hu;subst eu;have rl:rs.length=N.rows.length:=by rw [r1.length,Ab_]
  refine' ⟨_,?D,?R⟩
  case D =>
   refine' ai_ (Fx_ ?g3 (ag_ (au_ Gj_)) aB_) ?g2
   case' g3=>refine' PW.pt (Hx_ (gW_ (fL_ (an_ lU_ d4_ T.n_isinstance fP_ (pa_c (pv1 0 rfl bc_) (pa_c ?g14 ab_))))) ?g8)
   case g14=>exact po_ gg_ T.n_tuple oA_
   case' g8=>refine' Hx_ (aq_ IU_ (an_ ap_ ho_ T.n_len aL_ (pa_c (pv1 0 rfl bc_) ab_)) ac_ (E9_ _)) (iT_ (aq_ (kh_ (hr.units)) (pv1 0 rfl bc_) (pv1 1 rfl iO_) (E9_ _)))
   case' g2=>refine' ad_ ?g28 (ag_ (au_ (en_ (pq_ (hr.units)) ?g61 (a5_ ab_) (E9_ _))))
   case' g28=>refine' aj_ (i:=2) hg_.nd rfl ff_ (EZ_ iU_ ?g31 (bd_ (N':=["_law_point", "_law_wires"]) (ix:=[none,none]) rfl rfl (a6_ ?g46) (ay_ (K:=K) rfl (E0_ am_ (pv1 0 rfl bc_) ac_ (fun _ _=>rfl))) (fun _ _ _=>(aJ_ (K:=K) (n:=2) rfl rfl (ak_ ?g55 (ak_ ?g57 aC_)))) (fun _ _ _=>?g49) (fun _ _ _=>(pv1 1 rfl rfl))))
   case' g31=>refine' a5_ (pa_c (E0_ am_ (pv1 0 rfl bc_) ac_ (fun _ _=>rfl)) (pa_c (E0_ am_ (pv1 0 rfl bc_) ac_ (fun _ _=>rfl)) (pa_c (E0_ am_ (pv1 0 rfl bc_) ac_ (fun _ _=>rfl)) ab_)))
   case g46=>exact (by show Ge_ (EW_ Fl_) ["_law_found", "_law_due", "_law_lists"] _ _ _=true;decide +kernel)
   case g55=>exact ae_ (i:=0) (by show List.Nodup (["_law_point", "_law_wires"]:List Str);decide +kernel) rfl rfl
   case g57=>exact ae_ (i:=1) (by show List.Nodup (["_law_point", "_law_wires"]:List Str);decide +kernel) rfl rfl
   case g49=>exact cn_
   case' g61=>refine' bd_ (N':=["_law_one"]) (ix:=[none]) rfl rfl (a6_ ?g63) (ay_ (K:=K) rfl (pv1 2 rfl ff_)) (fun _ _ _=>?g65) (fun _ _ _=>(ec_ (gW_ (fL_ (an_ lU_ rfl T.n_isinstance fP_ (pa_c (pv1 0 rfl rfl) (pa_c ?g75 ab_))))))) (fun _ _ _=>(pv1 0 rfl rfl))
   case g63=>exact (by show Ge_ (EW_ Fl_) ["_law_found", "_law_due", "_law_lists"] _ _ _=true;decide +kernel)
   case g65=>exact ae_ (i:=0) (by show List.Nodup (["_law_one"]:List Str);decide +kernel) rfl rfl
   case g75=>exact po_ rfl T.n_list dc_
  case R =>
   nofun;refine ⟨"tuple",by simp [HF_,hn],?_⟩;rw [if_neg (by decide)];refine ⟨_,.inr hn,?_⟩;rw [if_neg (fun z=>z rfl)];refine ⟨_,hv,_,hu,true,hH_ _,lG_ _,?_⟩;rw [if_neg (by decide)];nofun;refine ⟨_,hn,_,FC_,_,hn,_,Fw_,_,hn,_,Gi_,by decide,fun L0 nL0=>?_⟩;have S1:=EX_.new nL0 (o:=HO.lst [V.ref p0,V.ref p1,V.ref p2]);have hL0:=aa_ (H:=H) (a:=L0) (o:=HO.lst [V.ref p0,V.ref p1,V.ref p2]);generalize upd H L0 (HO.lst [V.ref p0,V.ref p1,V.ref p2])=H1 at *;have h11:=S1 _ _ h1;refine ⟨_,S1 _ _ hn,_,Fw_,p1,rfl,⟨_,.inl (.inl h11)⟩,?_⟩;refine bv_ (n:=N.rows.length) (B:=fun _=>none) (Pσ:=fun σ=>∃ e e',σ=[e,e']) (ds:=N.rows.map fun r=>Dt.lst (r.2.map dS)) (fun b o e=>by cases e) ⟨_,_,rfl⟩ (by simp) (by lia) (fun i H' hi s'=>⟨rs,rs[i]'(by lia),.inl (.inl (s' _ _ h11)),Aa_ _⟩) (fun H' s'=>⟨rs,.inl (.inl (s' _ _ h11)),by lia⟩) ?_ ?_
   ·rintro D i x d σ' H2 H2' hD hDo hs2 hi hdi ⟨rfl,hy⟩ ⟨e,e',rfl⟩ R kR;have hx:=hy _ (.inl (.inl (hs2 _ _ h11)));obtain ⟨r,q,l,hr1,rfl,hq,hl⟩:=bm_ r1 hx;have hd:d=Dt.lst (r.2.map dS):=by rw [Ae_,hr1] at hdi;exact (Aq_ hdi).symm
    have s12:=S1.trans hs2;have lD:l≠D:=fun c=>by have z:=S1 _ _ hl;rw [c,hD] at z;cases z
    nofun;refine ⟨_,SqT.of (s12 _ _ hq),rfl,_,_,rfl,_,_,rfl,rfl,kR _ _ _ ⟨_,_,rfl⟩ (EX_.refl _) ?_⟩;rw [hd];exact ⟨l,_,rfl,by rw [bB_ lD rfl];exact s12 _ _ hl,a2_ _⟩
   ·intro D H2 hD s2 rep2;obtain ⟨_,ys,eD,hDn,rys⟩:=rep2;cases eD;have hD2:=(a0_ hDn).2;have yl:ys.length=N.rows.length:=by rw [rys.length,Ab_]
    have s02:=S1.trans s2
    try nofun
    refine ⟨_,s2 _ _ hL0,ys,hD2,AR_ (EY_ (by rw [yl];simp;lia)),fun L nL=>?_⟩;have S3:=EX_.new nL (o:=HO.lst ([V.ref p0,V.ref p1,V.ref p2]++ys));have hL:=aa_ (H:=H2) (a:=L) (o:=HO.lst ([V.ref p0,V.ref p1,V.ref p2]++ys));generalize upd H2 L (HO.lst ([V.ref p0,V.ref p1,V.ref p2]++ys))=H3 at *;have s03:=s02.trans S3
    have kd:∀ (i:Nat) x,([V.ref p0,V.ref p1,V.ref p2]++ys)[i]?=some x->∃ q zs,x=.ref q/\H3 q=some (.lst zs):=fun i x hi=>by
     rcases Ax_.mp (Ak_ hi) with hm|hm
     ·rcases Ao_.mp hm with rfl|hm
      ·exact ⟨p0,_,rfl,s03 _ _ h0⟩
      ·rcases Ao_.mp hm with rfl|hm
       ·exact ⟨p1,_,rfl,s03 _ _ h1⟩
       ·rw [Ai_.mp hm];exact ⟨p2,_,rfl,s03 _ _ h2⟩
     ·obtain ⟨j,hj⟩:=List.mem_iff_getElem?.mp hm;obtain ⟨d,hd,hrx⟩:=rys.of_get hj;rw [Ae_] at hd;cases er:N.rows[j]? with
      | none=>rw [er] at hd;cases hd
      | some r =>rw [er] at hd;cases hd;obtain ⟨q,zs,e1,e2,_⟩:=hrx;exact ⟨q,zs,e1,S3 _ _ (a0_ e2).2⟩
    generalize [V.ref p0,V.ref p1,V.ref p2]++ys=ls at *;nofun;refine ⟨⟨_,.inl (.inl hL)⟩,?_⟩;refine oe_ (n:=ls.length) (Pσ:=fun σ=>∃ e,σ=[e]) ⟨_,rfl⟩ (fun j H4 hj s4=>⟨ls,ls[j],.inl (.inl (s4 _ _ hL)),by simp [hj]⟩) (fun H4 s4=>⟨ls,.inl (.inl (s4 _ _ hL)),Af_ _⟩) ?_ ?_
    ·rintro D3 j y σ' H4 H4' hD3 s4 hj ⟨rfl,hy⟩ ⟨e,rfl⟩ X R kR;obtain ⟨q,zs,rfl,hq⟩:=kd _ _ (hy ls (.inl (.inl (s4 _ _ hL))));nofun;refine ⟨"list",by simp [HF_,s4 _ _ hq],?_⟩;rw [if_neg (by decide)];exact kR _ _ ⟨_,rfl⟩ (EX_.refl _)
    ·intro D3 H4 hD3 s4 hDD;refine ⟨AA_ _,fun D4 n4=>⟨D3,rfl,.lst [],⟨D3,[],rfl,(EX_.new n4) _ _ hDD,rfl⟩,.lst [],⟨D4,[],rfl,aa_,rfl⟩,true,by simp [deq,deqs],by simp [dep,deps],k _ (s03.trans (s4.trans (EX_.new n4)))⟩⟩
abbrev Ga_:Stmt:=stN 76
theorem ix_:E2_ ["_law_net", "_law_point", "_law_wires"] ["_law_net"] (EW_ Ga_):=⟨rfl,rfl,rfl,by rfl',rfl,by rfl',by rfl'⟩
theorem d5_:LK Ga_ "_law_net" .local:=by rfl'
theorem lK_:LK Ga_ "_law_point" .local:=by rfl'
theorem iy_:LK Ga_ "_law_wires" .local:=by rfl'
def H0_:Sp:=fun vs H Q _=>∃ (v:V)(M:Net Str)(B:Hp),vs=[v]/\EX_ B H/\GE_ B H v M/\M.rows.length<=16/\M.posts.length<=6/\M.worths.length<=15/\(∀ r∈M.rows,r.2.length<=60)/\∀ H',EX_ B H'->Q .non H'
theorem og_ (T:Txt K mg)(F:Fn0 K mg "_law_spoil" Ga_):Cal P w K mg base "_law_spoil" ["_law_net"] 1 H0_:=by
 refine aR_ F ix_ (fun _ _ _ _ _ _=>byL1 fun _=>rfl) ?len ?body
 case len=>rintro vs H Q E ⟨a,b,c,rfl,_⟩;rfl
 case body =>
  intro f cdv A outer s H vs Q E hr h;obtain ⟨v,M,B,rfl,sB,fr,m16,m6,m15,m30,k⟩:=h;obtain ⟨rep,pn,p0,p1,p2,rs,rfl,hn,h1,b0,b1,b2,p01,fl⟩:=fr;obtain ⟨pn',q0,q1,q2,rs',ws,e0,hn',h0',h1',r1,h2',r2⟩:=bC_ rep;cases e0;rw [hn] at hn';cases hn';rw [h1] at h1';cases h1';have rl:rs.length=M.rows.length:=by rw [r1.length,Ab_]
  have wl:ws.length=M.worths.length:=by rw [r2.length,Ab_]
  have fl2:∀ (i:Nat)(x:V),rs[i]?=some x->∃ q nm l,x=.ref q/\H q=some (.tup [.str nm,.ref l])/\B l=none/\l≠p1/\∃ xs,H l=some (.lst xs)/\xs.length<=70:=fun i x hx=>by
   obtain ⟨q,nm,l,e,hq,bl⟩:=fl i x hx;obtain ⟨r,q',l',hr1,e',hq',hl'⟩:=bm_ r1 hx;subst e;cases e';rw [hq] at hq';cases hq';refine ⟨q,_,l,rfl,hq,bl,fun e=>?_,_,hl',?_⟩
   ·rw [e,h1] at hl';injection hl' with hl'
    injection hl' with hl'
    rw [hl',Ae_] at hx;cases e2:r.2[i]? with
    | none=>rw [e2] at hx;cases hx
    | some y=>rw [e2] at hx;cases hx
   ·rw [Ab_];have:=m30 r (Ak_ hr1);lia
  let I:Nat->Hp->Prop:=fun n Hy=>EX_ B Hy/\Hy pn=some (.tup [.ref p0,.ref p1,.ref p2])/\Hy p1=some (.lst rs)/\(∀ (i:Nat)(x:V),rs[i]?=some x->∃ q nm l,x=.ref q/\Hy q=some (.tup [.str nm,.ref l])/\B l=none/\l≠p1/\∃ xs,Hy l=some (.lst xs)/\xs.length<=n)/\∃ xs,Hy p2=some (.lst xs)/\xs.length<=n
  have stp:∀ (n:Nat)(Hy:Hp)(c:Addr)(ys:List V)(y:V),I n Hy->c≠p1->B c=none->Hy c=some (.lst ys)->ys.length<=n->I (n+1) (upd Hy c (.lst (ys++[y]))):=fun n Hy c ys y h c1 cB hc hl=>by
   obtain ⟨i1,i2,i3,i4,i5⟩:=h
   have lst:∀ l,(∃ xs,Hy l=some (.lst xs)/\xs.length<=n)->∃ xs,upd Hy c (.lst (ys++[y])) l=some (.lst xs)/\xs.length<=n+1:=fun l ⟨xs,z1,z2⟩=>by
    by_cases e:l=c
    ·rw [e];exact ⟨_,aa_,by rw [Ah_];simp;lia⟩
    ·exact ⟨xs,by rw [ah_ e];exact z1,by lia⟩
   refine ⟨i1.upd cB,by rw [ah_ (fun z=>by rw [z,hc] at i2;cases i2)];exact i2,by rw [ah_ c1.symm];exact i3,fun i x hx=>?_,lst _ i5⟩;obtain ⟨q,nm,l,e,z1,z2,z3,z4⟩:=i4 i x hx;exact ⟨q,nm,l,e,by rw [ah_ (fun z=>by rw [z,hc] at z1;cases z1)];exact z1,z2,z3,lst _ z4⟩
  have I0:I 70 H:=⟨sB,hn,h1,fl2,ws,h2',by lia⟩;refine' ⟨_,?D,?R⟩
  case D =>
   refine' ad_ (aI_ (FQ_ Aw_ AK_ AL_ aT_ (E0_ am_ (pv1 0 rfl d5_) ac_ (fun _ _=>rfl)) (pa_c cm_ ab_))) ?g2
   case' g2=>refine' ad_ ?g10 (ad_ (aI_ (pn_ Aw_ PySem.F.slot_list_reverse PySem.F.type_list_reverse mw_ (E0_ am_ (pv1 0 rfl d5_) ac_ (fun _ _=>rfl)))) ?g30)
   case' g10=>refine' aV_ Au_ rfl (ay_ (K:=K) rfl (E0_ am_ (pv1 0 rfl d5_) ac_ (fun _ _=>rfl))) (aJ_ (K:=K) (n:=2) rfl rfl (ak_ ?g19 (ak_ ?g21 aC_))) ?g14
   case g19=>exact ae_ (i:=1) ix_.nd rfl lK_
   case g21=>exact ae_ (i:=2) ix_.nd rfl iy_
   case' g14=>refine' ag_ (aI_ (FQ_ Aw_ AK_ AL_ aT_ (pv1 2 rfl iy_) (pa_c cm_ ab_)))
   case' g30=>refine' ag_ (aI_ (FQ_ Aw_ AK_ AL_ aT_ (E0_ am_ (pv1 0 rfl d5_) ac_ (fun _ _=>rfl)) (pa_c ?g41 ab_)))
   case g41=>exact mV_
  case R =>
   nofun;refine ⟨_,hn,_,FC_,.inl ⟨_,.inl (.inl h0')⟩,p0,rfl,_,h0',EY_ (by rw [Ab_];lia),?_⟩;have I1:=stp 70 H p0 _ (V.str (Str.ofString "zz")) I0 p01 b0 h0' (by rw [Ab_];lia);generalize upd H p0 (HO.lst (M.posts.map V.str++[V.str (Str.ofString "zz")]))=H1 at *;nofun;refine ⟨_,I1.2.1,_,Fw_,p1,rfl,⟨_,.inl (.inl I1.2.2.1)⟩,?_⟩;refine eX_ (xs:=rs) (fun i σ Hy=>∃ (e1 e2:Option V),σ=[some (.ref pn),e1,e2]/\I (71+i) Hy) ⟨_,_,rfl,I1⟩ ?_ ?_ ?_
   ·rintro i σ Hy hi ⟨e1,e2,rfl,h⟩;exact .inl (.inl h.2.2.1)
   ·rintro i x σ Hy hx kk kb hk hb G hG ⟨e1,e2,rfl,h⟩;refine hG ?_;have ir:=(Ag_.mp hx).1;obtain ⟨q,nm,l,rfl,z1,z2,z3,xs,z4,z5⟩:=h.2.2.2.1 i x hx;nofun;refine ⟨_,SqT.of z1,rfl,_,_,rfl,_,_,rfl,rfl,.inl ⟨_,.inl (.inl z4)⟩,l,rfl,xs,z4,EY_ (by lia),?_⟩;exact hk _ _ ⟨_,_,rfl,stp _ _ l xs _ h z3 z2 z4 z5⟩
   ·rintro σ Hy ⟨e1,e2,rfl,h⟩;obtain ⟨i1,i2,i3,i4,i5⟩:=h;nofun;refine ⟨_,i2,_,Fw_,.inl ⟨_,.inl (.inl i3)⟩,p1,rfl,_,i3,?_⟩;have j1:=i1.upd (o:=HO.lst rs.reverse) b1;have j2:upd Hy p1 (HO.lst rs.reverse) pn=some (.tup [.ref p0,.ref p1,.ref p2]):=by rw [ah_ (fun z=>by rw [z,i3] at i2;cases i2)];exact i2
    have j5:∃ xs,upd Hy p1 (HO.lst rs.reverse) p2=some (.lst xs)/\xs.length<=100:=by
     by_cases e:p2=p1
     ·rw [e];exact ⟨_,aa_,by rw [Cc_];lia⟩
     ·obtain ⟨xs,z1,z2⟩:=i5;exact ⟨xs,by rw [ah_ e];exact z1,by lia⟩
    generalize upd Hy p1 (HO.lst rs.reverse)=H9 at *;obtain ⟨xs,z1,z2⟩:=j5;nofun;exact ⟨_,j2,_,Gi_,.inl ⟨_,.inl (.inl z1)⟩,p2,rfl,xs,z1,EY_ (by lia),k _ (j1.upd b2)⟩
theorem oh_:∀ {kvs:List (Key×V)}{k:Key}{v:V},(kvs.map (·.1)).Nodup->(k,v)∈kvs->kvs.filter (fun q=>decide (q.1=k))=[(k,v)]
 | q::kvs,k,v,hn,hm=>by
  have h':=AW_.mp hn
  rcases Ao_.mp hm with e|e
  ·subst e;rw [BH_ (by simp)];congr 1;exact El_.mpr fun a ha z=>h'.1 (Al_.mpr ⟨a,ha,AG_ z⟩)
  ·rw [BG_ (fun z=>h'.1 (Al_.mpr ⟨_,e,(AG_ z).symm⟩))];exact oh_ h'.2 e
abbrev Hl_:Stmt:=stN 72
theorem qy_:E2_ ["_law_net", "_law_point"] ["_law_net", "_law_point"] (EW_ Hl_):=⟨rfl,rfl,rfl,by rfl',rfl,by rfl',by rfl'⟩
theorem oi_:LK Hl_ "_law_net" .local:=by rfl'
def IG_:Sp:=fun vs H Q _=>∃ (v:V)(N:Net Str)(r:Str×List Str),vs=[v,.str r.1]/\Rep H v (Go_ N)/\Fk_ N/\r∈N.rows/\∀ l H',EX_ H H'->H' l=some (.lst (r.2.map V.str))->Q (.ref l) H'
theorem o7_ (T:Txt K mg)(F:Fn0 K mg "_law_row" Hl_):I8_ P w K mg base "_law_row" ["_law_net", "_law_point"] 1 IG_:=by
 refine lq_ F qy_ (fun _ _ _ _ _ _=>byL2 fun _ _=>rfl) ?len ?body
 case len=>rintro vs H Q E ⟨a,b,c,rfl,_⟩;rfl
 case body =>
  intro f cdv A outer s H vs Q E pq hq hr h;obtain ⟨v,N,r,rfl,hv,ok,hr1,k⟩:=h;refine' ⟨_,?D,?R⟩
  case D =>
   refine' ag_ (au_ (E0_ ao_ ?g3 ac_ (fun _ _=>rfl)))
   case' g3=>refine' jD_ (N':=["_law_one", "_law_wires", "_law_point"]) (ix:=[none,none,some 1]) (show Qx _ from hq) rfl (a6_ ?g5) (jC_ (K:=K) rfl (E0_ am_ (pv1 0 rfl oi_) ac_ (fun _ _=>rfl))) (fun _ _ _=>(lp_ (K:=K) (n:=2) rfl (show Qx _ from hq) (ak_ ?g14 (ak_ ?g16 aC_)))) (fun _ _ _=>(ec_ (aq_ FZ_ (pv1 0 rfl rfl) (pvc 2 rfl rfl) (E9_ _)))) (fun _ _ _=>(pv1 1 rfl rfl))
   case g5=>exact (by show Ge_ (EW_ Hl_) ["_law_net", "_law_point"] _ _ _=true;decide +kernel)
   case g14=>exact ae_ (i:=0) (by show List.Nodup (["_law_one", "_law_wires", "_law_point"]:List Str);decide +kernel) rfl rfl
   case g16=>exact ae_ (i:=1) (by show List.Nodup (["_law_one", "_law_wires", "_law_point"]:List Str);decide +kernel) rfl rfl
  case R =>
   obtain ⟨pn,p0,p1,p2,rs,ws,rfl,hn,h0,h1,r1,h2,r2⟩:=bC_ hv;obtain ⟨kvs,k1,k2,k3,k4⟩:=jP_ r1;have rl:rs.length=N.rows.length:=by rw [r1.length,Ab_]
   have few:=ok.few;have knd:(kvs.map (·.1)).Nodup:=by rw [k1];have:=ok.nd;unfold List.Nodup at this ⊢;rw [Bo_] at this ⊢;exact this.imp fun h z=>h (Bx_ z)
   obtain ⟨l,m1,m2⟩:=k4 r hr1;nofun;refine ⟨_,hn,_,Fw_,p1,rfl,⟨_,.inl (.inl h1)⟩,?_⟩;have gd:∀ j,j<kvs.length->∃ q,kvs[j]?=some q/\kvs.getD j (.inl 0,.non)=q:=fun j hj=>⟨kvs[j],Aa_ hj,by rw [Ac_,Aa_ hj];rfl⟩;refine fS_ (n:=kvs.length) (Pσ:=fun σ=>∃ e e',σ=[e,e',some (.str r.1)]) (bs:=fun j=>decide ((kvs.getD j (.inl 0,.non)).1=.inr r.1)) (val:=fun j=>(kvs.getD j (.inl 0,.non)).2) ⟨_,_,rfl⟩ (by lia) (fun j Hj hj sj=>⟨rs,rs[j]'(by lia),.inl (.inl (sj _ _ h1)),Aa_ _⟩) (fun Hj sj=>⟨rs,.inl (.inl (sj _ _ h1)),by lia⟩) ?_ ?_
   ·rintro D j y σ' H2 H2' hD hDo hs2 hj ⟨rfl,hy⟩ ⟨e,e',rfl⟩ Y R kY kR;have hx:=hy _ (.inl (.inl (hs2 _ _ h1)));obtain ⟨q,hq,eq⟩:=gd j hj;obtain ⟨a,ha1,ha2⟩:=k3 j q hq;rw [ha1] at hx;cases hx;rw [eq] at kY kR;obtain ⟨nm,enm⟩:∃ nm,q.1=.inr nm:=by have:q.1∈kvs.map (·.1):=Al_.mpr ⟨q,Ak_ hq,rfl⟩;rw [k1] at this;obtain ⟨r',_,z⟩:=Al_.mp this;exact ⟨r'.1,z.symm⟩
    rw [enm] at ha2 kY kR;nofun;refine ⟨_,SqT.of (hs2 _ _ ha2),rfl,_,_,rfl,_,_,rfl,rfl,rfl,?_⟩;refine ite2 (fun c1=>?_) (fun c1=>?_)
    ·exact kY (AQ_ (congrArg Sum.inr (V.str.inj c1))) _ _ ⟨_,_,rfl⟩ (EX_.refl _)
    ·exact kR (Az_ fun z=>c1 (congrArg V.str (Bx_ z))) _ _ ⟨_,_,rfl⟩ (EX_.refl _)
   ·intro D H2 hD s2 hDv;have e:=jb_ (.inl 0,.non) (fun q:Key×V=>decide (q.1=.inr r.1)) (fun q=>q.2) kvs;rw [e,oh_ knd m1] at hDv;exact ⟨D,rfl,_,hDv,_,FC_,k l H2 s2 (s2 _ _ m2)⟩
abbrev FX_:Stmt:=stN 67
theorem gh_:E2_ ["_law_rows", "_law_ends_here", "_law_point", "_law_wires", "_law_k"] ["_law_rows"] (EW_ FX_):=⟨rfl,rfl,rfl,by rfl',rfl,by rfl',by rfl'⟩
theorem mO_:LK FX_ "_law_rows" .local:=by rfl'
theorem gP_:LK FX_ "_law_ends_here" .local:=by rfl'
theorem jd_:LK FX_ "_law_point" .local:=by rfl'
theorem gQ_:LK FX_ "_law_wires" .local:=by rfl'
theorem gR_:LK FX_ "_law_k" .local:=by rfl'
theorem k5_:LK FX_ "len" .globalImplicit:=by rfl'
theorem iP_:LK FX_ "range" .globalImplicit:=by rfl'
def H4_:Sp:=fun vs H Q _=>∃ (v:V)(N:Net Str),vs=[v]/\Rep H v (.lst (N.rows.map dRw))/\Fk_ N/\∀ d S ls H',EX_ H S->DE dE S H' d ls (FK_ N)->H d=none->Q (.ref d) H'
theorem o8_ (T:Txt K mg)(F:Fn0 K mg "_law_ends" FX_):Cal P w K mg base "_law_ends" ["_law_rows"] 1 H4_:=by
 refine aR_ F gh_ (fun _ _ _ _ _ _=>byL1 fun _=>rfl) ?len ?body
 case len=>rintro vs H Q E ⟨a,b,rfl,_⟩;rfl
 case body =>
  intro f cdv A outer s H vs Q E hr h;obtain ⟨v,N,rfl,hv,ok,k⟩:=h;refine' ⟨_,?D,?R⟩
  case D =>
   refine' ai_ ?g1 ?g2
   case g1=>exact aj_ (i:=1) gh_.nd rfl gP_ dJ_
   case' g2=>refine' ai_ (aV_ Au_ rfl (ay_ (K:=K) rfl (pv1 0 rfl mO_)) (aJ_ (K:=K) (n:=2) rfl rfl (ak_ ?g10 (ak_ ?g12 aC_))) ?g7) (ag_ (au_ (pv1 1 rfl gP_)))
   case g10=>exact ae_ (i:=2) gh_.nd rfl jd_
   case g12=>exact ae_ (i:=3) gh_.nd rfl gQ_
   case' g7=>refine' ag_ (aV_ Au_ rfl (aE_ iP_ T.n_range (pa_c (an_ ap_ k5_ T.n_len aL_ (pa_c (pv1 3 rfl gQ_) ab_)) ab_)) ?g16 ?g17)
   case g16=>exact ae_ (i:=4) gh_.nd rfl gR_
   case' g17=>refine' ag_ (aI_ (FQ_ Aw_ AK_ AL_ aT_ ?g26 (pa_c (ax_ (pa_c (pv1 2 rfl jd_) (pa_c (pv1 4 rfl gR_) ab_))) ab_)))
   case' g26=>refine' FQ_ BF_ Cr_ Dt_ fV_ (pv1 1 rfl gP_) (pa_c (E0_ ao_ (pv1 3 rfl gQ_) (pv1 4 rfl gR_) (fun _ _=>rfl)) (pa_c (a5_ ab_) ab_))
  case R =>
   nofun;obtain ⟨p1,rs,rfl,h1,r1⟩:=hv;have rl:rs.length=N.rows.length:=by rw [r1.length,Ab_]
   intro d nd;have Sd:EX_ H (upd H d (HO.dK [])):=EX_.new nd;refine ⟨p1,rfl,⟨_,.inl (.inl (Sd _ _ h1))⟩,?_⟩;have D0:DE dE H (upd H d (HO.dK [])) d [] (FA_ (occ (N.rows.take 0))):=⟨Sd,aa_,rfl,Bh_,fun z=>(by cases z),fun i l kv z=>(by cases z),nd,fun l z=>(by cases z)⟩;refine gt_ (xs:=rs) (fun i σ H'=>∃ (e2 e3 e4:Option V)(S:Hp)(ls:List Addr),σ=[some (.ref p1),some (.ref d),e2,e3,e4]/\EX_ H S/\DE dE S H' d ls (FA_ (occ (N.rows.take i)))) ⟨none,none,none,H,[],rfl,EX_.refl _,D0⟩ ?_ ?_ ?_
   ·rintro i σ H' hi ⟨e2,e3,e4,S,ls,rfl,sS,de⟩;exact .inl (.inl (de.sH _ _ (sS _ _ h1)))
   ·rintro i x σ H' hx ⟨e2,e3,e4,S,ls,rfl,sS,de⟩;obtain ⟨r,q,l,hr1,rfl,hq,hl⟩:=bm_ r1 hx;have s1:=sS.trans de.sH;rw [hG_ hr1];have occle:∀ j,∃ m,(occ (N.rows.take i)++(Fj_ r.1 0 r.2).take j)++m=occ N.rows:=fun j=>by refine ⟨(Fj_ r.1 0 r.2).drop j++occ (N.rows.drop (i+1)),?_⟩;rw [A5_,<-A5_ (List.take j _),Bb_,<-A5_,<-hG_ hr1];unfold occ;rw [<-A6_,<-Ap_,Bb_]
    nofun
    have rlen:r.2.length<=30:=by
     have h1:r.2.length<=N.all.length:=by unfold Net.all;exact (Cs_ (Al_.mpr ⟨r,Ak_ hr1,rfl⟩)).length_le
     have:=ok.tot;lia
    refine ⟨_,SqT.of (s1 _ _ hq),rfl,_,_,rfl,_,_,rfl,rfl,l,rfl,_,.inl (s1 _ _ hl),by lia,by rw [Ab_];lia,?_⟩;rw [Ab_,AC_];refine fO_ (fun j σ H'=>∃ (e4:Option V)(S:Hp)(ls:List Addr),σ=[some (.ref p1),some (.ref d),some (.str r.1),some (.ref l),e4]/\EX_ H S/\DE dE S H' d ls (FA_ (occ (N.rows.take i)++(Fj_ r.1 0 r.2).take j))) ⟨e4,S,ls,rfl,sS,by rw [List.take_zero,Bd_];exact de⟩ ?_ ?_
    ·rintro j σ H2 hj ⟨e4,S,ls,rfl,sS,de⟩;obtain ⟨wr,hw⟩:∃ wr,r.2[j]?=some wr:=⟨r.2[j],Aa_ hj⟩;have tk:(Fj_ r.1 0 r.2).take (j+1)=(Fj_ r.1 0 r.2).take j++[(wr,(r.1,j))]:=by rw [Be_,gK_,hw];simp
     obtain ⟨m,hm⟩:=occle j;have few:=jL_ ok _ _ hm;have short:=i7_ ok _ _ hm;have hl2:=(sS.trans de.sH) _ _ hl;rw [tk,<-A5_,eU_];generalize FA_ (occ (N.rows.take i)++(Fj_ r.1 0 r.2).take j)=acc at *;rw [Bw_];nofun;have de2:=de;refine ⟨.inr (.inr (.inl (.inl ⟨_,de2.dict⟩))),_,hl2,.str wr,le_ (by rw [Ae_,hw];rfl),AA_ _,fun q nq=>?_⟩;have qd:q≠d:=(af_ de2.dict nq).symm;have ql:q∉ls:=fun z=>by obtain ⟨i0,hi0,ei⟩:=Ar_.mp z;obtain ⟨vs,z2,_⟩:=de2.lst i0 q (acc[i0]'(by rw [<-de2.len];exact hi0)) (by rw [Aa_ hi0,ei]) (Aa_ _);rw [nq] at z2;cases z2
     have Sq:S q=none:=de2.sH.free nq;have de3:=de2.mono (EX_.new nq (o:=HO.lst []));have hq4:=aa_ (H:=H2) (a:=q) (o:=HO.lst []);generalize upd H2 q (HO.lst [])=H4 at *;refine ⟨_,.inr wr,rfl,de3.dict,by rw [lF_ de3.len];lia,fun v2 hv2=>?_,fun hnone=>?_⟩
     ·have hex:∃ kv∈acc,kv.1=wr:=by
       by_cases hc:∃ kv∈acc,kv.1=wr
       ·exact hc
       ·rw [hF_ (fun kv hkv z=>hc ⟨kv,hkv,z⟩)] at hv2;cases hv2
      obtain ⟨i0,es,g1,g2,g3⟩:=dt_ (e:=(r.1,j)) hex;obtain ⟨lw,l1,l2⟩:=e0_ de3.len g1 g2;rw [l2] at hv2;cases hv2;obtain ⟨vs,hvs,hrep⟩:=de3.lst i0 lw _ l1 g1;have vle:vs.length<=30:=by rw [hrep.length,Ab_];exact short _ (Ak_ g1)
      refine ⟨.inl ⟨_,.inl (.inl hvs)⟩,by decide,fun t nt=>⟨lw,rfl,vs,(EX_.new nt) _ _ hvs,EY_ (by lia),?_⟩⟩;have de5:=de3.stay nt (.tup [.str r.1,.int j]);have de6:=de5.old g1 l1 ((EX_.new nt) _ _ hvs) (Fg_.mono (aO_ de3.sH nt) _ hrep) (e:=(r.1,j)) ⟨t,_,rfl,aa_,_,_,rfl,rfl,_,_,rfl,rfl,rfl⟩;rw [g3];exact ⟨_,sS.trans (aO_ de3.sH nt),ls,de6⟩
     ·have hno:∀ kv∈acc,kv.1≠wr:=fun kv hkv z=>by obtain ⟨i0,es,g1,g2,g3⟩:=dt_ (e:=(r.1,j)) ⟨kv,hkv,z⟩;obtain ⟨lw,l1,l2⟩:=e0_ de3.len g1 g2;rw [l2] at hnone;cases hnone
      have hqd:upd H4 d (HO.dK (FR_ (F2_ acc ls) (Sum.inr wr) (V.ref q))) q=some (.lst []):=by rw [ah_ qd];exact hq4
      refine ⟨.inl ⟨_,.inl (.inl hqd)⟩,by decide,fun t nt=>?_⟩;have td:t≠d:=fun z=>by rw [z,aa_] at nt;cases nt
      have nt4:H4 t=none:=by rw [ah_ td] at nt;exact nt
      have tq:t≠q:=(af_ hq4 nt4).symm;have de5:=de3.stay nt4 (.tup [.str r.1,.int j]);have de6:=de5.new (e:=(r.1,j)) (q:=q) hno (by rw [ah_ tq.symm];exact hq4) qd ql (by rw [ah_ tq.symm];exact Sq) ⟨t,_,rfl,aa_,_,_,rfl,rfl,_,_,rfl,rfl,rfl⟩;refine ⟨[],by rw [ah_ tq.symm];exact hqd,EY_ (by decide),upd S t (.tup [.str r.1,.int j]),sS.trans (aO_ de3.sH nt4),ls++[q],?_⟩;rw [h4_ hno,mk_ td.symm];exact de6
    ·rintro σ H2 ⟨e4,S,ls,rfl,sS,de⟩;rw [AT_ (l:=Fj_ r.1 0 r.2) (by rw [i6_];exact Af_ _)] at de;exact ⟨_,_,_,rfl,S,sS,ls,de⟩
   ·rintro σ H' ⟨e2,e3,e4,S,ls,rfl,sS,de⟩;rw [AT_ (by lia)] at de;nofun;exact k d S ls H' sS de nd
def wS (N:Net Str)(wf:Str->Option (Int×Int)):List (Str×(Int×Int)):=N.worths.map fun r=>(r.1,(wf r.1).getD r.2)
def WfD (H:Hp)(dw:Addr)(wf:Str->Option (Int×Int)):Prop:=∃ kw,H dw=some (.dK kw)/\∀ x,match wf x with|none=>Ft_ kw (.inr x)=none|some p=>∃ v,Ft_ kw (.inr x)=some v/\Rep H v (dF p)
theorem mo_ {N:Net Str}(nk:Nk N)(wf:Str->Option (Int×Int)):(wS N wf).length<=15/\((wS N wf).map (·.1)).Nodup/\(wS N wf).Pairwise (fun a b=>eLe (a.1,0) (b.1,0)):=by
 unfold wS;refine ⟨?_,?_,?_⟩
 ·rw [Ab_];exact nk.ok.wl
 ·rw [Bf_];exact nk.wo.nd
 ·rw [Bo_];exact nk.ri
theorem o9_ {a b:Str}(h:eLe (a,0) (b,0))(h2:eLe (b,0) (a,0)):a=b:=by
 unfold eLe at h h2
 dsimp only at h h2
 by_cases e:a=b
 ·exact e
 ·rw [if_neg e] at h;rw [if_neg (fun z=>e z.symm)] at h2;exact sLe.antisymm h h2
theorem oj_ {N:Net Str}(nk:Nk N){wf:Str->Option (Int×Int)}{fs:List (Str×(Int×Int))}(hp:fs.Perm (wS N wf))(hs:fs.Pairwise (fun a b=>eLe (a.1,0) (b.1,0))):fs=wS N wf:=by obtain ⟨_,nd,ri⟩:=mo_ nk wf;refine hp.eq_of_pairwise (le:=fun a b=>eLe (a.1,0) (b.1,0)) (fun a b ha hb h1 h2=>?_) hs ri;have e:=o9_ h1 h2;have ha':=hp.subset ha;obtain ⟨i,hi,rfl⟩:=Ar_.mp ha';obtain ⟨j,hj,rfl⟩:=Ar_.mp hb;have:=(AU_ (l:=(wS N wf).map (·.1)) (i:=i) (j:=j) (by rw [Ab_];exact hi) nd).mp (by rw [Ae_,Ae_,Aa_ hi,Aa_ hj];exact congrArg some e);subst this;rfl
abbrev Fn_:Stmt:=stN 71
theorem eD_:E2_ ["_law_worths", "_law_new", "_law_gone", "_law_made"] ["_law_worths", "_law_new", "_law_gone"] (EW_ Fn_):=⟨rfl,rfl,rfl,by rfl',rfl,by rfl',by rfl'⟩
theorem gS_:LK Fn_ "_law_worths" .local:=by rfl'
theorem dE_:LK Fn_ "_law_made" .local:=by rfl'
theorem em_:LK Fn_ "sorted" .globalImplicit:=by rfl'
def Kt_:Sp:=fun vs H Q _=>∃ (p2 dw gl:Addr)(N:Net Str)(wf:Str->Option (Int×Int)),vs=[.ref p2,.ref dw,.ref gl]/\Rep H (.ref p2) (.lst (N.worths.map dWo))/\Nk N/\WfD H dw wf/\H gl=some (.lst [])/\∀ z H',EX_ H H'->Rep H' z (.lst ((wS N wf).map dWo))->Q z H'
theorem iz_ (T:Txt K mg)(F:Fn0 K mg "_law_with_worths" Fn_):Cal P w K mg base "_law_with_worths" ["_law_worths", "_law_new", "_law_gone"] 1 Kt_:=by
 refine aR_ F eD_ (fun _ _ _ _ _ _=>byL3 fun _ _ _=>rfl) ?len ?body
 case len=>rintro vs H Q E ⟨a,b,c,d,e,rfl,_⟩;rfl
 case body =>
  intro f cdv A outer s H vs Q E hr h;obtain ⟨p2,dw,gl,N,wf,rfl,hv,nk,⟨kw,hdw,hkw⟩,hgl,k⟩:=h;obtain ⟨_,ws,e0,h2,r2⟩:=hv;cases e0;refine' ⟨_,?D,?R⟩
  case D =>
   refine' ai_ ?g1 (ag_ (au_ (an_ (gC_ hr.units) em_ T.n_sorted dr_ (pa_c (pv1 3 rfl dE_) ab_))))
   case' g1=>refine' gv_ (i:=3) (N':=["_law_wire", "_law_worth", "_law_gone", "_law_new"]) (ix:=[none,none,some 2,some 1]) rfl rfl eD_.nd rfl dE_ rfl (a6_ ?g3) (ay_ (K:=K) rfl (pv1 0 rfl gS_)) (fun _ _ _=>(aJ_ (K:=K) (n:=2) rfl rfl (ak_ ?g10 (ak_ ?g12 aC_)))) (fun _ _ _=>(ec_ (aq_ (bZ_ (K:=K) rfl) (pv1 0 rfl rfl) (pvc 2 rfl rfl) (by with_unfolding_all rfl)))) (fun _ _ _=>?g7)
   case g3=>exact (by show Ge_ (EW_ Fn_) ["_law_worths", "_law_new", "_law_gone", "_law_made"] _ _ _=true;decide +kernel)
   case g10=>exact ae_ (i:=0) (by show List.Nodup (["_law_wire", "_law_worth", "_law_gone", "_law_new"]:List Str);decide +kernel) rfl rfl
   case g12=>exact ae_ (i:=1) (by show List.Nodup (["_law_wire", "_law_worth", "_law_gone", "_law_new"]:List Str);decide +kernel) rfl rfl
   case' g7=>refine' ax_ (pa_c (pv1 0 rfl rfl) (pa_c (hy_ (un1 hr.units) (pvc 3 rfl rfl) (pv1 0 rfl rfl) (pv1 1 rfl rfl) ⟨rfl,rfl,rfl,rfl⟩) ab_))
  case R =>
   have wl:=nk.ok.wl;have wsl:ws.length=N.worths.length:=by rw [r2.length,Ab_]
   nofun;refine ⟨⟨_,.inl (.inl h2)⟩,?_⟩;refine eo_ (n:=ws.length) (B:=fun _=>none) (Pσ:=fun σ=>∃ e e',σ=[e,e',some (.ref gl),some (.ref dw)]) (bs:=fun _=>true) (val:=fun j=>dWo ((N.worths.getD j (Str.empty,(0,0))).1,(wf (N.worths.getD j (Str.empty,(0,0))).1).getD (N.worths.getD j (Str.empty,(0,0))).2)) (fun b o e=>by cases e) ⟨_,_,rfl⟩ (by lia) (fun j Hj hj sj=>⟨ws,ws[j],.inl (.inl (sj _ _ h2)),Aa_ _⟩) (fun Hj sj=>⟨ws,.inl (.inl (sj _ _ h2)),Af_ _⟩) ?_ ?_
   ·rintro D j y σ' H5 H5' hD hDo s5 hj ⟨rfl,hyj⟩ ⟨e,e',rfl⟩ Y RR kY kR;obtain ⟨r,q,u,er,rfl,hq,hu⟩:=ir_ r2 (hyj _ (.inl (.inl (s5 _ _ h2))));have eg:N.worths.getD j (Str.empty,(0,0))=r:=by rw [Ac_,er];rfl
    rw [eg] at kY;obtain ⟨oD,hDo⟩:=hDo;have gW:=F7_.k (k:=.inr r.1) (s5 _ _ hdw);nofun;refine ⟨_,SqT.of (s5 _ _ hq),rfl,_,_,rfl,_,_,rfl,rfl,_,.inl (.inl (.inl (s5 _ _ hgl))),rfl,rfl,?_⟩;rw [show ([]:List V)=([]:List Str).map V.str from rfl,gc_,if_pos (by simp)];refine ⟨.inl ⟨_,.inl (s5 _ _ hdw)⟩,_,gW,by decide,fun z nz=>kY rfl _ _ _ ⟨_,_,rfl⟩ (EX_.new nz) ?_⟩;have zD:z≠D:=(af_ hDo nz).symm;have S8:=EX_.new nz (o:=HO.tup [V.str r.1,(Ft_ kw (Sum.inr r.1)).getD (V.ref u)])
    have hrep:Rep H ((Ft_ kw (.inr r.1)).getD (.ref u)) (dF ((wf r.1).getD r.2)):=by
     have:=hkw r.1;cases c:wf r.1 with
     | none=>rw [c] at this;rw [this];exact ⟨u,_,rfl,hu,_,_,rfl,rfl,_,_,rfl,rfl,rfl⟩
     | some p=>rw [c] at this;obtain ⟨v,y1,y2⟩:=this;rw [y1];exact y2
    have cut:EX_ H (GN_ (fun _=>none) D (upd H5' z (HO.tup [V.str r.1,(Ft_ kw (Sum.inr r.1)).getD (V.ref u)]))):=fun b o hb=>by rw [bB_ (af_ hb hD) rfl];exact S8 _ _ (s5 _ _ hb)
    exact ⟨z,_,rfl,by rw [bB_ zD rfl];exact aa_,_,_,rfl,rfl,_,_,rfl,Rep.mono cut _ hrep,rfl⟩
   ·intro D H5 hD s5 rep5;rw [wsl,kX_ N.worths (Str.empty,(0,0)) (fun _=>true) fun r=>dWo (r.1,(wf r.1).getD r.2)] at rep5
    have rep6:Rep H5 (.ref D) (.lst ((wS N wf).map dTf)):=by
     unfold wS;rw [Bf_];have:=Rep.mono be_ _ rep5
     rwa [CC_.mpr (fun _ _=>rfl)] at this
    obtain ⟨_,us,e0,hD5,reps⟩:=rep6;cases e0;obtain ⟨f1,f2,_⟩:=mo_ nk wf;refine ⟨D,rfl,us,hD5,wS N wf,reps,by lia,f2,fun l zs fs nl rz hp hs=>?_⟩;have e:=oj_ nk hp hs;subst e;exact k _ _ (s5.trans (EX_.new nl)) ⟨l,zs,rfl,aa_,Fg_.mono (EX_.new nl) _ rz⟩
def InD (H:Hp)(di:Addr)(ins:End Str->Option (List Str)):Prop:=∃ kvs,H di=some (.dT kvs)/\∀ e,match ins e with|none=>Ft_ kvs (eK e)=none|some ls=>∃ l,Ft_ kvs (eK e)=some (.ref l)/\H l=some (.lst (ls.map V.str))
theorem InD.mono {H H':Hp}{di:Addr}{ins:End Str->Option (List Str)}(h:InD H di ins)(s:EX_ H H'):InD H' di ins:=by
 obtain ⟨kvs,a1,a3⟩:=h;refine ⟨kvs,s _ _ a1,fun e=>?_⟩;have:=a3 e;cases z:ins e with
 | none=>rw [z] at this;exact this
 | some ls=>rw [z] at this;obtain ⟨l,y1,y2⟩:=this;exact ⟨l,y1,s _ _ y2⟩
def plR (rows:List (Str×List Str))(ins:End Str->Option (List Str)):List (Str×List Str):=rows.map fun r=>(r.1,kpG ins r.1 0 r.2)
abbrev Fu_:Stmt:=stN 66
theorem ce_:E2_ ["_law_rows", "_law_instead", "_law_made", "_law_point", "_law_wires", "_law_row_here", "_law_k"] ["_law_rows", "_law_instead"] (EW_ Fu_):=⟨rfl,rfl,rfl,by rfl',rfl,by rfl',by rfl'⟩
theorem k6_:LK Fu_ "_law_rows" .local:=by rfl'
theorem k7_:LK Fu_ "_law_instead" .local:=by rfl'
theorem eE_:LK Fu_ "_law_made" .local:=by rfl'
theorem eF_:LK Fu_ "_law_point" .local:=by rfl'
theorem eG_:LK Fu_ "_law_wires" .local:=by rfl'
theorem db_:LK Fu_ "_law_row_here" .local:=by rfl'
theorem eH_:LK Fu_ "_law_k" .local:=by rfl'
theorem iQ_:LK Fu_ "len" .globalImplicit:=by rfl'
theorem hp_:LK Fu_ "range" .globalImplicit:=by rfl'
def Hq_:Sp:=fun vs H Q _=>∃ (v:V)(rows:List (Str×List Str))(di:Addr)(ins:End Str->Option (List Str)),vs=[v,.ref di]/\Rep H v (.lst (rows.map dRw))/\rows.length<=16/\(∀ r∈rows,r.2.length<=30)/\InD H di ins/\(∀ e l,ins e=some l->l.length<=2)/\∀ D H',EX_ H H'->H D=none->Rep (GK_ H H') (.ref D) (.lst ((plR rows ins).map dRw))->Q (.ref D) H'
theorem mP_ (T:Txt K mg)(F:Fn0 K mg "_law_placed" Fu_):Cal P w K mg base "_law_placed" ["_law_rows", "_law_instead"] 1 Hq_:=by
 refine aR_ F ce_ (fun _ _ _ _ _ _=>byL2 fun _ _=>rfl) ?len ?body
 case len=>rintro vs H Q E ⟨a,b,c,d,rfl,_⟩;rfl
 case body =>
  intro f cdv A outer s H vs Q E hr h;obtain ⟨v,rows,di,ins,rfl,hv,few,r30,isd,two,k⟩:=h;obtain ⟨pv,rs,rfl,hpv,rrs⟩:=hv;have rl:rs.length=rows.length:=by rw [rrs.length,Ab_]
  refine' ⟨_,?D,?R⟩
  case D =>
   refine' ad_ (aj_ (i:=2) ce_.nd rfl eE_ (a5_ ab_)) (ai_ ?g5 (ag_ (au_ (pv1 2 rfl eE_))))
   case' g5=>refine' aV_ Au_ rfl (ay_ (K:=K) rfl (pv1 0 rfl k6_)) (aJ_ (K:=K) (n:=2) rfl rfl (ak_ ?g12 (ak_ ?g14 aC_))) (ad_ (aj_ (i:=5) ce_.nd rfl db_ (a5_ ab_)) ?g17)
   case g12=>exact ae_ (i:=3) ce_.nd rfl eF_
   case g14=>exact ae_ (i:=4) ce_.nd rfl eG_
   case' g17=>refine' ad_ (aV_ Au_ rfl (aE_ hp_ T.n_range (pa_c (an_ ap_ iQ_ T.n_len aL_ (pa_c (pv1 4 rfl eG_) ab_)) ab_)) ?g23 (ag_ (aj_ (i:=5) ce_.nd rfl db_ ?g32))) ?g21
   case g23=>exact ae_ (i:=6) ce_.nd rfl eH_
   case' g32=>refine' EZ_ iU_ (pv1 5 rfl db_) (hy_ (un1 hr.units) (pv1 1 rfl k7_) (ax_ (pa_c (pv1 3 rfl eF_) (pa_c (pv1 6 rfl eH_) ab_))) (a5_ (pa_c (E0_ ao_ (pv1 4 rfl eG_) (pv1 6 rfl eH_) (fun _ _=>rfl)) ab_)) ⟨rfl,rfl,rfl,rfl⟩)
   case' g21=>refine' ag_ (aI_ (FQ_ Aw_ AK_ AL_ aT_ (pv1 2 rfl eE_) (pa_c (ax_ (pa_c (pv1 3 rfl eF_) (pa_c (pv1 5 rfl db_) ab_))) ab_)))
  case R =>
   nofun;refine ⟨AA_ _,fun D nD=>?_⟩;have S1:=EX_.new nD (o:=HO.lst []);have hD:=aa_ (H:=H) (a:=D) (o:=HO.lst []);generalize upd H D (HO.lst [])=H1 at *;nofun;refine ⟨⟨_,.inl (.inl (S1 _ _ hpv))⟩,?_⟩;refine eX_ (xs:=rs) (fun i σ Hy=>∃ (e3 e4 e5 e6:Option V)(ys:List V),σ=[some (.ref pv),some (.ref di),some (.ref D),e3,e4,e5,e6]/\EX_ H Hy/\Hy D=some (.lst ys)/\ys.length<=i/\Fg_ (GN_ H D Hy) ys ((plR (rows.take i) ins).map dRw)) ⟨_,_,_,_,[],rfl,S1,hD,Af_ _,rfl⟩ ?_ ?_ ?_
   ·rintro i σ Hy hi ⟨e3,e4,e5,e6,ys,rfl,sy,hDy,yl,rep⟩;exact .inl (.inl (sy _ _ hpv))
   ·rintro i y σ Hy hy kc kb hkc hkb G hG ⟨e3,e4,e5,e6,ys,rfl,sy,hDy,yl,rep⟩;refine hG ?_;obtain ⟨r,q,l,hr',rfl,hq,hl⟩:=bm_ rrs hy;have il:=(Ag_.mp hy).1;have l30:=r30 r (Ak_ hr');nofun;refine ⟨_,SqT.of (sy _ _ hq),rfl,_,_,rfl,_,_,rfl,rfl,?_⟩;nofun;refine ⟨AA_ _,fun R0 nR0=>?_⟩;have S2:=EX_.new nR0 (o:=HO.lst []);have hR0:=aa_ (H:=Hy) (a:=R0) (o:=HO.lst []);generalize upd Hy R0 (HO.lst [])=H2 at *;nofun;refine ⟨_,.inl (S2 _ _ (sy _ _ hl)),by lia,by rw [Ab_];lia,?_⟩;rw [Ab_,AC_];refine br_ (fun j σ Hz=>∃ (e6:Option V)(R:Addr),σ=[some (.ref pv),some (.ref di),some (.ref D),some (.str r.1),some (.ref l),some (.ref R),e6]/\EX_ Hy Hz/\Hy R=none/\Hz R=some (.lst ((kpG ins r.1 0 (r.2.take j)).map V.str))) ⟨_,R0,rfl,S2,nR0,hR0⟩ ?_ ?_
    ·rintro j σ Hz hj kc2 kb2 hkc2 hkb2 G2 hG2 ⟨e6,R,rfl,sz,nR,hRz⟩;refine hG2 ?_;have hj':j<r.2.length:=hj;rw [Bw_];have s0z:=sy.trans sz;have kl:(kpG ins r.1 0 (r.2.take j)).length<=60:=by have:=gD_ two (p:=r.1) (r.2.take j) 0;rw [AO_] at this;lia
     nofun;obtain ⟨kvs,d1,d2⟩:=isd.mono s0z;refine ⟨.inr ⟨_,.inl d1⟩,by decide,fun t nt=>?_⟩;have st:=EX_.new nt (o:=HO.tup [V.str r.1,V.int j]);have ht:=aa_ (H:=Hz) (a:=t) (o:=HO.tup [V.str r.1,V.int j]);generalize upd Hz t (HO.tup [V.str r.1,V.int j])=Z1 at *;refine ⟨_,(s0z.trans st) _ _ hl,_,c0_ (by lia) (by rw [AC_,Ae_,Aa_ hj'];rfl),by decide,fun lw nlw=>?_⟩;have sw:=EX_.new nlw (o:=HO.lst [V.str r.2[j]]);have hlw:=aa_ (H:=Z1) (a:=lw) (o:=HO.lst [V.str r.2[j]]);generalize upd Z1 lw (HO.lst [V.str r.2[j]])=Z2 at *;have s2:=st.trans sw;refine ⟨_,F7_.t (k:=eK (r.1,j)) (s2 _ _ d1) (sw _ _ ht),?_⟩;have tk:kpG ins r.1 0 (r.2.take (j+1))=kpG ins r.1 0 (r.2.take j)++(ins (r.1,j)).getD [r.2[j]]:=by rw [Be_,Aa_ hj'];show kpG ins r.1 0 (r.2.take j++[r.2[j]])=_;rw [jG_,AO_,CK_,CE_ (by lia)]
     obtain ⟨lx,e1,e2,e3⟩:∃ lx,(Ft_ kvs (eK (r.1,j))).getD (V.ref lw)=.ref lx/\Z2 lx=some (.lst (((ins (r.1,j)).getD [r.2[j]]).map V.str))/\((ins (r.1,j)).getD [r.2[j]]).length<=2:=by
      have dd:=d2 (r.1,j);cases z:ins (r.1,j) with
      | none=>rw [z] at dd;rw [dd];exact ⟨lw,rfl,hlw,(by decide:1<=2)⟩
      | some ls=>rw [z] at dd;obtain ⟨l',y1,y2⟩:=dd;rw [y1];exact ⟨l',rfl,s2 _ _ y2,two _ ls z⟩
     refine ⟨lx,e1,_,s2 _ _ hRz,_,e2,AR_ (EY_ (by rw [Ab_,Ab_];lia)),fun p2 np2=>hkc2 _ _ ⟨_,p2,rfl,sz.trans (s2.trans (EX_.new np2)),(sz.trans s2).free np2,?_⟩⟩;rw [aa_,tk,Ap_]
    ·rintro σ Hz ⟨e6,R,rfl,sz,nR,hRz⟩;rw [AT_ (l:=r.2) (Af_ _)] at hRz;have hDz:=sz _ _ hDy;nofun;refine ⟨.inl ⟨_,.inl (.inl hDz)⟩,by decide,fun p np=>?_⟩;have S6:=EX_.new np (o:=HO.tup [V.str r.1,V.ref R]);have hp6:=aa_ (H:=Hz) (a:=p) (o:=HO.tup [V.str r.1,V.ref R]);generalize upd Hz p (HO.tup [V.str r.1,V.ref R])=H6 at *;have s6:=sz.trans S6;refine ⟨ys,S6 _ _ hDz,EY_ (by lia),hkc _ _ ⟨_,_,_,_,ys++[.ref p],rfl,(sy.trans s6).upd nD,aa_,by rw [Ah_];simp;lia,?_⟩⟩;have e1:plR (rows.take (i+1)) ins=plR (rows.take i) ins++[(r.1,kpG ins r.1 0 r.2)]:=by unfold plR;rw [Be_,hr',Ap_];rfl
     rw [jq_,e1,Ap_];refine (Fg_.mono (fQ_ s6) _ rep).append ⟨_,[],rfl,?_,rfl⟩;have pD:p≠D:=(af_ hDz np).symm;have RD:R≠D:=fun z=>by rw [z,hDy] at nR;cases nR
     refine ⟨p,_,rfl,by rw [bB_ pD ((sy.trans sz).free np)];exact hp6,_,_,rfl,rfl,_,_,rfl,⟨R,_,rfl,by rw [bB_ RD (sy.free nR)];exact S6 _ _ hRz,a2_ _⟩,rfl⟩
   ·rintro σ Hy ⟨e3,e4,e5,e6,ys,rfl,sy,hDy,yl,rep⟩;nofun;rw [AT_ (by lia)] at rep;exact k D Hy sy nD ⟨D,ys,rfl,by rw [df_ nD];exact hDy,Fg_.mono jp_ _ rep⟩
theorem rh_ {N:Net Str}(ok:Fk_ N){S H:Hp}{d:Addr}{ls:List Addr}(de:DE dE S H d ls (FK_ N)){x:Str}(hx:x∈N.all){a b:End Str}(eab:F1_ N x=[a,b]):∃ l,F7_ H d (.str x) (some (.ref l))/\Rep H (.ref l) (.lst [dE a,dE b]):=by
 obtain ⟨kv,hkv,rfl⟩:=jF_ hx;obtain ⟨i,hi,ei⟩:=Ar_.mp hkv;obtain ⟨l,hl,vl⟩:=e0_ (w:=kv.1) (acc:=FK_ N) (ls:=ls) (i:=i) (es:=kv.2) de.len (by rw [Aa_ hi,ei]) (fun j kv' hj hj' e=>by have:=(AU_ (l:=(FK_ N).map (·.1)) (i:=j) (j:=i) (by rw [Ab_];lia) (nG_ N)).mp (by rw [Ae_,Ae_,hj',Aa_ hi,ei];exact congrArg some e);lia);obtain ⟨vs,hvs,rvs⟩:=de.lst i l kv hl (by rw [Aa_ hi,ei]);rw [jE_ hkv,eab] at rvs;exact ⟨l,by have:=F7_.k (k:=.inr kv.1) de.dict;rw [vl] at this;exact this,l,vs,rfl,hvs,Fg_.mono de.sH _ rvs⟩
structure ID (B H:Hp)(di:Addr)(fs:List (End Str×List Str)):Prop where
 sB:EX_ B H
 nd:B di=none
 i:∃ kvs,H di=some (.dT kvs)/\kvs.length<=fs.length/\∀ e,match lk fs e with|none=>Ft_ kvs (eK e)=none|some ls=>∃ l,Ft_ kvs (eK e)=some (.ref l)/\H l=some (.lst (ls.map V.str))
theorem ID.mono {B H H':Hp}{di:Addr}{fs:List (End Str×List Str)}(h:ID B H di fs)(s:EX_ H H'):ID B H' di fs:=by
 obtain ⟨kvs,a1,a2,a3⟩:=h.i;refine ⟨h.sB.trans s,h.nd,⟨kvs,s _ _ a1,a2,fun e=>?_⟩⟩;have:=a3 e;cases z:lk fs e with
 | none=>rw [z] at this;exact this
 | some ls=>rw [z] at this;obtain ⟨l,y1,y2⟩:=this;exact ⟨l,y1,s _ _ y2⟩
theorem ID.put {B H:Hp}{di:Addr}{fs:List (End Str×List Str)}(h:ID B H di fs){e:End Str}{ls:List Str}{l:Addr}(no:lk fs e=none)(hl:H l=some (.lst (ls.map V.str))):∃ kvs,H di=some (.dT kvs)/\kvs.length<=fs.length/\ID B (upd H di (.dT (FR_ kvs (eK e) (.ref l)))) di (fs++[(e,ls)]):=by
 obtain ⟨kvs,a1,a2,a3⟩:=h.i;have lne:∀ {b:Addr}{xs:List V},H b=some (.lst xs)->b≠di:=fun y z=>by rw [z,a1] at y;cases y
 refine ⟨kvs,a1,a2,⟨aM_ h.sB h.nd,h.nd,⟨_,aa_,by have:=aP_ kvs (eK e) (.ref l);rw [Ah_,A4_];lia,fun e'=>?_⟩⟩⟩;rw [iw_ (f:=(e,ls)) no,a7_];by_cases c:e'=e
 ·subst c;rw [if_pos rfl,if_pos rfl];exact ⟨l,rfl,by rw [ah_ (lne hl)];exact hl⟩
 ·rw [if_neg c,if_neg (fun z=>c (iq_ z))];have:=a3 e';cases z:lk fs e' with
  | none=>rw [z] at this;exact this
  | some ls=>rw [z] at this;obtain ⟨l,y1,y2⟩:=this;exact ⟨l,y1,by rw [ah_ (lne y2)];exact y2⟩
structure WD (B H:Hp)(dw:Addr)(gs:List (Str×(Int×Int))):Prop where
 sB:EX_ B H
 nw:B dw=none
 w:∃ kw,H dw=some (.dK kw)/\kw.length<=gs.length/\∀ x,match lk gs x with|none=>Ft_ kw (.inr x)=none|some p=>∃ q,Ft_ kw (.inr x)=some (.ref q)/\H q=some (.tup [.int p.1,.int p.2])
theorem WD.mono {B H H':Hp}{dw:Addr}{gs:List (Str×(Int×Int))}(h:WD B H dw gs)(s:EX_ H H'):WD B H' dw gs:=by
 obtain ⟨kw,b1,b2,b3⟩:=h.w;refine ⟨h.sB.trans s,h.nw,⟨kw,s _ _ b1,b2,fun x=>?_⟩⟩;have:=b3 x;cases z:lk gs x with
 | none=>rw [z] at this;exact this
 | some ls=>rw [z] at this;obtain ⟨l,y1,y2⟩:=this;exact ⟨l,y1,s _ _ y2⟩
theorem WD.put {B H:Hp}{dw:Addr}{gs:List (Str×(Int×Int))}(h:WD B H dw gs){x:Str}{p:Int×Int}{q:Addr}(no:lk gs x=none)(hq:H q=some (.tup [.int p.1,.int p.2])):∃ kw,H dw=some (.dK kw)/\kw.length<=gs.length/\WD B (upd H dw (.dK (FR_ kw (.inr x) (.ref q)))) dw (gs++[(x,p)]):=by
 obtain ⟨kw,b1,b2,b3⟩:=h.w;have tne:∀ {b:Addr}{xs:List V},H b=some (.tup xs)->b≠dw:=fun y z=>by rw [z,b1] at y;cases y
 refine ⟨kw,b1,b2,⟨aM_ h.sB h.nw,h.nw,⟨_,aa_,by have:=aP_ kw (.inr x) (.ref q);rw [Ah_,A4_];lia,fun y=>?_⟩⟩⟩;rw [iw_ (f:=(x,p)) no,a7_];by_cases c:y=x
 ·subst c;rw [if_pos rfl,if_pos rfl];exact ⟨q,rfl,by rw [ah_ (tne hq)];exact hq⟩
 ·rw [if_neg c,if_neg (fun z=>c (Bx_ z))];have:=b3 y;cases z:lk gs y with
  | none=>rw [z] at this;exact this
  | some ls=>rw [z] at this;obtain ⟨l,y1,y2⟩:=this;exact ⟨l,y1,by rw [ah_ (tne y2)];exact y2⟩
abbrev Fc_:Stmt:=stN 74
theorem bn_:E2_ ["_law_net", "_law_point", "_law_a", "_law_b", "_law_c", "_law_ends_here", "_law_worth", "_law_instead", "_law_wire", "_law_pair", "_law_total", "_law_new", "_law_one", "_law_other", "_law_rows"] ["_law_net", "_law_point"] (EW_ Fc_):=⟨rfl,rfl,rfl,by rfl',rfl,by rfl',by rfl'⟩
theorem cJ_:LK Fc_ "_law_net" .local:=by rfl'
theorem mQ_:LK Fc_ "_law_point" .cell:=by rfl'
theorem bP_:LK Fc_ "_law_a" .local:=by rfl'
theorem bQ_:LK Fc_ "_law_b" .local:=by rfl'
theorem bR_:LK Fc_ "_law_c" .local:=by rfl'
theorem je_:LK Fc_ "_law_ends_here" .local:=by rfl'
theorem cK_:LK Fc_ "_law_worth" .local:=by rfl'
theorem gT_:LK Fc_ "_law_instead" .local:=by rfl'
theorem e2_:LK Fc_ "_law_wire" .local:=by rfl'
theorem jf_:LK Fc_ "_law_pair" .local:=by rfl'
theorem iA_:LK Fc_ "_law_total" .local:=by rfl'
theorem fH_:LK Fc_ "_law_new" .local:=by rfl'
theorem iB_:LK Fc_ "_law_one" .local:=by rfl'
theorem iC_:LK Fc_ "_law_other" .local:=by rfl'
theorem iD_:LK Fc_ "_law_rows" .local:=by rfl'
theorem gi_:LK Fc_ "_law_add" .globalImplicit:=by rfl'
theorem k8_:LK Fc_ "_law_by" .globalImplicit:=by rfl'
theorem iR_:LK Fc_ "_law_ends" .globalImplicit:=by rfl'
theorem jU_:LK Fc_ "_law_mul" .globalImplicit:=by rfl'
theorem hq_:LK Fc_ "_law_placed" .globalImplicit:=by rfl'
theorem jV_:LK Fc_ "_law_row" .globalImplicit:=by rfl'
theorem eI_:LK Fc_ "_law_with_worths" .globalImplicit:=by rfl'
theorem jW_:LK Fc_ "dict" .globalImplicit:=by rfl'
theorem jX_:LK Fc_ "list" .globalImplicit:=by rfl'
def ID_:Sp:=fun vs H Q _=>∃ (v:V)(N:Net Str)(x A B C:Str),vs=[v,.str x]/\Rep H v (Go_ N)/\Nk N/\(x,[A,B,C])∈N.rows/\(A≠B/\A≠C/\B≠C)/\∀ v' H',EX_ H H'->Rep H' v' (Go_ (Gz_ N x (inS N x A B C) (wvS N A B C)))->Q v' H'
theorem pa_ (T:Txt K mg)(F:Fn0 K mg "_law_star" Fc_) (KY_:Cal P w K mg base "_law_row" ["_law_net", "_law_point"] 1 IG_) (Kf_:Cal P w K mg base "_law_ends" ["_law_rows"] 1 H4_) (JI_:Cal P w K mg base "_law_add" ["_law_one", "_law_other"] 2 (Jc_ (fun p q=>p.1*q.2+q.1*p.2))) (KZ_:Cal P w K mg base "_law_mul" ["_law_one", "_law_other"] 2 (Jc_ (fun p q=>p.1*q.1))) (LK_:Cal P w K mg base "_law_by" ["_law_one", "_law_other"] 2 KM_) (IX_:Cal P w K mg base "_law_placed" ["_law_rows", "_law_instead"] 1 Hq_) (GQ_:Cal P w K mg base "_law_with_worths" ["_law_worths", "_law_new", "_law_gone"] 1 Kt_):Cal P w K mg base "_law_star" ["_law_net", "_law_point"] 3 ID_:=by
 refine aR_ F bn_ (fun _ _ _ _ _ _=>byL2 fun _ _=>rfl) ?len ?body
 case len=>rintro vs H Q E ⟨a,b,c,d,e,f,rfl,_⟩;rfl
 case body =>
  intro f cdv A outer s H vs Q E hr h;obtain ⟨v,N,x,A0,B0,C0,rfl,hv,nk,hr1,hAB,k⟩:=h;obtain ⟨pn,p0,p1,p2,rs,ws,rfl,hn,h0,h1,r1,h2,r2⟩:=bC_ hv;refine' ⟨_,?D,?R⟩
  case D =>
   refine' ad_ ?g1 (ad_ (aj_ (i:=5) bn_.nd rfl je_ (al_ Kf_ (hr.mono (by decide)) iR_ (pa_c (E0_ am_ (pv1 0 rfl cJ_) ac_ (fun _ _=>rfl)) ab_))) ?g18)
   case' g1=>refine' fM_ (al_ KY_ (hr.mono (by decide)) jV_ (pa_c (pv1 0 rfl cJ_) (pa_c (pvc 1 rfl mQ_) ab_))) (qf_ rfl (ak_ ?g11 (ak_ ?g13 (ak_ ?g15 aC_))))
   case g11=>exact ae_ (i:=2) bn_.nd rfl bP_
   case g13=>exact ae_ (i:=3) bn_.nd rfl bQ_
   case g15=>exact ae_ (i:=4) bn_.nd rfl bR_
   case' g18=>refine' ad_ (aj_ (i:=6) bn_.nd rfl cK_ (aX_ (eW_ rfl) jW_ T.n_dict jN_ (pa_c (E0_ am_ (pv1 0 rfl cJ_) ac_ (fun _ _=>rfl)) ab_))) ?g26
   case' g26=>refine' ad_ ?g33 (ad_ ?g35 (ad_ (aj_ (i:=10) bn_.nd rfl iA_ (al_ JI_ (hr.mono (by decide)) gi_ ?g105)) ?g103))
   case g33=>exact aj_ (i:=7) bn_.nd rfl gT_ fT_
   case' g35=>refine' aV_ Au_ rfl (nj_ (K:=K) rfl ?g40) (aJ_ (K:=K) (n:=2) rfl rfl (ak_ ?g79 (ak_ ?g81 aC_))) (ag_ ?g83)
   case' g40=>refine' ax_ (pa_c (ax_ (pa_c (pv1 2 rfl bP_) (pa_c (a5_ (pa_c (pv1 4 rfl bR_) (pa_c (pv1 3 rfl bQ_) ab_))) ab_))) ?g43)
   case' g43=>refine' pa_c (ax_ (pa_c (pv1 3 rfl bQ_) (pa_c (a5_ (pa_c (pv1 2 rfl bP_) (pa_c (pv1 4 rfl bR_) ab_))) ab_))) ?g55
   case' g55=>refine' pa_c (ax_ (pa_c (pv1 4 rfl bR_) (pa_c (a5_ (pa_c (pv1 3 rfl bQ_) (pa_c (pv1 2 rfl bP_) ab_))) ab_))) ab_
   case g79=>exact ae_ (i:=8) bn_.nd rfl e2_
   case g81=>exact ae_ (i:=9) bn_.nd rfl jf_
   case' g83=>refine' cL_ (un1 hr.units) (pv1 7 rfl gT_) (E0_ ao_ (bd_ (N':=["_law_end", "_law_point"]) (ix:=[none,some 1]) rfl rfl (a6_ ?g89) (ay_ (K:=K) rfl (bU_ (un1 hr.units) (pv1 5 rfl je_) (pv1 8 rfl e2_) (fun _ _=>rfl))) (fun _ _ _=>?g91) (fun _ _ _=>(ec_ (aq_ IU_ (E0_ am_ (pv1 0 rfl rfl) ac_ (fun _ _=>rfl)) (pvc 1 rfl rfl) (E9_ _)))) (fun _ _ _=>(pv1 0 rfl rfl))) ac_ (fun _ _=>rfl)) (pv1 9 rfl jf_) rfl
   case g89=>exact (by show Ge_ (EW_ Fc_) ["_law_net", "_law_point", "_law_a", "_law_b", "_law_c", "_law_ends_here", "_law_worth", "_law_instead", "_law_wire", "_law_pair", "_law_total", "_law_new", "_law_one", "_law_other", "_law_rows"] _ _ _=true;decide +kernel)
   case g91=>exact ae_ (i:=0) (by show List.Nodup (["_law_end", "_law_point"]:List Str);decide +kernel) rfl rfl
   case' g105=>refine' pa_c (al_ JI_ (hr.mono (by decide)) gi_ (pa_c (bU_ (un1 hr.units) (pv1 6 rfl cK_) (pv1 2 rfl bP_) (fun _ _=>rfl)) (pa_c (bU_ (un1 hr.units) (pv1 6 rfl cK_) (pv1 3 rfl bQ_) (fun _ _=>rfl)) ab_))) (pa_c (bU_ (un1 hr.units) (pv1 6 rfl cK_) (pv1 4 rfl bR_) (fun _ _=>rfl)) ab_)
   case' g103=>refine' ad_ ?g121 (ad_ ?g123 (ad_ (gv_ (i:=14) (N':=["_law_row_here", "_law_point"]) (ix:=[none,some 1]) rfl rfl bn_.nd rfl iD_ rfl (a6_ ?g184) ?g185 (fun _ _ _=>?g186) (fun _ _ _=>(ec_ (aq_ IU_ (E0_ am_ (pv1 0 rfl rfl) ac_ (fun _ _=>rfl)) (pvc 1 rfl rfl) (E9_ _)))) (fun _ _ _=>(pv1 0 rfl rfl))) ?g183))
   case g121=>exact aj_ (i:=11) bn_.nd rfl fH_ dJ_
   case' g123=>refine' aV_ Au_ rfl ?g125 (aJ_ (K:=K) (n:=3) rfl rfl (ak_ ?g158 (ak_ ?g160 (ak_ ?g162 aC_)))) (ag_ (cL_ (un1 hr.units) (pv1 11 rfl fH_) (pv1 8 rfl e2_) ?g167 rfl))
   case' g125=>refine' nj_ (K:=K) rfl (ax_ (pa_c (ax_ (pa_c (pv1 2 rfl bP_) (pa_c (pv1 3 rfl bQ_) (pa_c (pv1 4 rfl bR_) ab_)))) ?g131))
   case' g131=>refine' pa_c (ax_ (pa_c (pv1 3 rfl bQ_) (pa_c (pv1 2 rfl bP_) (pa_c (pv1 4 rfl bR_) ab_)))) ?g140
   case' g140=>refine' pa_c (ax_ (pa_c (pv1 4 rfl bR_) (pa_c (pv1 2 rfl bP_) (pa_c (pv1 3 rfl bQ_) ab_)))) ab_
   case g158=>exact ae_ (i:=8) bn_.nd rfl e2_
   case g160=>exact ae_ (i:=12) bn_.nd rfl iB_
   case g162=>exact ae_ (i:=13) bn_.nd rfl iC_
   case' g167=>refine' al_ LK_ (hr.mono (by decide)) k8_ (pa_c (al_ KZ_ (hr.mono (by decide)) jU_ (pa_c (bU_ (un1 hr.units) (pv1 6 rfl cK_) (pv1 12 rfl iB_) (fun _ _=>rfl)) (pa_c (bU_ (un1 hr.units) (pv1 6 rfl cK_) (pv1 13 rfl iC_) (fun _ _=>rfl)) ab_))) (pa_c (pv1 10 rfl iA_) ab_))
   case g184=>exact (by show Ge_ (EW_ Fc_) ["_law_net", "_law_point", "_law_a", "_law_b", "_law_c", "_law_ends_here", "_law_worth", "_law_instead", "_law_wire", "_law_pair", "_law_total", "_law_new", "_law_one", "_law_other", "_law_rows"] _ _ _=true;decide +kernel)
   case' g185=>refine' ay_ (K:=K) rfl (al_ IX_ (hr.mono (by decide)) hq_ (pa_c (E0_ am_ (pv1 0 rfl cJ_) ac_ (fun _ _=>rfl)) (pa_c (pv1 7 rfl gT_) ab_)))
   case g186=>exact ae_ (i:=0) (by show List.Nodup (["_law_row_here", "_law_point"]:List Str);decide +kernel) rfl rfl
   case' g183=>refine' ag_ (au_ (ax_ (pa_c (aX_ bL_ jX_ T.n_list dc_ (pa_c (E0_ am_ (pv1 0 rfl cJ_) ac_ (fun _ _=>rfl)) ab_)) ?g206)))
   case' g206=>refine' pa_c (pv1 14 rfl iD_) (pa_c (al_ GQ_ (hr.mono (by decide)) eI_ (pa_c (E0_ am_ (pv1 0 rfl cJ_) ac_ (fun _ _=>rfl)) (pa_c (pv1 11 rfl fH_) (pa_c (a5_ ab_) ab_)))) ab_)
  case R =>
   nofun;refine ⟨_,N,(x,[A0,B0,C0]),rfl,hv,nk.ok,hr1,fun l H1 s1 hl=>?_⟩;refine ⟨l,.str A0,.str B0,.str C0,rfl,hl,?_⟩;nofun;refine ⟨_,s1 _ _ hn,_,Fw_,_,N,rfl,⟨p1,rs,rfl,s1 _ _ h1,Fg_.mono s1 _ r1⟩,nk.ok,fun d S ls H2 sS de nd=>?_⟩;have s2:EX_ H1 H2:=sS.trans de.sH;have s02:=s1.trans s2;obtain ⟨kw,k1,k2',k3,em,kv⟩:=oc_ nk r2;nofun;refine ⟨_,s02 _ _ hn,_,Gi_,p2,rfl,ws,s02 _ _ h2,kw,k1,k2',fun i q hq=>(k3 i q hq).elim fun a z=>⟨a,z.1,s02 _ _ z.2⟩,fun d3 nd3=>?_⟩;rw [em];have S3:=EX_.new nd3 (o:=HO.dK kw);have hd3:=aa_ (H:=H2) (a:=d3) (o:=HO.dK kw);have de3:=de.mono S3;generalize upd H2 d3 (HO.dK kw)=H3 at *;have s03:=s02.trans S3;nofun;intro di ndi;have S4:=EX_.new ndi (o:=HO.dT []);have hdi:=aa_ (H:=H3) (a:=di) (o:=HO.dT []);generalize upd H3 di (HO.dT [])=H4 at *;nofun;refine ⟨by decide,fun la nla=>?_⟩;have U0:=EX_.new nla (o:=HO.lst [V.str C0,V.str B0]);have hla:=aa_ (H:=H4) (a:=la) (o:=HO.lst [V.str C0,V.str B0]);generalize upd H4 la (HO.lst [V.str C0,V.str B0])=J0 at *;refine ⟨by decide,fun ta nta=>?_⟩;have U1:=EX_.new nta (o:=HO.tup [V.str A0,V.ref la]);have hta:=aa_ (H:=J0) (a:=ta) (o:=HO.tup [V.str A0,V.ref la]);generalize upd J0 ta (HO.tup [V.str A0,V.ref la])=J1 at *;refine ⟨by decide,fun lb nlb=>?_⟩;have U2:=EX_.new nlb (o:=HO.lst [V.str A0,V.str C0]);have hlb:=aa_ (H:=J1) (a:=lb) (o:=HO.lst [V.str A0,V.str C0]);generalize upd J1 lb (HO.lst [V.str A0,V.str C0])=J2 at *;refine ⟨by decide,fun tb ntb=>?_⟩;have U3:=EX_.new ntb (o:=HO.tup [V.str B0,V.ref lb]);have htb:=aa_ (H:=J2) (a:=tb) (o:=HO.tup [V.str B0,V.ref lb]);generalize upd J2 tb (HO.tup [V.str B0,V.ref lb])=J3 at *;refine ⟨by decide,fun lc nlc=>?_⟩;have U4:=EX_.new nlc (o:=HO.lst [V.str B0,V.str A0]);have hlc:=aa_ (H:=J3) (a:=lc) (o:=HO.lst [V.str B0,V.str A0]);generalize upd J3 lc (HO.lst [V.str B0,V.str A0])=J4 at *;refine ⟨by decide,fun tc ntc=>?_⟩;have U5:=EX_.new ntc (o:=HO.tup [V.str C0,V.ref lc]);have htc:=aa_ (H:=J4) (a:=tc) (o:=HO.tup [V.str C0,V.ref lc]);generalize upd J4 tc (HO.tup [V.str C0,V.ref lc])=J5 at *;refine ⟨by decide,fun tt ntt=>?_⟩;have U6:=EX_.new ntt (o:=HO.tup [V.ref ta,V.ref tb,V.ref tc]);have htt:=aa_ (H:=J5) (a:=tt) (o:=HO.tup [V.ref ta,V.ref tb,V.ref tc]);generalize upd J5 tt (HO.tup [V.ref ta,V.ref tb,V.ref tc])=J6 at *;have W5:=U6;have W4:=U5.trans W5;have W3:=U4.trans W4;have W2:=U3.trans W3;have W1:=U2.trans W2;have W0:=U1.trans W1;have WW:=U0.trans W0;refine ⟨⟨_,SqT.of htt⟩,?_⟩;have inAll:∀ y∈[A0,B0,C0],y∈N.all:=fun y hy=>Bu_.mpr ⟨_,Al_.mpr ⟨_,hr1,rfl⟩,hy⟩;have wnd:[A0,B0,C0].Nodup:=by simp only [AW_,Ao_,A8_,C2_,not_or,not_false_eq_true,Bh_,and_true];exact ⟨⟨hAB.1,hAB.2.1⟩,hAB.2.2⟩
   have farI:∀ (j:Nat)(y:Str),[A0,B0,C0][j]?=some y->(F1_ N y=[(x,j),FV_ N x y]\/F1_ N y=[FV_ N x y,(x,j)])/\(FV_ N x y).1≠x/\(y,FV_ N x y)∈occ N.rows:=fun j y hj=>by obtain ⟨far,hfe,hfx,hfm,hfa⟩:=nP_ nk.ok hr1 wnd hj;rw [od_ hfx hfm hfa];exact ⟨hfe,hfx,fZ_.mp hfm⟩
   have ndo:=i3_ nk.ok.nd;obtain ⟨qA,fxA,foA⟩:=farI 0 A0 rfl;obtain ⟨qB,fxB,foB⟩:=farI 1 B0 rfl;obtain ⟨qC,fxC,foC⟩:=farI 2 C0 rfl;have fAB:FV_ N x A0≠FV_ N x B0:=fun z=>hAB.1 (BE_ (b8_ ndo foA foB z)).1;have fAC:FV_ N x A0≠FV_ N x C0:=fun z=>hAB.2.1 (BE_ (b8_ ndo foA foC z)).1;have fBC:FV_ N x B0≠FV_ N x C0:=fun z=>hAB.2.2 (BE_ (b8_ ndo foB foC z)).1
   let fs:List (End Str×List Str):=[(FV_ N x A0,[C0,B0]),(FV_ N x B0,[A0,C0]),(FV_ N x C0,[B0,A0])]
   let gs:List (Str×(Int×Int)):=[(A0,fBy (GB_ (wN N C0) (wN N B0)) (HA_ N A0 B0 C0)),(B0,fBy (GB_ (wN N A0) (wN N C0)) (HA_ N A0 B0 C0)),(C0,fBy (GB_ (wN N B0) (wN N A0)) (HA_ N A0 B0 C0))]
   have key:∀ i:Nat,i<3->∃ (y a b:Str)(t' l':Addr)(j:Nat),[V.ref ta,V.ref tb,V.ref tc][i]?=some (.ref t')/\J6 t'=some (.tup [.str y,.ref l'])/\J6 l'=some (.lst ([a,b].map V.str))/\y∈N.all/\(F1_ N y=[(x,j),FV_ N x y]\/F1_ N y=[FV_ N x y,(x,j)])/\(FV_ N x y).1≠x/\fs.take (i+1)=fs.take i++[(FV_ N x y,[a,b])]/\lk (fs.take i) (FV_ N x y)=none:=by
    intro i hi
    rcases (show i=0\/i=1\/i=2 by lia) with rfl|rfl|rfl
    ·exact ⟨A0,C0,B0,ta,la,0,rfl,W1 _ _ hta,W0 _ _ hla,inAll _ (by simp),qA,fxA,rfl,rfl⟩
    ·exact ⟨B0,A0,C0,tb,lb,1,rfl,W3 _ _ htb,W2 _ _ hlb,inAll _ (by simp),qB,fxB,rfl,if_neg fAB.symm⟩
    ·exact ⟨C0,B0,A0,tc,lc,2,rfl,W5 _ _ htc,W4 _ _ hlc,inAll _ (by simp),qC,fxC,rfl,(if_neg fAC.symm).trans (if_neg fBC.symm)⟩
   have hidJ:∀ {b:Addr}{o:HO},J6 b=some o->(∀ kv,o≠.dT kv)->(fun c=>if c=di then none else J6 c) b=some o:=fun {b o} h1 h2=>(if_neg fun z=>by rw [z,WW _ _ hdi] at h1;exact h2 _ (Aq_ h1).symm).trans h1
   let B0':Hp:=fun c=>if c=di then none else J6 c
   have sBJ:EX_ B0' J6:=fun b o h=>by
    have h':(if b=di then none else J6 b)=some o:=h;by_cases z:b=di
    ·rw [if_pos z] at h';cases h'
    ·rwa [if_neg z] at h'
   have s3B:EX_ H3 B0':=fun b o h=>(if_neg fun z=>by rw [z,ndi] at h;cases h).trans ((S4.trans WW) _ _ h);refine nJ_ (xs:=[V.ref ta,V.ref tb,V.ref tc]) (fun i σ Hy=>∃ (e8 e9:Option V),σ=[some (.ref pn),some (.str x),some (.str A0),some (.str B0),some (.str C0),some (.ref d),some (.ref d3),some (.ref di),e8,e9,none,none,none,none,none]/\ID B0' Hy di (fs.take i)) ⟨_,_,rfl,sBJ,if_pos rfl,⟨[],WW _ _ hdi,Af_ _,fun e=>rfl⟩⟩ ?_ ?_ ?_
   ·rintro i σ Hy hi ⟨e8,e9,rfl,idd⟩;exact SqT.of (idd.sB _ _ (hidJ htt (by simp)))
   ·rintro i y0 σ Hy hy0 kc kb hkc hkb G hG ⟨e8,e9,rfl,idd⟩;refine hG ?_;have i3:=(Ag_.mp hy0).1;obtain ⟨y,a,b,t',l',j,g1,g2,g3,g4,g5,g6,g7,g8⟩:=key i i3;rw [g1] at hy0;cases hy0;rw [g7] at hkc;nofun;refine ⟨_,SqT.of (idd.sB _ _ (hidJ g2 (by simp))),rfl,_,_,rfl,_,_,rfl,rfl,?_⟩;have s3y:=s3B.trans idd.sB
    obtain ⟨ea,eb,eab,pick⟩:∃ ea eb,F1_ N y=[ea,eb]/\((ea.1=x/\eb=FV_ N x y)\/(ea=FV_ N x y/\eb.1=x)):=by
     rcases g5 with e|e
     ·exact ⟨_,_,e,.inl ⟨rfl,rfl⟩⟩
     ·exact ⟨_,_,e,.inr ⟨rfl,rfl⟩⟩
    obtain ⟨l2,gx,rx⟩:=rh_ nk.ok (de3.mono s3y) g4 eab;obtain ⟨p,q,hl2,hp,hq⟩:=qv_ rx;refine ⟨.ref l2,gx,l2,rfl,⟨_,.inl (.inl hl2)⟩,?_⟩;refine fS_ (n:=2) (Pσ:=fun σ=>∃ e,σ=[e,some (.str x)]) (bs:=fun i=>decide ((if i=0 then ea else eb).1≠x)) (val:=fun i=>V.ref (if i=0 then p else q)) ⟨_,rfl⟩ (by decide) (fun i H' hi s'=>⟨[.ref p,.ref q],[V.ref p,V.ref q][i],.inl (.inl (s' _ _ hl2)),by simp [hi]⟩) (fun H' s'=>⟨_,.inl (.inl (s' _ _ hl2)),by simp⟩) ?_ ?_
    ·rintro D i' y' σ' Z Z' hD hDo hs2 hi' ⟨rfl,hy'⟩ ⟨e,rfl⟩ Y R kY kR;have hx:=hy' _ (.inl (.inl (hs2 _ _ hl2)))
     obtain ⟨t,en,rfl,ht,e1,e2⟩:∃ (t:Addr)(en:End Str),y'=.ref t/\Hy t=some (.tup [.str en.1,.int en.2])/\(if i'=0 then ea else eb)=en/\(if i'=0 then p else q)=t:=by
      match i',hi' with
      | 0,_=>cases hx;exact ⟨p,ea,rfl,hp,rfl,rfl⟩
      | 1,_=>cases hx;exact ⟨q,eb,rfl,hq,rfl,rfl⟩
     rw [e1,e2] at kY;rw [e1] at kR;nofun;refine ⟨_,hs2 _ _ ht,_,FC_,rfl,?_⟩;exact ite2 (fun c=>kY (AQ_ fun z=>c (congrArg V.str z)) _ _ ⟨_,rfl⟩ (EX_.refl _)) (fun c=>kR (Az_ fun z=>c fun y=>z (V.str.inj y)) _ _ ⟨_,rfl⟩ (EX_.refl _))
    ·intro D H5 hD s5 hl5
     obtain ⟨pf,e1,hpf⟩:∃ pf,(((List.range 2).filter fun i=>decide ((if i=0 then ea else eb).1≠x)).map fun i=>V.ref (if i=0 then p else q))=[.ref pf]/\Hy pf=some (eV (FV_ N x y)):=by
      rcases pick with ⟨e1,rfl⟩|⟨rfl,e1⟩
      ·exact ⟨q,by simp [List.range,List.range.loop,e1,g6],hq⟩
      ·exact ⟨p,by simp [List.range,List.range.loop,e1,g6],hp⟩
     rw [e1] at hl5;have id5:=idd.mono s5;have fl:(fs.take i).length<=3:=by rw [AO_];exact C6_ _ _
     obtain ⟨kvs,c1,c2,id6⟩:=id5.put (e:=FV_ N x y) (ls:=[a,b]) (l:=l') g8 (id5.sB _ _ (hidJ g3 (by simp)));exact ⟨D,rfl,_,hl5,_,FC_,_,Ho_.t (k:=eK (FV_ N x y)) c1 (s5 _ _ hpf) (EY_ (by lia)),hkc _ _ ⟨_,_,rfl,id6⟩⟩
   ·rintro σ Hy ⟨e8,e9,rfl,idd⟩
    replace idd:ID B0' Hy di fs:=idd
    nofun;have s3y:=s3B.trans idd.sB;have hdy:=s3y _ _ hd3;have s0y:=s03.trans s3y;obtain ⟨ua,va,ra⟩:=kv A0 (inAll A0 (by simp));obtain ⟨ub,vb,rb⟩:=kv B0 (inAll B0 (by simp));obtain ⟨uc,vc,rc⟩:=kv C0 (inAll C0 (by simp));have w1:=nk.wo.ws _ (HS_ nk.wo (inAll A0 (by simp)));have w2:=nk.wo.ws _ (HS_ nk.wo (inAll B0 (by simp)));have w3:=nk.wo.ws _ (HS_ nk.wo (inAll C0 (by simp)));have th:=I6_.of w1 w2 w3
    dsimp only at th w1 w2 w3
    have gA:=F7_.k (k:=.inr A0) hdy;have gB:=F7_.k (k:=.inr B0) hdy;rw [va] at gA;rw [vb] at gB;refine ⟨ua,gA,ub,gB,?_⟩;refine ⟨ua,ub,wN N A0,wN N B0,rfl,Rep.mono s0y _ ra,Rep.mono s0y _ rb,th.sp.1.pos,th.sq.1.pos,Ay_ th.sp.top (by decide),Ay_ th.sp.bot (by decide),Ay_ th.sq.top (by decide),Ay_ th.sq.bot (by decide),fun z1 G1 T1 rz1=>?_⟩;have gC:=F7_.k (k:=.inr C0) (T1 _ _ hdy);rw [vc] at gC;refine ⟨uc,gC,?_⟩;refine ⟨.ref z1,uc,F3_ (wN N A0) (wN N B0),wN N C0,rfl,Rep.mono be_ _ rz1,Rep.mono (s0y.trans T1) _ rc,th.sa.1.pos,th.sr.1.pos,Ay_ th.sa.top (by decide),Ay_ th.sa.bot (by decide),Ay_ th.sr.top (by decide),Ay_ th.sr.bot (by decide),fun z2 G2 T2 rz2=>?_⟩
    replace rz2:Rep G2 (.ref z2) (dF (HA_ N A0 B0 C0)):=Rep.mono be_ _ rz2
    have sy2:=T1.trans T2;nofun;intro dw ndw;have V0:=EX_.new ndw (o:=HO.dK []);have hdw:=aa_ (H:=G2) (a:=dw) (o:=HO.dK []);generalize upd G2 dw (HO.dK [])=L0 at *;nofun;refine ⟨by decide,fun t1 nt1=>?_⟩;have V1:=EX_.new nt1 (o:=HO.tup [V.str A0,V.str B0,V.str C0]);have ht1:=aa_ (H:=L0) (a:=t1) (o:=HO.tup [V.str A0,V.str B0,V.str C0]);generalize upd L0 t1 (HO.tup [V.str A0,V.str B0,V.str C0])=L1 at *;refine ⟨by decide,fun t2 nt2=>?_⟩;have V2:=EX_.new nt2 (o:=HO.tup [V.str B0,V.str A0,V.str C0]);have ht2:=aa_ (H:=L1) (a:=t2) (o:=HO.tup [V.str B0,V.str A0,V.str C0]);generalize upd L1 t2 (HO.tup [V.str B0,V.str A0,V.str C0])=L2 at *;refine ⟨by decide,fun t3 nt3=>?_⟩;have V3:=EX_.new nt3 (o:=HO.tup [V.str C0,V.str A0,V.str B0]);have ht3:=aa_ (H:=L2) (a:=t3) (o:=HO.tup [V.str C0,V.str A0,V.str B0]);generalize upd L2 t3 (HO.tup [V.str C0,V.str A0,V.str B0])=L3 at *;refine ⟨by decide,fun t4 nt4=>?_⟩;have V4:=EX_.new nt4 (o:=HO.tup [V.ref t1,V.ref t2,V.ref t3]);have ht4:=aa_ (H:=L3) (a:=t4) (o:=HO.tup [V.ref t1,V.ref t2,V.ref t3]);generalize upd L3 t4 (HO.tup [V.ref t1,V.ref t2,V.ref t3])=L4 at *;have X3:=V4;have X2:=V3.trans X3;have X1:=V2.trans X2;have XX:=V1.trans X1;refine ⟨⟨_,SqT.of ht4⟩,?_⟩
    have key2:∀ i:Nat,i<3->∃ (y a b:Str)(t':Addr),[V.ref t1,V.ref t2,V.ref t3][i]?=some (.ref t')/\L4 t'=some (.tup [.str y,.str a,.str b])/\(a=A0\/a=B0\/a=C0)/\(b=A0\/b=B0\/b=C0)/\gs.take (i+1)=gs.take i++[(y,fBy (GB_ (wN N a) (wN N b)) (HA_ N A0 B0 C0))]/\lk (gs.take i) y=none:=by
     intro i hi
     rcases (show i=0\/i=1\/i=2 by lia) with rfl|rfl|rfl
     ·exact ⟨A0,B0,C0,t1,rfl,X1 _ _ ht1,.inr (.inl rfl),.inr (.inr rfl),by rw [k2_ (wN N B0)];rfl,rfl⟩
     ·exact ⟨B0,A0,C0,t2,rfl,X2 _ _ ht2,.inl rfl,.inr (.inr rfl),rfl,if_neg (Ne.symm hAB.1)⟩
     ·exact ⟨C0,A0,B0,t3,rfl,X3 _ _ ht3,.inl rfl,.inr (.inl rfl),by rw [k2_ (wN N A0) (wN N B0)];rfl,(if_neg (Ne.symm hAB.2.1)).trans (if_neg (Ne.symm hAB.2.2))⟩
    let B1':Hp:=fun c=>if c=dw then none else L4 c
    have hidL:∀ {b:Addr}{o:HO},L4 b=some o->(∀ kv,o≠.dK kv)->B1' b=some o:=fun {b o} h1 h2=>(if_neg fun z=>by rw [z,XX _ _ hdw] at h1;exact h2 _ (Aq_ h1).symm).trans h1
    have sBL:EX_ B1' L4:=fun b o h=>by
     have h':(if b=dw then none else L4 b)=some o:=h;by_cases z:b=dw
     ·rw [if_pos z] at h';cases h'
     ·rwa [if_neg z] at h'
    have s2B:EX_ G2 B1':=fun b o h=>(if_neg fun z=>by rw [z,ndw] at h;cases h).trans ((V0.trans XX) _ _ h);refine nJ_ (xs:=[V.ref t1,V.ref t2,V.ref t3]) (fun i σ Hz=>∃ (e8 e9 e12 e13:Option V),σ=[some (.ref pn),some (.str x),some (.str A0),some (.str B0),some (.str C0),some (.ref d),some (.ref d3),some (.ref di),e8,e9,some (.ref z2),some (.ref dw),e12,e13,none]/\WD B1' Hz dw (gs.take i)) ⟨_,_,_,_,rfl,sBL,if_pos rfl,⟨[],XX _ _ hdw,Af_ _,fun e=>rfl⟩⟩ ?_ ?_ ?_
    ·rintro i σ Hz hi ⟨e8,e9,e12,e13,rfl,wd⟩;exact SqT.of (wd.sB _ _ (hidL ht4 (by simp)))
    ·rintro i y0 σ Hz hy0 kc kb hkc hkb G hG ⟨e8,e9,e12,e13,rfl,wd⟩;refine hG ?_;have i3:=(Ag_.mp hy0).1;obtain ⟨y,a,b,t',g1,g2,g3,g4,g5,g6⟩:=key2 i i3;rw [g1] at hy0;cases hy0;rw [g5] at hkc;nofun;have sGz:=s2B.trans wd.sB;have syz:=sy2.trans sGz;have hd3z:=syz _ _ hdy;have s0z:=s0y.trans syz
     have or3:∀ {c:Str},(c=A0\/c=B0\/c=C0)->c∈N.all/\(wN N c=wN N A0\/wN N c=wN N B0\/wN N c=wN N C0)/\Sm (wN N c):=fun h=>by
      rcases h with rfl|rfl|rfl
      ·exact ⟨inAll _ (by simp),.inl rfl,th.sp⟩
      ·exact ⟨inAll _ (by simp),.inr (.inl rfl),th.sq⟩
      ·exact ⟨inAll _ (by simp),.inr (.inr rfl),th.sr⟩
     obtain ⟨m1,m2,m3⟩:=th.mul _ _ (or3 g3).2.1 (or3 g4).2.1;obtain ⟨u1,v1,q1⟩:=kv a (or3 g3).1;obtain ⟨u2,v2,q2⟩:=kv b (or3 g4).1;have d1:=F7_.k (k:=.inr a) hd3z;have d2:=F7_.k (k:=.inr b) hd3z;rw [v1] at d1;rw [v2] at d2;have sa:=(or3 g3).2.2;have sb:=(or3 g4).2.2;refine ⟨_,SqT.of (wd.sB _ _ (hidL g2 (by simp))),rfl,_,_,rfl,_,_,rfl,_,_,rfl,rfl,u1,d1,u2,d2,?_⟩;refine ⟨u1,u2,wN N a,wN N b,rfl,Rep.mono s0z _ q1,Rep.mono s0z _ q2,sa.1.pos,sb.1.pos,Ay_ sa.top (by decide),Ay_ sa.bot (by decide),Ay_ sb.top (by decide),Ay_ sb.bot (by decide),fun z3 G3 T3 rz3=>?_⟩;refine ⟨.ref z3,.ref z2,GB_ (wN N a) (wN N b),HA_ N A0 B0 C0,rfl,Rep.mono be_ _ rz3,Rep.mono (sGz.trans T3) _ rz2,m2.1.pos,th.tp,Ay_ m2.top (by decide),Ay_ m2.bot (by decide),Ay_ th.sw.top (by decide),Ay_ th.sw.bot (by decide),fun z4 G4 T4 rz4=>?_⟩;obtain ⟨q',eq,hq⟩:=fa_ (Rep.mono be_ _ rz4);cases eq;have gl3:(gs.take i).length<=3:=by rw [AO_];exact C6_ _ _
     obtain ⟨kw2,c4,c5,wd6⟩:=(wd.mono (T3.trans T4)).put (x:=y) (p:=fBy (GB_ (wN N a) (wN N b)) (HA_ N A0 B0 C0)) (q:=z4) g6 hq;exact ⟨_,Ho_.k (k:=.inr y) c4 (EY_ (by lia)),hkc _ _ ⟨_,_,_,_,rfl,wd6⟩⟩
    ·rintro σ Hz ⟨e8,e9,e12,e13,rfl,wd⟩
     replace wd:WD B1' Hz dw gs:=wd
     nofun;have sGz:=s2B.trans wd.sB;have syz:=sy2.trans sGz;have s0z:=s0y.trans syz;obtain ⟨kvs,c1,_,c3⟩:=(idd.mono syz).i
     have row30:∀ r∈N.rows,r.2.length<=30:=fun r hr=>by
      have h1:r.2.length<=N.all.length:=by unfold Net.all;exact (Cs_ (Al_.mpr ⟨r,hr,rfl⟩)).length_le
      have:=nk.ok.tot;lia
     refine ⟨_,s0z _ _ hn,_,Fw_,_,N.rows,di,inS N x A0 B0 C0,rfl,⟨p1,rs,rfl,s0z _ _ h1,Fg_.mono s0z _ r1⟩,nk.ok.few,row30,⟨kvs,c1,c3⟩,fun e ls he=>?_,fun D H5 s5 nD rep5=>?_⟩
     ·unfold inS H2_ at he;split at he
      ·cases he;exact Af_ _
      ·split at he
       ·cases he;exact Af_ _
       ·split at he
        ·cases he;exact Af_ _
        ·cases he
     replace rep5:=Rep.mono be_ _ rep5
     obtain ⟨_,ys,e0,hD5,rys⟩:=rep5;cases e0;have yl:ys.length=N.rows.length:=by rw [rys.length,Ab_];unfold plR;rw [Ab_]
     have few:=nk.ok.few;have s05:=s0z.trans s5;refine ⟨D,rfl,⟨_,.inl (.inl hD5)⟩,?_⟩;refine eo_ (n:=ys.length) (B:=fun _=>none) (Pσ:=fun σ=>∃ e,σ=[e,some (.str x)]) (bs:=fun j=>decide (((plR N.rows (inS N x A0 B0 C0)).getD j (Str.empty,[])).1≠x)) (val:=fun j=>dRw ((plR N.rows (inS N x A0 B0 C0)).getD j (Str.empty,[]))) (fun b o e=>by cases e) ⟨_,rfl⟩ (by lia) (fun j Hj hj sj=>⟨ys,ys[j],.inl (.inl (sj _ _ hD5)),Aa_ _⟩) (fun Hj sj=>⟨ys,.inl (.inl (sj _ _ hD5)),Af_ _⟩) ?_ ?_
     ·rintro D2 j y σ' Z Z' hD2 hDo sz hj ⟨rfl,hyj⟩ ⟨e,rfl⟩ Y R kY kR;obtain ⟨r,q,l',er,rfl,hq,hl'⟩:=bm_ rys (hyj _ (.inl (.inl (sz _ _ hD5))));have eg:(plR N.rows (inS N x A0 B0 C0)).getD j (Str.empty,[])=r:=by rw [Ac_,er];rfl
      rw [eg] at kY kR;nofun;refine ⟨_,sz _ _ hq,_,FC_,rfl,?_⟩;refine ite2 (fun c=>kY (AQ_ fun z=>c (congrArg V.str z)) _ _ _ ⟨_,rfl⟩ (EX_.refl _) ?_) (fun c=>kR (Az_ fun z=>c fun y=>z (V.str.inj y)) _ _ ⟨_,rfl⟩ (EX_.refl _));have cut:∀ {b:Addr}{o:HO},H5 b=some o->GN_ (fun _=>none) D2 Z' b=some o:=fun hb=>by rw [bB_ (af_ hb hD2) rfl];exact sz _ _ hb
      exact ⟨q,_,rfl,cut hq,_,_,rfl,rfl,_,_,rfl,⟨l',_,rfl,cut hl',a2_ _⟩,rfl⟩
     ·intro D2 H6 hD2 s6 rep6;rw [yl,show N.rows.length=(plR N.rows (inS N x A0 B0 C0)).length by unfold plR;rw [Ab_],kX_ (plR N.rows (inS N x A0 B0 C0)) (Str.empty,[]) (fun r=>decide (r.1≠x)) dRw] at rep6;have e1:(plR N.rows (inS N x A0 B0 C0)).filter (fun r=>decide (r.1≠x))=Gs_ N.rows (inS N x A0 B0 C0) [x]:=by unfold plR Gs_;rw [Ck_];congr 1;exact DI_ fun r _=>BM_.mpr (not_congr Ai_.symm)
      rw [e1] at rep6
      replace rep6:=Rep.mono be_ _ rep6
      nofun;have s06:=s05.trans s6;refine ⟨_,s06 _ _ hn,_,FC_,p0,rfl,_,.inl (s06 _ _ h0),fun l0 nl0=>?_⟩;have Y1:=EX_.new nl0 (o:=HO.lst (N.posts.map V.str));have hl0:=aa_ (H:=H6) (a:=l0) (o:=HO.lst (N.posts.map V.str));generalize upd H6 l0 (HO.lst (N.posts.map V.str))=H7 at *;refine ⟨_,(s06.trans Y1) _ _ hn,_,Gi_,AA_ _,fun gl ngl=>?_⟩;have Y2:=EX_.new ngl (o:=HO.lst []);have hgl:=aa_ (H:=H7) (a:=gl) (o:=HO.lst []);generalize upd H7 gl (HO.lst [])=H8 at *;have u68:=Y1.trans Y2;have u08:=s06.trans u68;have wd8:=wd.mono (s5.trans (s6.trans u68));obtain ⟨kw',c4,c5,c6⟩:=wd8.w;refine ⟨p2,dw,gl,N,wvS N A0 B0 C0,rfl,⟨p2,ws,rfl,u08 _ _ h2,Fg_.mono u08 _ r2⟩,nk,⟨kw',c4,fun y=>?_⟩,hgl,fun zw H9 s9 rzw=>⟨by decide,fun tz ntz=>?_⟩⟩
      ·have:=c6 y;show match lk gs y with|none=>_|some p=>_
       cases z:lk gs y with
       | none=>rw [z] at this;exact this
       | some p=>rw [z] at this;obtain ⟨q,y1,y2⟩:=this;exact ⟨.ref q,y1,⟨q,_,rfl,y2,_,_,rfl,rfl,_,_,rfl,rfl,rfl⟩⟩
      ·have Y3:=EX_.new ntz (o:=HO.tup [V.ref l0,V.ref D2,zw]);refine k _ _ (u08.trans (s9.trans Y3)) ⟨tz,_,rfl,aa_,_,_,rfl,⟨l0,_,rfl,(Y2.trans (s9.trans Y3)) _ _ hl0,a2_ _⟩,_,_,rfl,Rep.mono (u68.trans (s9.trans Y3)) _ rep6,_,_,rfl,Rep.mono Y3 _ rzw,rfl⟩
abbrev ph (N:Net Str):=phi Str.empty N
abbrev Pn (N:Net Str):=N.posts.length
def Gh_ (N:Net Str):List (End Str):=(N.rows.map fun r=>(List.range (r.2.length+if r.1∈N.posts then 1 else 0)).map fun k=>(r.1,k)).flatten
def Ha_ (N:Net Str)(r:Str×List Str):List (End Str):=(List.range (r.2.length+if r.1∈N.posts then 1 else 0)).map fun k=>(r.1,k)
theorem e3_ {N:Net Str}(ok:Fk_ N):(Gh_ N).length<=100/\∀ r∈N.rows,r.2.length<=30:=by
 have key:∀ (l:List (Str×List Str)),((l.map (Ha_ N)).flatten).length<=((l.map (·.2)).flatten).length+l.length:=fun l=>by
  induction l with
  | nil=>exact Af_ _
  | cons r l ih =>
   rw [AB_,AJ_,Ah_,AB_,AJ_,Ah_,AH_];have:(Ha_ N r).length<=r.2.length+1:=by unfold Ha_;rw [Ab_,Ba_];split <;> lia
   lia
 have h1:=key N.rows;have h2:=ok.tot;have h3:=ok.few;unfold Net.all at h2;refine ⟨?_,fun r hr=>?_⟩
 ·show ((N.rows.map (Ha_ N)).flatten).length<=100;lia
 ·obtain ⟨i,hi,rfl⟩:=Ar_.mp hr;have e:(N.rows.map (·.2)).flatten.length=((N.rows.map (·.2)).take i).flatten.length+((N.rows.map (·.2)).drop i).flatten.length:=by rw [<-Ah_,<-A6_,Bb_]
  rw [DL_ (by rw [Ab_];exact hi),AJ_,Ah_,List.getElem_map] at e;lia
theorem ok_ {κ:Type}[DecidableEq κ](kvs:List (κ×V))(k:κ)(v:V):(FR_ kvs k v).map (·.1)=if k∈kvs.map (·.1) then kvs.map (·.1) else kvs.map (·.1)++[k]:=by
 have e:(kvs.any fun kv=>decide (kv.1=k))=decide (k∈kvs.map (·.1)):=by rw [B0_,DV_,Cj_,Al_];exact ⟨fun ⟨x,hx,ex⟩=>⟨x,hx,AG_ ex⟩,fun ⟨x,hx,ex⟩=>⟨x,hx,AQ_ ex⟩⟩
 unfold FR_;rw [e];by_cases h:k∈kvs.map (·.1)
 ·rw [if_pos (AQ_ h),if_pos h,Bf_];refine BO_ fun x _=>?_;show (if x.1=k then (x.1,v) else x).1=x.1;split <;> rfl
 ·rw [if_neg (by rw [Az_ h];decide),if_neg h,Ap_];rfl
theorem d6_ {N:Net Str}(po:Fv_ N):Gh_ N=(GW_ N).map (ph N):=(oR_ po).symm
theorem LD_ {N:Net Str}(ok:Fk_ N)(po:Fv_ N):(corners (trn N) (Pn N)).length<=900:=by
 have h:=h0_ (T:=trn N) (P:=Pn N)
 have e:(trn N).flatten.length=N.all.length:=by
  have h1:((N.rows.map (·.1)).map (Gu_ N))=N.rows.map (·.2):=by rw [Bf_];exact BO_ fun r hr=>c3_ ok hr
  have h2:=(h3_ ((jz_ ok po).map (Gu_ N))).length_eq;rw [h1] at h2;exact h2
 have h3:=ok.tot;have h4:=ok.pl;show (corners (trn N) (Pn N)).length<=900;have h5:Pn N<=6:=h4;lia
def Jz_ (kt:List (List Key×V))(all:List (List Key)):Prop:=(kt.map (·.1)).Nodup/\∀ k∈kt.map (·.1),k∈all
theorem Jz_.len {kt:List (List Key×V)}{all:List (List Key)}(h:Jz_ kt all):kt.length<=all.length:=by
 have:=ds_ h.1 h.2
 rwa [Ab_] at this
theorem Jz_.put {kt:List (List Key×V)}{all:List (List Key)}(h:Jz_ kt all){k:List Key}(hk:k∈all)(v:V):Jz_ (FR_ kt k v) all:=by
 unfold Jz_;rw [ok_];split
 ·exact h
 ·next hn =>
  refine ⟨A0_.mpr ⟨h.1,by simp,fun a ha b hb e=>?_⟩,fun x hx=>?_⟩
  ·rw [Ai_.mp hb] at e;exact hn (e ▸ ha)
  ·rcases Ax_.mp hx with hx|hx
   ·exact h.2 x hx
   ·rw [Ai_.mp hx];exact hk
def HM_ (N:Net Str)(i:Nat):Str×List Str:=N.rows.getD i (Str.empty,[])
theorem jY_ {N:Net Str}{i:Nat}(h:i<N.rows.length):N.rows[i]?=some (HM_ N i):=by unfold HM_;rw [Ac_,Aa_ h];rfl
theorem ol_ {α β:Type}(d:α)(p:α->Bool)(f:α->β)(l:List α):((List.range l.length).filter fun i=>p (l.getD i d)).map (fun i=>f (l.getD i d))=(l.filter p).map f:=by
 have e:=eT_ d l
 conv=>rhs;rw [<-e]
 rw [Ck_,Bf_];rfl
theorem jg_ {H:Hp}:∀ {us:List V}{T:List (List Str)},Fg_ H us (T.map fun r=>Dt.lst (r.map Dt.str))->∃ as_:List Addr,us=as_.map V.ref/\as_.length=T.length/\∀ (p:Nat)(a:Addr),as_[p]?=some a->H a=some (.lst ((T.getD p []).map V.str))
 | us,[],h=>⟨[],h,rfl,fun p a e=>by cases e⟩
 | us,r::T,⟨x,us',e,⟨a,vs,ex,ha,hv⟩,ht⟩=>by
  obtain ⟨as_,e1,e2,e3⟩:=jg_ (T:=T) ht;refine ⟨a::as_,by rw [e,ex,e1];rfl,by rw [AH_,AH_,e2],fun p b hb=>?_⟩;cases p with
  | zero=>cases hb;rw [ha,cj_ hv];rfl
  | succ p=>exact e3 p b hb
abbrev FH_:Stmt:=stN 63
theorem eJ_:E2_ ["_law_net", "_law_points", "_law_by_name", "_law_point", "_law_wires"] ["_law_net"] (EW_ FH_):=⟨rfl,rfl,rfl,by rfl',rfl,by rfl',by rfl'⟩
theorem fI_:LK FH_ "_law_net" .cell:=by rfl'
theorem fJ_:LK FH_ "_law_points" .local:=by rfl'
theorem iE_:LK FH_ "_law_by_name" .cell:=by rfl'
theorem iF_:LK FH_ "_law_point" .local:=by rfl'
theorem iG_:LK FH_ "_law_wires" .local:=by rfl'
theorem fg_:LK FH_ "list" .globalImplicit:=by rfl'
def H7_:Sp:=fun vs H Q _=>∃ (v:V)(N:Net Str),vs=[v]/\Rep H v (Go_ N)/\Fk_ N/\Fv_ N/\∀ t pl tl as_ H',EX_ H H'->H' t=some (.tup [.ref pl,.ref tl])->H' pl=some (.lst ((pts N).map V.str))->Tg V.str H' tl as_ (trn N)->Q (.ref t) H'
theorem om_ (T:Txt K mg)(F:Fn0 K mg "_law_turns" FH_):Cal P w K mg base "_law_turns" ["_law_net"] 1 H7_:=by
 refine aR_ F eJ_ (fun _ _ _ _ _ _=>byL1 fun _=>rfl) ?len ?body
 case len=>rintro vs H Q E ⟨a,b,rfl,_⟩;rfl
 case body =>
  intro f cdv A outer s H vs Q E hr h;obtain ⟨v,N,rfl,hv,ok,po,k⟩:=h;obtain ⟨few,rfew⟩:=e3_ ok;obtain ⟨pn,p0,p1,p2,rs,ws,rfl,hn,h0,h1,r1,h2,r2⟩:=bC_ hv;have rl:rs.length=N.rows.length:=by rw [r1.length,Ab_]
  have rfw:=ok.few;refine' ⟨_,?D,?R⟩
  case D =>
   refine' ai_ (aj_ (i:=1) eJ_.nd rfl fJ_ (EZ_ iU_ (aX_ bL_ fg_ T.n_list dc_ (pa_c (E0_ am_ (pvc 0 rfl fI_) ac_ (fun _ _=>rfl)) ab_)) ?g5)) (ai_ (de_ (i:=2) eJ_.nd rfl iE_ rfl dJ_ rfl) ?g30)
   case' g5=>refine' bd_ (N':=["_law_point", "_law_wires", "_law_net"]) (ix:=[none,none,some 0]) rfl rfl (a6_ ?g11) (ay_ (K:=K) rfl (E0_ am_ (pvc 0 rfl fI_) ac_ (fun _ _=>rfl))) (fun _ _ _=>(aJ_ (K:=K) (n:=2) rfl rfl (ak_ ?g20 (ak_ ?g22 aC_)))) (fun _ _ _=>?g14) (fun _ _ _=>(pv1 0 rfl rfl))
   case g11=>exact (by show Ge_ (EW_ FH_) ["_law_net", "_law_points", "_law_by_name", "_law_point", "_law_wires"] _ _ _=true;decide +kernel)
   case g20=>exact ae_ (i:=0) (by show List.Nodup (["_law_point", "_law_wires", "_law_net"]:List Str);decide +kernel) rfl rfl
   case g22=>exact ae_ (i:=1) (by show List.Nodup (["_law_point", "_law_wires", "_law_net"]:List Str);decide +kernel) rfl rfl
   case' g14=>refine' ec_ (aq_ (bZ_ (K:=K) rfl) (pv1 0 rfl rfl) (E0_ am_ (pvc 2 rfl rfl) ac_ (fun _ _=>rfl)) (by with_unfolding_all rfl))
   case' g30=>refine' ai_ (aV_ Au_ rfl (ay_ (K:=K) rfl (E0_ am_ (pvc 0 rfl fI_) ac_ (fun _ _=>rfl))) (aJ_ (K:=K) (n:=2) rfl rfl (ak_ ?g41 (ak_ ?g43 aC_))) ?g36) ?g33
   case g41=>exact ae_ (i:=3) eJ_.nd rfl iF_
   case g43=>exact ae_ (i:=4) eJ_.nd rfl iG_
   case' g36=>refine' ag_ (cL_ (un1 hr.units) (pvc 2 rfl iE_) (pv1 3 rfl iF_) (aX_ bL_ fg_ T.n_list dc_ (pa_c (pv1 4 rfl iG_) ab_)) rfl)
   case' g33=>refine' ag_ (au_ (ax_ (pa_c (pv1 1 rfl fJ_) (pa_c (bd_ (N':=["_law_point", "_law_by_name"]) (ix:=[none,some 2]) rfl rfl (a6_ ?g59) (ay_ (K:=K) rfl (pv1 1 rfl fJ_)) (fun _ _ _=>?g61) (fun _ _ _=>?g62) (fun _ _ _=>(bU_ (un1 hr.units) (pvc 1 rfl rfl) (pv1 0 rfl rfl) (fun _ _=>rfl)))) ab_))))
   case g59=>exact (by show Ge_ (EW_ FH_) ["_law_net", "_law_points", "_law_by_name", "_law_point", "_law_wires"] _ _ _=true;decide +kernel)
   case g61=>exact ae_ (i:=0) (by show List.Nodup (["_law_point", "_law_by_name"]:List Str);decide +kernel) rfl rfl
   case g62=>exact cn_
  case R =>
   nofun;refine ⟨_,hn,_,FC_,p0,rfl,_,.inl h0,fun c0 n0=>?_⟩;have S1:EX_ H (upd H c0 (HO.lst (N.posts.map V.str))):=EX_.new n0;have hc0:=aa_ (H:=H) (a:=c0) (o:=HO.lst (N.posts.map V.str));generalize upd H c0 (HO.lst (N.posts.map V.str))=H1 at *;refine ⟨_,S1 _ _ hn,_,Fw_,p1,rfl,⟨_,.inl (.inl (S1 _ _ h1))⟩,?_⟩;have h11:=S1 _ _ h1;refine fS_ (n:=N.rows.length) (Pσ:=fun σ=>∃ e e',σ=[e,e',some (.ref pn)]) (bs:=fun i=>decide ((HM_ N i).1∉N.posts)) (val:=fun i=>V.str (HM_ N i).1) ⟨_,_,rfl⟩ (by lia) (fun i H' hi s'=>⟨rs,rs[i]'(by lia),.inl (.inl (s' _ _ h11)),Aa_ _⟩) (fun H' s'=>⟨rs,.inl (.inl (s' _ _ h11)),by lia⟩) ?_ ?_
   ·rintro D i x σ' H2 H2' hD hDo hs2 hi ⟨rfl,hy⟩ ⟨e,e',rfl⟩ Y R kY kR;have hx:=hy _ (.inl (.inl (hs2 _ _ h11)));obtain ⟨r,q,l,hr1,rfl,hq,hl⟩:=bm_ r1 hx;have er:r=HM_ N i:=by rw [jY_ hi] at hr1;exact (Aq_ hr1).symm
    subst er;have s12:=S1.trans hs2;nofun;refine ⟨_,SqT.of (s12 _ _ hq),rfl,_,_,rfl,_,_,rfl,rfl,_,s12 _ _ hn,_,FC_,p0,rfl,N.posts.map V.str,.inl (.inl (.inl (s12 _ _ h0))),rfl,e1_ _,?_⟩;rw [gc_];refine ite2 (fun h=>kY (AQ_ (Bm_ h)) _ _ ⟨_,_,rfl⟩ (EX_.refl _)) (fun h=>kR (Az_ fun z=>?_) _ _ ⟨_,_,rfl⟩ (EX_.refl _));exact absurd (Az_ z) h
   ·intro D H2 hD s2 hDv;have eL:((List.range N.rows.length).filter fun i=>decide ((HM_ N i).1∉N.posts)).map (fun i=>V.str (HM_ N i).1)=((N.rows.map (·.1)).filter fun x=>decide (x∉N.posts)).map V.str:=by have:=ol_ (Str.empty,[]) (fun r:Str×List Str=>decide (r.1∉N.posts)) (fun r=>V.str r.1) N.rows;rw [Ck_,Bf_];exact this
    rw [eL] at hDv;have s02:=S1.trans s2
    try nofun
    have pl16:N.posts.length+((N.rows.map (·.1)).filter fun x=>decide (x∉N.posts)).length<=100:=by have h1:=ok.pl;have h2:=Bp_ (fun x=>decide (x∉N.posts)) (N.rows.map (·.1));rw [Ab_] at h2;lia
    refine ⟨_,s2 _ _ hc0,_,hDv,AR_ (EY_ (by rw [Ab_,Ab_];lia)),fun pl npl=>?_⟩;rw [<-Ap_,show N.posts++((N.rows.map (·.1)).filter fun x=>decide (x∉N.posts))=pts N from rfl];have s3:EX_ H2 (upd H2 pl (HO.lst ((pts N).map V.str))):=EX_.new npl;have hpl:=aa_ (H:=H2) (a:=pl) (o:=HO.lst ((pts N).map V.str));generalize upd H2 pl (HO.lst ((pts N).map V.str))=H3 at *;have s03:=s02.trans s3;intro bn nbn;have s4:EX_ H3 (upd H3 bn (HO.dK [])):=EX_.new nbn;refine ⟨_,s4 _ _ (s03 _ _ hn),_,Fw_,p1,rfl,⟨_,.inl (.inl (s4 _ _ (s03 _ _ h1)))⟩,?_⟩;have nmat:∀ j,j<N.rows.length->(N.rows.map (·.1))[j]?=some (HM_ N j).1:=fun j hj=>by rw [Ae_,jY_ hj];rfl
    refine gt_ (xs:=rs) (fun i σ H'=>∃ (e3 e4:Option V)(S:Hp)(kvs:List (Key×V)),σ=[some (.ref pn),some (.ref pl),some (.ref bn),e3,e4]/\EX_ H3 S/\EX_ S H'/\S bn=none/\H' bn=some (.dK kvs)/\kvs.length<=i/\∀ j,j<i->j<N.rows.length->∃ l,Ft_ kvs (.inr (HM_ N j).1)=some (.ref l)/\S l=some (.lst ((HM_ N j).2.map V.str))) ⟨none,none,H3,[],rfl,EX_.refl _,s4,nbn,aa_,Af_ _,fun j hj=>absurd hj (by lia)⟩ ?_ ?_ ?_
    ·rintro i σ H' hi ⟨e3,e4,S,kvs,rfl,sS,sH,_⟩;exact .inl (.inl ((sS.trans sH) _ _ (s03 _ _ h1)))
    ·rintro i x σ H' hx ⟨e3,e4,S,kvs,rfl,sS,sH,Sb,hb,kl,inv⟩;have hi:i<N.rows.length:=by have:=(Ag_.mp hx).1;lia
     obtain ⟨r,q,l,hr1,rfl,hq,hl⟩:=bm_ r1 hx;have er:r=HM_ N i:=by rw [jY_ hi] at hr1;exact (Aq_ hr1).symm
     subst er;have s0H:=(s03.trans sS).trans sH;nofun;refine ⟨_,SqT.of (s0H _ _ hq),rfl,_,_,rfl,_,_,rfl,rfl,l,rfl,_,.inl (s0H _ _ hl),fun c nc=>?_⟩;have bc:bn≠c:=af_ hb nc;have hcl:=aP_ kvs (Sum.inr (HM_ N i).1:Key) (V.ref c);refine ⟨_,Ho_.k (k:=.inr (HM_ N i).1) (by rw [ah_ bc];exact hb) (EY_ (by lia)),upd S c (HO.lst ((HM_ N i).2.map V.str)),sS.trans (aO_ sH nc),aM_ (eS_ sH nc) (by rw [ah_ bc];exact Sb),by rw [ah_ bc];exact Sb,_,aa_,by lia,fun j hj hjr=>?_⟩;rw [a7_];by_cases e:j=i
     ·subst e;rw [if_pos rfl];exact ⟨c,rfl,aa_⟩
     ·rw [if_neg (fun z=>e ((AU_ (i:=j) (j:=i) (by rw [Ab_];exact hjr) ok.nd).mp (by rw [nmat j hjr,nmat i hi,Bx_ z])))];obtain ⟨l',l1,l2⟩:=inv j (by lia) hjr;exact ⟨l',l1,aO_ sH nc _ _ l2⟩
    ·rintro σ H' ⟨e3,e4,S,kvs,rfl,sS,sH,Sb,hb,kl,inv⟩;nofun;have hplH:=(sS.trans sH) _ _ hpl;have plen:=nL_ ok po
     have look:∀ p,p<(pts N).length->∃ l,Ft_ kvs (.inr ((pts N).getD p Str.empty))=some (.ref l)/\H' l=some (.lst ((Gu_ N ((pts N).getD p Str.empty)).map V.str)):=fun p hp=>by
      have e:(pts N).getD p Str.empty=(pts N)[p]:=by rw [Ac_,Aa_ hp];rfl
      rw [e];obtain ⟨r,hr',er⟩:=Al_.mp ((eq_ po).mp (A1_ hp));obtain ⟨j,hj,ej⟩:=Ar_.mp hr';have erj:HM_ N j=r:=by have:=jY_ hj;rw [Aa_ hj,ej] at this;exact (Aq_ this).symm
      obtain ⟨l,l1,l2⟩:=inv j (by lia) hj;rw [erj] at l1 l2;rw [<-er,c3_ ok hr'];exact ⟨l,l1,sH _ _ l2⟩
     refine ⟨⟨_,.inl (.inl hplH)⟩,?_⟩;refine bv_ (n:=(pts N).length) (B:=fun _=>none) (Pσ:=fun σ=>∃ e,σ=[e,some (.ref bn)]) (ds:=(trn N).map fun r=>Dt.lst (r.map Dt.str)) (fun b o e=>by cases e) ⟨_,rfl⟩ (by rw [Ab_,dM_]) (by lia) (fun j Hj hj sj=>⟨_,.str ((pts N).getD j Str.empty),.inl (.inl (sj _ _ hplH)),a3_ hj⟩) (fun Hj sj=>⟨_,.inl (.inl (sj _ _ hplH)),by simp⟩) ?_ ?_
     ·rintro Dc j x dd σ' H6 H6' hDc hDo hs6 hj hdj ⟨rfl,hy⟩ ⟨e,rfl⟩ R0 kR;have hx:=hy _ (.inl (.inl (hs6 _ _ hplH)));rw [a3_ hj] at hx;cases hx;obtain ⟨l,l1,l2⟩:=look j hj;have hd:dd=Dt.lst ((Gu_ N ((pts N).getD j Str.empty)).map Dt.str):=by unfold trn at hdj;rw [Ae_,Ae_,Aa_ hj] at hdj;rw [<-Aq_ hdj,Ac_,Aa_ hj];rfl
      nofun;refine ⟨.ref l,l1 ▸ F7_.k (k:=.inr ((pts N).getD j Str.empty)) (hs6 _ _ hb),kR _ _ _ ⟨_,rfl⟩ (EX_.refl _) ?_⟩;rw [hd];have lD:l≠Dc:=af_ l2 hDc;exact ⟨l,_,rfl,by rw [bB_ lD rfl];exact hs6 _ _ l2,a2_ _⟩
     ·intro D4 H4 hD4 s4' rep4;obtain ⟨_,us,e0,hu',hus⟩:=Rep.mono be_ _ rep4;cases e0;obtain ⟨as_,e1,e2,e3'⟩:=jg_ hus;subst e1;refine ⟨by decide,fun t nt=>?_⟩;have s5:=EX_.new nt (o:=HO.tup [V.ref pl,V.ref D4]);refine k t pl D4 as_ _ ((((s03.trans sS).trans sH).trans s4').trans s5) aa_ ((s4'.trans s5) _ _ hplH) ⟨s5 _ _ hu',e2,fun p a ha=>s5 _ _ (e3' p a ha)⟩
def dRg (N:Net Str)(cs:List (Nat×Nat)):Dt:=.lst ((cs.map (ph N)).map dE)
def Ih_ (N:Net Str)(rows:List (Str×List Str)):List (Nat×Nat):=rows.flatMap fun r=>(List.range (r.2.length+if r.1∈N.posts then 1 else 0)).map fun k=>(pid N r.1,k)
theorem ri_ {N:Net Str}(ok:Fk_ N)(po:Fv_ N)(rfew:∀ r∈N.rows,r.2.length<=30)(p:Nat):rl (trn N) p<=30:=by
 unfold rl;by_cases hp:p<(pts N).length
 ·obtain ⟨r,hr,er⟩:=Al_.mp ((eq_ po).mp (A1_ hp));rw [jA_ (Aa_ hp),<-er,c3_ ok hr];exact rfew r hr
 ·rw [Ac_,BA_ (by rw [dM_];lia)];exact AA_ _
def LR (N:Net Str)(S0 H':Hp)(sn D:Addr)(O:List (Nat×Nat)):Prop:=∃ (S:Hp)(kt:List (List Key×V))(ys:List V),EX_ S0 S/\EX_ S H'/\S sn=none/\S D=none/\H' sn=some (.dT kt)/\Jz_ kt ((GW_ N).map cK)/\(∀ c,(Ft_ kt (cK c)).isSome=decide (c∈(fdF (trn N) (Pn N) O).flatten))/\H' D=some (.lst ys)/\Fg_ S ys ((fdF (trn N) (Pn N) O).map (dRg N))/\ys.length<=O.length
abbrev E6_:Stmt:=stN 64
theorem aQ_:E2_ ["_law_net", "_law_points", "_law_turns_here", "_law_posts", "_law_mates_here", "_law_seen", "_law_found", "_law_point", "_law_wires", "_law_p", "_law_k", "_law_region_here", "_law_corner"] ["_law_net"] (EW_ E6_):=⟨rfl,rfl,rfl,by rfl',rfl,by rfl',by rfl'⟩
theorem d7_:LK E6_ "_law_net" .local:=by rfl'
theorem gj_:LK E6_ "_law_points" .cell:=by rfl'
theorem d8_:LK E6_ "_law_turns_here" .local:=by rfl'
theorem d9_:LK E6_ "_law_posts" .local:=by rfl'
theorem gk_:LK E6_ "_law_mates_here" .local:=by rfl'
theorem ea_:LK E6_ "_law_seen" .local:=by rfl'
theorem eb_:LK E6_ "_law_found" .local:=by rfl'
theorem gl_:LK E6_ "_law_point" .local:=by rfl'
theorem gm_:LK E6_ "_law_wires" .local:=by rfl'
theorem cD_:LK E6_ "_law_p" .local:=by rfl'
theorem dn_:LK E6_ "_law_k" .local:=by rfl'
theorem do_:LK E6_ "_law_region_here" .local:=by rfl'
theorem fh_:LK E6_ "_law_corner" .local:=by rfl'
theorem gn_:LK E6_ "_law_mates" .globalImplicit:=by rfl'
theorem fK_:LK E6_ "_law_region" .globalImplicit:=by rfl'
theorem go_:LK E6_ "_law_turns" .globalImplicit:=by rfl'
theorem iH_:LK E6_ "int" .globalImplicit:=by rfl'
theorem eK_:LK E6_ "len" .globalImplicit:=by rfl'
theorem gU_:LK E6_ "range" .globalImplicit:=by rfl'
def Ia_:Sp:=fun vs H Q _=>∃ (v:V)(N:Net Str),vs=[v]/\Rep H v (Go_ N)/\Fk_ N/\Fv_ N/\∀ D H',EX_ H H'->Rep H' (.ref D) (.lst ((fdF (trn N) (Pn N) (GW_ N)).map (dRg N)))->Q (.ref D) H'
theorem lL_ (T:Txt K mg)(F:Fn0 K mg "_law_regions" E6_) (Jj_:Cal P w K mg base "_law_turns" ["_law_net"] 1 H7_) (Hg_:Cal P w K mg base "_law_mates" ["_law_turns_here"] 1 Hc_) (GG_:Cal P w K mg base "_law_region" ["_law_turns_here", "_law_posts", "_law_mates_here", "_law_corner"] 2 GC_):Cal P w K mg base "_law_regions" ["_law_net"] 3 Ia_:=by
 refine aR_ F aQ_ (fun _ _ _ _ _ _=>byL1 fun _=>rfl) ?len ?body
 case len=>rintro vs H Q E ⟨a,b,rfl,_⟩;rfl
 case body =>
  intro f cdv A outer s H vs Q E hr h;obtain ⟨v,N,rfl,hv,ok,po,k⟩:=h;obtain ⟨few,rfew⟩:=e3_ ok;obtain ⟨pn,p0,p1,p2,rs,ws,rfl,hn,h0,h1,r1,h2,r2⟩:=bC_ hv;have rln:rs.length=N.rows.length:=by rw [r1.length,Ab_]
  have rfw:=ok.few;have tw:=pE_ ok po;have plen:=nL_ ok po;have PT:Pn N<=(trn N).length:=by rw [dM_];unfold pts;rw [Ah_];exact B8_ _ _
  refine' ⟨_,?D,?R⟩
  case D =>
   refine' ai_ ?g1 (ai_ (aj_ (i:=3) aQ_.nd rfl d9_ (an_ ap_ eK_ T.n_len aL_ (pa_c (E0_ am_ (pv1 0 rfl d7_) ac_ (fun _ _=>rfl)) ab_))) ?g14)
   case' g1=>refine' fM_ (al_ Jj_ (hr.mono (by decide)) go_ (pa_c (pv1 0 rfl d7_) ab_)) (aJ_ (K:=K) (n:=2) rfl rfl (ak_ ?g9 (ak_ ?g11 aC_)))
   case g9=>exact hv_ (i:=1) aQ_.nd rfl gj_ rfl
   case g11=>exact ae_ (i:=2) aQ_.nd rfl d8_
   case' g14=>refine' ai_ (aj_ (i:=4) aQ_.nd rfl gk_ (al_ Hg_ (hr.mono (by decide)) gn_ (pa_c (pv1 2 rfl d8_) ab_))) ?g22
   case' g22=>refine' ai_ ?g27 (ai_ (aj_ (i:=6) aQ_.nd rfl eb_ (a5_ ab_)) (ai_ ?g33 (ag_ (au_ (pv1 6 rfl eb_)))))
   case g27=>exact aj_ (i:=5) aQ_.nd rfl ea_ fT_
   case' g33=>refine' aV_ Au_ rfl (ay_ (K:=K) rfl (E0_ am_ (pv1 0 rfl d7_) ac_ (fun _ _=>rfl))) (aJ_ (K:=K) (n:=2) rfl rfl (ak_ ?g42 (ak_ ?g44 aC_))) ?g37
   case g42=>exact ae_ (i:=7) aQ_.nd rfl gl_
   case g44=>exact ae_ (i:=8) aQ_.nd rfl gm_
   case' g37=>refine' ai_ (aj_ (i:=9) aQ_.nd rfl cD_ (FQ_ Aw_ PySem.F.slot_list_index PySem.F.type_list_index oP_ (pvc 1 rfl gj_) (pa_c (pv1 7 rfl gl_) ab_))) ?g47
   case' g47=>refine' ag_ (aV_ Au_ rfl ?g54 ?g55 (ag_ (Fx_ (j3_ (np_ (un1 hr.units) (ax_ (pa_c (pv1 9 rfl cD_) (pa_c (pv1 10 rfl dn_) ab_))) (pv1 5 rfl ea_))) ?g72 aB_)))
   case' g54=>refine' aE_ gU_ T.n_range (pa_c (EZ_ aY_ (an_ ap_ eK_ T.n_len aL_ (pa_c (pv1 8 rfl gm_) ab_)) (aX_ hJ_ iH_ T.n_int ni_ (pa_c (en_ Im_ (pv1 9 rfl cD_) (pv1 3 rfl d9_) (E9_ _)) ab_))) ab_)
   case g55=>exact ae_ (i:=10) aQ_.nd rfl dn_
   case' g72=>refine' ai_ (aj_ (i:=11) aQ_.nd rfl do_ ?g83) (ai_ (aV_ Au_ rfl (ay_ (K:=K) rfl (pv1 11 rfl do_)) ?g101 (ag_ (cL_ (un1 hr.units) (pv1 5 rfl ea_) (pv1 12 rfl fh_) Gj_ rfl))) (ag_ ?g108))
   case' g83=>refine' al_ GG_ (hr.mono (by decide)) fK_ (pa_c (pv1 2 rfl d8_) (pa_c (pv1 3 rfl d9_) (pa_c (pv1 4 rfl gk_) (pa_c (ax_ (pa_c (pv1 9 rfl cD_) (pa_c (pv1 10 rfl dn_) ab_))) ab_))))
   case g101=>exact ae_ (i:=12) aQ_.nd rfl fh_
   case' g108=>refine' aI_ (FQ_ Aw_ AK_ AL_ aT_ (pv1 6 rfl eb_) (pa_c (bd_ (N':=["_law_q", "_law_j", "_law_points"]) (ix:=[none,none,some 1]) rfl rfl (a6_ ?g114) (ay_ (K:=K) rfl (pv1 11 rfl do_)) (fun _ _ _=>(aJ_ (K:=K) (n:=2) rfl rfl (ak_ ?g121 (ak_ ?g123 aC_)))) (fun _ _ _=>?g117) (fun _ _ _=>?g118)) ab_))
   case g114=>exact (by show Ge_ (EW_ E6_) ["_law_net", "_law_points", "_law_turns_here", "_law_posts", "_law_mates_here", "_law_seen", "_law_found", "_law_point", "_law_wires", "_law_p", "_law_k", "_law_region_here", "_law_corner"] _ _ _=true;decide +kernel)
   case g121=>exact ae_ (i:=0) (by show List.Nodup (["_law_q", "_law_j", "_law_points"]:List Str);decide +kernel) rfl rfl
   case g123=>exact ae_ (i:=1) (by show List.Nodup (["_law_q", "_law_j", "_law_points"]:List Str);decide +kernel) rfl rfl
   case g117=>exact cn_
   case' g118=>refine' ax_ (pa_c (E0_ ao_ (pvc 2 rfl rfl) (pv1 0 rfl rfl) (fun _ _=>rfl)) (pa_c (pv1 1 rfl rfl) ab_))
  case R =>
   nofun;refine ⟨_,N,rfl,hv,ok,po,fun t pl tl as_ H1 s1 ht hpl hT=>?_⟩
   try nofun
   refine ⟨_,SqT.of ht,rfl,_,_,rfl,_,_,rfl,rfl,_,s1 _ _ hn,_,FC_,p0,rfl,_,.inl (s1 _ _ h0),?_⟩;rw [Ab_];refine ⟨Str,_,V.str,fun x=>.inr x,tl,as_,trn N,rfl,fun _=>rfl,fun a b h=>Bx_ h,hT,tw,by rw [dM_];lia,ri_ ok po rfew,fun m H2 s2 nm hm=>?_⟩
   try nofun
   intro sn nsn;refine ⟨AA_ _,fun D nD=>?_⟩;have hsn:=aa_ (H:=H2) (a:=sn) (o:=HO.dT []);have sA:EX_ H2 (upd H2 sn (HO.dT [])):=EX_.new nsn;generalize upd H2 sn (HO.dT [])=Ha at *;have sB:EX_ Ha (upd Ha D (HO.lst [])):=EX_.new nD;have hD:=aa_ (H:=Ha) (a:=D) (o:=HO.lst []);have hsn2:=sB _ _ hsn;have nD1:H2 D=none:=sA.free nD;have sD:sn≠D:=af_ hsn nD;have s23:=sA.trans sB;generalize upd Ha D (HO.lst [])=H3 at *;clear sA sB hsn nD Ha;have s02:=s1.trans s2;have s03:=s02.trans s23;have hT2:=hT.mono s2;have hpl2:=s2 _ _ hpl;refine ⟨_,s03 _ _ hn,_,Fw_,p1,rfl,⟨_,.inl (.inl (s03 _ _ h1))⟩,?_⟩;have lr0:LR N H2 H3 sn D []:=⟨H2,[],[],EX_.refl _,s23,nsn,nD1,hsn2,⟨Bh_,fun k hk=>absurd hk A8_⟩,fun _=>rfl,hD,rfl,Af_ _⟩;refine gt_ (xs:=rs) (fun i σ H'=>∃ (e7 e8 e9 e10 e11 e12:Option V),σ=[some (.ref pn),some (.ref pl),some (.ref tl),some (.int (N.posts.length:Nat)),some (.ref m),some (.ref sn),some (.ref D),e7,e8,e9,e10,e11,e12]/\LR N H2 H' sn D (Ih_ N (N.rows.take i))) ⟨none,none,none,none,none,none,rfl,lr0⟩ ?_ ?_ ?_
   ·rintro i σ H' hi ⟨e7,e8,e9,e10,e11,e12,rfl,S,kt,ys,sS,sH,_⟩;exact .inl (.inl ((sS.trans sH) _ _ (s02 _ _ h1)))
   ·rintro i x σ H' hx ⟨e7,e8,e9,e10,e11,e12,rfl,lr⟩;have hi:i<N.rows.length:=by have:=(Ag_.mp hx).1;lia
    obtain ⟨r,q,l,hr1,rfl,hq,hl⟩:=bm_ r1 hx;have rm:=Ak_ hr1;have r30:=rfew r rm;have hm':r.1∈pts N:=(eq_ po).mpr (Al_.mpr ⟨r,rm,rfl⟩);have tk:Ih_ N (N.rows.take (i+1))=Ih_ N (N.rows.take i)++(List.range (r.2.length+if r.1∈N.posts then 1 else 0)).map fun k=>(pid N r.1,k):=by unfold Ih_;rw [Be_,hr1,CA_];simp
    have olen:(Ih_ N (N.rows.take i)).length+(r.2.length+if r.1∈N.posts then 1 else 0)<=100:=by
     have e:(GW_ N).length=(Ih_ N (N.rows.take (i+1))).length+(Ih_ N (N.rows.drop (i+1))).length:=by unfold Ih_ GW_;rw [<-Ah_,<-CA_,Bb_]
     rw [tk,Ah_,Ab_,Ba_] at e;have:(GW_ N).length=(Gh_ N).length:=by rw [d6_ po,Ab_]
     lia
    rw [tk];have s2H:EX_ H2 H':=by obtain ⟨S,kt,ys,sS,sH,_⟩:=lr;exact sS.trans sH
    have s0H:=s02.trans s2H;nofun;have pidn:pid N r.1<(pts N).length:=kw_ hm';refine ⟨_,SqT.of (s0H _ _ hq),rfl,_,_,rfl,_,_,rfl,rfl,.inl ⟨_,.inl (.inl (s2H _ _ hpl2))⟩,pts N,r.1,rfl,s2H _ _ hpl2,by lia,pid N r.1,kx_ hm',fun m' hm2 hx'=>?_,?_⟩
    ·have:=pF_ ok po hx';lia
    refine ⟨l,rfl,_,.inl (s0H _ _ hl),.inr ?_⟩;have pif:=fY_ ok po (kx_ hm');obtain ⟨n,hn'⟩:∃ n:Nat,n=r.2.length+if r.1∈N.posts then 1 else 0:=⟨_,rfl⟩
    have en:(((r.2.map V.str).length:Int)+if (pid N r.1:Int)<(N.posts.length:Nat) then 1 else 0)=(n:Int):=by
     rw [Ab_,hn'];by_cases hp:r.1∈N.posts
     ·have:=pif.mp hp;rw [if_pos hp,if_pos (by lia)];lia
     ·have:¬ pid N r.1<N.posts.length:=fun z=>hp (pif.mpr z);rw [if_neg hp,if_neg (by lia)];lia
    rw [en];rw [<-hn'] at olen ⊢;refine ⟨by lia,by lia,?_⟩;rw [AC_];refine fO_ (fun kk σ H'=>∃ (e10 e11 e12:Option V),σ=[some (.ref pn),some (.ref pl),some (.ref tl),some (.int (N.posts.length:Nat)),some (.ref m),some (.ref sn),some (.ref D),some (.str r.1),some (.ref l),some (.int (pid N r.1:Nat)),e10,e11,e12]/\LR N H2 H' sn D (Ih_ N (N.rows.take i)++(List.range kk).map fun k=>(pid N r.1,k))) ⟨_,_,_,rfl,by simpa using lr⟩ ?_ ?_
    ·clear lr s2H s0H hx;rintro kk σ H4 hk ⟨e10,e11,e12,rfl,S,kt,ys,sS,sH,Ssn,SD,hsn',kto,seen,hD',reps,yl⟩;have hk':kk<n:=hk;have ic:IsC (trn N) (Pn N) (pid N r.1,kk):=KU_ ok po rm (by rw [<-hn'];exact hk');have ek:Ih_ N (N.rows.take i)++(List.range (kk+1)).map (fun k=>(pid N r.1,k))=(Ih_ N (N.rows.take i)++(List.range kk).map fun k=>(pid N r.1,k))++[(pid N r.1,kk)]:=by rw [BJ_,Ap_,A5_];rfl
     have olk:(Ih_ N (N.rows.take i)++(List.range kk).map fun k=>(pid N r.1,k)).length<100:=by rw [Ah_,Ab_,Ba_];lia
     rw [ek];generalize (Ih_ N (N.rows.take i)++(List.range kk).map fun k=>(pid N r.1,k))=O at *;have s2H:=sS.trans sH;nofun;rw [Bw_];refine ⟨by decide,fun t1 nt1=>?_⟩;rw [show (HO.tup [V.int (pid N r.1:Nat),V.int (kk:Nat)]:HO)=cV (pid N r.1,kk) from rfl];have s5:EX_ H4 (upd H4 t1 (cV (pid N r.1,kk))):=EX_.new nt1;have ht1:=aa_ (H:=H4) (a:=t1) (o:=cV (pid N r.1,kk));generalize upd H4 t1 (cV (pid N r.1,kk))=H5 at *;refine ⟨_,F7_.t (k:=cK (pid N r.1,kk)) (s5 _ _ hsn') ht1,?_⟩;rw [seen];generalize (pid N r.1,kk)=c at *;by_cases hc:c∈(fdF (trn N) (Pn N) O).flatten
     ·rw [if_neg (by rw [AQ_ hc];decide)];have fs:fdF (trn N) (Pn N) (O++[c])=fdF (trn N) (Pn N) O:=by rw [hC_,if_pos hc]
      have lrS:LR N H2 H5 sn D (O++[c]):=⟨S,kt,ys,sS,sH.trans s5,Ssn,SD,s5 _ _ hsn',kto,by rw [fs];exact seen,s5 _ _ hD',by rw [fs];exact reps,by rw [Ah_];lia⟩
      first|exact lrS|exact ⟨_,_,_,rfl,lrS⟩
     ·rw [if_pos (Az_ hc)];refine ⟨by decide,fun t2 nt2=>?_⟩;have s6:EX_ H5 (upd H5 t2 (cV c)):=EX_.new nt2;have ht2:=aa_ (H:=H5) (a:=t2) (o:=cV c);generalize upd H5 t2 (cV c)=H6 at *;have s26:=(s2H.trans s5).trans s6;refine ⟨Str,_,V.str,tl,m,t2,as_,trn N,Pn N,c,rfl,hT2.mono s26,hm.mono s26,tw,po.p0,PT,ht2,ic,LD_ ok po,fun R H7 xs cs s7 nR hR hcs ne len9 all way hd nd=>?_⟩;have s47:=(s5.trans s6).trans s7;have xl:=hcs.len;have ecs:cyc (trn N) (Pn N) c=cs:=pD_ tw ⟨way,hd,nd⟩;have fs:fdF (trn N) (Pn N) (O++[c])=fdF (trn N) (Pn N) O++[cs]:=by rw [hC_,if_neg hc,ecs]
      have c100:cs.length<=100:=by
       have:=ds_ (l:=cs) (m:=GW_ N) nd fun x hx=>(hD_ ok po).mpr (all x hx);have:(GW_ N).length=(Gh_ N).length:=by rw [d6_ po,Ab_]
       lia
      have hsn7:=s47 _ _ hsn';have hD7:=s47 _ _ hD';have Rsn:R≠sn:=(af_ ((s5.trans s6) _ _ hsn') nR).symm;refine ⟨R,rfl,⟨_,.inl (.inl hR)⟩,?_⟩;refine gt_ (xs:=xs.map V.ref) (fun j σ H'=>∃ (e12:Option V)(kt':List (List Key×V)),σ=[some (.ref pn),some (.ref pl),some (.ref tl),some (.int (N.posts.length:Nat)),some (.ref m),some (.ref sn),some (.ref D),some (.str r.1),some (.ref l),some (.int (pid N r.1:Nat)),some (.int (kk:Nat)),some (.ref R),e12]/\H' sn=some (.dT kt')/\Jz_ kt' ((GW_ N).map cK)/\(∀ d,(Ft_ kt' (cK d)).isSome=decide (d∈(fdF (trn N) (Pn N) O).flatten\/d∈cs.take j))/\∀ b,b≠sn->H' b=H7 b) ⟨_,kt,rfl,hsn7,kto,fun d=>by rw [seen];exact BM_.mpr (by simp),fun b _=>rfl⟩ ?_ ?_ ?_
      ·rintro j σ H' hj ⟨e12,kt',rfl,h1',h2',h3',h4'⟩;exact .inl (.inl (by rw [h4' R Rsn];exact hR))
      ·rintro j x σ H' hx ⟨e12,kt',rfl,h1',h2',h3',h4'⟩;have hj:j<cs.length:=by have:=(Ag_.mp hx).1;rw [Ab_] at this;lia
       obtain ⟨y,hy1,hy2⟩:=hcs.get (Aa_ hj);rw [Ae_,hy1] at hx;cases hx;have ysn:y≠sn:=fun z=>by rw [z,hsn7] at hy2;cases hy2
       have tkj:cs.take (j+1)=cs.take j++[cs[j]]:=by rw [Be_,Aa_ hj];rfl
       have kl:=h2'.len;rw [Ab_] at kl;have:(GW_ N).length=(Gh_ N).length:=by rw [d6_ po,Ab_]
       have hin:cK cs[j]∈(GW_ N).map cK:=Al_.mpr ⟨_,(hD_ ok po).mpr (all _ (A1_ hj)),rfl⟩;rw [tkj];nofun;refine ⟨_,Ho_.t (k:=cK cs[j]) h1' (by rw [h4' y ysn];exact hy2) (EY_ (by lia)),?_⟩
       have key:∀ d,(Ft_ (FR_ kt' (cK cs[j]) (.bl true)) (cK d)).isSome=decide (d∈(fdF (trn N) (Pn N) O).flatten\/d∈cs.take j++[cs[j]]):=fun d=>by
        rw [a7_];by_cases e:cK d=cK cs[j]
        ·rw [if_pos e,nX_ e];exact (AQ_ (.inr (AM_ _ (Ai_.mpr rfl)))).symm
        ·rw [if_neg e,h3'];refine BM_.mpr ?_;constructor
         ·rintro (h|h)
          ·exact .inl h
          ·exact .inr (AV_ _ h)
         ·rintro (h|h)
          ·exact .inl h
          ·rcases Ax_.mp h with h|h
           ·exact .inr h
           ·exact absurd (congrArg cK (Ai_.mp h)) e
       exact ⟨_,aa_,h2'.put hin _,key,fun b hb=>by rw [ah_ hb];exact h4' b hb⟩
      ·rintro σ H8 ⟨e12,kt',rfl,h1',h2',h3',h4'⟩;rw [Ab_,xl,Cb_] at h3';nofun;have hD8:H8 D=some (.lst ys):=by rw [h4' D sD.symm];exact hD7
       have hR8:H8 R=some (.lst (xs.map V.ref)):=by rw [h4' R Rsn];exact hR
       have nsn8:∀ {b:Addr}{o:HO},S b=some o->b≠sn:=fun hb z=>by rw [z,Ssn] at hb;cases hb
       have sS8:EX_ S H8:=fun b o hb=>by rw [h4' b (nsn8 hb)];exact (sH.trans s47) _ _ hb
       have hpl8:H8 pl=some (.lst ((pts N).map V.str)):=sS8 _ _ (sS _ _ hpl2);refine ⟨.inl ⟨_,.inl (.inl hD8)⟩,⟨_,.inl (.inl hR8)⟩,?_⟩;refine bv_ (n:=xs.length) (B:=H8) (Pσ:=fun σ=>∃ e e',σ=[e,e',some (.ref pl)]) (ds:=(cs.map (ph N)).map dE) (EX_.refl _) ⟨_,_,rfl⟩ (by simp [xl]) (by lia) (fun j Hj hj sj=>⟨_,.ref (xs[j]),.inl (.inl (sj _ _ hR8)),by simp [hj]⟩) (fun Hj sj=>⟨_,.inl (.inl (sj _ _ hR8)),by simp⟩) ?_ ?_
       ·rintro Dc j x dd σ' H9 H9' hDc hDo hs9 hj hdj ⟨rfl,hy⟩ ⟨e,e',rfl⟩ R0 kR;obtain ⟨od,hDo⟩:=hDo;have hx:=hy _ (.inl (.inl (hs9 _ _ hR8)));have hjc:j<cs.length:=by lia
        obtain ⟨y,hy1,hy2⟩:=hcs.get (Aa_ hjc);rw [Ae_,hy1] at hx;cases hx;have ysn:y≠sn:=fun z=>by rw [z,hsn7] at hy2;cases hy2
        have hy8:H8 y=some (cV cs[j]):=by rw [h4' y ysn];exact hy2
        have hd':dd=dE (ph N cs[j]):=by rw [Ae_,Ae_,Aa_ hjc] at hdj;exact (Aq_ hdj).symm
        have plt:cs[j].1<(pts N).length:=by rw [<-dM_];exact (all _ (A1_ hjc)).1
        nofun;refine ⟨_,SqT.of (hs9 _ _ hy8),rfl,_,_,rfl,_,_,rfl,rfl,_,_,rfl,hs9 _ _ hpl8,.str ((pts N).getD cs[j].1 Str.empty),c0_ (by lia) (by rw [AC_];exact a3_ plt),by decide,fun t nt=>kR _ _ _ ⟨_,_,rfl⟩ (EX_.new nt) ?_⟩;rw [hd'];have tD':t≠Dc:=(af_ hDo nt).symm;exact ⟨t,_,rfl,by rw [bB_ tD' (hs9.free nt)];exact aa_,_,_,rfl,rfl,_,_,rfl,rfl,rfl⟩
       ·intro Rc H9 hRc s9 rep9;have g1:EX_ S (grow S H8 H9):=bT_ sS8;have g2:EX_ (grow S H8 H9) H9:=gx_ sS8 s9;have gsn:grow S H8 H9 sn=none:=by rw [cg_ h1'];exact Ssn
        have gD:grow S H8 H9 D=none:=by rw [cg_ hD8];exact SD
        have grep:Rep (grow S H8 H9) (.ref Rc) (dRg N cs):=Rep.mono (fun b o hb=>by obtain ⟨b1,b2⟩:=a0_ hb;rw [gw_ b1];exact b2) _ rep9;refine ⟨ys,s9 _ _ hD8,EY_ (by lia),grow S H8 H9,kt',ys++[.ref Rc],sS.trans g1,aM_ g2 gD,gsn,gD,by rw [ah_ sD];exact s9 _ _ h1',h2',fun d=>?_,aa_,?_,by rw [Ah_,Ah_];simp;lia⟩
        ·rw [h3',fs,A6_];exact BM_.mpr (by rw [Ax_];simp)
        ·rw [fs,Ap_];exact Fg_.append (Fg_.mono g1 _ reps) ⟨_,_,rfl,grep,rfl⟩
    ·rintro σ H4 ⟨e10,e11,e12,rfl,lr'⟩;exact ⟨_,_,_,_,_,_,rfl,lr'⟩
   ·rintro σ H' ⟨e7,e8,e9,e10,e11,e12,rfl,S,kt,ys,sS,sH,Ssn,SD,hsn',kto,seen,hD',reps,yl⟩;rw [rln,Cb_] at reps;nofun;exact k D H' ((s02.trans sS).trans sH) ⟨D,ys,rfl,hD',Fg_.mono sH _ reps⟩
theorem qz_ {N:Net Str}(ok:Fk_ N){r:Str×List Str}(hr:r∈N.rows)(np:r.1∉N.posts):((Hj_ N r.1).isSome=true ↔ r.2.length=3/\dc r.2=3):=by
 constructor
 ·intro h;refine DN_ fun z=>?_;rw [iv_ ok (fun r' hr' e _ h3 h4=>z (by have:=nN_ ok hr' hr e;subst this;exact ⟨h3,h4⟩))] at h;cases h
 ·rintro ⟨h3,h4⟩;obtain ⟨x,ws⟩:=r
  dsimp only at h3 h4 np hr ⊢
  obtain ⟨A0,B0,C0,rfl⟩:∃ A0 B0 C0,ws=[A0,B0,C0]:=by
   match ws,h3 with
   | [a,b,c],_=>exact ⟨a,b,c,rfl⟩
  rw [k3_ ok hr np ((jR_ A0 B0 C0).mp h4)];rfl
abbrev Fz_:Stmt:=stN 73
theorem lM_:E2_ ["_law_net", "_law_point"] ["_law_net", "_law_point"] (EW_ Fz_):=⟨rfl,rfl,rfl,by rfl',rfl,by rfl',by rfl'⟩
theorem cE_:LK Fz_ "_law_net" .local:=by rfl'
theorem cF_:LK Fz_ "_law_point" .local:=by rfl'
theorem ei_:LK Fz_ "_law_row" .globalImplicit:=by rfl'
theorem eL_:LK Fz_ "len" .globalImplicit:=by rfl'
theorem iI_:LK Fz_ "set" .globalImplicit:=by rfl'
def HO_:Sp:=fun vs H Q _=>∃ (v:V)(N:Net Str)(x:Str),vs=[v,.str x]/\Rep H v (Go_ N)/\Fk_ N/\∀ H',EX_ H H'->Q (.bl (Hj_ N x).isSome) H'
theorem k9_ (T:Txt K mg)(F:Fn0 K mg "_law_is_star" Fz_) (Q_Lrow:I8_ P w K mg base "_law_row" ["_law_net", "_law_point"] 1 IG_):I8_ P w K mg base "_law_is_star" ["_law_net", "_law_point"] 2 HO_:=by
 refine lq_ F lM_ (fun _ _ _ _ _ _=>byL2 fun _ _=>rfl) ?len ?body
 case len=>rintro vs H Q E ⟨a,b,c,rfl,_⟩;rfl
 case body =>
  intro f cdv A outer s H vs Q E pq hq hr h;obtain ⟨v,N,x,rfl,hv,ok,k⟩:=h;obtain ⟨pn,p0,p1,p2,rs,ws,rfl,hn,h0,h1,r1,h2,r2⟩:=bC_ hv;have rl:rs.length=N.rows.length:=by rw [r1.length,Ab_]
  have few:=ok.few;refine' ⟨_,?D,?R⟩
  case D =>
   refine' ad_ ?g1 (ag_ (au_ ?g32))
   case' g1=>refine' Fx_ (PW.pt (Hx_ (aq_ (rf_ (K:=K) rfl) (pv1 1 rfl cF_) (E0_ am_ (pv1 0 rfl cE_) ac_ (fun _ _=>rfl)) (by with_unfolding_all rfl)) ?g8)) (ag_ (au_ Gj_)) aB_
   case' g8=>refine' iT_ (aq_ (bZ_ (K:=K) rfl) (pv1 1 rfl cF_) (jD_ (N':=["_law_one", "_law_wires"]) (ix:=[none,none]) (show Qx _ from hq) rfl (a6_ ?g16) (jC_ (K:=K) rfl (E0_ am_ (pv1 0 rfl cE_) ac_ (fun _ _=>rfl))) (fun _ _ _=>(lp_ (K:=K) (n:=2) rfl (show Qx _ from hq) (ak_ ?g25 (ak_ ?g27 aC_)))) (fun _ _ _=>?g19) (fun _ _ _=>(pv1 0 rfl rfl))) (by with_unfolding_all rfl))
   case g16=>exact (by show Ge_ (EW_ Fz_) ["_law_net", "_law_point"] _ _ _=true;decide +kernel)
   case g25=>exact ae_ (i:=0) (by show List.Nodup (["_law_one", "_law_wires"]:List Str);decide +kernel) rfl rfl
   case g27=>exact ae_ (i:=1) (by show List.Nodup (["_law_one", "_law_wires"]:List Str);decide +kernel) rfl rfl
   case g19=>exact cn_
   case' g32=>refine' pg_ (en_ FZ_ (an_ ap_ eL_ T.n_len aL_ (pa_c (kD_ Q_Lrow (hr.mono (by decide)) (show Qx _ from hq) rfl rfl rfl ei_ (pa_c (pv1 0 rfl cE_) (pa_c (pv1 1 rfl cF_) ab_))) ab_)) ac_ (E9_ _)) (pf_ ?g45)
   case' g45=>refine' en_ FZ_ (an_ kz_ eL_ T.n_len aL_ (pa_c (aX_ (kA_ (show Qx _ from hq)) iI_ T.n_set pG_ (pa_c (kD_ Q_Lrow (hr.mono (by decide)) (show Qx _ from hq) rfl rfl rfl ei_ (pa_c (pv1 0 rfl cE_) (pa_c (pv1 1 rfl cF_) ab_))) ab_)) ab_)) ac_ (E9_ _)
  case R =>
   nofun;refine ⟨_,hn,_,FC_,p0,rfl,_,.inl (.inl (.inl h0)),rfl,e1_ _,?_⟩;rw [gc_];refine ite2 (fun c=>?_) (fun c=>?_)
   ·have e:Hj_ N x=none:=by unfold Hj_;rw [if_pos (AG_ c)]
    rw [e] at k;exact k H (EX_.refl _)
   have np:x∉N.posts:=fun z=>c (AQ_ z);refine ⟨_,hn,_,Fw_,p1,rfl,⟨_,.inl (.inl h1)⟩,?_⟩;refine bv_ (n:=N.rows.length) (B:=fun _=>none) (Pσ:=fun σ=>∃ e e',σ=[e,e']) (ds:=(N.rows.map (·.1)).map Dt.str) (fun b o e=>by cases e) ⟨_,_,rfl⟩ (by simp) (by lia) (fun j Hj hj sj=>⟨rs,rs[j]'(by lia),.inl (.inl (sj _ _ h1)),Aa_ _⟩) (fun Hj sj=>⟨rs,.inl (.inl (sj _ _ h1)),by lia⟩) ?_ ?_
   ·rintro D j y d σ' Z Z' hD hDo hs2 hj hdj ⟨rfl,hy⟩ ⟨e,e',rfl⟩ R kR;obtain ⟨r,q,l,er,rfl,hq',hl⟩:=bm_ r1 (hy _ (.inl (.inl (hs2 _ _ h1))));rw [Ae_,Ae_,er] at hdj;cases hdj;nofun;exact ⟨_,SqT.of (hs2 _ _ hq'),rfl,_,_,rfl,_,_,rfl,rfl,kR _ _ _ ⟨_,_,rfl⟩ (EX_.refl _) rfl⟩
   ·intro D H2 hD s2 rep2;obtain ⟨_,us,e0,hD2,hus⟩:=id rep2;cases e0;rw [cj_ hus] at hD2
    replace hD2:=(a0_ hD2).2
    refine ⟨D,rfl,_,.inl (.inl (.inl hD2)),rfl,e1_ _,?_⟩;rw [gc_];refine ite2 (fun c1=>?_) (fun c1=>?_)
    ·have e:Hj_ N x=none:=iv_ ok fun r hr' ex _ _ _=>Bm_ c1 (Al_.mpr ⟨r,hr',ex⟩);rw [e] at k;exact k H2 s2
    have hx:x∈N.rows.map (·.1):=DN_ fun z=>c1 (Az_ z);obtain ⟨r,hr',rfl⟩:=Al_.mp hx;have l30:r.2.length<=30:=(e3_ ok).2 r hr';have di:=qz_ ok hr' np;nofun;refine ⟨_,N,r,rfl,Rep.mono s2 _ hv,ok,hr',fun l H3 s3 hl=>?_⟩;refine ⟨l,rfl,_,.inl hl,?_⟩;rw [Ab_];refine ite2 (fun c2=>?_) (fun c2=>?_)
    ·refine ⟨_,N,r,rfl,Rep.mono (s2.trans s3) _ hv,ok,hr',fun l2 H4 s4 hl2=>⟨l2,rfl,r.2,hl2,by lia,fun a na=>⟨_,rfl,?_⟩⟩⟩;have e:decide ((dc r.2:Int)=3)=(Hj_ N r.1).isSome:=by rw [B0_,Cj_,di];exact ⟨fun z=>⟨by lia,by lia⟩,fun z=>by lia⟩
     rw [e];exact k _ ((s2.trans (s3.trans s4)).trans (EX_.new na))
    ·have e:(Hj_ N r.1).isSome=false:=Bool.eq_false_iff.mpr fun z=>c2 (by have:=(di.mp z).1;lia);rw [e] at k;exact k _ (s2.trans s3)
theorem GE_.fwd {H H1 H2:Hp}{v:V}{M:Net Str}(f:GE_ H H1 v M)(s:EX_ H1 H2):GE_ H H2 v M:=by obtain ⟨r,pn,p0,p1,p2,rs,h1,h2,h3,h4,h5,h6,h8,h7⟩:=f;exact ⟨Rep.mono s _ r,pn,p0,p1,p2,rs,h1,s _ _ h2,s _ _ h3,h4,h5,h6,h8,fun i x hx=>(h7 i x hx).elim fun q z=>⟨q,z.elim fun nm z=>⟨nm,z.elim fun l z=>⟨l,z.1,s _ _ z.2.1,z.2.2⟩⟩⟩⟩
theorem pb_ {N M:Net Str}(ok:Fk_ N){x:Str}(h:Hj_ N x=some M):x∉N.posts/\∃ A B C,(x,[A,B,C])∈N.rows/\(A≠B/\A≠C/\B≠C)/\M=Gz_ N x (inS N x A B C) (wvS N A B C):=by
 unfold Hj_ at h;by_cases np:x∈N.posts
 ·rw [if_pos np] at h;cases h
 rw [if_neg np] at h;refine ⟨np,?_⟩;split at h
 ·rename_i A B C e;split at h
  ·rename_i c;refine ⟨A,B,C,?_,c,(Aq_ h).symm⟩;unfold Gu_ at e;cases e2:N.rows.find? fun r=>decide (r.1=x) with
   | none=>rw [e2] at e;cases e
   | some r =>rw [e2] at e;have e3:r.2=[A,B,C]:=e;have h1:=B5_ e2;have h2:r.1=x:=AG_ (Dn_ (p:=fun r:Str×List Str=>decide (r.1=x)) e2);rw [<-h2,<-e3];exact h1
  ·cases h
 ·cases h
theorem mR_ {N:Net Str}(ok:Fk_ N)(x A B C:Str):(Gz_ N x (inS N x A B C) (wvS N A B C)).rows.length<=16/\(Gz_ N x (inS N x A B C) (wvS N A B C)).posts.length<=6/\(Gz_ N x (inS N x A B C) (wvS N A B C)).worths.length<=15/\∀ r∈(Gz_ N x (inS N x A B C) (wvS N A B C)).rows,r.2.length<=60:=by
 refine ⟨?_,ok.pl,?_,fun r hr=>?_⟩
 ·show (Gs_ N.rows (inS N x A B C) [x]).length<=16;unfold Gs_;rw [Ab_];exact Ay_ (Bp_ _ _) ok.few
 ·show (List.map _ N.worths).length<=15;rw [Ab_];exact ok.wl
 ·obtain ⟨r',hr',rfl⟩:=Al_.mp hr;have h1:=(e3_ ok).2 r' (A9_.mp hr').1
  have:=gD_ (ins:=inS N x A B C) (fun e ls he=>by
   unfold inS H2_ at he;split at he
   ·cases he;exact Af_ _
   ·split at he
    ·cases he;exact Af_ _
    ·split at he
     ·cases he;exact Af_ _
     ·cases he) (p:=r'.1) r'.2 0
  show (kpG (inS N x A B C) r'.1 0 r'.2).length<=60;lia
abbrev Fp_:Stmt:=stN 77
theorem cw_:E2_ ["_law_net", "_law_point", "_law_handed", "_law_turn", "_law_told"] ["_law_net", "_law_point"] (EW_ Fp_):=⟨rfl,rfl,rfl,by rfl',rfl,by rfl',by rfl'⟩
theorem bo_:LK Fp_ "_law_net" .local:=by rfl'
theorem bJ_:LK Fp_ "_law_point" .local:=by rfl'
theorem cf_:LK Fp_ "_law_handed" .local:=by rfl'
theorem iJ_:LK Fp_ "_law_turn" .local:=by rfl'
theorem bp_:LK Fp_ "_law_told" .local:=by rfl'
theorem hr_:LK Fp_ "NoStep" .globalImplicit:=by rfl'
theorem b2_:LK Fp_ "_law_copy" .globalImplicit:=by rfl'
theorem b3_:LK Fp_ "_law_is_star" .globalImplicit:=by rfl'
theorem cW_:LK Fp_ "_law_same_net" .globalImplicit:=by rfl'
theorem ej_:LK Fp_ "_law_spoil" .globalImplicit:=by rfl'
theorem eM_:LK Fp_ "_law_star" .globalImplicit:=by rfl'
theorem eN_:LK Fp_ "range" .globalImplicit:=by rfl'
theorem cX_:LK Fp_ "step_done" .globalImplicit:=by rfl'
def H8_:Sp:=fun vs H Q _=>∃ (v:V)(N:Net Str)(x:Str),vs=[v,.str x]/\Rep H v (Go_ N)/\Nk N/\∀ H',EX_ H H'->Q (.bl true) H'
theorem on_ (T:Txt K mg)(EX:Exs K mg CS)(F:Fn0 K mg "_law_right" Fp_) (Gv_:Cal P w K mg base "_law_copy" ["_law_net"] 1 IN_) (R_step_done:IH_ P w K mg base "step_done" ["net", "step"] 5 (Kp_ CS)) (GI_:Cal P w K mg base "_law_same_net" ["_law_found", "_law_due"] 1 Iy_) (Ic_:Cal P w K mg base "_law_spoil" ["_law_net"] 1 H0_) (G4_:Cal P w K mg base "_law_is_star" ["_law_net", "_law_point"] 2 HO_) (Q_Lis_star:I8_ P w K mg base "_law_is_star" ["_law_net", "_law_point"] 2 HO_) (IY_:Cal P w K mg base "_law_star" ["_law_net", "_law_point"] 3 ID_):Cal P w K mg base "_law_right" ["_law_net", "_law_point"] 6 H8_:=by
 have C_step_done:=Cal.of_R R_step_done;refine aR_ F cw_ (fun _ _ _ _ _ _=>byL2 fun _ _=>rfl) ?len ?body
 case len=>rintro vs H Q E ⟨a,b,c,rfl,_⟩;rfl
 case body =>
  intro f cdv A outer s H vs Q E hr h;obtain ⟨v,N,x,rfl,hv,nk,k⟩:=h;cases hd:Hj_ N x with
  | some M =>
   refine' ⟨_,?D,?R⟩
   case D =>
    refine' ad_ (aj_ (i:=2) cw_.nd rfl cf_ (al_ Gv_ (hr.mono (by decide)) b2_ (pa_c (pv1 0 rfl bo_) ab_))) ?g2
    case' g2=>refine' ai_ (aV_ Au_ rfl (aE_ eN_ T.n_range (pa_c ac_ ab_)) ?g10 ?g11) (ag_ (au_ Gj_))
    case g10=>exact ae_ (i:=3) cw_.nd rfl iJ_
    case' g11=>refine' ad_ (aj_ (i:=4) cw_.nd rfl bp_ ?g17) (ad_ (oF_ (fun _=>?g20)) (ad_ (Fx_ (j3_ (mX_ (pv1 4 rfl bp_))) ?g36 aB_) ?g34))
    case g17=>exact mV_
    case' g20=>refine' ag_ (aj_ (i:=4) cw_.nd rfl bp_ (al_ C_step_done (hr.mono (by decide)) cX_ (pa_c (pv1 2 rfl cf_) (pa_c (ax_ (pa_c cm_ (pa_c (pv1 1 rfl bJ_) ab_))) ab_))))
    case' g36=>refine' ad_ (Fx_ ?g41 (ag_ (au_ Gj_)) aB_) (ag_ (aI_ (al_ Ic_ (hr.mono (by decide)) ej_ (pa_c (pv1 4 rfl bp_) ab_))))
    case' g41=>refine' PW.pt (Hx_ (gW_ (fL_ (al_ G4_ (hr.mono (by decide)) b3_ (pa_c (pv1 0 rfl bo_) (pa_c (pv1 1 rfl bJ_) ab_))))) (iT_ ?g54))
    case' g54=>refine' gW_ (fL_ (al_ GI_ (hr.mono (by decide)) cW_ (pa_c (pv1 4 rfl bp_) (pa_c (al_ IY_ (hr.mono (by decide)) eM_ (pa_c (pv1 0 rfl bo_) (pa_c (pv1 1 rfl bJ_) ab_))) ab_))))
    case' g34=>refine' ag_ (Fx_ (aq_ (kh_ (hr.units)) (pv1 2 rfl cf_) (al_ Gv_ (hr.mono (by decide)) b2_ (pa_c (pv1 0 rfl bo_) ab_)) (E9_ _)) (ag_ (au_ Gj_)) aB_)
   case R =>
    nofun;refine ⟨v,N,rfl,hv,nk.ok,fun vh H2 s2 rep2=>?_⟩;nofun;obtain ⟨np,A0,B0,C0,hr1,hAB,rfl⟩:=pb_ nk.ok hd;obtain ⟨m1,m2,m3,m4⟩:=mR_ nk.ok x A0 B0 C0;refine ⟨by decide,by decide,br_ (fun i σ Hy=>∃ (e3 e4:Option V),σ=[some v,some (.str x),some vh,e3,e4]/\EX_ H2 Hy) ⟨_,_,rfl,EX_.refl _⟩ ?_ ?_⟩
    ·rintro i σ Hy hi kk kb hk hbk G hG ⟨e3,e4,rfl,sy⟩;refine hG ?_;have s0y:=s2.trans sy;nofun;refine ⟨by decide,fun st nst=>?_⟩;have S3:=EX_.new nst (o:=HO.tup [V.str (Str.ofString "star"),V.str x]);have hst:=aa_ (H:=Hy) (a:=st) (o:=HO.tup [V.str (Str.ofString "star"),V.str x]);generalize upd Hy st (HO.tup [V.str (Str.ofString "star"),V.str x])=H3 at *;have sy3:=sy.trans S3;have s03:=s2.trans sy3;refine ⟨vh,N,st,x,rfl,Rep.mono sy3 _ rep2,nk,hst,fun M' e v4 H4 s4 fr=>?_,fun e=>(by rw [hd] at e;cases e)⟩;rw [hd] at e;cases e;have s04:=s03.trans s4;obtain ⟨pt,_,ept,_⟩:=id fr.rep;nofun;rw [if_pos (by rw [ept];exact fun z=>nomatch z)];nofun;refine ⟨v,N,x,rfl,Rep.mono s04 _ hv,nk.ok,fun H5 s5=>⟨_,rfl,?_⟩⟩;rw [hd,if_neg (fun z=>nomatch z)];refine ⟨v,N,x,A0,B0,C0,rfl,Rep.mono (s04.trans s5) _ hv,nk,hr1,hAB,fun v6 H6 s6 rep6=>?_⟩;refine ⟨v4,v6,_,rfl,Rep.mono (s5.trans s6) _ fr.rep,rep6,m1,fun H7 s7=>⟨_,rfl,?_⟩⟩;rw [if_neg (by decide)];nofun;have s47:=s5.trans (s6.trans s7);refine ⟨v4,_,H3,rfl,s4.trans s47,fr.fwd s47,m1,m2,m3,m4,fun H8 s8=>?_⟩;have s28:=sy3.trans s8;nofun;refine ⟨v,N,rfl,Rep.mono (s2.trans s28) _ hv,nk.ok,fun vc H9 s9 rep9=>?_⟩;have rep29:=Rep.mono (s28.trans s9) _ rep2;obtain ⟨ph,_,eh,_⟩:=id rep29;obtain ⟨pc,_,ec,_⟩:=id rep9;refine ⟨ph,eh,pc,ec,_,rep29,_,rep9,true,hH_ _,lG_ _,?_⟩;rw [if_neg (by decide)];exact hk _ _ ⟨_,_,rfl,s28.trans s9⟩
    ·rintro σ Hy ⟨e3,e4,rfl,sy⟩;nofun;exact k _ (s2.trans sy)
  | none =>
   refine' ⟨_,?D,?R⟩
   case D =>
    refine' ad_ (aj_ (i:=2) cw_.nd rfl cf_ (al_ Gv_ (hr.mono (by decide)) b2_ (pa_c (pv1 0 rfl bo_) ab_))) ?q2
    case' q2=>refine' ai_ (aV_ Au_ rfl (aE_ eN_ T.n_range (pa_c ac_ ab_)) ?q10 ?q11) (ag_ (au_ Gj_))
    case q10=>exact ae_ (i:=3) cw_.nd rfl iJ_
    case' q11=>refine' ad_ (aj_ (i:=4) cw_.nd rfl bp_ ?q17) (ad_ ?q18 (ad_ (Fx_ (j3_ (mX_ (pv1 4 rfl bp_))) ?q46 aB_) ?q44))
    case q17=>exact mV_
    case' q18=>refine' qd_ R_step_done (hr.mono (by decide)) cX_ rfl rfl rfl EX.m_NoStep EX.hnd_NoStep hr_ (fun _=>(pa_c (pv1 2 rfl cf_) (pa_c (ax_ (pa_c cm_ (pa_c (pv1 1 rfl bJ_) ab_))) ab_))) (fun _ _ ho=>?q21)
    case' q21=>refine' ag_ (Fx_ (fL_ (oU_ Q_Lis_star (hr.mono (by decide)) rfl rfl ho b3_ (pa_c (pv1 0 rfl bo_) (pa_c (pv1 1 rfl bJ_) ab_)))) (ag_ (au_ Gj_)) aB_)
    case' q46=>refine' ad_ (Fx_ ?q51 (ag_ (au_ Gj_)) aB_) (ag_ (aI_ (al_ Ic_ (hr.mono (by decide)) ej_ (pa_c (pv1 4 rfl bp_) ab_))))
    case' q51=>refine' PW.pt (Hx_ (gW_ (fL_ (al_ G4_ (hr.mono (by decide)) b3_ (pa_c (pv1 0 rfl bo_) (pa_c (pv1 1 rfl bJ_) ab_))))) (iT_ ?q64))
    case' q64=>refine' gW_ (fL_ (al_ GI_ (hr.mono (by decide)) cW_ (pa_c (pv1 4 rfl bp_) (pa_c (al_ IY_ (hr.mono (by decide)) eM_ (pa_c (pv1 0 rfl bo_) (pa_c (pv1 1 rfl bJ_) ab_))) ab_))))
    case' q44=>refine' ag_ (Fx_ (aq_ (kh_ (hr.units)) (pv1 2 rfl cf_) (al_ Gv_ (hr.mono (by decide)) b2_ (pa_c (pv1 0 rfl bo_) ab_)) (E9_ _)) (ag_ (au_ Gj_)) aB_)
   case R =>
    nofun;refine ⟨v,N,rfl,hv,nk.ok,fun vh H2 s2 rep2=>?_⟩;nofun;refine ⟨by decide,by decide,br_ (fun i σ Hy=>∃ (e3 e4:Option V),σ=[some v,some (.str x),some vh,e3,e4]/\EX_ H2 Hy) ⟨_,_,rfl,EX_.refl _⟩ ?_ ?_⟩
    ·rintro i σ Hy hi kk kb hk hbk G hG ⟨e3,e4,rfl,sy⟩;refine hG ?_;have s0y:=s2.trans sy;nofun
     try unfold I9_
     refine ⟨by decide,fun st nst=>?_⟩;have S3:=EX_.new nst (o:=HO.tup [V.str (Str.ofString "star"),V.str x]);have hst:=aa_ (H:=Hy) (a:=st) (o:=HO.tup [V.str (Str.ofString "star"),V.str x]);generalize upd Hy st (HO.tup [V.str (Str.ofString "star"),V.str x])=H3 at *;have sy3:=sy.trans S3;have s03:=s2.trans sy3;refine ⟨vh,N,st,x,rfl,Rep.mono sy3 _ rep2,nk,hst,fun M e=>(by rw [hd] at e;cases e),fun _ H4 s4=>⟨CS,rfl,EX.sub,?_⟩⟩;refine ⟨v,N,x,rfl,Rep.mono (s03.trans s4) _ hv,nk.ok,fun H5 s5=>⟨_,rfl,?_⟩⟩;rw [hd,if_neg (by decide)];have s25:=sy3.trans (s4.trans s5);nofun;refine ⟨v,N,rfl,Rep.mono (s2.trans s25) _ hv,nk.ok,fun vc H9 s9 rep9=>?_⟩;have rep29:=Rep.mono (s25.trans s9) _ rep2;obtain ⟨ph,_,eh,_⟩:=id rep29;obtain ⟨pc,_,ec,_⟩:=id rep9;refine ⟨ph,eh,pc,ec,_,rep29,_,rep9,true,hH_ _,lG_ _,?_⟩;rw [if_neg (by decide)];exact hk _ _ ⟨_,_,rfl,s25.trans s9⟩
    ·rintro σ Hy ⟨e3,e4,rfl,sy⟩;nofun;exact k _ (s2.trans sy)
structure OwR (H0 H:Hp)(qs ls:List Addr)(rows:List (Str×List Str)):Prop where
 ql:qs.length=rows.length
 ll:ls.length=rows.length
 q:∀ (i:Nat) q l r,qs[i]?=some q->ls[i]?=some l->rows[i]?=some r->H q=some (.tup [.str r.1,.ref l])
 l:∀ (i:Nat) l r,ls[i]?=some l->rows[i]?=some r->H l=some (.lst (r.2.map V.str))
 nd:ls.Nodup
 new:∀ l∈ls,H0 l=none
theorem OwR.mono {H0 H H':Hp}{qs ls:List Addr}{rows:List (Str×List Str)}(h:OwR H0 H qs ls rows)(s:EX_ H H'):OwR H0 H' qs ls rows :=
 ⟨h.ql,h.ll,fun i q l r a b c=>s _ _ (h.q i q l r a b c),fun i l r a b=>s _ _ (h.l i l r a b),h.nd,h.new⟩
theorem OwR.add {H0 H H':Hp}{qs ls:List Addr}{rows:List (Str×List Str)}(h:OwR H0 H qs ls rows)(s:EX_ H H'){q l:Addr}{r:Str×List Str}(nl:H l=none)(n0:H0 l=none)(hq:H' q=some (.tup [.str r.1,.ref l]))(hl:H' l=some (.lst (r.2.map V.str))):OwR H0 H' (qs++[q]) (ls++[l]) (rows++[r]):=by
 have h':=h.mono s
 have at_:∀ {α:Type}{as bs:List α}{a b:α}{i n:Nat},as.length=n->(as++[a])[i]?=some b->(i<n/\as[i]?=some b)\/(i=n/\b=a):=fun {α as bs a b i n} e hi=>by
  by_cases c:i<as.length
  ·rw [AP_ c] at hi;exact .inl ⟨by lia,hi⟩
  ·rw [A2_ (by lia)] at hi;have h1:=(Ag_.mp hi).1;simp at h1;have e2:i-as.length=0:=by lia
   rw [e2] at hi;exact .inr ⟨by lia,(Aq_ hi).symm⟩
 refine ⟨by simp [h.ql],by simp [h.ll],fun i q' l' r' a b c=>?_,fun i l' r' a b=>?_,?_,fun l' hl'=>?_⟩
 ·rcases at_ (bs:=qs) h.ql a with ⟨_,a⟩|⟨e,rfl⟩
  ·rcases at_ (bs:=ls) h.ll b with ⟨_,b⟩|⟨e,rfl⟩
   ·rcases at_ (bs:=rows) rfl c with ⟨_,c⟩|⟨e,rfl⟩
    ·exact h'.q i q' l' r' a b c
    ·have:=(Ag_.mp a).1;have:=h.ql;lia
   ·have:=(Ag_.mp a).1;have:=h.ql;lia
  ·rcases at_ (bs:=ls) h.ll b with ⟨_,b⟩|⟨_,rfl⟩
   ·have:=(Ag_.mp b).1;have:=h.ll;lia
   ·rcases at_ (bs:=rows) rfl c with ⟨_,c⟩|⟨_,rfl⟩
    ·have:=(Ag_.mp c).1;lia
    ·exact hq
 ·rcases at_ (bs:=ls) h.ll a with ⟨_,a⟩|⟨e,rfl⟩
  ·rcases at_ (bs:=rows) rfl b with ⟨_,b⟩|⟨e,rfl⟩
   ·exact h'.l i l' r' a b
   ·have:=(Ag_.mp a).1;have:=h.ll;lia
  ·rcases at_ (bs:=rows) rfl b with ⟨_,b⟩|⟨_,rfl⟩
   ·have:=(Ag_.mp b).1;lia
   ·exact hl
 ·refine A0_.mpr ⟨h.nd,by simp,fun x hx y hy z=>?_⟩;rw [Ai_.mp hy] at z;subst z;obtain ⟨i,hi,ei⟩:=Ar_.mp hx;have:=h.l i x (rows[i]'(by rw [<-h.ll];exact hi)) (by rw [Aa_ hi,ei]) (Aa_ _);rw [nl] at this;cases this
 ·rcases Ax_.mp hl' with z|z
  ·exact h.new l' z
  ·rw [Ai_.mp z];exact n0
theorem OwR.reps {H0 H:Hp}{qs ls:List Addr}{rows:List (Str×List Str)}(o:OwR H0 H qs ls rows):Fg_ H (qs.map V.ref) (rows.map dRw):=by
 have:∀ (rows:List (Str×List Str))(qs ls:List Addr),qs.length=rows.length->ls.length=rows.length->(∀ (i:Nat) q l r,qs[i]?=some q->ls[i]?=some l->rows[i]?=some r->H q=some (.tup [.str r.1,.ref l])/\H l=some (.lst (r.2.map V.str)))->Fg_ H (qs.map V.ref) (rows.map dRw):=by
  intro rows
  induction rows with
  | nil =>
   intro qs ls h1 h2 h;rw [Bk_ h1];rfl
  | cons r rows ih =>
   intro qs ls h1 h2 h;cases qs with
   | nil=>cases h1
   | cons q qs =>
    cases ls with
    | nil=>cases h2
    | cons l ls =>obtain ⟨a,b⟩:=h 0 q l r rfl rfl rfl;exact ⟨_,_,rfl,⟨q,_,rfl,a,_,_,rfl,rfl,_,_,rfl,⟨l,_,rfl,b,a2_ _⟩,rfl⟩,ih qs ls (Dl_ h1) (Dl_ h2) fun i q l r a b c=>h (i+1) q l r a b c⟩
 exact this rows qs ls o.ql o.ll fun i q l r a b c=>⟨o.q i q l r a b c,o.l i l r b c⟩
def G6_:Sp:=fun vs H Q _=>∃ (v:V)(N:Net Str),vs=[v]/\Rep H v (Go_ N)/\Fk_ N/\∀ pe c0 D c2 qs ls H',EX_ H H'->Rep H' (.ref pe) (Go_ N)->H' pe=some (.tup [.ref c0,.ref D,.ref c2])->H D=none->D∉ls->H' D=some (.lst (qs.map V.ref))->OwR H H' qs ls N.rows->Q (.ref pe) H'
theorem oo_ (T:Txt K mg)(F:Fn0 K mg "_law_copy" Gp_):I8_ P w K mg base "_law_copy" ["_law_net"] 1 G6_:=by
 refine lq_ F o2_ (fun _ _ _ _ _ _=>byL1 fun _=>rfl) ?len ?body
 case len=>rintro vs H Q E ⟨a,b,rfl,_⟩;rfl
 case body =>
  intro f cdv A outer s H vs Q E pn hq hr h;obtain ⟨v,N,rfl,hv,ok,k⟩:=h;obtain ⟨pn,p0,p1,p2,rs,ws,rfl,hn,h0,h1,r1,h2,r2⟩:=bC_ hv;have rl:rs.length=N.rows.length:=by rw [r1.length,Ab_]
  have few:=ok.few;refine' ⟨_,?D,?R⟩
  case D =>
   refine' ag_ (au_ (ax_ (pa_c (aX_ bL_ ga_ T.n_list dc_ (pa_c (E0_ am_ (pv1 0 rfl gM_) ac_ (fun _ _=>rfl)) ab_)) ?g5)))
   case' g5=>refine' pa_c ?g11 (pa_c (aX_ bL_ ga_ T.n_list dc_ (pa_c (E0_ am_ (pv1 0 rfl gM_) ac_ (fun _ _=>rfl)) ab_)) ab_)
   case' g11=>refine' jD_ (N':=["_law_point", "_law_wires"]) (ix:=[none,none]) (show Qx _ from hq) rfl (a6_ ?g13) (jC_ (K:=K) rfl (E0_ am_ (pv1 0 rfl gM_) ac_ (fun _ _=>rfl))) (fun _ _ _=>(lp_ (K:=K) (n:=2) rfl (show Qx _ from hq) (ak_ ?g22 (ak_ ?g24 aC_)))) (fun _ _ _=>?g16) (fun _ _ _=>?g17)
   case g13=>exact (by show Ge_ (EW_ Gp_) ["_law_net"] _ _ _=true;decide +kernel)
   case g22=>exact ae_ (i:=0) (by show List.Nodup (["_law_point", "_law_wires"]:List Str);decide +kernel) rfl rfl
   case g24=>exact ae_ (i:=1) (by show List.Nodup (["_law_point", "_law_wires"]:List Str);decide +kernel) rfl rfl
   case g16=>exact cn_
   case' g17=>refine' ax_ (pa_c (pv1 0 rfl rfl) (pa_c (aX_ bL_ rfl T.n_list dc_ (pa_c (pv1 1 rfl rfl) ab_)) ab_))
  case R =>
   nofun;refine ⟨_,hn,_,FC_,p0,rfl,_,.inl h0,fun c0 n0=>?_⟩;have S1:EX_ H (upd H c0 (HO.lst (N.posts.map V.str))):=EX_.new n0;have hc0:=aa_ (H:=H) (a:=c0) (o:=HO.lst (N.posts.map V.str));generalize upd H c0 (HO.lst (N.posts.map V.str))=H1 at *;refine ⟨_,S1 _ _ hn,_,Fw_,p1,rfl,⟨_,.inl (.inl (S1 _ _ h1))⟩,?_⟩;have h11:=S1 _ _ h1;refine nS_ (n:=N.rows.length) (Pσ:=fun σ=>∃ e e',σ=[e,e']) (Pv:=fun (i:Nat)(vs:List V)(Hz:Hp)=>∃ (qs ls:List Addr),vs=qs.map V.ref/\OwR H Hz qs ls (N.rows.take i)) ⟨_,_,rfl⟩ (by lia) ⟨[],[],rfl,rfl,rfl,fun i q l r a=>(by cases a),fun i l r a=>(by cases a),Bh_,fun l z=>(by cases z)⟩ (fun i vs Ha Hb sab h=>by obtain ⟨qs,ls,e,o⟩:=h;exact ⟨qs,ls,e,o.mono sab⟩) (fun i vs Ha h=>by obtain ⟨qs,ls,e,o⟩:=h;rw [e,Ab_,o.ql,AO_];exact Nat.min_le_left _ _) (fun i H' hi s'=>⟨rs,rs[i]'(by lia),.inl (.inl (s' _ _ h11)),Aa_ _⟩) (fun H' s'=>⟨rs,.inl (.inl (s' _ _ h11)),by lia⟩) ?_ ?_
   ·rintro D i x σ' H2 H2' vs hD hDo hs2 hi ⟨rfl,hy⟩ ⟨e,e',rfl⟩ ⟨qs,ls,rfl,ow⟩ Y R kY kR;obtain ⟨od,hDo⟩:=hDo;have hx:=hy _ (.inl (.inl (hs2 _ _ h11)));obtain ⟨r,q,l,hr1,rfl,hq,hl⟩:=bm_ r1 hx;have s12:=S1.trans hs2;nofun;refine ⟨_,SqT.of (s12 _ _ hq),rfl,_,_,rfl,_,_,rfl,rfl,l,rfl,_,.inl (s12 _ _ hl),fun c1 n1=>⟨by decide,fun c2 n2=>?_⟩⟩;have c1D:c1≠D:=(af_ hDo n1).symm;have c2D:c2≠D:=(af_ ((EX_.new n1 (o:=HO.lst (r.2.map V.str))) _ _ hDo) n2).symm;have hc1:=(EX_.new n2 (o:=HO.tup [V.str r.1,V.ref c1])) _ _ (aa_ (H:=H2') (a:=c1) (o:=HO.lst (r.2.map V.str)));have hc2:=aa_ (H:=upd H2' c1 (HO.lst (r.2.map V.str))) (a:=c2) (o:=HO.tup [V.str r.1,V.ref c1]);have ss:=(EX_.new n1 (o:=HO.lst (r.2.map V.str))).trans (EX_.new n2 (o:=HO.tup [V.str r.1,V.ref c1]));refine kY _ _ _ ⟨_,_,rfl⟩ ss ⟨qs++[c2],ls++[c1],by rw [Ap_];rfl,?_⟩;rw [Be_,hr1];refine ow.add (fun b o hb=>?_) (by rw [kE_ c1D];exact n1) (s12.free n1) (by rw [kE_ c2D];exact hc2) (by rw [kE_ c1D];exact hc1);have bD:b≠D:=fun z=>by unfold noD at hb;rw [if_pos z] at hb;cases hb
    rw [kE_ bD] at hb ⊢;exact ss _ _ hb
   ·rintro D H2 vs hD s2 hDv ⟨qs,ls,rfl,ow⟩;rw [AT_ (Af_ _)] at ow;have s02:=S1.trans s2;have Dl:D∉ls:=fun z=>by obtain ⟨i,hi,ei⟩:=Ar_.mp z;have:=ow.l i D (N.rows[i]'(by rw [<-ow.ll];exact hi)) (by rw [Aa_ hi,ei]) (Aa_ _);unfold noD at this;rw [if_pos rfl] at this;cases this
    refine ⟨_,s02 _ _ hn,_,Gi_,p2,rfl,_,.inl (s02 _ _ h2),fun c2 n2=>⟨by decide,fun pe ne=>?_⟩⟩;have S3:=EX_.new n2 (o:=HO.lst ws);have S4:=EX_.new ne (o:=HO.tup [V.ref c0,V.ref D,V.ref c2]);have ow4:=ow.mono (q6_.trans (S3.trans S4));exact k _ _ _ _ qs ls _ (s02.trans (S3.trans S4)) ⟨pe,_,rfl,aa_,_,_,rfl,⟨c0,_,rfl,(s2.trans (S3.trans S4)) _ _ hc0,a2_ _⟩,_,_,rfl,⟨D,_,rfl,(S3.trans S4) _ _ hDv,ow4.reps⟩,_,_,rfl,⟨c2,ws,rfl,S4 _ _ aa_,Fg_.mono (s02.trans (S3.trans S4)) _ r2⟩,rfl⟩ aa_ (S1.free hD) Dl ((S3.trans S4) _ _ hDv) ow4
theorem qA_ {x:Str}{ps:List Str}{k:Nat}{sp sp':Sp}(C:Cal P w K mg base x ps k sp)(h:∀ vs H Q E,sp' vs H Q E->sp vs H Q E):Cal P w K mg base x ps k sp':=by obtain ⟨f,fd,m,kp,b,F⟩:=C;exact ⟨f,fd,m,kp,b,F.imp h⟩
theorem pc_ (C:Cal P w K mg base "_law_copy" ["_law_net"] 1 G6_):Cal P w K mg base "_law_copy" ["_law_net"] 1 IN_ :=
 qA_ C fun vs H Q E ⟨v,N,h1,h2,h3,h4⟩=>⟨v,N,h1,h2,h3,fun pe c0 D c2 qs ls H' s r _ _ _ _ _=>h4 _ H' s r⟩
theorem op_ {i:Int}{n:Nat}(h:i.natAbs<=1000)(hn:10<=n:=by decide):i.natAbs.log2<n:=by
 by_cases h0:i.natAbs=0
 ·rw [h0,show Nat.log2 0=0 from by decide];lia
 ·exact AF_ ((Dv_ h0).mpr (BC_ h (by decide:1000<2 ^ 10))) hn
theorem pL_ (x:Int):∀ (r:List Int),inV (.int x) (r.map V.int)=decide (x∈r)
 | []=>by simp [inV]
 | y::r=>by
  have:=pL_ x r;simp only [inV,AB_,B2_,eqV] at this ⊢;rw [this];by_cases e:y=x
  ·subst e;simp
  ·have e':x≠y:=fun z=>e z.symm;simp [e,e']
theorem mp_:∀ (r:List Int),(r.map V.int).all Gd_=true
 | []=>rfl
 | _::r=>by rw [AB_,DB_,mp_ r];rfl
def nmK (c:Str)(k:Nat):Str:=c++Str.ofString (toString (k:Int))
theorem oq_:((List.range 20).map (nmK (Str.ofString "s"))).Nodup/\((List.range 20).map (nmK (Str.ofString "t"))).Nodup:=by rfl'
theorem or_ (k:Nat)(h:k<20):(Str.ofString "s").length+(Str.ofString (toString (k:Int))).length<=sizeLine/\(Str.ofString "t").length+(Str.ofString (toString (k:Int))).length<=sizeLine:=by
 have:∀ k∈List.range 20,(Str.ofString "s").length+(Str.ofString (toString (k:Int))).length<1000/\(Str.ofString "t").length+(Str.ofString (toString (k:Int))).length<1000:=by rfl'
 obtain ⟨a,b⟩:=this k (A3_.mpr h);exact ⟨AR_ (EY_ (AR_ a)),AR_ (EY_ (AR_ b))⟩
theorem jh_ {H:Hp}{c:Str}{uA:Addr}{used:List Str}{F:VK}(hc:∀ k:Nat,k<20->c.length+(Str.ofString (toString (k:Int))).length<=sizeLine)(hu:H uA=some (.lst (used.map V.str)))(kF:∀ a H',EX_ H H'->H' a=some (.lst ((((List.range 20).map (nmK c)).filter fun x=>decide (x∉used)).map V.str))->F (.ref a) H'):(-2 ^ 62<=(20:Int))/\(20:Int)<2 ^ 62/\Gw_ (Itr 0 (Int.toNat 20)) (GD_ 0) Kl_
    (tOp
     (fun x y H Q=>∃ i,x=V.str i/\∃ x,y=V.str x/\i.length+x.length<=sizeLine/\Q (V.str (i++x)) H)
     (tC (V.str c))
     (tCB (fun xs H Q=>∃ i,xs=[V.int i]/\i.natAbs.log2<1920/\Q (V.str (Str.ofString (toString i))) H)
      (Ie_ (Jb_ 0) Kr_)))
    [none] H fun x H1 =>
    ∃ a,
     x=V.ref a /\
      (∃ xs,SqL K H1 a xs) /\
       Gw_ (Itl K a) (GD_ 0) (If_ (tOp (rIn K true) (Jb_ 0) (Jb_ 1))) (Jb_ 0) [none,some (V.ref uA)]
        H1 F:=by
 refine ⟨by decide,by decide,?_⟩;refine bv_ (n:=20) (B:=fun _=>none) (Pσ:=fun σ=>∃ e,σ=[e]) (ds:=((List.range 20).map (nmK c)).map Dt.str) (fun b o e=>by cases e) ⟨_,rfl⟩ (by simp) (by decide) (fun i H' hi s'=>hi) (fun H' s'=>Af_ _) ?_ ?_
 ·rintro D i x d σ' H2 H2' hD hDo hs2 hi hdi ⟨rfl,rfl⟩ ⟨e,rfl⟩ R kR;have hd:d=Dt.str (nmK c i):=by rw [Ae_,Ae_,CB_ hi] at hdi;exact (Aq_ hdi).symm
  nofun;rw [Bw_];refine ⟨op_ (by lia),hc i hi,kR _ _ _ ⟨_,rfl⟩ (EX_.refl _) ?_⟩;rw [hd];exact rfl
 intro nA H2 nn s2 rep2;obtain ⟨_,us,e0,hnA,rus⟩:=id rep2;cases e0;rw [cj_ rus] at hnA
 replace hnA:=(a0_ hnA).2
 refine ⟨nA,rfl,⟨_,.inl (.inl hnA)⟩,?_⟩;have hu2:=s2 _ _ hu;generalize hns:(List.range 20).map (nmK c)=ns at *;have nl:ns.length=20:=by rw [<-hns];simp
 refine fS_ (n:=ns.length) (Pσ:=fun σ=>∃ e,σ=[e,some (.ref uA)]) (bs:=fun j=>decide (ns.getD j Str.empty∉used)) (val:=fun j=>V.str (ns.getD j Str.empty)) ⟨_,rfl⟩ (by lia) (fun j Hj hj sj=>⟨_,.str (ns.getD j Str.empty),.inl (.inl (sj _ _ hnA)),a3_ hj⟩) (fun Hj sj=>⟨_,.inl (.inl (sj _ _ hnA)),by simp⟩) ?_ ?_
 ·rintro D j x σ' H5 H5' hD hDo hs5 hj ⟨rfl,hy⟩ ⟨e,rfl⟩ Y R kY kR;have hx:=hy _ (.inl (.inl (hs5 _ _ hnA)));rw [a3_ hj] at hx;cases hx;nofun;refine ⟨used.map V.str,.inl (.inl (.inl (hs5 _ _ hu2))),rfl,e1_ _,?_⟩;rw [gc_];refine ite2 (fun h=>kY (AQ_ (Bm_ h)) _ _ ⟨_,rfl⟩ (EX_.refl _)) (fun h=>kR (Az_ fun z=>?_) _ _ ⟨_,rfl⟩ (EX_.refl _));exact absurd (Az_ z) h
 ·intro D H5 hD s5 hDv;rw [kX_ ns Str.empty (fun x=>decide (x∉used)) V.str] at hDv;exact kF D H5 (s2.trans s5) hDv
theorem KW_ {H:Hp}:∀ {rows:List (Str×List Str)}{qs ls:List Addr},qs.length=rows.length->ls.length=rows.length->(∀ (i:Nat) q l r,qs[i]?=some q->ls[i]?=some l->rows[i]?=some r->H q=some (.tup [.str r.1,.ref l]))->∃ kvs:List (Key×V),kvs.map (·.1)=rows.map (fun r=>Sum.inr r.1)/\(∀ (i:Nat)(q:Key×V),kvs[i]?=some q->∃ a,(qs.map V.ref)[i]?=some (.ref a)/\H a=some (.tup [kV q.1,q.2]))/\∀ (i:Nat) l r,ls[i]?=some l->rows[i]?=some r->(Sum.inr r.1,V.ref l)∈kvs
 | [],_,_,_,_,_=>⟨[],rfl,fun i q h=>(by cases h),fun i l r _ h=>(by cases h)⟩
 | r::rows,q::qs,l::ls,h1,h2,h=>by
  obtain ⟨kvs,k1,k2,k3⟩:=KW_ (rows:=rows) (qs:=qs) (ls:=ls) (Dl_ h1) (Dl_ h2) fun i q l r a b c=>h (i+1) q l r a b c;refine ⟨(Sum.inr r.1,V.ref l)::kvs,by rw [AB_,AB_,k1],fun i p hp=>?_,fun i l' r' a b=>?_⟩
  ·cases i with
   | zero=>cases hp;exact ⟨q,rfl,h 0 q l r rfl rfl rfl⟩
   | succ i=>exact k2 i p hp
  ·cases i with
   | zero=>cases a;cases b;exact At_
   | succ i=>exact An_ _ (k3 i l' r' a b)
 | _::_,[],_,h,_,_=>absurd h (by simp)
 | _::_,_::_,[],_,h,_=>absurd h (by simp)
theorem OwR.dict {H0 H:Hp}{qs ls:List Addr}{rows:List (Str×List Str)}(o:OwR H0 H qs ls rows)(nd:(rows.map (·.1)).Nodup)(few:rows.length<=16):∃ kvs:List (Key×V),(qs.map V.ref).length=kvs.length/\kvs.length<=900/\(∀ (i:Nat)(q:Key×V),kvs[i]?=some q->∃ a,(qs.map V.ref)[i]?=some (.ref a)/\H a=some (.tup [kV q.1,q.2]))/\FB_ [] kvs=kvs/\∀ (i:Nat) l r,ls[i]?=some l->rows[i]?=some r->Ft_ kvs (.inr r.1)=some (.ref l):=by
 obtain ⟨kvs,k1,k2,k3⟩:=KW_ o.ql o.ll o.q;have kl:kvs.length=rows.length:=by have:=congrArg List.length k1;simpa using this
 have knd:(kvs.map (·.1)).Nodup:=by rw [k1];unfold List.Nodup at nd ⊢;rw [Bo_] at nd ⊢;exact nd.imp fun h z=>h (Bx_ z)
 exact ⟨kvs,by rw [Ab_,o.ql,kl],by lia,k2,hI_ kvs [] (by rw [Dk_];exact knd),fun i l r a b=>jO_ knd (k3 i l r a b)⟩
theorem OwR.put {H0 H:Hp}{qs ls:List Addr}{rows:List (Str×List Str)}(o:OwR H0 H qs ls rows){j:Nat}{l:Addr}{r:Str×List Str}{ys:List Str}(hl:ls[j]?=some l)(hr:rows[j]?=some r):OwR H0 (upd H l (.lst (ys.map V.str))) qs ls (rows.set j (r.1,ys)):=by
 have hH:=o.l j l r hl hr;have jl:=(Ag_.mp hr).1;refine ⟨by rw [Bq_];exact o.ql,by rw [Bq_];exact o.ll,fun i q l' r' a b c=>?_,fun i l' r' a c=>?_,o.nd,o.new⟩
 ·obtain ⟨r2,c2,e⟩:∃ r2,rows[i]?=some r2/\r2.1=r'.1:=by
   rw [Bj_] at c;split at c
   ·rename_i e;subst e;cases c;exact ⟨r,hr,rfl⟩
   ·exact ⟨r',c,rfl⟩
  have:=o.q i q l' r2 a b c2;rw [ah_ (fun z=>by rw [z,hH] at this;cases this),this,e]
 ·rw [Bj_] at c;split at c
  ·rename_i e;subst e;cases c;rw [hl] at a;cases a;exact aa_
  ·rename_i ne;rw [ah_ fun z=>ne ((AU_ (Ag_.mp hl).1 o.nd).mp (by rw [hl,a,z]))];exact o.l i l' r' a c
theorem qB_ {rows:List (Str×List Str)}{j:Nat}{r:Str×List Str}(hr:rows[j]?=some r)(k:Nat)(x:Str):(((rows.set j (r.1,r.2.take k++x::r.2.drop k)).map (·.2)).flatten).Perm (x::(rows.map (·.2)).flatten):=by
 induction rows generalizing j with
 | nil=>cases hr
 | cons r' rows ih =>
  cases j with
  | zero =>
   cases hr;rw [CL_,AB_,AB_,AJ_,AJ_];show ((r.2.take k++x::r.2.drop k)++_).Perm (x::(r.2++_));rw [<-DU_];refine List.Perm.append_right _ ?_
   conv=>rhs;rw [<-Bb_ k r.2]
   exact C5_
  | succ j =>rw [CM_,AB_,AB_,AJ_,AJ_];exact ((ih hr).append_left r'.2).trans C5_
theorem OwR.off {H0 H:Hp}{qs ls:List Addr}{rows:List (Str×List Str)}(h:OwR H0 H qs ls rows){a:Addr}{xs:List V}{o:HO}(ha:a∉ls)(hx:H a=some (.lst xs)):OwR H0 (upd H a o) qs ls rows :=
 ⟨h.ql,h.ll,fun i q l r x b c=>by
  have:=h.q i q l r x b c;rw [ah_ fun z=>by rw [z,hx] at this;cases this];exact this,fun i l r x b=>by
  rw [ah_ (show l≠a from fun z=>ha (by rw [<-z];exact Ak_ x))];exact h.l i l r x b,h.nd,h.new⟩
abbrev E1_:Stmt:=stN 75
theorem ar_:E2_ ["_law_net", "_law_big_here", "_law_regions_here", "_law_region_here", "_law_spots", "_law_k", "_law_spot", "_law_points", "_law_used", "_law_wires", "_law_point", "_law_rows", "_law_by_name", "_law_place", "_law_name", "_law_worths", "_law_worth"] ["_law_net", "_law_big_here"] (EW_ E1_):=⟨rfl,rfl,rfl,by rfl',rfl,by rfl',by rfl'⟩
theorem aS_:LK E1_ "_law_net" .local:=by rfl'
theorem ba_:LK E1_ "_law_big_here" .local:=by rfl'
theorem b4_:LK E1_ "_law_regions_here" .local:=by rfl'
theorem cG_:LK E1_ "_law_region_here" .cell:=by rfl'
theorem cH_:LK E1_ "_law_spots" .cell:=by rfl'
theorem bq_:LK E1_ "_law_k" .local:=by rfl'
theorem gp_:LK E1_ "_law_spot" .local:=by rfl'
theorem jZ_:LK E1_ "_law_points" .cell:=by rfl'
theorem j0_:LK E1_ "_law_used" .cell:=by rfl'
theorem bA_:LK E1_ "_law_wires" .local:=by rfl'
theorem fi_:LK E1_ "_law_point" .local:=by rfl'
theorem cl_:LK E1_ "_law_rows" .local:=by rfl'
theorem fj_:LK E1_ "_law_by_name" .local:=by rfl'
theorem fk_:LK E1_ "_law_place" .local:=by rfl'
theorem fl_:LK E1_ "_law_name" .local:=by rfl'
theorem dp_:LK E1_ "_law_worths" .local:=by rfl'
theorem fm_:LK E1_ "_law_worth" .local:=by rfl'
theorem gV_:LK E1_ "_law_copy" .globalImplicit:=by rfl'
theorem e8_:LK E1_ "_law_regions" .globalImplicit:=by rfl'
theorem eO_:LK E1_ "_law_worth_of" .globalImplicit:=by rfl'
theorem hs_:LK E1_ "dict" .globalImplicit:=by rfl'
theorem aU_:LK E1_ "len" .globalImplicit:=by rfl'
theorem ht_:LK E1_ "list" .globalImplicit:=by rfl'
theorem aZ_:LK E1_ "range" .globalImplicit:=by rfl'
theorem b5_:LK E1_ "sorted" .globalImplicit:=by rfl'
def GZ_:Sp:=fun vs H Q _=>∃ (v:V)(N:Net Str)(z:Int),vs=[v,.int z]/\Rep H v (Go_ N)/\Nk N/\Fv_ N/\∀ v' N' H',EX_ H H'->Rep H' v' (Go_ N')->Nk N'->Q v' H'
theorem lN_ (T:Txt K mg)(F:Fn0 K mg "_law_starred" E1_) (Io_:Cal P w K mg base "_law_regions" ["_law_net"] 3 Ia_) (Gv_:Cal P w K mg base "_law_copy" ["_law_net"] 1 G6_) (Gf_:Cal P w K mg base "_law_worth_of" ["_law_big_here"] 2 G5_):Cal P w K mg base "_law_starred" ["_law_net", "_law_big_here"] 5 GZ_:=by
 refine aR_ F ar_ (fun _ _ _ _ _ _=>byL2 fun _ _=>rfl) ?len ?body
 case len=>rintro vs H Q E ⟨a,b,c,rfl,_⟩;rfl
 case body =>
  intro f cdv A outer s H vs Q E hr h;obtain ⟨v,N,z,rfl,hv,nk,po,k⟩:=h;obtain ⟨pn,p0,p1,p2,rs,ws,rfl,hn,h0,h1,r1,h2,r2⟩:=bC_ hv;refine' ⟨_,?D,?R⟩
  case D =>
   refine' ad_ ?g1 (ad_ ?g18 (ad_ (de_ (i:=3) ar_.nd rfl cG_ rfl (E0_ ao_ (pv1 2 rfl b4_) (EZ_ aK_ (pv1 1 rfl ba_) (an_ ap_ aU_ T.n_len aL_ (pa_c (pv1 2 rfl b4_) ab_))) (fun _ _=>rfl)) rfl) ?g56))
   case' g1=>refine' gv_ (i:=2) (N':=["_law_region_here"]) (ix:=[none]) rfl rfl ar_.nd rfl b4_ rfl (a6_ ?g3) (ay_ (K:=K) rfl (al_ Io_ (hr.mono (by decide)) e8_ (pa_c (pv1 0 rfl aS_) ab_))) (fun _ _ _=>?g5) (fun _ _ _=>(ec_ (aq_ HR_ (an_ ap_ rfl T.n_len aL_ (pa_c (pv1 0 rfl rfl) ab_)) ac_ (E9_ _)))) (fun _ _ _=>(pv1 0 rfl rfl))
   case g3=>exact (by show Ge_ (EW_ E1_) ["_law_net", "_law_big_here", "_law_regions_here", "_law_region_here", "_law_spots", "_law_k", "_law_spot", "_law_points", "_law_used", "_law_wires", "_law_point", "_law_rows", "_law_by_name", "_law_place", "_law_name", "_law_worths", "_law_worth"] _ _ _=true;decide +kernel)
   case g5=>exact ae_ (i:=0) (by show List.Nodup (["_law_region_here"]:List Str);decide +kernel) rfl rfl
   case' g18=>refine' Fx_ (PW.pt (Hx_ (aq_ (pq_ (hr.units)) (pv1 2 rfl b4_) (a5_ ab_) (E9_ _)) ?g25)) (ag_ (au_ (pv1 0 rfl aS_))) aB_
   case' g25=>refine' Hx_ (aq_ HR_ (an_ ap_ aU_ T.n_len aL_ (pa_c (E0_ am_ (pv1 0 rfl aS_) ac_ (fun _ _=>rfl)) ab_)) ac_ (E9_ _)) (iT_ ?g38)
   case' g38=>refine' aq_ HR_ (EZ_ gX_ (an_ ap_ aU_ T.n_len aL_ (pa_c (E0_ am_ (pv1 0 rfl aS_) ac_ (fun _ _=>rfl)) ab_)) (an_ ap_ aU_ T.n_len aL_ (pa_c (E0_ am_ (pv1 0 rfl aS_) ac_ (fun _ _=>rfl)) ab_))) ac_ (E9_ _)
   case' g56=>refine' ad_ (aj_ (i:=1) ar_.nd rfl ba_ (EZ_ av_ (pv1 1 rfl ba_) (an_ ap_ aU_ T.n_len aL_ (pa_c (pv1 2 rfl b4_) ab_)))) (ad_ (de_ (i:=4) ar_.nd rfl cH_ rfl (a5_ ab_) rfl) ?g74)
   case' g74=>refine' ad_ (aV_ Au_ rfl (aE_ aZ_ T.n_range (pa_c ac_ ab_)) ?g80 ?g81) (ad_ (de_ (i:=4) ar_.nd rfl cH_ rfl (an_ iZ_ b5_ T.n_sorted dr_ (pa_c (pvc 4 rfl cH_) ab_)) rfl) ?g128)
   case g80=>exact ae_ (i:=5) ar_.nd rfl bq_
   case' g81=>refine' ad_ (aj_ (i:=6) ar_.nd rfl gp_ (EZ_ aK_ (pv1 1 rfl ba_) (EZ_ gX_ (an_ ap_ aU_ T.n_len aL_ (pa_c (pvc 3 rfl cG_) ab_)) (pv1 5 rfl bq_)))) ?g86
   case' g86=>refine' ad_ ?g95 (ag_ (aI_ (FQ_ Aw_ AK_ AL_ aT_ (pvc 4 rfl cH_) (pa_c ?g109 ab_))))
   case' g95=>refine' aj_ (i:=1) ar_.nd rfl ba_ (EZ_ av_ (pv1 1 rfl ba_) (EZ_ gX_ (an_ ap_ aU_ T.n_len aL_ (pa_c (pvc 3 rfl cG_) ab_)) (pv1 5 rfl bq_)))
   case' g109=>refine' E0_ ao_ (bd_ (N':=["_law_j", "_law_spots"]) (ix:=[none,some 4]) rfl rfl (a6_ ?g113) (aE_ aZ_ T.n_range (pa_c (an_ ap_ aU_ T.n_len aL_ (pa_c (pvc 3 rfl cG_) ab_)) ab_)) (fun _ _ _=>?g115) (fun _ _ _=>(ec_ (aq_ (bZ_ (K:=K) rfl) (pv1 0 rfl rfl) (pvc 1 rfl rfl) (by with_unfolding_all rfl)))) (fun _ _ _=>(pv1 0 rfl rfl))) (pv1 6 rfl gp_) (fun _ _=>rfl)
   case g113=>exact (by show Ge_ (EW_ E1_) ["_law_net", "_law_big_here", "_law_regions_here", "_law_region_here", "_law_spots", "_law_k", "_law_spot", "_law_points", "_law_used", "_law_wires", "_law_point", "_law_rows", "_law_by_name", "_law_place", "_law_name", "_law_worths", "_law_worth"] _ _ _=true;decide +kernel)
   case g115=>exact ae_ (i:=0) (by show List.Nodup (["_law_j", "_law_spots"]:List Str);decide +kernel) rfl rfl
   case' g128=>refine' ad_ (de_ (i:=7) ar_.nd rfl jZ_ rfl (bd_ (N':=["_law_point", "_law_wires"]) (ix:=[none,none]) rfl rfl (a6_ ?g136) (ay_ (K:=K) rfl (E0_ am_ (pv1 0 rfl aS_) ac_ (fun _ _=>rfl))) (fun _ _ _=>(aJ_ (K:=K) (n:=2) rfl rfl (ak_ ?g145 (ak_ ?g147 aC_)))) (fun _ _ _=>?g139) (fun _ _ _=>(pv1 0 rfl rfl))) rfl) ?g134
   case g136=>exact (by show Ge_ (EW_ E1_) ["_law_net", "_law_big_here", "_law_regions_here", "_law_region_here", "_law_spots", "_law_k", "_law_spot", "_law_points", "_law_used", "_law_wires", "_law_point", "_law_rows", "_law_by_name", "_law_place", "_law_name", "_law_worths", "_law_worth"] _ _ _=true;decide +kernel)
   case g145=>exact ae_ (i:=0) (by show List.Nodup (["_law_point", "_law_wires"]:List Str);decide +kernel) rfl rfl
   case g147=>exact ae_ (i:=1) (by show List.Nodup (["_law_point", "_law_wires"]:List Str);decide +kernel) rfl rfl
   case g139=>exact cn_
   case' g134=>refine' ad_ (de_ (i:=8) ar_.nd rfl j0_ rfl (bd_ (N':=["_law_wire", "_law_worth"]) (ix:=[none,none]) rfl rfl (a6_ ?g152) (ay_ (K:=K) rfl (E0_ am_ (pv1 0 rfl aS_) ac_ (fun _ _=>rfl))) (fun _ _ _=>(aJ_ (K:=K) (n:=2) rfl rfl (ak_ ?g161 (ak_ ?g163 aC_)))) (fun _ _ _=>?g155) (fun _ _ _=>(pv1 0 rfl rfl))) rfl) ?g150
   case g152=>exact (by show Ge_ (EW_ E1_) ["_law_net", "_law_big_here", "_law_regions_here", "_law_region_here", "_law_spots", "_law_k", "_law_spot", "_law_points", "_law_used", "_law_wires", "_law_point", "_law_rows", "_law_by_name", "_law_place", "_law_name", "_law_worths", "_law_worth"] _ _ _=true;decide +kernel)
   case g161=>exact ae_ (i:=0) (by show List.Nodup (["_law_wire", "_law_worth"]:List Str);decide +kernel) rfl rfl
   case g163=>exact ae_ (i:=1) (by show List.Nodup (["_law_wire", "_law_worth"]:List Str);decide +kernel) rfl rfl
   case g155=>exact cn_
   case' g150=>refine' ad_ (aj_ (i:=9) ar_.nd rfl bA_ (eQ_ hx_ (bd_ (N':=["_law_wire", "_law_used"]) (ix:=[none,some 8]) rfl rfl (a6_ ?g171) ?g172 (fun _ _ _=>?g173) (fun _ _ _=>(ec_ (aq_ (bZ_ (K:=K) rfl) (pv1 0 rfl rfl) (pvc 1 rfl rfl) (by with_unfolding_all rfl)))) (fun _ _ _=>(pv1 0 rfl rfl))) ?g169 (gs_ ac_))) ?g166
   case g171=>exact (by show Ge_ (EW_ E1_) ["_law_net", "_law_big_here", "_law_regions_here", "_law_region_here", "_law_spots", "_law_k", "_law_spot", "_law_points", "_law_used", "_law_wires", "_law_point", "_law_rows", "_law_by_name", "_law_place", "_law_name", "_law_worths", "_law_worth"] _ _ _=true;decide +kernel)
   case' g172=>refine' ay_ (K:=K) rfl (bd_ (N':=["_law_k"]) (ix:=[none]) rfl rfl (a6_ ?g177) (aE_ aZ_ T.n_range (pa_c ac_ ab_)) (fun _ _ _=>?g179) (fun _ _ _=>?g180) (fun _ _ _=>(EZ_ cI_ cm_ (aX_ gY_ rfl T.n_str pp_ (pa_c (pv1 0 rfl rfl) ab_)))))
   case g177=>exact (by show Ge_ (EW_ E1_) ["_law_net", "_law_big_here", "_law_regions_here", "_law_region_here", "_law_spots", "_law_k", "_law_spot", "_law_points", "_law_used", "_law_wires", "_law_point", "_law_rows", "_law_by_name", "_law_place", "_law_name", "_law_worths", "_law_worth"] _ _ _=true;decide +kernel)
   case g179=>exact ae_ (i:=0) (by show List.Nodup (["_law_k"]:List Str);decide +kernel) rfl rfl
   case g180=>exact cn_
   case g173=>exact ae_ (i:=0) (by show List.Nodup (["_law_wire", "_law_used"]:List Str);decide +kernel) rfl rfl
   case g169=>exact gr_
   case' g166=>refine' ad_ (aj_ (i:=10) ar_.nd rfl fi_ (E0_ ao_ (bd_ (N':=["_law_name", "_law_points"]) (ix:=[none,some 7]) rfl rfl (a6_ ?g199) ?g200 (fun _ _ _=>?g201) (fun _ _ _=>(ec_ (aq_ (bZ_ (K:=K) rfl) (pv1 0 rfl rfl) (pvc 1 rfl rfl) (by with_unfolding_all rfl)))) (fun _ _ _=>(pv1 0 rfl rfl))) ac_ (fun _ _=>rfl))) ?g195
   case g199=>exact (by show Ge_ (EW_ E1_) ["_law_net", "_law_big_here", "_law_regions_here", "_law_region_here", "_law_spots", "_law_k", "_law_spot", "_law_points", "_law_used", "_law_wires", "_law_point", "_law_rows", "_law_by_name", "_law_place", "_law_name", "_law_worths", "_law_worth"] _ _ _=true;decide +kernel)
   case' g200=>refine' ay_ (K:=K) rfl (bd_ (N':=["_law_k"]) (ix:=[none]) rfl rfl (a6_ ?g205) (aE_ aZ_ T.n_range (pa_c ac_ ab_)) (fun _ _ _=>?g207) (fun _ _ _=>?g208) (fun _ _ _=>(EZ_ cI_ cm_ (aX_ gY_ rfl T.n_str pp_ (pa_c (pv1 0 rfl rfl) ab_)))))
   case g205=>exact (by show Ge_ (EW_ E1_) ["_law_net", "_law_big_here", "_law_regions_here", "_law_region_here", "_law_spots", "_law_k", "_law_spot", "_law_points", "_law_used", "_law_wires", "_law_point", "_law_rows", "_law_by_name", "_law_place", "_law_name", "_law_worths", "_law_worth"] _ _ _=true;decide +kernel)
   case g207=>exact ae_ (i:=0) (by show List.Nodup (["_law_k"]:List Str);decide +kernel) rfl rfl
   case g208=>exact cn_
   case g201=>exact ae_ (i:=0) (by show List.Nodup (["_law_name", "_law_points"]:List Str);decide +kernel) rfl rfl
   case' g195=>refine' ad_ (aj_ (i:=11) ar_.nd rfl cl_ (E0_ am_ (al_ Gv_ (hr.mono (by decide)) gV_ (pa_c (pv1 0 rfl aS_) ab_)) ac_ (fun _ _=>rfl))) ?g222
   case' g222=>refine' ad_ (aj_ (i:=12) ar_.nd rfl fj_ (aX_ (eW_ rfl) hs_ T.n_dict jN_ (pa_c (pv1 11 rfl cl_) ab_))) ?g230
   case' g230=>refine' ad_ ?g235 (ad_ (aj_ (i:=15) ar_.nd rfl dp_ (a5_ ab_)) (ad_ (aV_ Au_ rfl (aE_ aZ_ T.n_range (pa_c ac_ ab_)) ?g297 ?g298) ?g295))
   case' g235=>refine' aV_ Au_ rfl (ay_ (K:=K) rfl (oY_ hr.units b5_ T.n_sorted (pa_c ?g242 ab_))) (aJ_ (K:=K) (n:=3) rfl rfl (ak_ ?g272 (ak_ ?g274 (ak_ ?g276 aC_)))) ?g239
   case' g242=>refine' bd_ (N':=["_law_k", "_law_region_here", "_law_spots"]) (ix:=[none,some 3,some 4]) rfl rfl (a6_ ?g244) (aE_ aZ_ T.n_range (pa_c ac_ ab_)) (fun _ _ _=>?g246) (fun _ _ _=>?g247) (fun _ _ _=>(ax_ (pa_c (E0_ am_ (E0_ ao_ (pvc 1 rfl rfl) (E0_ ao_ (pvc 2 rfl rfl) (pv1 0 rfl rfl) (fun _ _=>rfl)) (fun _ _=>rfl)) ac_ (fun _ _=>rfl)) ?g254)))
   case g244=>exact (by show Ge_ (EW_ E1_) ["_law_net", "_law_big_here", "_law_regions_here", "_law_region_here", "_law_spots", "_law_k", "_law_spot", "_law_points", "_law_used", "_law_wires", "_law_point", "_law_rows", "_law_by_name", "_law_place", "_law_name", "_law_worths", "_law_worth"] _ _ _=true;decide +kernel)
   case g246=>exact ae_ (i:=0) (by show List.Nodup (["_law_k", "_law_region_here", "_law_spots"]:List Str);decide +kernel) rfl rfl
   case g247=>exact cn_
   case' g254=>refine' pa_c (E0_ am_ (E0_ ao_ (pvc 1 rfl rfl) (E0_ ao_ (pvc 2 rfl rfl) (pv1 0 rfl rfl) (fun _ _=>rfl)) (fun _ _=>rfl)) ac_ (fun _ _=>rfl)) (pa_c (pv1 0 rfl rfl) ab_)
   case g272=>exact ae_ (i:=13) ar_.nd rfl fk_
   case g274=>exact ae_ (i:=14) ar_.nd rfl fl_
   case g276=>exact ae_ (i:=5) ar_.nd rfl bq_
   case' g239=>refine' ag_ (aI_ (FQ_ Aw_ CO_ CP_ hS_ (bU_ (un1 hr.units) (pv1 12 rfl fj_) (pv1 14 rfl fl_) (fun _ _=>rfl)) (pa_c (pv1 13 rfl fk_) (pa_c (E0_ ao_ (pv1 9 rfl bA_) (pv1 5 rfl bq_) (fun _ _=>rfl)) ab_))))
   case g297=>exact ae_ (i:=5) ar_.nd rfl bq_
   case' g298=>refine' ad_ (fM_ (al_ Gf_ (hr.mono (by decide)) eO_ (pa_c (pv1 1 rfl ba_) ab_)) (aJ_ (K:=K) (n:=2) rfl rfl (ak_ ?g310 (ak_ ?g312 aC_)))) ?g303
   case g310=>exact ae_ (i:=16) ar_.nd rfl fm_
   case g312=>exact ae_ (i:=1) ar_.nd rfl ba_
   case' g303=>refine' ag_ (aI_ (FQ_ Aw_ AK_ AL_ aT_ (pv1 15 rfl dp_) (pa_c (ax_ (pa_c (E0_ ao_ (pv1 9 rfl bA_) (pv1 5 rfl bq_) (fun _ _=>rfl)) (pa_c (pv1 16 rfl fm_) ab_))) ab_)))
   case' g295=>refine' ad_ (aI_ (FQ_ Aw_ AK_ AL_ aT_ (pv1 11 rfl cl_) (pa_c (ax_ (pa_c (pv1 10 rfl fi_) ?g336)) ab_))) ?g328
   case' g336=>refine' pa_c (a5_ (pa_c (E0_ ao_ (pv1 9 rfl bA_) ac_ (fun _ _=>rfl)) (pa_c (E0_ ao_ (pv1 9 rfl bA_) ac_ (fun _ _=>rfl)) (pa_c (E0_ ao_ (pv1 9 rfl bA_) ac_ (fun _ _=>rfl)) ab_)))) ab_
   case' g328=>refine' ag_ (au_ (ax_ (pa_c (aX_ bL_ ht_ T.n_list dc_ (pa_c (E0_ am_ (pv1 0 rfl aS_) ac_ (fun _ _=>rfl)) ab_)) ?g356)))
   case' g356=>refine' pa_c (pv1 11 rfl cl_) (pa_c (an_ (gC_ hr.units) b5_ T.n_sorted dr_ (pa_c (EZ_ iU_ (E0_ am_ (pv1 0 rfl aS_) ac_ (fun _ _=>rfl)) (pv1 15 rfl dp_)) ab_)) ab_)
  case R =>
   nofun;refine ⟨_,N,rfl,hv,nk.ok,po,fun D H1 s1 repD=>?_⟩;generalize hregs:fdF (trn N) (Pn N) (GW_ N)=regs at repD;obtain ⟨_,us,e0,hD,rus⟩:=repD;cases e0;have ul:us.length=regs.length:=by rw [rus.length,Ab_]
   have o100:(GW_ N).length<=100:=by have:=(e3_ nk.ok).1;rw [d6_ po,Ab_] at this;exact this
   have r900:regs.length<=100:=by rw [<-hregs];exact Ay_ (nT_ _ _ _ _ rfl) o100
   have rf:∀ rg∈regs,rg.length<=100/\∀ c∈rg,∃ r∈N.rows,(ph N c).1=r.1/\c.2<=r.2.length:=fun rg h=>by rw [<-hregs] at h;obtain ⟨a,b⟩:=nU_ (d0:=Str.empty) nk.ok po h;exact ⟨Ay_ a o100,b⟩
   refine ⟨D,rfl,⟨_,.inl (.inl hD)⟩,?_⟩;refine eo_ (n:=us.length) (B:=fun _=>none) (Pσ:=fun σ=>∃ e,σ=[e]) (bs:=fun j=>decide (2<(regs.getD j []).length)) (val:=fun j=>dRg N (regs.getD j [])) (fun b o e=>by cases e) ⟨_,rfl⟩ (by lia) (fun j Hj hj sj=>⟨us,us[j],.inl (.inl (sj _ _ hD)),Aa_ _⟩) (fun Hj sj=>⟨us,.inl (.inl (sj _ _ hD)),Af_ _⟩) ?_ ?_
   ·rintro D2 j y σ' Z Z' hD2 hDo sz hj ⟨rfl,hyj⟩ ⟨e,rfl⟩ Y R kY kR;obtain ⟨od,hDo⟩:=hDo;have hx:=hyj _ (.inl (.inl (sz _ _ hD)));obtain ⟨dd,hdd,hrep⟩:=rus.of_get hx;have hj':j<regs.length:=by lia
    rw [Ae_,Aa_ hj'] at hdd;cases hdd;have gj:regs.getD j []=regs[j]:=by rw [Ac_,Aa_ hj'];rfl
    have hrep':=Rep.mono sz _ hrep;obtain ⟨p,ps,rfl,hp,hps⟩:=hrep;nofun;refine ⟨_,.inl (sz _ _ hp),?_⟩;rw [hps.length,Ab_,Ab_];refine ite2 (fun c=>kY (AQ_ (by rw [gj];lia)) _ _ _ ⟨_,rfl⟩ (EX_.refl _) ?_) (fun c=>kR (Az_ (by rw [gj];lia)) _ _ ⟨_,rfl⟩ (EX_.refl _));rw [gj];exact Rep.mono (pY_ sz hD2) _ ⟨p,ps,rfl,hp,hps⟩
   ·intro D2 H2 hD2 s2 rep2;rw [ul,kX_ regs [] (fun r=>decide (2<r.length)) (dRg N)] at rep2
    replace rep2:=Rep.mono be_ _ rep2
    have gf:∀ rg∈regs.filter (fun r=>decide (2<r.length)),2<rg.length/\rg.length<=100/\∀ c∈rg,∃ r∈N.rows,(ph N c).1=r.1/\c.2<=r.2.length:=fun rg h=>by obtain ⟨a,b⟩:=A9_.mp h;exact ⟨AG_ b,(rf rg a).1,(rf rg a).2⟩
    have gl:(regs.filter (fun r=>decide (2<r.length))).length<=100:=Ay_ (Bp_ _ _) r900;generalize regs.filter (fun r=>decide (2<r.length))=gs at *;clear rus hD rf r900 ul hregs regs us
    replace s2:=s1.trans s2
    clear s1 hD2 H1;nofun;refine ⟨AA_ _,fun p np=>?_⟩;have s3:=EX_.new np (o:=HO.lst []);have repp:Rep (upd H2 p (HO.lst [])) (.ref p) (.lst []):=⟨p,[],rfl,aa_,rfl⟩;generalize upd H2 p (HO.lst [])=H3 at *
    replace rep2:=Rep.mono s3 _ rep2
    replace s3:=s2.trans s3
    clear s2 np;refine ⟨_,rep2,_,repp,decide (gs=[]),?_,Ay_ (BL_ (fA_ (n:=50) (fun rg=>?_) gs)) (by decide),ite2 (fun _=>k _ N _ s3 (Rep.mono s3 _ hv) nk) (fun hgs=>?_)⟩
    ·cases gs with
     | nil=>simp [deq,deqs]
     | cons a l=>simp [deq,deqs]
    ·exact Ay_ (BL_ (fA_ rc_ _)) (by decide)
    have wl:ws.length=N.worths.length:=by rw [r2.length,Ab_]
    have rl:rs.length=N.rows.length:=by rw [r1.length,Ab_]
    refine ⟨_,s3 _ _ hn,_,Gi_,p2,rfl,_,.inl (s3 _ _ h2),ite2 (fun _=>k _ N _ s3 (Rep.mono s3 _ hv) nk) (fun h12=>?_)⟩;refine ⟨_,s3 _ _ hn,_,Fw_,p1,rfl,_,.inl (s3 _ _ h1),_,s3 _ _ hn,_,FC_,p0,rfl,_,.inl (s3 _ _ h0),?_⟩;rw [Ab_];refine ite2 (fun _=>k _ N _ s3 (Rep.mono s3 _ hv) nk) (fun h8=>?_);have gn:gs≠[]:=by simpa using hgs
    have w12:N.worths.length<=12:=by lia
    have r14:N.rows.length<=14:=by have:=nk.ok.pl;lia
    clear h8 h12 hgs
    try nofun
    obtain ⟨_,ys,e0,hD2,rys⟩:=rep2;cases e0;have yl:ys.length=gs.length:=by rw [rys.length,Ab_]
    have g0:=BP_.mpr gn;obtain ⟨m,hm⟩:∃ m:Nat,z%(ys.length:Int)=m:=⟨(z%(ys.length:Int)).toNat,(Int.toNat_of_nonneg (AS_ _ (by lia))).symm⟩;have ml:m<gs.length:=by have:=AN_ z (show (0:Int)<ys.length by lia);lia
    obtain ⟨x,hx,rx⟩:=rys.get (i:=m) (d:=dRg N gs[m]) (by rw [Ae_,Aa_ ml];rfl);obtain ⟨g3,g100,gc⟩:=gf gs[m] (A1_ ml);refine ⟨_,.inl hD2,by lia,_,hD2,x,by rw [hm];exact le_ hx,?_⟩;generalize gs[m]=rg at *;obtain ⟨pr,rv,rfl,hpr,rrv⟩:=rx;have rvl:rv.length=rg.length:=by rw [rrv.length,Ab_,Ab_]
    nofun;refine ⟨_,.inl hD2,by lia,?_⟩;refine ⟨op_ (by lia),?_⟩;generalize z/(ys.length:Int)=z2;clear hm hx yl rys hD2 gf gl g0 gn ml repp gs;nofun;refine ⟨AA_ _,fun sp nsp=>?_⟩;have s4:=EX_.new nsp (o:=HO.lst []);have hsp:=aa_ (H:=H3) (a:=sp) (o:=HO.lst []);generalize upd H3 sp (HO.lst [])=H4 at *;nofun;refine ⟨by decide,by decide,?_⟩;refine br_ (fun i σ H'=>∃ (z:Int)(e5 e6:Option V)(ss:List Int),σ=[some (.ref pn),some (.int z),some (.ref D2),some (.ref pr),some (.ref sp),e5,e6,none,none,none,none,none,none,none,none,none,none]/\EX_ H3 H'/\H' sp=some (.lst (ss.map V.int))/\ss.length=i/\∀ s∈ss,0<=s/\s<rg.length) ⟨_,_,_,[],rfl,s4,hsp,rfl,fun s h=>absurd h A8_⟩ ?_ ?_
    ·clear s4 hsp H4;rintro i σ H4 hi kc kb hkc hkb G hG ⟨z,e5,e6,ss,rfl,s4,hsp,sl,sb⟩;refine hG ?_;nofun;rw [Bw_];have hi3:i<3:=hi;refine ⟨_,.inl (s4 _ _ hpr),by lia,?_⟩;rw [rvl];have m0:0<=z%((rg.length:Int)-i):=AS_ _ (by lia);have m1:z%((rg.length:Int)-i)<(rg.length:Int)-i:=AN_ _ (by lia);generalize z%((rg.length:Int)-i)=m at *;nofun;refine ⟨_,.inl (s4 _ _ hpr),by rw [rvl];lia,op_ (by rw [rvl];lia),?_⟩;rw [rvl];generalize z/((rg.length:Int)-i)=z3;nofun;have hpr4:=s4 _ _ hpr;refine ⟨.inl ⟨_,.inl (.inl hsp)⟩,_,.inl hpr4,by rw [rvl];lia,by rw [rvl];lia,?_⟩;rw [rvl,AC_];refine fS_ (n:=rg.length) (Pσ:=fun σ=>∃ e,σ=[e,some (.ref sp)]) (bs:=fun j=>decide ((j:Int)∉ss)) (val:=fun j=>V.int j) ⟨_,rfl⟩ (by lia) (fun j Hj hj sj=>hj) (fun Hj sj=>Af_ _) ?_ ?_
     ·rintro D j x σ' H5 H5' hD hDo hs5 hj ⟨rfl,rfl⟩ ⟨e,rfl⟩ Y R kY kR;nofun;refine ⟨ss.map V.int,.inl (.inl (.inl (hs5 _ _ hsp))),rfl,mp_ _,?_⟩;rw [Bw_,pL_];refine ite2 (fun h=>kY (AQ_ (Bm_ h)) _ _ ⟨_,rfl⟩ (EX_.refl _)) (fun h=>kR (Az_ fun z=>?_) _ _ ⟨_,rfl⟩ (EX_.refl _));exact absurd (Az_ z) h
     ·intro D H5 hD s5 hDv
      have fl:rg.length<=((List.range rg.length).filter fun j:Nat=>decide ((j:Int)∉ss)).length+ss.length:=by
       have nd:((List.range rg.length).map fun j:Nat=>(j:Int)).Nodup:=by unfold List.Nodup;rw [Bo_];exact List.nodup_range.imp fun h z=>h (Int.ofNat_inj.mp z)
       have:=hE_ nd ss;rw [Ck_,Ab_,Ab_,Ba_] at this;exact this
      have bd:∀ j∈(List.range rg.length).filter (fun j:Nat=>decide ((j:Int)∉ss)),j<rg.length:=fun j hj=>A3_.mp (A9_.mp hj).1;generalize (List.range rg.length).filter (fun j:Nat=>decide ((j:Int)∉ss))=fs at *;have mt:m.toNat<fs.length:=by lia
      refine ⟨D,rfl,_,hDv,.int (fs[m.toNat]:Nat),c0_ m0 (by rw [Ae_,Aa_ mt];rfl),_,s5 _ _ hsp,EY_ (by rw [Ab_];lia),hkc _ _ ⟨_,_,_,ss++[((fs[m.toNat]:Nat):Int)],rfl,aM_ (s4.trans s5) nsp,by rw [aa_,Ap_];rfl,by rw [Ah_,sl];rfl,fun s hs=>?_⟩⟩
      rcases Ax_.mp hs with hs|hs
      ·exact sb s hs
      ·rw [Ai_.mp hs];have:=bd _ (A1_ mt);lia
    ·clear s4 hsp H4;rintro σ H4 ⟨z,e5,e6,ss,rfl,s4,hsp,sl,sb⟩
     try nofun
     refine ⟨sp,ss,rfl,hsp,by lia,fun sq zs nsq pm _=>?_⟩;have sb':∀ s∈zs,0<=s/\s<rg.length:=fun s h=>sb s (pm.mem_iff.mp h);have zl:zs.length=3:=by rw [pm.length_eq];exact sl
     have s5:=EX_.new nsq (o:=HO.lst (zs.map V.int));have hsq:=aa_ (H:=H4) (a:=sq) (o:=HO.lst (zs.map V.int));generalize upd H4 sq (HO.lst (zs.map V.int))=H5 at *
     replace s5:=s4.trans s5
     clear nsq pm sb sl hsp s4 ss H4 nsp sp
     obtain ⟨a0,a1,a2,rfl⟩:∃ a b c,zs=[a,b,c]:=by
      match zs,zl with
      | [a,b,c],_=>exact ⟨a,b,c,rfl⟩
     nofun
     replace hpr:=s5 _ _ hpr
     replace rrv:=Fg_.mono s5 _ rrv
     replace s5:=s3.trans s5
     clear s3 H3;have h15:=s5 _ _ h1;refine ⟨_,s5 _ _ hn,_,Fw_,p1,rfl,⟨_,.inl (.inl h15)⟩,?_⟩;refine bv_ (n:=N.rows.length) (B:=fun _=>none) (Pσ:=fun σ=>∃ e e',σ=[e,e']) (ds:=(N.rows.map (·.1)).map Dt.str) (fun b o e=>by cases e) ⟨_,_,rfl⟩ (by simp) (by lia) (fun i H' hi s'=>⟨rs,rs[i]'(by lia),.inl (.inl (s' _ _ h15)),Aa_ _⟩) (fun H' s'=>⟨rs,.inl (.inl (s' _ _ h15)),by lia⟩) ?_ ?_
     ·rintro D i x d σ' H2 H2' hD hDo hs2 hi hdi ⟨rfl,hy⟩ ⟨e,e',rfl⟩ R kR;have hx:=hy _ (.inl (.inl (hs2 _ _ h15)));obtain ⟨r,q,l,hr1,rfl,hq,hl⟩:=bm_ r1 hx;have hd:d=Dt.str r.1:=by rw [Ae_,Ae_,hr1] at hdi;exact (Aq_ hdi).symm
      nofun;refine ⟨_,SqT.of (hs2 _ _ (s5 _ _ hq)),rfl,_,_,rfl,_,_,rfl,rfl,kR _ _ _ ⟨_,_,rfl⟩ (EX_.refl _) ?_⟩;rw [hd];exact rfl
     ·intro ptA H6 nn s6 rep6;clear nn;obtain ⟨_,us,e0,hpt,hus⟩:=id rep6;cases e0;rw [cj_ hus] at hpt
      replace hpt:=(a0_ hpt).2
      clear hus rep6 us
      replace hsq:=s6 _ _ hsq
      replace hpr:=s6 _ _ hpr
      replace rrv:=Fg_.mono s6 _ rrv
      replace s6:=s5.trans s6
      clear h15 s5 H5;nofun;have h26:=s6 _ _ h2;refine ⟨_,s6 _ _ hn,_,Gi_,p2,rfl,⟨_,.inl (.inl h26)⟩,?_⟩;refine bv_ (n:=N.worths.length) (B:=fun _=>none) (Pσ:=fun σ=>∃ e e',σ=[e,e']) (ds:=(N.worths.map (·.1)).map Dt.str) (fun b o e=>by cases e) ⟨_,_,rfl⟩ (by simp) (by lia) (fun i H' hi s'=>⟨ws,ws[i]'(by lia),.inl (.inl (s' _ _ h26)),Aa_ _⟩) (fun H' s'=>⟨ws,.inl (.inl (s' _ _ h26)),by lia⟩) ?_ ?_
      ·rintro D i x d σ' H2 H2' hD hDo hs2 hi hdi ⟨rfl,hy⟩ ⟨e,e',rfl⟩ R kR;obtain ⟨r,q,u,er,rfl,hq,hu⟩:=ir_ r2 (hy _ (.inl (.inl (hs2 _ _ h26))));have hd:d=Dt.str r.1:=by rw [Ae_,Ae_,er] at hdi;exact (Aq_ hdi).symm
       nofun;refine ⟨_,SqT.of (hs2 _ _ (s6 _ _ hq)),rfl,_,_,rfl,_,_,rfl,rfl,kR _ _ _ ⟨_,_,rfl⟩ (EX_.refl _) ?_⟩;rw [hd];exact rfl
      intro usA H7 nn s7 rep7;clear nn;obtain ⟨_,us,e0,hus,rus⟩:=id rep7;cases e0;rw [cj_ rus] at hus
      replace hus:=(a0_ hus).2
      clear rus rep7 us
      replace hpt:=s7 _ _ hpt
      replace hsq:=s7 _ _ hsq
      replace hpr:=s7 _ _ hpr
      replace rrv:=Fg_.mono s7 _ rrv
      replace s7:=s6.trans s7
      clear h26 s6 H6;nofun;refine jh_ (fun k hk=>(or_ k hk).1) hus fun a H8 s8 ha=>⟨a,rfl,_,ha,fun wA nwA=>?_⟩;clear ha;have fl:=hE_ oq_.1 (N.worths.map (·.1));have fn:=oq_.1.filter fun x=>decide (x∉N.worths.map (·.1));have fi:∀ x∈((List.range 20).map (nmK (Str.ofString "s"))).filter (fun x=>decide (x∉N.worths.map (·.1))),x∉N.worths.map (·.1):=fun x hx=>AG_ (A9_.mp hx).2;rw [Ab_,Ab_,Ba_] at fl;generalize ((List.range 20).map (nmK (Str.ofString "s"))).filter (fun x=>decide (x∉N.worths.map (·.1)))=F at *
      obtain ⟨w0,w1,w2,F',rfl⟩:∃ a b c l,F=a::b::c::l:=by
       match F,fl with
       | [],h=>simp at h;lia
       | [_],h=>simp at h;lia
       | [_,_],h=>simp at h;lia
       | a::b::c::l,_=>exact ⟨a,b,c,l,rfl⟩
      have wnd:[w0,w1,w2].Nodup:=fn.sublist (by simp);have wni:∀ x∈[w0,w1,w2],x∉N.worths.map (·.1):=fun x hx=>fi x (by simp at hx ⊢;rcases hx with h|h|h <;> simp [h]);have cu:Ii_ ((w0::w1::w2::F').map V.str) none (some 3)=[V.str w0,V.str w1,V.str w2]:=by rw [show (3:Int)=((3:Nat):Int) from rfl,nl_ _ _ (by simp)];rfl
      rw [cu];clear cu fi fn fl;have s9:=EX_.new nwA (o:=HO.lst [V.str w0,V.str w1,V.str w2]);have hwA:=aa_ (H:=H8) (a:=wA) (o:=HO.lst [V.str w0,V.str w1,V.str w2]);generalize upd H8 wA (HO.lst [V.str w0,V.str w1,V.str w2])=H9 at *
      replace s9:=s8.trans s9
      clear s8 nwA H8
      replace hpt:=s9 _ _ hpt
      replace hsq:=s9 _ _ hsq
      replace hpr:=s9 _ _ hpr
      replace rrv:=Fg_.mono s9 _ rrv
      replace s9:=s7.trans s9
      clear hus s7 H7;nofun;refine jh_ (fun k hk=>(or_ k hk).2) hpt fun a H8 s8 ha=>⟨a,rfl,_,ha,?_⟩;have fl:=hE_ oq_.2 (N.rows.map (·.1));have fi:∀ x∈((List.range 20).map (nmK (Str.ofString "t"))).filter (fun x=>decide (x∉N.rows.map (·.1))),x∉N.rows.map (·.1):=fun x hx=>AG_ (A9_.mp hx).2;rw [Ab_,Ab_,Ba_] at fl;clear ha;generalize ((List.range 20).map (nmK (Str.ofString "t"))).filter (fun x=>decide (x∉N.rows.map (·.1)))=F at *
      obtain ⟨pt,F',rfl⟩:∃ a l,F=a::l:=by
       match F,fl with
       | [],h=>simp at h;lia
       | a::l,_=>exact ⟨a,l,rfl⟩
      have ptn:=fi pt (by simp);refine ⟨V.str pt,FC_,?_⟩;clear fi fl
      replace hwA:=s8 _ _ hwA
      replace hsq:=s8 _ _ hsq
      replace hpr:=s8 _ _ hpr
      replace rrv:=Fg_.mono s8 _ rrv
      replace s8:=s9.trans s8
      clear hpt s9 H9;nofun;refine ⟨_,N,rfl,Rep.mono s8 _ hv,nk.ok,fun pe c0 D c2 qs ls H9 s9 rp9 hpe nD Dls hD ow=>⟨pe,rfl,_,hpe,_,Fw_,?_⟩⟩
      try nofun
      have wAl:wA∉ls:=fun z=>by rw [ow.new wA z] at hwA;cases hwA
      obtain ⟨kvs,k1,k2,k3,k4,k5⟩:=ow.dict nk.ok.nd nk.ok.few;refine ⟨_,hD,kvs,k1,k2,k3,fun bn nbn=>?_⟩;rw [k4];have s10:=EX_.new nbn (o:=HO.dK kvs);have hbn:=aa_ (H:=H9) (a:=bn) (o:=HO.dK kvs);generalize upd H9 bn (HO.dK kvs)=H10 at *
      replace ow:=ow.mono s10
      replace hD:=s10 _ _ hD
      clear k1 k2 k3 k4
      replace s10:=s9.trans s10
      clear hpe rp9 nbn s9 H9
      replace hwA:=s10 _ _ hwA
      replace hsq:=s10 _ _ hsq
      replace hpr:=s10 _ _ hpr
      replace rrv:=Fg_.mono s10 _ rrv
      nofun;unfold JB_
      try nofun
      refine ⟨by decide,by decide,?_⟩
      obtain ⟨cr,hcr⟩:∃ cr:Nat->Nat×Nat,∀ k,k<3->cr k∈rg/\∃ x,[a0,a1,a2][k]?=some x/\0<=x/\rg[x.toNat]?=some (cr k):=by
       refine ⟨fun k=>rg.getD ([a0,a1,a2].getD k 0).toNat (0,0),fun k hk=>?_⟩;have hk':k < [a0,a1,a2].length:=hk;obtain ⟨b1,b2⟩:=sb' _ (A1_ hk');have lt:([a0,a1,a2][k]).toNat<rg.length:=by lia
       show rg.getD ([a0,a1,a2].getD k 0).toNat (0,0)∈rg/\∃ x,[a0,a1,a2][k]?=some x/\0<=x/\rg[x.toNat]?=some (rg.getD ([a0,a1,a2].getD k 0).toNat (0,0));rw [Ac_ (l:=[a0,a1,a2]),Aa_ hk',C3_,Ac_,Aa_ lt,C3_];exact ⟨A1_ lt,_,rfl,b1,Aa_ lt⟩
      refine bv_ (n:=3) (B:=fun _=>none) (Pσ:=fun σ=>∃ e,σ=[e,some (.ref pr),some (.ref sq)]) (ds:=[0,1,2].map fun k:Nat=>Dt.tup [.int ((cr k).2:Nat),.str (ph N (cr k)).1,.int k]) (fun b o e=>by cases e) ⟨_,rfl⟩ (by simp) (by decide) (fun i H' hi s'=>hi) (fun H' s'=>Af_ _) ?_ ?_
      ·rintro Dc i x d σ' H2 H2' hDc hDo hs2 hi hdi ⟨rfl,rfl⟩ ⟨e,rfl⟩ R kR;obtain ⟨o,hDo⟩:=hDo
       have hd:d=Dt.tup [.int ((cr i).2:Nat),.str (ph N (cr i)).1,.int i]:=by
        match i,hi with
        | 0,_=>exact (Aq_ hdi).symm
        | 1,_=>exact (Aq_ hdi).symm
        | 2,_=>exact (Aq_ hdi).symm
       obtain ⟨_,x,hx,x0,hx2⟩:=hcr i hi;obtain ⟨v,hv',rv'⟩:=rrv.get (i:=x.toNat) (d:=dE (ph N (cr i))) (by rw [Ae_,Ae_,hx2];rfl);obtain ⟨q,rfl,hq⟩:=lJ_ rv';have at1:atI ([a0,a1,a2].map V.int) ((i:Nat):Int)=some (.int x):=le_ (by rw [Ae_,hx];rfl);have at2:atI rv x=some (.ref q):=c0_ x0 hv';nofun;rw [Bw_];refine ⟨_,hs2 _ _ hsq,_,at1,_,x,rfl,hs2 _ _ hpr,_,at2,q,rfl,_,hs2 _ _ hq,_,Fw_,_,hs2 _ _ hsq,_,at1,_,x,rfl,hs2 _ _ hpr,_,at2,q,rfl,_,hs2 _ _ hq,_,FC_,by decide,fun p np=>?_⟩;have pD:p≠Dc:=(af_ hDo np).symm;refine kR _ _ _ ⟨_,rfl⟩ (EX_.new np) ?_;rw [hd];exact ⟨p,_,rfl,by rw [bB_ pD rfl];exact aa_,_,_,rfl,rfl,_,_,rfl,rfl,_,_,rfl,rfl,rfl⟩
      intro tA H11 nn s11 rep11;clear nn
      replace rep11:=Rep.mono be_ _ rep11
      obtain ⟨_,ys,e0,htA,rys⟩:=rep11;cases e0;have yl:ys.length=3:=by rw [rys.length];rfl
      refine ⟨tA,rfl,ys,htA,by lia,by lia,fun i=>(((cr i).2:Nat),(ph N (cr i)).1,(i:Int)),fun i hi=>?_,fun sA zs nsA pm=>?_⟩
      ·obtain ⟨dd,hdd,hr'⟩:=rys.of_get (Aa_ hi);have hi3:i<3:=by lia
       have hd:dd=Dt.tup [.int ((cr i).2:Nat),.str (ph N (cr i)).1,.int i]:=by
        match i,hi3 with
        | 0,_=>exact (Aq_ hdd).symm
        | 1,_=>exact (Aq_ hdd).symm
        | 2,_=>exact (Aq_ hdd).symm
       rw [hd] at hr';obtain ⟨p,_,e1,hp,_,_,rfl,e2,_,_,rfl,e3,_,_,rfl,e4,rfl⟩:=hr';cases e2;cases e3;cases e4;exact ⟨p,by rw [Aa_ hi,e1],hp⟩
      obtain ⟨ks,kp,rzs⟩:=n6_ (fun k:Nat=>Dt.tup [.int ((cr k).2:Nat),.str (ph N (cr k)).1,.int k]) pm rys;have s12:=EX_.new nsA (o:=HO.lst zs);have hsA:=aa_ (H:=H11) (a:=sA) (o:=HO.lst zs)
      replace ow:=ow.mono s11
      have sAl:sA∉ls:=fun z=>by obtain ⟨i,hi,ei⟩:=Ar_.mp z;have:=ow.l i sA (N.rows[i]'(by rw [<-ow.ll];exact hi)) (by rw [Aa_ hi,ei]) (Aa_ _);rw [nsA] at this;cases this
      generalize upd H11 sA (HO.lst zs)=H12 at *
      replace ow:=ow.mono s12
      replace rzs:=Fg_.mono s12 _ rzs
      replace s12:=s11.trans s12
      clear nsA rys htA pm yl s11 ys H11 tA
      replace hwA:=s12 _ _ hwA
      replace hD:=s12 _ _ hD
      replace hbn:=s12 _ _ hbn
      replace s12:=s10.trans s12
      clear hpr hsq rrv s10 H10;refine ⟨⟨_,.inl (.inl hsA)⟩,?_⟩;have nls:∀ b o,H12 b=some o->(∀ xs,o≠.lst xs)->b∉ls:=fun b o hb ho z=>by obtain ⟨i,hi,ei⟩:=Ar_.mp z;have:=ow.l i b (N.rows[i]'(by rw [<-ow.ll];exact hi)) (by rw [Aa_ hi,ei]) (Aa_ _);rw [hb] at this;exact ho _ (Aq_ this)
      have zl:zs.length=3:=by rw [rzs.length,Ab_,kp.length_eq];rfl
      refine eX_ (xs:=zs) (fun i σ H'=>∃ (e13 e14 e5:Option V)(rows':List (Str×List Str)),σ=[some (.ref pn),some (.int z),some (.ref D2),some (.ref pr),some (.ref sq),e5,e6,some (.ref ptA),some (.ref usA),some (.ref wA),some (.str pt),some (.ref D),some (.ref bn),e13,e14,none,none]/\(∀ b o,H12 b=some o->b∉ls->H' b=some o)/\OwR H8 H' qs ls rows'/\rows'.map (·.1)=N.rows.map (·.1)/\((rows'.map (·.2)).flatten).Perm ((ks.take i).map (fun k=>[w0,w1,w2].getD k Str.empty)++N.all)/\∀ (j:Nat) r r',N.rows[j]?=some r->rows'[j]?=some r'->r.2.length<=r'.2.length/\r'.2.length<=r.2.length+i) ⟨_,_,_,N.rows,rfl,fun b o h _=>h,ow,rfl,.refl _,fun j r r' a b=>by rw [a] at b;cases b;exact ⟨Af_ _,Af_ _⟩⟩ ?_ ?_ ?_
      ·rintro i σ H' hi ⟨e13,e14,e5,rows',rfl,st,_⟩;exact .inl (.inl (st _ _ hsA sAl))
      ·rintro i x σ H' hx kc kb hkc hkb G hG ⟨e13,e14,e5,rows',rfl,st,ow',nm',pm',ln'⟩;refine hG ?_;obtain ⟨dd,hdd,hrep⟩:=rzs.of_get hx;rw [Ae_] at hdd;obtain ⟨kk,hkk,ekk⟩:=CX_.mp hdd;subst ekk;obtain ⟨p,_,rfl,hp,_,_,rfl,e2,_,_,rfl,e3,_,_,rfl,e4,rfl⟩:=hrep;cases e2;cases e3;cases e4;have k3:kk<3:=by have:=kp.mem_iff.mp (Ak_ hkk);simp at this;lia
       obtain ⟨r,hr',en,le⟩:=gc _ (hcr kk k3).1;obtain ⟨j,hj,ej⟩:=Ar_.mp hr';have hrj:N.rows[j]?=some r:=by rw [Aa_ hj,ej]
       have jl':j<rows'.length:=by have:=congrArg List.length nm';rw [Ab_,Ab_] at this;lia
       have hrj':rows'[j]?=some rows'[j]:=Aa_ jl';have nmj:rows'[j].1=r.1:=by have:=congrArg (fun l:List Str=>l[j]?) nm';simp only [Ae_,hrj,hrj'] at this;exact Aq_ this
       have lj:j<ls.length:=by rw [ow.ll];exact hj
       have hlj:ls[j]?=some ls[j]:=Aa_ lj;have val:=k5 j _ r hlj hrj;have pls:=nls p _ hp (fun xs z=>by cases z);have bls:=nls bn _ hbn (fun xs z=>by cases z);obtain ⟨l1,l2⟩:=ln' j r rows'[j] hrj hrj';have r30:=(e3_ nk.ok).2 r hr';have hil:=ow'.l j _ _ hlj hrj';rw [en] at hp
       have atw:atI [V.str w0,V.str w1,V.str w2] ((kk:Nat):Int)=some (.str ([w0,w1,w2].getD kk Str.empty)):=by
        match kk,k3 with
        | 0,_=>exact FC_
        | 1,_=>exact Fw_
        | 2,_=>exact Gi_
       generalize hw:[w0,w1,w2].getD kk Str.empty=wk at atw;have em:∀ n:Nat,(rows'[j].2.map V.str).take n++V.str wk::(rows'[j].2.map V.str).drop n=(rows'[j].2.take n++wk::rows'[j].2.drop n).map V.str:=fun n=>by rw [Ap_,AB_,DF_,EG_]
       nofun;refine ⟨_,SqT.of (st _ _ hp pls),rfl,_,_,rfl,_,_,rfl,_,_,rfl,rfl,.ref ls[j],val ▸ F7_.k (k:=.inr r.1) (st _ _ hbn bls),.inl ⟨_,.inl (.inl hil)⟩,_,_,rfl,st _ _ hwA wAl,_,atw,_,rfl,_,_,rfl,hil,by lia,by rw [Ab_];lia,by rw [Ab_];have:i<zs.length:=(Ag_.mp hx).1;lia,?_⟩;rw [em];refine hkc _ _ ⟨_,_,_,_,rfl,fun b o h1 h2=>?_,ow'.put hlj hrj',?_,?_,fun j2 r2 r2' h1 h2=>?_⟩
       ·rw [ah_ (show b≠ls[j] from fun z=>h2 (by rw [z];exact A1_ lj))];exact st b o h1 h2
       ·rw [<-nm'];apply List.ext_getElem?;intro m;rw [Ae_,Ae_,Bj_];split
        ·rename_i e;subst e
         first|rw [hrj'] | (rw [if_pos jl',hrj'])
         rfl
        ·rfl
       ·rw [Be_,hkk,Ap_];refine (qB_ hrj' _ wk).trans (((pm'.cons wk)).trans ?_);show (wk::((ks.take i).map _++N.all)).Perm (((ks.take i).map _++[[w0,w1,w2].getD kk Str.empty])++N.all);rw [hw,A5_];exact C5_.symm
       ·rw [Bj_] at h2;split at h2
        ·rename_i e;subst e;rw [hrj] at h1;cases h1
         first|cases h2|(rw [if_pos jl'] at h2;cases h2)
         have:(rows'[j].2.take ((cr kk).2)++wk::rows'[j].2.drop ((cr kk).2)).length=rows'[j].2.length+1:=by rw [Ah_,AH_,AO_,Ct_];lia
         show _<=(rows'[j].2.take ((cr kk).2)++wk::rows'[j].2.drop ((cr kk).2)).length/\(rows'[j].2.take ((cr kk).2)++wk::rows'[j].2.drop ((cr kk).2)).length<=_;lia
        ·have:=ln' j2 r2 r2' h1 h2;lia
      rintro σ H' ⟨e13,e14,e5,rows',rfl,st,ow',nm',pm',_⟩;have s13:EX_ H8 H':=fun b o e=>st b o (s12 b o e) (fun z=>by rw [ow.new b z] at e;cases e)
      replace hD:=st _ _ hD Dls
      replace hwA:=st _ _ hwA wAl
      rw [AT_ (by rw [kp.length_eq,zl];exact Af_ _)] at pm'
      replace pm':((rows'.map (·.2)).flatten).Perm ([w0,w1,w2]++N.all):=pm'.trans ((kp.map _).append_right _)
      clear ow st hbn k5 rzs kp zl nls hsA sAl s12 hcr gc rvl g3 g100 sb' kvs cr ks H12;nofun;refine ⟨AA_ _,fun L nL=>?_⟩;nofun;refine ⟨by decide,by decide,?_⟩;refine br_ (fun i σ Hx=>∃ (z:Int)(e5 e16:Option V)(S':Hp)(vs:List V)(wl:List (Str×(Int×Int))),σ=[some (.ref pn),some (.int z),some (.ref D2),some (.ref pr),some (.ref sq),e5,e6,some (.ref ptA),some (.ref usA),some (.ref wA),some (.str pt),some (.ref D),some (.ref bn),e13,e14,some (.ref L),e16]/\EX_ H8 S'/\EX_ S' Hx/\S' L=none/\S' D=none/\EX_ H' Hx/\Hx L=some (.lst vs)/\Fg_ S' vs (wl.map dWo)/\wl.map (·.1)=[w0,w1,w2].take i/\∀ x∈wl,Ws x.2) ⟨z,e5,none,H8,[],[],rfl,EX_.refl _,s13.trans (EX_.new nL),s13.free nL,nD,EX_.new nL,aa_,rfl,rfl,fun x hx=>by cases hx⟩ ?_ ?_
      ·rintro i σ H5 hi kc kb hkc hkb G hG ⟨z,e5,e16,S',vs,wl,rfl,sq,sS5,SL,SD,s15,hL,repW,wnm,wws⟩;refine hG ?_;have hi':i<3:=hi;have iw:i < [w0,w1,w2].length:=hi;nofun;refine ⟨z,rfl,fun pw qw H7 t0 b0 y0 s7 npw nqw tw hpw hqw=>?_⟩;have s57:=sS5.trans s7;have wll:wl.length=i:=by have:=congrArg List.length wnm;rw [Ab_,AO_] at this;lia
       have vl:vs.length=i:=by rw [repW.length,Ab_];exact wll
       refine ⟨pw,rfl,_,SqT.of hpw,rfl,_,_,rfl,_,_,rfl,rfl,?_⟩;nofun;refine ⟨.inl ⟨_,.inl (.inl (s7 _ _ hL))⟩,_,(s15.trans s7) _ _ hwA,_,c0_ (by lia) (by rw [show Int.toNat (0+(i:Nat):Int)=i by lia];exact a3_ iw),by decide,fun q nq=>?_⟩;have g1:EX_ S' (grow S' H5 H7):=bT_ sS5;have g2:EX_ (grow S' H5 H7) H7:=gx_ sS5 s7;have gL:grow S' H5 H7 L=none:=by rw [cg_ hL];exact SL
       have gD:grow S' H5 H7 D=none:=by rw [cg_ (s15 _ _ hD)];exact SD
       have gq:grow S' H5 H7 qw=some (.tup [.int (nf t0 b0).1,.int (nf t0 b0).2]):=by rw [gw_ nqw];exact hqw
       have qL:q≠L:=(af_ (s7 _ _ hL) nq).symm;have qD:q≠D:=(af_ (s7 _ _ (s15 _ _ hD)) nq).symm;have g3:EX_ (grow S' H5 H7) (upd (grow S' H5 H7) q (.tup [.str ([w0,w1,w2].getD i Str.empty),.ref qw])):=aO_ g2 nq;have g4:EX_ (upd (grow S' H5 H7) q (.tup [.str ([w0,w1,w2].getD i Str.empty),.ref qw])) (upd H7 q (.tup [.str ([w0,w1,w2].getD i Str.empty),.ref qw])):=eS_ g2 nq;have gL2:upd (grow S' H5 H7) q (.tup [.str ([w0,w1,w2].getD i Str.empty),.ref qw]) L=none:=by rw [ah_ qL.symm];exact gL
       have gD2:upd (grow S' H5 H7) q (.tup [.str ([w0,w1,w2].getD i Str.empty),.ref qw]) D=none:=by rw [ah_ qD.symm];exact gD
       refine ⟨vs,by rw [ah_ qL.symm];exact s7 _ _ hL,EY_ (by lia),hkc _ _ ⟨y0,_,_,upd (grow S' H5 H7) q (.tup [.str ([w0,w1,w2].getD i Str.empty),.ref qw]),_,wl++[([w0,w1,w2].getD i Str.empty,nf t0 b0)],rfl,sq.trans (g1.trans g3),aM_ g4 gL2,gL2,gD2,aM_ ((s15.trans s7).trans (EX_.new nq)) nL,aa_,?_,?_,fun x hx=>(Ax_.mp hx).elim (wws x) fun hx=>by rw [Ai_.mp hx];exact tw⟩⟩
       ·rw [Ap_];exact Fg_.append (Fg_.mono (g1.trans g3) _ repW) ⟨_,_,rfl,⟨q,_,rfl,aa_,_,_,rfl,rfl,_,_,rfl,⟨qw,_,rfl,g3 _ _ gq,_,_,rfl,rfl,_,_,rfl,rfl,rfl⟩,rfl⟩,rfl⟩
       ·rw [Ap_,wnm,Be_,Aa_ iw,Ac_,Aa_ iw];rfl
      ·rintro σ H5 ⟨z,e5,e16,S',vs,wl,rfl,sq,sS5,SL,SD,s15,hL,repW,wnm,wws⟩;rw [AT_ (by simp)] at wnm;nofun;have hwA5:=s15 _ _ hwA;refine ⟨.inl ⟨_,.inl (.inl (s15 _ _ hD))⟩,_,hwA5,_,Gi_,_,hwA5,_,Fw_,_,hwA5,_,FC_,by decide,fun r1A nr1=>⟨by decide,fun r2A nr2=>?_⟩⟩;have hr1:=(EX_.new nr2 (o:=HO.tup [V.str pt,V.ref r1A])) _ _ (aa_ (H:=H5) (a:=r1A) (o:=HO.lst [V.str w2,V.str w1,V.str w0]));have hr2:=aa_ (H:=upd H5 r1A (HO.lst [V.str w2,V.str w1,V.str w0])) (a:=r2A) (o:=HO.tup [V.str pt,V.ref r1A]);have s56:=(EX_.new nr1 (o:=HO.lst [V.str w2,V.str w1,V.str w0])).trans (EX_.new nr2 (o:=HO.tup [V.str pt,V.ref r1A]));have r1D:r1A≠D:=(af_ (s15 _ _ hD) nr1).symm;have r2D:r2A≠D:=(af_ ((EX_.new nr1 (o:=HO.lst [V.str w2,V.str w1,V.str w0])) _ _ (s15 _ _ hD)) nr2).symm;generalize upd (upd H5 r1A (HO.lst [V.str w2,V.str w1,V.str w0])) r2A (HO.tup [V.str pt,V.ref r1A])=H6 at *;have LD:L≠D:=(af_ hD nL).symm;have hD6:=s56 _ _ (s15 _ _ hD);have few:=nk.ok.few;refine ⟨_,hD6,EY_ (by rw [Ab_,ow'.ql];have:=congrArg List.length nm';rw [Ab_,Ab_] at this;lia),?_⟩;have ow7:=((ow'.mono s15).mono s56).off (o:=HO.lst (qs.map V.ref++[V.ref r2A])) Dls hD6;have hD7:=aa_ (H:=H6) (a:=D) (o:=HO.lst (qs.map V.ref++[V.ref r2A]));have s87:EX_ H8 (upd H6 D (HO.lst (qs.map V.ref++[V.ref r2A]))):=aM_ ((sq.trans sS5).trans s56) nD;have sS7:EX_ S' (upd H6 D (HO.lst (qs.map V.ref++[V.ref r2A]))):=aM_ (sS5.trans s56) SD;have hL7:upd H6 D (HO.lst (qs.map V.ref++[V.ref r2A])) L=some (.lst vs):=by rw [ah_ LD];exact s56 _ _ hL
       have hr17:upd H6 D (HO.lst (qs.map V.ref++[V.ref r2A])) r1A=some (.lst [V.str w2,V.str w1,V.str w0]):=by rw [ah_ r1D];exact hr1
       have hr27:upd H6 D (HO.lst (qs.map V.ref++[V.ref r2A])) r2A=some (.tup [V.str pt,V.ref r1A]):=by rw [ah_ r2D];exact hr2
       generalize upd H6 D (HO.lst (qs.map V.ref++[V.ref r2A]))=H7 at *
       replace repW:=Fg_.mono sS7 _ repW
       have s07:=s8.trans s87;have rows7:Fg_ H7 (qs.map V.ref++[V.ref r2A]) ((rows'++[(pt,[w2,w1,w0])]).map dRw):=by rw [Ap_];exact ow7.reps.append ⟨_,_,rfl,⟨r2A,_,rfl,hr27,_,_,rfl,rfl,_,_,rfl,⟨r1A,_,rfl,hr17,a2_ [w2,w1,w0]⟩,rfl⟩,rfl⟩
       clear ow7 hr17 hr27 hr1 hr2 nr1 nr2 s56 r1D r2D sS7 s87 SL SD s15 hL sS5 sq hwA hwA5 hD hD6 wAl ow' s13 nD nL Dls;nofun;refine ⟨_,s07 _ _ hn,_,FC_,p0,rfl,_,.inl (s07 _ _ h0),fun c0 n0=>?_⟩;have S1:=EX_.new n0 (o:=HO.lst (N.posts.map V.str));have hc0:=aa_ (H:=H7) (a:=c0) (o:=HO.lst (N.posts.map V.str));generalize upd H7 c0 (HO.lst (N.posts.map V.str))=H9 at *;have s09:=s07.trans S1;have wll:wl.length=3:=by have:=congrArg List.length wnm;rw [Ab_] at this;exact this
       have vl:vs.length=3:=by rw [repW.length,Ab_,wll]
       refine ⟨_,s09 _ _ hn,_,Gi_,p2,rfl,_,s09 _ _ h2,_,S1 _ _ hL7,AR_ (EY_ (by lia)),fun c1 n1=>?_⟩;have S2:=EX_.new n1 (o:=HO.lst (ws++vs));generalize upd H9 c1 (HO.lst (ws++vs))=H10 at *;have catR:Fg_ H10 (ws++vs) ((N.worths++wl).map dTf):=by rw [Ap_];exact (Fg_.mono (s09.trans S2) _ r2).append (Fg_.mono (S1.trans S2) _ repW)
       have cnd:((N.worths++wl).map (·.1)).Nodup:=by rw [Ap_,wnm];exact A0_.mpr ⟨nk.wo.nd,wnd,fun a ha b hb z=>wni b hb (z ▸ ha)⟩
       refine ⟨_,catR,by rw [Ah_];lia,cnd,fun sA zs fs nsA repF pf srt=>⟨by decide,fun pe npe=>?_⟩⟩;have S3:=EX_.new nsA (o:=HO.lst zs);have hsA:=aa_ (H:=H10) (a:=sA) (o:=HO.lst zs);generalize upd H10 sA (HO.lst zs)=H11 at *;have S4:=EX_.new npe (o:=HO.tup [V.ref c0,V.ref D,V.ref sA]);have hpe:=aa_ (H:=H11) (a:=pe) (o:=HO.tup [V.ref c0,V.ref D,V.ref sA]);generalize upd H11 pe (HO.tup [V.ref c0,V.ref D,V.ref sA])=H12 at *;have S24:=S2.trans (S3.trans S4)
       have a24:N.all.length<=24:=by
        have:=nV_ (N.worths.map (·.1)) N.all (fun x hx=>(nk.wo.mem x).mpr hx) fun x=>by
         by_cases hx:x∈N.all
         ·rw [nk.ok.two x hx];exact Af_ _
         ·rw [BW_.mpr hx];exact AA_ _
        rw [Ab_] at this;lia
       obtain ⟨okM,memM⟩:=qg_ (p:=pt) (a:=w0) (b:=w1) (c:=w2) (wo:=fs) nk.ok nm' pm' ptn wnd (fun x hx z=>wni x hx ((nk.wo.mem x).mpr z)) a24 (by lia) (by rw [pf.length_eq,Ah_];lia);refine k (.ref pe) ⟨N.posts,rows'++[(pt,[w2,w1,w0])],fs⟩ H12 (s09.trans S24) ⟨pe,_,rfl,hpe,_,_,rfl,⟨c0,_,rfl,S24 _ _ hc0,a2_ _⟩,_,_,rfl,⟨D,_,rfl,(S1.trans S24) _ _ hD7,Fg_.mono (S1.trans S24) _ rows7⟩,_,_,rfl,⟨sA,zs,rfl,S4 _ _ hsA,Fg_.mono (S3.trans S4) _ repF⟩,rfl⟩ ⟨okM,⟨?_,fun x=>?_,fun x hx=>?_⟩,srt⟩
       ·exact (pf.map (·.1)).nodup_iff.mpr cnd
       ·show x∈fs.map (·.1) ↔ _;rw [(pf.map (·.1)).mem_iff,memM x,Ap_,Ax_,wnm,nk.wo.mem x];exact or_comm
       ·rcases Ax_.mp (pf.mem_iff.mp hx) with h|h
        ·exact nk.wo.ws x h
        ·exact wws x h
abbrev Gy_:Stmt:=stN 78
theorem ji_:E2_ ["_law_script", "_law_net", "_law_big_here", "_law_point", "_law_wires"] ["_law_script"] (EW_ Gy_):=⟨rfl,rfl,rfl,by rfl',rfl,by rfl',by rfl'⟩
theorem mq_:LK Gy_ "_law_script" .local:=by rfl'
theorem e4_:LK Gy_ "_law_net" .local:=by rfl'
theorem j1_:LK Gy_ "_law_big_here" .local:=by rfl'
theorem mr_:LK Gy_ "_law_point" .local:=by rfl'
theorem pd_:LK Gy_ "_law_wires" .local:=by rfl'
theorem lO_:LK Gy_ "_law_big" .globalImplicit:=by rfl'
theorem iS_:LK Gy_ "_law_net_by" .globalImplicit:=by rfl'
theorem gq_:LK Gy_ "_law_right" .globalImplicit:=by rfl'
theorem iK_:LK Gy_ "_law_starred" .globalImplicit:=by rfl'
def H6_ (K:PySem.W.Frag):Sp:=fun vs H Q _=>∃ (a:Addr)(ns:List Int),vs=[.ref a]/\SqL K H a (ns.map V.int)/\∀ H',Q (.bl true) H'
theorem rj_ {f:Addr}{fd:FuncData}(T:Txt K mg)(F:Fun K "law" "law" Gy_ f fd) (IZ_:Cal P w K mg base "_law_net_by" ["_law_script", "_law_at", "_law_most"] 4 (JC_ K)) (G3_:Cal P w K mg base "_law_big" ["_law_script", "_law_at"] 2 (Ix_ K)) (Ip_:Cal P w K mg base "_law_starred" ["_law_net", "_law_big_here"] 5 GZ_) (Id_:Cal P w K mg base "_law_right" ["_law_net", "_law_point"] 6 H8_):H5_ P w K mg base CX0 7 f fd ["_law_script"] (H6_ K):=by
 refine F.ok ji_ ?len ?body
 case len=>rintro vs H Q E ⟨a,b,rfl,_⟩;rfl
 case body =>
  intro cdv A outer s H vs Q E hr h;obtain ⟨a,ns,rfl,hS,k⟩:=h;refine' ⟨_,?D,?R⟩
  case D =>
   refine' ad_ (aj_ (i:=1) ji_.nd rfl e4_ (al_ IZ_ (hr.mono (by decide)) iS_ (pa_c (pv1 0 rfl mq_) (pa_c ac_ (pa_c ac_ ab_))))) ?g2
   case' g2=>refine' ad_ (aj_ (i:=2) ji_.nd rfl j1_ (al_ G3_ (hr.mono (by decide)) lO_ (pa_c (pv1 0 rfl mq_) (pa_c ac_ ab_)))) ?g12
   case' g12=>refine' ad_ (iV_ (Fx_ (aq_ HR_ (EZ_ aK_ (pv1 2 rfl j1_) ac_) ac_ (E9_ _)) ?g23 aB_)) ?g20
   case' g23=>refine' ag_ (aj_ (i:=1) ji_.nd rfl e4_ (al_ Ip_ (hr.mono (by decide)) iK_ (pa_c (pv1 1 rfl e4_) (pa_c (EZ_ av_ (pv1 2 rfl j1_) ac_) ab_))))
   case' g20=>refine' ad_ ?g38 (ag_ (au_ (al_ Id_ (hr.mono (by decide)) gq_ (pa_c (pv1 1 rfl e4_) (pa_c cm_ ab_)))))
   case' g38=>refine' aV_ Au_ rfl (ay_ (K:=K) rfl (E0_ am_ (pv1 1 rfl e4_) ac_ (fun _ _=>rfl))) (aJ_ (K:=K) (n:=2) rfl rfl (ak_ ?g47 (ak_ ?g49 aC_))) (ag_ ?g51)
   case g47=>exact ae_ (i:=3) ji_.nd rfl mr_
   case g49=>exact ae_ (i:=4) ji_.nd rfl pd_
   case' g51=>refine' Fx_ (gW_ (fL_ (al_ Id_ (hr.mono (by decide)) gq_ (pa_c (pv1 1 rfl e4_) (pa_c (pv1 3 rfl mr_) ab_))))) (ag_ (au_ Gj_)) aB_
  case R =>
   nofun;refine ⟨a,ns,rfl,hS,fun v N H1 s1 rep1 ok po wo rise=>?_⟩;nofun;refine ⟨a,ns,4,rfl,by decide,s1.seq hS,fun z H2 s2=>?_⟩;have rep2:=Rep.mono s2 _ rep1;nofun;refine ⟨fun σ Hx=>∃ v N,σ=[some (.ref a),some v,some (.int z),none,none]/\Rep Hx v (Go_ N)/\Nk N,?_,?_⟩
   ·nofun;refine ⟨by decide,ite2 (fun _=>?_) (fun _=>⟨N,rep2,⟨ok,wo,rise⟩⟩)⟩;exact ⟨by decide,by rfl',v,N,_,rfl,rep2,⟨ok,wo,rise⟩,po,fun v' N' H' s' rep' nk'=>⟨N',rep',nk'⟩⟩
   clear rep1 rep2 ok po wo rise v N;rintro σ Hx ⟨v,N,rfl,hv,nk⟩;obtain ⟨pn,p0,p1,p2,rs,ws,rfl,hn,h0,h1,r1,h2,r2⟩:=bC_ hv;nofun;refine ⟨_,hn,_,Fw_,p1,rfl,⟨_,.inl (.inl h1)⟩,?_⟩;refine eX_ (xs:=rs) (fun i σ Hy=>∃ (e3 e4:Option V),σ=[some (.ref a),some (.ref pn),some (.int z),e3,e4]/\EX_ Hx Hy) ⟨_,_,rfl,EX_.refl _⟩ ?_ ?_ ?_
   ·rintro i σ Hy hi ⟨e3,e4,rfl,sy⟩;exact .inl (.inl (sy _ _ h1))
   ·rintro i y σ Hy hy kc kb hkc hkb G hG ⟨e3,e4,rfl,sy⟩;refine hG ?_;obtain ⟨r,q,l,hr',rfl,hq,hl⟩:=bm_ r1 hy;nofun;refine ⟨_,SqT.of (sy _ _ hq),rfl,_,_,rfl,_,_,rfl,rfl,?_⟩;refine ⟨_,N,r.1,rfl,Rep.mono sy _ hv,nk,fun H5 s5=>⟨_,rfl,?_⟩⟩;rw [if_neg (by decide)];exact hkc _ _ ⟨_,_,rfl,sy.trans s5⟩
   ·rintro σ Hy ⟨e3,e4,rfl,sy⟩;nofun;exact ⟨_,N,_,rfl,Rep.mono sy _ hv,nk,fun H5 s5=>k H5⟩
open PySem PySem.Spec PyProof.Rows L2
variable {CS CD:Addr}
theorem cl_of {K:PySem.W.Frag}{C:Addr}(h:PySem.W.hasDictIn K C=true):(PySem.W.clsIn K C).isSome=true:=by
 unfold PySem.W.hasDictIn at h;cases e:PySem.W.clsIn K C with
 | none=>rw [e] at h;cases h
 | some c=>rfl
theorem mt_of {K:PySem.W.Frag}{mg:Str->Option Value}{h:Heap}(X:K.In h)(G:h.Ns mainGlobals mg){C:Addr}{h0 h1 h2 h3 h4 h5:Int}{t0 u0 t1 u1 t2 u2 t3 u3 t4 u4 t5 u5:Tok}{ep:Nat}
  (a:PySem.W.nsIn K mainGlobals "STEP_LENGTHS" = some (some (.ref C))) (l:K.lookup C=some ⟨.type "dict",none,.dict #[⟨h0,.str (Str.ofString "loop") t0,.int 2 u0⟩,⟨h1,.str (Str.ofString "dead") t1,.int 2 u1⟩,⟨h2,.str (Str.ofString "chain") t2,.int 2 u2⟩,⟨h3,.str (Str.ofString "twins") t3,.int 3 u3⟩,⟨h4,.str (Str.ofString "star") t4,.int 2 u4⟩,⟨h5,.str (Str.ofString "ring") t5,.int 5 u5⟩] ep,#[]⟩) (hs:(C == sysModules)=false):Mt K mg "STEP_LENGTHS" C IL_ :=
 ⟨EF_ X G a,fun h' X'=>⟨hs,_,_,_,X' _ _ l,⟨rfl,rfl,rfl⟩,rfl,(by unfold IL_;exact .cons rfl (fun _=>.int _ _) (.cons rfl (fun _=>.int _ _) (.cons rfl (fun _=>.int _ _) (.cons rfl (fun _=>.int _ _) (.cons rfl (fun _=>.int _ _) (.cons rfl (fun _=>.int _ _) (.nil)))))))⟩⟩
theorem rk_ {l:PySem.W.OpenLaw}{w:World}{K:PySem.W.Frag}{mg:Str->Option Value}{fa:Addr}(hfa:mg "law" = some (.ref fa)) (T:Txt K mg) (EX:Exs K mg CS) (hM:Mt K mg "STEP_LENGTHS" CD IL_) (Gm_:Fn0 K mg "greatest_divisor" E7_) (Iq_:Fn0 K mg "fraction" FG_) (K0_:Fn0 K mg "plus" G0_) (Kg_:Fn0 K mg "times" Gt_) (K1_:Fn0 K mg "over" GX_) (GR_:Fn0 K mg "ends_by_wire" Fb_) (Hz_:Fn0 K mg "other_ends" Fy_) (HV_:Fn0 K mg "points_of" FU_) (GJ_:Fn0 K mg "points_within" Fr_) (I0_:Fn0 K mg "changed" Fh_) (Gn_:Fn0 K mg "has_unlike_wires" Fe_) (Hh_:Fn0 K mg "wires_asked" Ff_) (HW_:Fn0 K mg "star_done" E3_) (HX_:Fn0 K mg "step_done" Fo_) (Ir_:Fn0 K mg "_law_cell_at" FS_) (K2_:Fn0 K mg "_law_big" FY_) (K3_:Fn0 K mg "_law_low" Gx_) (HY_:Fn0 K mg "_law_worth_of" FF_) (Jk_:Fn0 K mg "_law_mates" FI_) (Is_:Fn0 K mg "_law_corners" Fq_) (GA_:Fn0 K mg "_law_corner_behind" E5_) (I1_:Fn0 K mg "_law_region" FE_) (Jl_:Fn0 K mg "_law_grown" Fd_) (Jm_:Fn0 K mg "_law_names" Fi_) (Jn_:Fn0 K mg "_law_begun" FL_) (I2_:Fn0 K mg "_law_net_by" E4_) (Kh_:Fn0 K mg "_law_copy" Gp_) (Jo_:Fn0 K mg "_law_turns" FH_) (It_:Fn0 K mg "_law_regions" E6_) (HZ_:Fn0 K mg "_law_same_net" Fl_) (I3_:Fn0 K mg "_law_placed" Fu_) (Ki_:Fn0 K mg "_law_ends" FX_) (K4_:Fn0 K mg "_law_add" GY_) (K5_:Fn0 K mg "_law_mul" GV_) (LL_:Fn0 K mg "_law_by" Ij_) (GS_:Fn0 K mg "_law_with_worths" Fn_) (K6_:Fn0 K mg "_law_row" Hl_) (Iu_:Fn0 K mg "_law_is_star" Fz_) (Kj_:Fn0 K mg "_law_star" Fc_) (Iv_:Fn0 K mg "_law_starred" E1_) (Jp_:Fn0 K mg "_law_spoil" Ga_) (Jq_:Fn0 K mg "_law_right" Fp_) (LM_:Fn0 K mg "law" Gy_) :
  ∃ fd:FuncData,(∀ (s:Shared)(v:Value),BindsTo s fd ⟨[v],[]⟩ [("_law_script",v)])/\∀ base:Heap,K.In base->base.Ns mainGlobals mg->H5_ l.prog w K mg base CX0 7 fa fd ["_law_script"] (H6_ K):=by
 obtain ⟨f,fd,FL,m⟩:=LM_;have e:=hfa.symm.trans m;cases e;refine ⟨fd,?_,fun base _ _=>?_⟩
 ·obtain ⟨oc,od,kV,doc,pm,an,cdv,ct,osl,rfl,lk,hcd⟩:=FL.ex;exact fun s v=>.of_eq rfl
 ·have a1:=fB_ (P:=l.prog) (w:=w) (base:=base) T Gm_ ;have a2:=lH_ T Iq_ a1;have a3:=qo_ T K0_ a2;have a4:=o4_ T Kg_ a2;have a5:=qq_ T K1_ a2;have c1:=ii_ (P:=l.prog) (w:=w) (base:=base) T GR_ ;have c2:=mN_ (P:=l.prog) (w:=w) (base:=base) T I0_ ;have c5:=jQ_ T Hz_ c1;have c6:=k1_ (P:=l.prog) (w:=w) (base:=base) T HV_ ;have c7:=hm_ T GJ_ c6;have c8:=fE_ (P:=l.prog) (w:=w) (base:=base) T Gn_ ;have c9:=iu_ T EX Hh_ c7 c8;have c11:=jS_ T EX HW_ c9 c5 c2 a3 a4 a5;have c13:=jT_ T EX hM HX_ c11;have d1:=lv_ (P:=l.prog) (w:=w) (base:=base) T Ir_ ;have d2:=qh_ T K2_ d1;have d3:=qi_ (P:=l.prog) (w:=w) (base:=base) T K3_ ;have d4:=kN_ T HY_ d3;have d5:=nY_ (P:=l.prog) (w:=w) (base:=base) T Jk_ ;have d6:=ly_ (P:=l.prog) (w:=w) (base:=base) T Is_ ;have d7:=gF_ (P:=l.prog) (w:=w) (base:=base) T GA_ ;have d8:=mL_ T I1_ d7;have d9:=nZ_ T Jl_ d6 d5 d8;have d10:=n2_ (P:=l.prog) (w:=w) (base:=base) T Jm_ ;have d11:=n5_ (P:=l.prog) (w:=w) (base:=base) T Jn_ ;have d12:=mM_ T I2_ d2 d9 d10 d11 d4;have d13r:=Cal.of_Q (oo_ (P:=l.prog) (w:=w) (base:=base) T Kh_);have d13c:=pc_ d13r;have d14:=k4_ (P:=l.prog) (w:=w) (base:=base) T HZ_ ;have d15:=og_ (P:=l.prog) (w:=w) (base:=base) T Jp_ ;have d16:=o8_ (P:=l.prog) (w:=w) (base:=base) T Ki_ ;have d17:=qs_ T K4_ d3;have d18:=qu_ T K5_ d3;have d19:=re_ T LL_ d3;have d20:=iz_ (P:=l.prog) (w:=w) (base:=base) T GS_ ;have d21:=o7_ (P:=l.prog) (w:=w) (base:=base) T K6_ ;have d21c:=Cal.of_Q d21;have d22:=mP_ (P:=l.prog) (w:=w) (base:=base) T I3_ ;have d23:=pa_ T Kj_ d21c d16 d17 d18 d19 d22 d20;have d25:=k9_ T Iu_ d21;have d25c:=Cal.of_Q d25;have d26:=om_ (P:=l.prog) (w:=w) (base:=base) T Jo_ ;have d27:=lL_ T It_ d26 d5 d8;have d28:=lN_ T Iv_ d27 d13r d4;have d24:=on_ T EX Jq_ d13c c13 d14 d15 d25c d25 d23;exact rj_ T FL d12 d2 d28 d24
theorem walk {l:PySem.W.OpenLaw}{q:Program}{loose:List Str}{XP:(Str->Option Value)->Heap->Prop}{YP:World->Heap->Prop}{d:DefRec}{K:Params->PySem.W.Frag}(hn:l.most=some 63)(hdf:d.params.defaults=[])
  (hY:∀ (w:World)(h:Heap),YP w h->(K w.params).In h)
  (F:∀ (w:World)(mg:Str->Option Value)(fa:Addr)(h:Heap),(K w.params).In h->h.Ns mainGlobals mg->mg d.name=some (.ref fa) ->
   ∃ fd:FuncData,(∀ (s:Shared)(u:Value),BindsTo s fd ⟨[u],[]⟩ [("_law_script",u)])/\∀ base:Heap,(K w.params).In base->base.Ns mainGlobals mg->H5_ l.prog w (K w.params) mg base CX0 7 fa fd ["_law_script"] (H6_ (K w.params))) :
  PySem.W.WalkO q loose XP YP l.row.toRowW d [] (fun f vs=>PySem.call f vs) :=
 L2.pU_ (n:=63) (k:=7) (x := "_law_script") (CX:=fun _=>CX0) (sp:=fun w=>H6_ (K w.params)) hn (by decide) hdf ⟨rfl,by decide,by decide⟩ hY F (fun _ _ a ns hl _ hS=>⟨a,ns,rfl,hS,fun _=>rfl⟩) fun _ _ _ _ _ z=>z
end Rim34
namespace PySem.W.Fast
def tw1790881600783046692:=0
def tw13143483752742595346:=0
def tw2443198438354227721:=0
def tw10296383949877852908:=0
def tw8303120796690313980:=0
def tw9251868190066064375:=0
def tw6658368294933573967:=0
def tw23057221217742104:=0
def tw4457491329685432858:=0
def tw6322433581256636016:=0
def tw8890673560842639135:=0
def tw6194239935191095300:=0
def tw11935189640584769307:=0
def tw16139241553016037198:=0
def tw8166166389800191214:=0
def tw9858844061989957320:=0
def tw3645594985825444924:=0
def tw3190841541583309012:=0
def tw15115082500016373689:=0
def tw6148525897329804138:=0
def tw1535529309348569253:=0
def tw8116517530817264639:=0
def tw15161758944947493775:=0
def tw12456714823142639095:=0
def tw4581029025144209751:=0
def tw4029646229965353967:=0
def tw12899229758484568879:=0
def tw7833668905710489409:=0
def tw6503323064329096399:=0
def tw6260592107541779848:=0
def tw12842233602940247771:=0
def tw14047712958796809853:=0
def tw13430519069316391198:=0
def tw2179558449697373445:=0
def tw3081466807041492419:=0
def tw13724316988407675761:=0
def tw8492686894006597905:=0
def tw16001193195534311875:=0
def tw11343808027686599275:=0
def tw606261245138570535:=0
def tw6397964093704735673:=0
def tw3917761156318000098:=0
def tw12805370609741605848:=0
def tw2340038463668885822:=0
def tw10342612827364034628:=0
def tw1203891464113011351:=0
def tw3872585987164796391:=0
def tw1587578196984655070:=0
def tw6790247037655431183:=0
def tw8240724642486509408:=0
def tw516643637998120901:=0
def tw4811123994140145096:=0
def tw5046865967006793854:=0
def tw14747470973816160447:=0
def tw4515136409028284592:=0
def tw12750768999924940469:=0
def tw16384496522884376657:=0
def tw4021734343744986005:=0
def tw5724438997607214481:=0
def tw14176843165524412536:=0
def tw3641638643807628096:=0
def tw5075422966463474315:=0
def tw9123064744446407357:=0
def tw17857513178831459068:=0
def tw12717633346032124772:=0
def tw8145373749843915268:=0
def tw13758917887639353471:=0
def tw11788618387135828935:=0
def tw5288430437185406333:=0
def tw11412430662745580832:=0
def tw615561581944171977:=0
def tw349592505172781506:=0
def tw12032935801885452889:=0
def tw7126471641997310098:=0
def tw15794759191093734704:=0
def tw15889504784446370085:=0
def tw6903121228664406061:=0
def tw17243615734763834125:=0
def tw11626412396506718302:=0
def tw171182139674032138:=0
def tw5505699444071745156:=0
def tw16595351924243935081:=0
def tw10042408375958360127:=0
def tw7951932313603583834:=0
def tw15610994215035537655:=0
def tw10852631465354761032:=0
def tw3408120729688544584:=0
def tw5367986674567071425:=0
def tw4214745353817244594:=0
def tw14111068811585302970:=0
def tw12348623969581094153:=0
def tw16032487275804838542:=0
def tw6602170610401005097:=0
def tw9184796700439228337:=0
def tw13959903310814986324:=0
def tw9613674931400755855:=0
def tw10879918574479708260:=0
def tw2333167502509511065:=0
def tw13138445237332654527:=0
def tw17443781876175126313:=0
def tw10234708221775575737:=0
def tw15630872814247643737:=0
def tw16366499800783052940:=0
def tw8338769050259129398:=0
def tw8788064941575884240:=0
def tw5445644261035317925:=0
def tw13274261527994116924:=0
def tw5536700328890623192:=0
def tw14124897100858024229:=0
def tw11456359961736825345:=0
def tw1002969674871019056:=0
def tw5762983969976687243:=0
def tw3909205454719703452:=0
def tw4838994353661027530:=0
def tw13553270352464226390:=0
def tw10232034593426863966:=0
def tw16655750481566899455:=0
def tw10558686749009828417:=0
def tw1271046724946532714:=0
def tw5359589737464121253:=0
def tw7619067092478962233:=0
def tw3430879673196576512:=0
def tw6557160698027804069:=0
def tw11666675661145058836:=0
def tw17472968777704556038:=0
def tw17529619594484036503:=0
def tw5685896327601676856:=0
def tw10710569397032622259:=0
def tw13464457939776080183:=0
def tw12106231814556716598:=0
def tw18420392940491640035:=0
def tw5798292244776859987:=0
def tw2124830540061819673:=0
def tw5995750378040759303:=0
def tw15274978568734140141:=0
def tw16661063683079804544:=0
def tw16119634813721723511:=0
def tw15951191098932555976:=0
def tw12660412946372234779:=0
def tw4561243108529393210:=0
def tw9292576048710499096:=0
def tw3026509378058129980:=0
def tw8217794814437158:=0
def tw13396032328377970902:=0
def tw18142597829498793891:=0
def tw6746233923526768717:=0
def tw2457688788955707622:=0
def tw1593480696924558964:=0
def tw16825578775672164300:=0
def tw5915020933822214884:=0
def tw6115480006858705023:=0
def tw278624955764284600:=0
def tw1474982511825899917:=0
def tw8784233944331192353:=0
def tw4354227058851360402:=0
def tw10837135863508317776:=0
def tw14863456634507779212:=0
def tw7541166991019057622:=0
def tw12473667425587421946:=0
def tw10613711048568799026:=0
def tw146586089821423079:=0
def tw1744616730003042092:=0
def tw15291721992537156479:=0
def tw4884038997868402168:=0
def tw15907579210941090168:=0
def tw7097092486380543741:=0
def tw10567866834479966485:=0
def tw7639054266571233080:=0
def tw4246270266588026985:=0
def tw2427420112225233615:=0
def tw7471503462746717500:=0
def tw9655922712761498593:=0
def tw8639259239195645160:=0
def tw4122409025327107619:=0
def tw8949533047238054673:=0
def tw7480973209318463486:=0
def tw14995337085397386341:=0
def tw10071493841417052290:=0
def tw15172088611827523456:=0
def tw9174539352015820116:=0
def tw3932554959056624592:=0
def tw4061957473324019726:=0
def tw10691184931903190688:=0
def tw16410967880531757778:=0
def tw5264792239714871143:=0
def tw4168834973718494309:=0
def tw8152894384324003706:=0
def tw636995962724194978:=0
def tw11473126861238598052:=0
def tw14980257291237869865:=0
def tw9669845464480964655:=0
def tw15582004624926165879:=0
def tw11153912632559467153:=0
def tw15155780498331911941:=0
def tw5290219433344390144:=0
def tw13668769305960263481:=0
def tw11483057151467168766:=0
def tw16789229825764028358:=0
def tw7585818409006321619:=0
def tw1937222857343005620:=0
def tw16401121948101418382:=0
def tw6318845390591455065:=0
def tw12280596086749413093:=0
def tw5569236435737851173:=0
def tw16435108476132879283:=0
def tw5145704072875508742:=0
def tw17958965065317268844:=0
def tw11846599656753013113:=0
def tw12729027069631350620:=0
def tw7786562410103741892:=0
def tw8894617224250594262:=0
def tw13463619861404283546:=0
def tw1191981581958802817:=0
def tw8430978382688912372:=0
def tw15718458037841038203:=0
def tw10736423814669631046:=0
def tw93593889499786617:=0
def tw8527678662213058171:=0
def tw13331037586944785480:=0
def tw3453594718946122755:=0
def tw17322395669967136056:=0
def tw10561747687833132683:=0
def tw2542909471724489302:=0
def tw17642674736866419680:=0
def tw6975785591974100903:=0
def tw2025198703173797721:=0
def tw14060536303557837467:=0
def tw7759915858660748738:=0
def tw13282346976034886643:=0
def tw18056331470257568431:=0
def tw18252583134735609657:=0
def tw15670452686709742560:=0
def tw18346256875905978611:=0
def tw16263228126743343938:=0
def tw13218842913045723845:=0
def tw13993876476881994618:=0
def tw10180611155578267844:=0
def tw16346537071413632153:=0
def tw11369905094586014504:=0
def tw1588901152278921008:=0
def tw3734864465467762663:=0
def tw15856277969754077114:=0
def tw7457197338391666144:=0
def tw15511563837238111867:=0
def tw17823288760165647451:=0
def tw1449053774778007787:=0
def tw6953278861378580571:=0
def tw9863189091107271016:=0
def tw13656049246485926216:=0
def tw12624233853674999857:=0
def tw6005115548987817195:=0
def tw14719577760705279688:=0
def tw12271882114349292117:=0
def tw12583090395660459010:=0
def tw11588446750344690545:=0
def tw13048742556746661639:=0
def tw6393462214158295906:=0
def tw15205389140394566128:=0
def tw10270865809255569057:=0
def tw1638609876548147900:=0
def tw11160875786928428340:=0
def tw4193510939646132925:=0
def tw5193274828815787211:=0
def tw6618980571064677618:=0
def tw3877372815544615865:=0
def tw2485933526251963179:=0
def tw14643157838152606692:=0
def tw11954556838157517305:=0
def tw6396114948888558134:=0
def tw16332284797698451409:=0
def tw100413784762359721:=0
def tw13295364098477785250:=0
def tw4443374303127240319:=0
def tw12316133317727967681:=0
def tw4854918737699807780:=0
def tw2903180227211539630:=0
def tw4674770561626538240:=0
def tw5812981615223361346:=0
def tw18211467659241198602:=0
def tw10112870196030225897:=0
def tw15434893924542090018:=0
def tw1346323262045620144:=0
def tw11208704197637938878:=0
def tw6458349874709762980:=0
def tw13860681100154035564:=0
def tw9847958539169514543:=0
def tw17509456635065672752:=0
def tw4465061703337361162:=0
def tw4679888042135343062:=0
def tw10615861974322912602:=0
def tw10443679737169882921:=0
def tw9830234538471376755:=0
def tw14715967088169566746:=0
def tw17447766177723476465:=0
def tw11624787107136592812:=0
def tw9501241865887947954:=0
def tw16016051899387902734:=0
def tw2954792386964056949:=0
def tw15308391751880421189:=0
def tw1925833864999511284:=0
def tw929684188965739612:=0
def tw4018740427503782113:=0
def tw6653548412860489460:=0
def tw2657437703618996678:=0
def tw2330322636648623265:=0
def tw12993898672549707515:=0
def tw7634270095712864365:=0
def tw12405875133619562566:=0
def tw15752370904450935649:=0
def tw16849683968120663265:=0
def tw76048223489490403:=0
def tw3531239544687862608:=0
def tw11930311597831172178:=0
def tw2572950960048897875:=0
def tw3631023130282076906:=0
def tw2347685524724782349:=0
def tw10658280017762242398:=0
def tw826227482444594924:=0
def tw4131808857790001959:=0
def tw14120020496947124409:=0
def tw4897033587159073753:=0
def tw16376864283383412720:=0
def tw2890633887577198832:=0
def tw5048939474877788916:=0
def tw11185053883737586458:=0
def tw6990407834787025182:=0
def tw12348025451591910657:=0
def tw14620371058486144614:=0
def tw12019208568170536043:=0
def tw9144228934437179450:=0
def tw219631687339050751:=0
def tw2665892768909004960:=0
def tw8476116825470292078:=0
def tw12526601221521759908:=0
def tw6925475183859450777:=0
def tw13912363820694416405:=0
def tw14233781702793250980:=0
def tw9619385731956695796:=0
def tw14776384295421315590:=0
def tw6433926022103314880:=0
def tw6065248435182366970:=0
def tw17985461116751041334:=0
def tw7150887689834093585:=0
def tw5933393717927827489:=0
def tw11858869828333430463:=0
def tw13475758344784264999:=0
def tw1718723050031807714:=0
def tw17947601467433903982:=0
def tw12328014970001221662:=0
def tw5085633229244751833:=0
def tw10869107168815819140:=0
def tw5615184792429585425:=0
def tw3464884410388422656:=0
def tw2073028770724038237:=0
def tw16250871659728411019:=0
def tw5865887383545857292:=0
def tw5331408519466291112:=0
def tw5700139828833056140:=0
def tw13587061185563459625:=0
def tw16511331311271490043:=0
def tw18027268738297000411:=0
def tw15166734616282332939:=0
def tw5644010971470574806:=0
def tw6182237749906211475:=0
def tw3435630407509323386:=0
def tw14391556588474688314:=0
def tw13398654787419530218:=0
def tw2736010492434493809:=0
def tw9344875825531335189:=0
def tw16667359834233683995:=0
def tw1352757561435038690:=0
def tw5162395220081528168:=0
def tw4841373091728438631:=0
def tw9880531587244269428:=0
def tw12480047900888820103:=0
def tw13307054805266517197:=0
def tw13248675381519505088:=0
def tw14493352035119881239:=0
def tw3367316492086066595:=0
def tw13072158701367040276:=0
def tw11153697842844413641:=0
def tw7038213300069522600:=0
def tw15839168132950937:=0
def tw1405268151352572015:=0
def tw2983152200536248476:=0
def tw11856906188053270780:=0
def tw13936296520297234809:=0
def tw2076430719771729495:=0
def tw16465086807738412883:=0
def tw5769739516114780241:=0
def tw11823554087438298143:=0
def tw15690982890093979332:=0
def tw4242876745774634054:=0
def tw3681759240098963387:=0
def tw7298852799772414997:=0
def tw13122522875771384178:=0
end PySem.W.Fast
open PySem PySem.W PyProof.Rows
set_option maxRecDepth 100000 in
set_option maxHeartbeats 0 in
theorem PySem.Challenge.cw_rimread_k34_stars_holds : PySem.Challenge.rw_rimread_k34_stars.Holds := by
 w_on; o_law; k_head; (case hw=>w_witness2)
 k_fill
 refine Rim34.walk (l:=PySem.Challenge.rw_rimread_k34_stars) rfl rfl (fun w h Y=>PySem.W.kIn_of Y) ?F
 case F =>
  intro w mg fa h KX G hmg;refine' Rim34.rk_ (CS:=?CS) (CD:=?CD) hmg ⟨?n_abs,?n_max,?n_min,?n_ValueError,?c_LONG_BITS,?n_dict,?n_len,?n_range,?n_list,?n_isinstance,?n_int,?n_bool,?n_tuple,?n_str,?n_enumerate,?n_sorted,?n_set⟩ ⟨?m1,L2.qW_ ?x1,⟨?x2,Rim34.cl_of ?x3,?x4⟩,?x5⟩ (Rim34.mt_of KX G ?na ?nl ?ns) ?f_greatest_divisor ?f_fraction ?f_plus ?f_times ?f_over ?f_ends_by_wire ?f_other_ends ?f_points_of ?f_points_within ?f_changed ?f_has_unlike_wires ?f_wires_asked ?f_star_done ?f_step_done ?f_Lcell_at ?f_Lbig ?f_Llow ?f_Lworth_of ?f_Lmates ?f_Lcorners ?f_Lcorner_behind ?f_Lregion ?f_Lgrown ?f_Lnames ?f_Lbegun ?f_Lnet_by ?f_Lcopy ?f_Lturns ?f_Lregions ?f_Lsame_net ?f_Lplaced ?f_Lends ?f_Ladd ?f_Lmul ?f_Lby ?f_Lwith_worths ?f_Lrow ?f_Lis_star ?f_Lstar ?f_Lstarred ?f_Lspoil ?f_Lright ?f_law
  case c_LONG_BITS=>refine' L2.qP_ KX G ?a; (case a=>k_is)
  case m1=>refine' PySem.W.mg_of KX G ?a; (case a=>k_is)
  case x1=>k_exc
  case x2=>k_is
  case x3=>k_is
  case x4=>k_is
  case x5=>k_is
  case na=>k_is
  case nl=>k_is
  case ns=>rfl
  case n_abs | n_max | n_min | n_ValueError | n_dict | n_len | n_range | n_list | n_isinstance | n_int | n_bool | n_tuple | n_str | n_enumerate | n_sorted | n_set=>refine' PySem.W.mg_none_of KX G ?a; (case a=>k_is)
  case f_greatest_divisor | f_fraction | f_plus | f_times | f_over | f_ends_by_wire | f_other_ends | f_points_of | f_points_within | f_changed | f_has_unlike_wires | f_wires_asked | f_star_done | f_step_done | f_Lcell_at | f_Lbig | f_Llow | f_Lworth_of | f_Lmates | f_Lcorners | f_Lcorner_behind | f_Lregion | f_Lgrown | f_Lnames | f_Lbegun | f_Lnet_by | f_Lcopy | f_Lturns | f_Lregions | f_Lsame_net | f_Lplaced | f_Lends | f_Ladd | f_Lmul | f_Lby | f_Lwith_worths | f_Lrow | f_Lis_star | f_Lstar | f_Lstarred | f_Lspoil | f_Lright | f_law=>refine' L2.qO_ KX G ?a ?l ?c ?k; (case a=>k_is); (case l=>k_is); (case c=>k_is); (case k=>k_is)
