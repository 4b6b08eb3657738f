import PyProof.Rows.All
import Wide.All
import OpenK.AllK
import Wide.FinOn
import Lean
import PyProof.EqAt
import PyProof.EqKinds
import PyProof.TupleCall
import PySem.Challenge.RW_rimread_k41_lean_nets_stay
local macro_rules|`(tactic|show $t:term)=>`(tactic|refine $t)
local macro_rules | `(tactic|rfl')=> `(tactic|decide +kernel)
local macro_rules | `(tactic|lia)=>`(tactic|first|lia -verbose|omega)
theorem o_{p:Prop}(h:p:=by lia):p:=h
theorem d_{p:Prop}(h:p:=by decide):p:=h
theorem r_{p:Prop}(h:p:=by rfl'):p:=h
theorem s_{p:Prop}(h:p:=by simp):p:=h
set_option Elab.async false
set_option linter.all false
set_option maxRecDepth 100000
set_option maxHeartbeats 4000000
set_option compiler.extract_closed false
def Aa_:=@List.getElem?_eq_getElem
def Ab_:=@List.length_map
def Ac_:=@PySem.wpAny_bind
def Ad_:=@List.getElem?_eq_some_iff
def Ae_:=@List.getElem?_map
def Af_:=@List.length_append
def Ag_:=@List.getD_eq_getElem?_getD
def Ah_:=@PySem.wpAny_pure
def Ai_:=@List.mem_of_getElem?
def Aj_:=@Nat.le_refl
def Ak_:=@List.mem_singleton
def Al_:=@PySem.Heap.get?_push_of_some
def Am_:=@List.mem_cons_of_mem
def An_:=@List.mem_map
def Ao_:=@List.getElem?_append_left
def Ap_:=@List.mem_append
def Aq_:=@List.map_append
def Ar_:=@Option.some.inj
def As_:=@List.mem_cons
def At_:=@List.size_toArray
def Au_:=@List.mem_cons_self
def Av_:=@PySem.Heap.lt_size
def Aw_:=@List.map_cons
def Ax_:=@List.mem_iff_getElem
def Ay_:=@List.getElem?_append_right
def Az_:=@PySem.Heap.get?_push_size
def AA_:=@PySem.F.plainAttrs_list
def AB_:=@Nat.zero_le
def AC_:=@PySem.F.slot_list_append
def AD_:=@PySem.F.type_list_append
def AE_:=@decide_eq_false
def AF_:=@Bool.false_ne_true
def AG_:=@List.nodup_cons
def AH_:=@Nat.lt_of_lt_of_le
def AI_:=@PySem.PassesOwn.never
def AJ_:=@List.flatten_cons
def AK_:=@Option.map_eq_some_iff
def AL_:=@Nat.ne_of_lt
def AM_:=@List.count_pos_iff
def AN_:=@List.mem_append_left
def AO_:=@List.mem_append_right
def AP_:=@List.map_map
def AQ_:=@List.getElem?_inj
def AR_:=@List.not_mem_nil
def AS_:=@List.nodup_append
def AT_:=@Nat.le_trans
def AU_:=@List.mem_range
def AV_:=@Nat.le_of_lt
def AW_:=@PySem.Heap.get?_update_other
def AX_:=@List.flatten_append
def AY_:=@List.nodup_nil
def AZ_:=@Int.emod_lt_of_pos
def A0_:=@List.map_congr_left
def A1_:=@List.length_cons
def A2_:=@Int.emod_nonneg
def A3_:=@decide_eq_true
def A4_:=@List.append_assoc
def A5_:=@Int.toNat_natCast
def A6_:=@of_decide_eq_true
def A7_:=@PySem.Around.in1_units
def A8_:=@Array.getD_eq_getD_getElem?
def A9_:=@List.length_singleton
def Ba_:=@List.mem_iff_getElem?
def Bb_:=@List.eq_nil_of_length_eq_zero
def Bc_:=@Nat.lt_irrefl
def Bd_:=@List.mem_filter
def Be_:=@PySem.wpAny_holding
def Bf_:=@PySem.mem_of_lookup
def Bg_:=@List.length_pos_iff
def Bh_:=@PySem.wpAny_truthy_bool
def Bi_:=@Nat.not_lt_zero
def Bj_:=@PySem.Around.under_plainId
def Bk_:=@PySem.wpAny_loadPart'
def Bl_:=@List.take_of_length_le
def Bm_:=@List.mem_flatten
def Bn_:=@List.getElem_mem
def Bo_:=@List.take_append_drop
def Bp_:=@List.append_nil
def Bq_:=@List.getElem?_set_ne
def Br_:=@PySem.Paired.length
def Bs_:=@List.sum_cons
def Bt_:=@Array.perm_iff_toList_perm
def Bu_:=@List.take_succ
def Bv_:=@List.pairwise_iff_getElem
def Bw_:=@List.getLast?_eq_getElem?
def Bx_:=@List.getElem?_eq_none
def By_:=@List.length_drop
def Bz_:=@Nat.le_add_right
def BA_:=@PySem.plainId_quiet
def BB_:=@PySem.wpAny_mono
def BC_:=@PySem.F.plainAttrs_dict
def BD_:=@Prod.ext
def BE_:=@PyProof.Rows.callWith_type1
def BF_:=@PySem.codeAny_builtin
def BG_:=@List.filterMap_cons
def BH_:=@List.length_reverse
def BI_:=@List.length_take
def BJ_:=@List.filterMap_append
def BK_:=@of_decide_eq_false
def BL_:=@PySem.sizeLine_eq
def BM_:=@List.mem_of_getLast?
def BN_:=@List.find?_cons
def BO_:=@PySem.wpAny_typeNameOfWhole_itemiter
def BP_:=@PySem.wpAny_newObj_type
def BQ_:=@List.pairwise_map
def BR_:=@PySem.F.slot_dict_itemiterator_next
def BS_:=@List.getElem?_cons_succ
def BT_:=@Nat.succ_le_succ
def BU_:=@List.lookup_cons
def BV_:=@PySem.wpAny_call_entry
def BW_:=@PySem.F.plain_min_loop
def BX_:=@List.getElem?_set_self
def BY_:=@List.mem_filterMap
def BZ_:=@Bool.false_eq_true
def B0_:=@PySem.wpAny_passesOwn
def B1_:=@List.forIn_cons
def B2_:=@List.any_cons
def B3_:=@List.nodup_iff_pairwise_ne
def B4_:=@List.length_range
def B5_:=@Decidable.not_not
def B6_:=@List.count_append
def B7_:=@PySem.wpAny_typeNameOf_itemiter
def B8_:=@List.drop_eq_getElem_cons
def B9_:=@List.nodup_iff_count
def Ca_:=@List.mem_or_eq_of_mem_set
def Cb_:=@PySem.Heap.size_push
def Cc_:=@PySem.wpAny_seqItems
def Cd_:=@Bool.and_eq_true
def Ce_:=@List.any_eq_true
def Cf_:=@beq_eq_false_iff_ne
def Cg_:=@Array.length_toList
def Ch_:=@Option.map_some
def Ci_:=@Bool.eq_iff_iff
def Cj_:=@List.length_set
def Ck_:=@Nat.not_lt
def Cl_:=@PySem.wpAny_setField_rec
def Cm_:=@List.count_eq_zero
def Cn_:=@Sum.inr.inj
def Co_:=@if_false
def Cp_:=@PySem.Calls.callWith_builtin
def Cq_:=@List.length_eq_one_iff
def Cr_:=@Nat.lt_succ_of_lt
def Cs_:=@List.getLast?_map
def Ct_:=@Option.isSome_map
def Cu_:=@List.length_replicate
def Cv_:=@PySem.Heap.get?_update_self
def Cw_:=@List.dropLast_concat_getLast
def Cx_:=@PySem.F.slot_dict_setdefault
def Cy_:=@PySem.wpAny_tryCatch
def Cz_:=@List.sublist_flatten_of_mem
def CA_:=@PySem.call_meets
def CB_:=@List.ext_getElem
def CC_:=@or_false
def CD_:=@PySem.wpAny_isInstance
def CE_:=@List.nodup_range
def CF_:=@List.getElem?_range
def CG_:=@PySem.wpAny_specialOf
def CH_:=@PySem.wpAny_Call_Name_kw
def CI_:=@List.filter_append
def CJ_:=@decide_eq_true_iff
def CK_:=@Nat.zero_add
def CL_:=@PySem.tupleKind_room_in1
def CM_:=@Int.zero_add
def CN_:=@List.length_filterMap_le
def CO_:=@PySem.wpAny_Call_method0_late
def CP_:=@List.pairwise_singleton
def CQ_:=@PySem.wpAny_pyIter_list
def CR_:=@List.reverse_cons
def CS_:=@PySem.wpAny_pyNext_list_item
def CT_:=@Nat.le_succ
def CU_:=@PySem.wpAny_letGo
def CV_:=@Array.getElem?_eq_none
def CW_:=@PySem.wpAny_isOneOf_itemiter
def CX_:=@PySem.wpAny_pyNext_list_end
def CY_:=@List.contains_iff_mem
def CZ_:=@List.getElem?_reverse
def C0_:=@PySem.isSubtype_tuple_tuple
def C1_:=@PySem.wpAny_notOrdered_dict
def C2_:=@List.perm_append_comm
def C3_:=@PySem.F.args_dict_itemiterator_next_1
def C4_:=@PySem.wpAny_execs_nil
def C5_:=@PySem.SeqAt.EqAt.same
def C6_:=@PySem.pushCells_keeps
def C7_:=@Nat.sub_self
def C8_:=@List.count_cons
def C9_:=@PySem.wpAny_typeOf
def Da_:=@PySem.F.entry_dict_itemiterator_next
def Db_:=@PySem.F.slot_list_lt
def Dc_:=@PyProof.Rows.bits_of_natAbs_le
def Dd_:=@List.nil_append
def De_:=@PySem.evalArgs_none
def Df_:=@List.getElem_set_ne
def Dg_:=@List.take_succ_cons
def Dh_:=@List.mem_map_of_mem
def Di_:=@List.mem_zipIdx_iff_getElem?
def Dj_:=@List.take_zero
def Dk_:=@PySem.F.type_dict_setdefault
def Dl_:=@PySem.wpAny_field
def Dm_:=@List.not_lt
def Dn_:=@PyProof.Rows.assignInOrder_cons
def Do_:=@PySem.SeqAt.EqAt.str_str
def Dp_:=@Nat.lt_of_le_of_lt
def Dq_:=@PySem.SeqAt.EqAt.of_refs
def Dr_:=@PySem.wpAny_tupleItemsOf
def Ds_:=@Array.forIn_toList
def Dt_:=@List.mem_replicate
def Du_:=@PySem.Calls.Name_function_global
def Dv_:=@PySem.wpAny_standAt
def Dw_:=@List.map_take
def Dx_:=@PySem.wpAny_dictEntries
def Dy_:=@List.reverse_perm
def Dz_:=@List.getElem_take
def DA_:=@PySem.wpAny_rule
def DB_:=@List.getElem?_eq_none_iff
def DC_:=@Array.getElem?_eq_getElem
def DD_:=@Nat.ne_of_gt
def DE_:=@Option.isSome_iff_exists
def DF_:=@List.getElem?_take_of_lt
def DG_:=@List.map_nil
def DH_:=@Nat.lt_succ_self
def DI_:=@PySem.wpAny_comprehension_free
def DJ_:=@beq_self_eq_true
def DK_:=@List.take_length
def DL_:=@List.cons_append
def DM_:=@PySem.wpAny_Dict_empty
def DN_:=@PySem.F.slot_dict_values
def DO_:=@PySem.F.entry_min_loop
def DP_:=@List.Pairwise.imp_of_mem
def DQ_:=@PySem.F.slot_dict_update
def DR_:=@PySem.F.type_dict_update
def DS_:=@List.getElem?_replicate
def DT_:=@List.getLast?_cons_cons
def DU_:=@PySem.wpAny_callSpecial?_slot
def DV_:=@PySem.F.slot_dict_items
def DW_:=@Int.eq_ofNat_of_zero_le
def DX_:=@Int.gcd_natCast_natCast
def DY_:=@List.of_mem_zip
def DZ_:=@Nat.min_eq_left
def D0_:=@List.range_succ
def D1_:=@List.length_nil
def D2_:=@PyProof.Rows.get?_update_seq
def D3_:=@PySem.wpAny_dictEpoch
def D4_:=@PySem.wpAny_updateSeq
def D5_:=@PySem.W.cellsFrom_some
def D6_:=@PySem.seqIndex_of
def D7_:=@PyProof.Rows.subscriptTail_builtinR
def D8_:=@Prod.mk.inj
def D9_:=@List.head?_eq_getElem?
def Ea_:=@PySem.Paired.snoc
def Eb_:=@PySem.wpAny_Assign_Subscript
def Ec_:=@PySem.F.slot_dict_items_iter
def Ed_:=@List.drop_eq_nil_of_le
def Ee_:=@PySem.F.args_list_lt_2
def Ef_:=@List.map_id
def Eg_:=@PySem.wpAny_isTrue_Compare1
def Eh_:=@Array.getElem?_toList
def Ei_:=@List.getElem_set_self
def Ej_:=@List.getLast?_reverse
def Ek_:=@List.forIn_nil
def El_:=@PySem.builtinLookup_eq_fast
def Em_:=@PySem.F.entry_list_lt
def En_:=@List.getElem?_toArray
def Eo_:=@List.length_filter_le
def Ep_:=@PySem.typeIs_str
def Eq_:=@PySem.SeqAt.EqAt.bool_bool
def Er_:=@bne_iff_ne
def Es_:=@List.getElem_toArray
def Et_:=@List.reverse_reverse
def Eu_:=@List.getLast?_concat
def Ev_:=@List.getElem_zipWith
def Ew_:=@PyProof.Rows.Constant_none
def Ex_:=@List.all_cons
def Ey_:=@PyProof.Rows.listUpdate_at
def Ez_:=@List.cons.inj
def EA_:=@List.map_drop
def EB_:=@List.filter_sublist
def EC_:=@PySem.W.pyHash_slot
def ED_:=@PyProof.Rows.getElem?_mirror_all
def EE_:=@List.length_zipWith
def EF_:=@List.zipWith_append
def EG_:=@PySem.codeAny_mono
def EH_:=@PySem.seqIndex_neg
def EI_:=@PySem.call_meetsIn
def EJ_:=@Nat.succ.inj
def EK_:=@PySem.wpAny_mkInt
namespace L2
open PySem PySem.Spec PyProof.Rows
abbrev Key:=Sum Int Str
def Gu_:Key->Value->Bool
 | .inl k,v=>Value.isInt k v
 | .inr x,v=>Value.isStrOf x v
def keyH(w:World):Key->Int
 | .inl k=>hashInt k
 | .inr x=>hashStr w x
theorem aK_:∀{k:Key}{v:Value},Gu_ k v=true->(∃i t,k=Sum.inl i/\v=Value.int i t)\/(∃x t,k=Sum.inr x/\v=Value.str x t)
 | .inl i,v,h=>by
  obtain⟨t,e⟩:=Value.isInt_shape (k:=i) (v:=v) h;show .inl ⟨i,t,rfl,e⟩
 | .inr x,v,h=>by obtain⟨t,e⟩:=Value.isStrOf_shape (x:=x) (v:=v) h;show .inr ⟨x,t,rfl,e⟩
theorem j1_(i:Int)(t:Tok):Gu_ (.inl i) (.int i t)=true:=by simp[Gu_,Value.isInt]
theorem j2_(x:Str)(t:Tok):Gu_ (.inr x) (.str x t)=true:=by simp[Gu_,Value.isStrOf]
theorem nz_(a b:Int):decide ((Sum.inl a:Key)=Sum.inl b)=(a == b):=by
 by_cases e:a=b
 .subst e;simp
 .have h:¬ (Sum.inl a:Key)=Sum.inl b:=λq=>e (Sum.inl.inj q);rw[AE_ h];show(Cf_.mpr e).symm
theorem nA_(a b:Str):decide ((Sum.inr a:Key)=Sum.inr b)=decide (a=b):=by
 by_cases e:a=b
 .subst e;simp
 .have h:¬ (Sum.inr a:Key)=Sum.inr b:=λq=>e (Cn_ q);rw[AE_ h,AE_ e]
theorem nB_(a:Int)(b:Str):decide ((Sum.inl a:Key)=Sum.inr b)=false:=AE_ (λq=>nomatch q)
theorem nC_(a:Str)(b:Int):decide ((Sum.inr a:Key)=Sum.inl b)=false:=AE_ (λq=>nomatch q)
def EV_(prog:Program)(w:World):PySem.KeyKind prog w Key where
 is:=Gu_
 hash:=keyH w
 inj:=λv a b ha hb=>by
  rcases aK_ ha with⟨i,t,rfl,rfl⟩|⟨x,t,rfl,rfl⟩
  .rcases aK_ hb with⟨j,u,rfl,e⟩|⟨y,u,rfl,e⟩
   .injection e with e1 _;rw[e1]
   .show nomatch e
  .rcases aK_ hb with⟨j,u,rfl,e⟩|⟨y,u,rfl,e⟩
   .show nomatch e
   .injection e with e1 _;rw[e1]
 byValue:=λk v h=>by rcases aK_ h with⟨i,t,rfl,rfl⟩|⟨x,t,rfl,rfl⟩ <;> rfl
 pyHash:=λhv h=>by
  rcases aK_ hv with⟨i,t,rfl,rfl⟩|⟨x,t,rfl,rfl⟩
  .show wpAny_pyHash_int h
  .show wpAny_pyHash_str h
 eqBool:=λhu hv h=>by
  rcases aK_ hu with⟨i,t,rfl,rfl⟩|⟨x,t,rfl,rfl⟩
  .rcases aK_ hv with⟨j,u,rfl,rfl⟩|⟨y,u,rfl,rfl⟩
   .rw[nz_]at h;show wpAny_eqBool_int h
   .rw[nB_]at h;show SeqAt.EqAt.int_str i t y u _ _ _ _ h
  .rcases aK_ hv with⟨j,u,rfl,rfl⟩|⟨y,u,rfl,rfl⟩
   .rw[nC_]at h;show SeqAt.EqAt.str_int x t j u _ _ _ _ h
   .rw[nA_]at h;show wpAny_eqBool_str h
 «strs»:=λk x t v h=>by
  rcases aK_ h with⟨i,u,rfl,e⟩|⟨y,u,rfl,e⟩
  .show nomatch e
  .injection e with e1 _
   subst e1;cases v <;> rfl
theorem it_(prog:Program)(w:World)(i:Int)(t:Tok):(EV_ prog w).is (.inl i) (.int i t)=true:=j1_ i t
theorem iu_(prog:Program)(w:World)(x:Str)(t:Tok):(EV_ prog w).is (.inr x) (.str x t)=true:=j2_ x t
inductive V where
 |non|bl (b:Bool)|int (i:Int)|str (x:Str)|byt (b:Array UInt8)|flt (b:UInt64)|ref (a:Addr)|ty (n:String)
 deriving DecidableEq
def Fb_:V->Value->Prop
 | .non,u=>u=Value.none
 | .bl b,u=>u=Value.bool b
 | .int i,u=>∃t,u=Value.int i t
 | .str x,u=>∃t,u=Value.str x t
 | .byt b,u=>∃t,u=Value.bytes b t
 | .flt b,u=>∃t,u=Value.float b t
 | .ref a,u=>u=Value.ref a
 | .ty n,u=>u=Value.type n
abbrev E8_:List V->List Value->Prop:=Paired Fb_
theorem E8_.length{xs:List V}{us:List Value}(r:E8_ xs us):xs.length=us.length:=Br_ r
theorem E8_.get:∀{xs:List V}{us:List Value}{i:Nat}{x:V},E8_ xs us->xs[i]?=some x->∃u,us[i]?=some u/\Fb_ x u
 |_,_,_,_,.nil,e=>by simp at e
 |_,_,0,_,.cons r _,e=>by simp at e;subst e;show⟨_,rfl,r⟩
 |_,_,i+1,x,.cons _ t,e=>by obtain⟨u,h1,h2⟩:=E8_.get (i:=i) (x:=x) t (by simpa using e);show⟨u,by simpa using h1,h2⟩
theorem E8_.set{x:V}{u:Value}(r:Fb_ x u):∀{xs:List V}{us:List Value}(i:Nat),E8_ xs us->E8_ (xs.set i x) (us.set i u)
 |_,_,_,.nil=>.nil
 |_,_,0,.cons _ t=>.cons r t
 |_,_,i+1,.cons q t=>.cons q (E8_.set r i t)
theorem E8_.append:∀{xs ys:List V}{us ws:List Value},E8_ xs us->E8_ ys ws->E8_ (xs++ys) (us++ws)
 |_,_,_,_,.nil,s=>s
 |_,_,_,_,.cons r t,s=>.cons r (E8_.append t s)
theorem E8_.take:∀{xs:List V}{us:List Value}(n:Nat),E8_ xs us->E8_ (xs.take n) (us.take n)
 |_,_,0,_=>.nil
 |_,_,_+1,.nil=>.nil
 |_,_,n+1,.cons r t=>.cons r (E8_.take n t)
theorem E8_.drop:∀{xs:List V}{us:List Value}(n:Nat),E8_ xs us->E8_ (xs.drop n) (us.drop n)
 |_,_,0,r=>r
 |_,_,_+1,.nil=>.nil
 |_,_,n+1,.cons _ t=>E8_.drop n t
def G7_:Option V->Option Value->Prop
 |some v,some u=>Fb_ v u
 |none,none=>True
 |_,_=>False
def KV{κ:Type}:List (κ×V)->List (κ×Value)->Prop:=Paired λ(p:κ×V)(q:κ×Value)=>p.1=q.1/\Fb_ p.2 q.2
def kV:Key->V
 | .inl i=>.int i
 | .inr x=>.str x
inductive HO where
 |lst (xs:List V)
 |tup (xs:List V)
 |dK (kvs:List (Key×V))|dT (kvs:List (List Key×V))
 |set (S:Int->Bool) (n:Nat)
 |ins (C dx:Addr) (fs:List (Str×V))
 |own (x:Addr)
 |xd (fs:List (Str×V))
 |met (f x:Addr)
 |rng (lo hi:Int)
 |frz (o:Obj) (u:HO)
 |tbl (ps:Array Value)
 |ext (φ:Heap->Prop)
abbrev Hp:=Addr->Option HO
def upd(H:Hp)(a:Addr)(o:HO):Hp:=λb=>if b=a then some o else H b
variable{H:Hp}{a:Addr}{o:HO}
theorem aa_:upd H a o a=some o:=by unfold upd;rw[if_pos rfl]
variable{b:Addr}
theorem ae_(h:b≠a):upd H a o b=H b:=by unfold upd;rw[if_neg h]
theorem mP_{u:HO}:upd (upd H a o) a u=upd H a u:=by funext b;unfold upd;split <;> rfl
theorem GB_{u:HO}(h:H a=some o)(h':H b=some u)(d:o≠u):a≠b:=by intro e;subst e;rw[h]at h';show d (Ar_ h')
theorem ag_(h:H a=some o)(h':H b=none):a≠b:=by intro e;subst e;rw[h]at h';cases h'
section
variable (P:Program)(w:World)
def Fg_(H:Hp)(h:Heap)(a:Addr):HO->Prop
 | .lst xs=>xs.length<=sizeLine/\∃(its:List Value)(n:Nat),E8_ xs its/\h.get? a=some {cls:=.type "list",data:=.seq its.toArray n}
 | .tup xs=>xs.length<=sizeLine/\∃its:List Value,E8_ xs its/\IsTup h a its.toArray
 | .dK kvs=>kvs.length<=sizeLine/\(a == sysModules)=false/\∃vs,KV kvs vs/\h.DictOf (EV_ P w) a vs
 | .dT kvs=>kvs.length<=sizeLine/\(a == sysModules)=false/\∃xs:List (List Key×Addr×Value),
   Paired (λ(p:List Key×V)(q:List Key×Addr×Value)=>p.1=q.1/\H q.2.1=some (.tup (p.1.map kV))/\Fb_ p.2 q.2.2) kvs xs /\
   ∃o es ep,h.get? a=some o/\o.ExactDict/\o.data=.dict es ep/\es.toList=xs.map (entryOfKey (tupleKind (EV_ P w)))/\(xs.map (·.1)).Nodup
 | .set S n=>h.SetOf (intKind P w) a S n
 | .ins C dx fs=>H dx=some (.own a)/\fs.length<=1000/\dx≠a/\h.get? a=some (PySem.W.instObj C dx) /\
   ∃mA,h.Ns1 dx mA/\(∀f,G7_ (fs.lookup f) (mA f))/\PySem.Within mA (fs.map (·.1))
 | .own _=>∃o,h.get? a=some o
 | .xd fs=>∃mA,h.Ns1 a mA/\∀f,G7_ (fs.lookup f) (mA f)
 | .rng lo hi=>∃t u v,h.get? a=some {cls:=.type "range",data:=.fields #[.int lo t,.int hi u,.int 1 v]}
 | .frz o u=>h.get? a=some o/\Fg_ H h a u
 | .tbl ps=>h.get? a=some {cls:=.none,data:=.fields ps}
 | .met f x=>h.get? a=some (PySem.W.methodObj (.ref f) (.ref x))
 | .ext φ=>φ h/\(∃o,h.get? a=some o)/\∀h1 h2:Heap,φ h1->(∀o,h1.get? a=some o->h2.get? a=some o)->φ h2
def HOk(H:Hp)(h:Heap):Prop:=∀a o,H a=some o->Fg_ P w H h a o
end
variable {P:Program}{w:World}{H H':Hp}{h h':Heap}{a:Addr}{o:HO}
theorem Fg_.lt(x:Fg_ P w H h a o):a<h.objs.size:=by
 cases o with
 |lst xs=>obtain⟨_,_,_,_,e⟩:=x;show Av_ e
 |tup xs=>obtain⟨_,_,_,p⟩:=x;show p.lt
 |dK kvs=>obtain⟨_,_,_,_,o,_,_,e,_⟩:=x;show Av_ e
 |dT kvs=>obtain⟨_,_,_,_,o,_,_,e,_⟩:=x;show Av_ e
 |set S n=>obtain⟨o,_,_,_,e,_⟩:=x;show Av_ e
 |ins C dx fs=>obtain⟨_,_,_,e,_⟩:=x;show Av_ e
 |own y=>obtain⟨_,e⟩:=x;show Av_ e
 |xd fs=>obtain⟨_,⟨_,_,_,e,_⟩,_⟩:=x;show Av_ e
 |rng lo hi=>obtain⟨_,_,_,e⟩:=x;show Av_ e
 |frz ob u=>obtain⟨e,_⟩:=x;show Av_ e
 |tbl ps=>show Av_ (show h.get? a=some _ from x)
 |met f y=>show Av_ (show h.get? a=some _ from x)
 |ext φ=>obtain⟨_,⟨_,e⟩,_⟩:=x;show Av_ e
theorem Paired.mapP{α β:Type}{F G:α->β->Prop}:∀{l₁:List α}{l₂:List β},Paired F l₁ l₂->(∀a b,F a b->G a b)->Paired G l₁ l₂
 |_,_,.nil,_=>.nil
 |_,_,.cons r t,f=>.cons (f _ _ r) (Paired.mapP t f)
theorem Fg_.stay(x:Fg_ P w H h a o)(k:∀b u,(b=a\/H b=some (.own a))->h.get? b=some u->h'.get? b=some u)
  (ho:∀b,H b=some (.own a)->H' b=some (.own a)) (ht:∀b xs,H b=some (.tup xs)->H' b=some (.tup xs)):Fg_ P w H' h' a o:=by
 induction o with
 |lst xs=>obtain⟨z,its,n,r,e⟩:=x;show⟨z,its,n,r,k _ _ (.inl rfl) e⟩
 |tup xs=>obtain⟨z,its,r,ob,e,c⟩:=x;show⟨z,its,r,ob,k _ _ (.inl rfl) e,c⟩
 |dK kvs=>obtain⟨z,y,vs,r,ob,es,ep,e,c⟩:=x;show⟨z,y,vs,r,ob,es,ep,k _ _ (.inl rfl) e,c⟩
 |dT kvs =>
  obtain⟨z,y,xs,r,ob,es,ep,e,c⟩:=x;show⟨z,y,xs,Paired.mapP r λp q z=>⟨z.1,ht _ _ z.2.1,z.2.2⟩,ob,es,ep,k _ _ (.inl rfl) e,c⟩
 |set S n=>obtain⟨ob,es,ep,t,e,c⟩:=x;show⟨ob,es,ep,t,k _ _ (.inl rfl) e,c⟩
 |ins C dx fs =>
  obtain⟨d,z,ne,e,mA,⟨od,es,ep,e2,c⟩,r⟩:=x;show⟨ho _ d,z,ne,k _ _ (.inl rfl) e,mA,⟨od,es,ep,k _ _ (.inr d) e2,c⟩,r⟩
 |own y=>obtain⟨ob,e⟩:=x;show⟨ob,k _ _ (.inl rfl) e⟩
 |xd fs=>obtain⟨mA,⟨od,es,ep,e,c⟩,r⟩:=x;show⟨mA,⟨od,es,ep,k _ _ (.inl rfl) e,c⟩,r⟩
 |rng lo hi=>obtain⟨t,u,v,e⟩:=x;show⟨t,u,v,k _ _ (.inl rfl) e⟩
 |frz ob u ih=>obtain⟨e,q⟩:=x;show⟨k _ _ (.inl rfl) e,ih q⟩
 |tbl ps =>
  have e:h.get? a=some {cls:=.none,data:=.fields ps}:=x;change h'.get? a=some {cls:=.none,data:=.fields ps};show k a _ (.inl rfl) e
 |met f y =>
  have e:h.get? a=some (PySem.W.methodObj (.ref f) (.ref y)):=x;change h'.get? a=some (PySem.W.methodObj (.ref f) (.ref y));show k a _ (.inl rfl) e
 |ext φ=>obtain⟨p,⟨o,e⟩,st⟩:=x;show⟨st _ _ p λo q=>k _ _ (.inl rfl) q,⟨o,k _ _ (.inl rfl) e⟩,st⟩
theorem HOk.lt(x:HOk P w H h)(e:H a=some o):a<h.objs.size:=(x a o e).lt
theorem HOk.fresh(x:HOk P w H h)(e:h.objs.size<=a):H a=none:=by
 cases q:H a with
 |none=>rfl
 |some u=>show absurd (AH_ (x.lt q) e) (Bc_ _)
theorem HOk.kept(x:HOk P w H h)(k:∀b u,h.get? b=some u->h'.get? b=some u):HOk P w H h':=λa o e =>
 (x a o e).stay (λb u _ q=>k b u q) (λ_ q=>q) λ_ _ q=>q
theorem HOk.laid(x:HOk P w H h)(k:∀b u,h.get? b=some u->h'.get? b=some u)(hp:h.objs.size<=a)(new:Fg_ P w (upd H a o) h' a o):HOk P w (upd H a o) h':=λb u e=>by
 have hn:=x.fresh hp;by_cases hb:b=a
 .subst hb;rw[aa_]at e;cases e;show new
 .rw[ae_ hb]at e;show(x b u e).stay (λc v _ q=>k c v q) (λc q=>by rw[ae_ (ag_ q hn)];show q) λc xs q=>by rw[ae_ (ag_ q hn)];show q
def Rd(H:Hp)(a:Addr)(u:HO):Prop:=H a=some u\/∃o,H a=some (.frz o u)
theorem Rd.ok{u:HO}(r:Rd H a u)(x:HOk P w H h):Fg_ P w H h a u:=by
 rcases r with r|⟨o,r⟩
 .show x a u r
 .obtain⟨_,q⟩:=x a _ r;show q
def Mut:Option HO->Prop
 |some (.lst _)=>True
 |some (.dK _)=>True
 |some (.dT _)=>True
 |some (.set _ _)=>True
 |some (.ins _ _ _)=>True
 |some (.ext _)=>True
 |_=>False
variable {x e:Addr}{o':HO}
theorem HOk.write(ok:HOk P w H h)(mu:Mut (H x))(he:e=x\/H e=some (.own x))(k:∀b u,b≠e->h.get? b=some u->h'.get? b=some u)(heo:∃u,h'.get? e=some u)
  (new:Fg_ P w (upd H x o') h' x o'):HOk P w (upd H x o') h':=λb u q=>by
 have nown:∀c y,H c=some (.own y)->c≠x:=λc y r z=>by subst z;rw[r]at mu;show mu
 have ntup:∀c xs,H c=some (.tup xs)->c≠x:=λc xs r z=>by subst z;rw[r]at mu;show mu
 by_cases hb:b=x
 .subst hb;rw[aa_]at q;cases q;show new
 .rw[ae_ hb]at q;by_cases hbe:b=e
  .have q':H b=some (.own x):=by
    rcases he with z|z
    .show absurd (hbe.trans z) hb
    .rw[hbe];show z
   rw[q]at q';cases q';obtain⟨v,hv⟩:=heo;show⟨v,by rw[hbe];show hv⟩
  .show(ok b u q).stay (λc v hc r=>k c v ?_ r) (λc r=>by rw[ae_ (nown c b r)];show r) λc xs r=>by rw[ae_ (ntup c xs r)];show r
   rcases hc with rfl|hc
   .show hbe
   .rintro rfl
    rcases he with z|z
    .show nown c b hc z
    .rw[hc]at z;cases z;show hb rfl
structure Un(fs ex:List Addr)(H H':Hp)(h h':Heap):Prop where
 keep:∀b o,h.get? b=some o->H b=none->b∉fs->b∉ex->h'.get? b=some o
 slot:∀b o,h.get? b=some o->H b=none->b∈fs->b∉ex->∃sl,h'.get? b=some {o with slots:=sl}
 free:∀b o,h.get? b=some o->H b=none->b∉ex->H' b=none
 there:∀b o,h.get? b=some o->b∉ex->∃o',h'.get? b=some o'
 tups:∀b xs,H b=some (.tup xs)->H' b=some (.tup xs)
 frzs:∀b o u,H b=some (.frz o u)->H' b=some (.frz o u)
 tbls:∀b ps,H b=some (.tbl ps)->∃more,H' b=some (.tbl (ps++more))
section
variable {fs fs' ex ex':List Addr}{H1 H2:Hp}{h1 h2:Heap}
theorem Un.any(u:Un fs ex H H1 h h1){ob:Obj}(q:h.get? b=some ob)(n:H b=none)(hx:b∉ex):∃sl,h1.get? b=some {ob with slots:=sl}:=by
 by_cases hb:b∈fs
 .show u.slot b ob q n hb hx
 .show⟨ob.slots,u.keep b ob q n hb hx⟩
theorem Un.kept(k:∀b u,h.get? b=some u->h'.get? b=some u):Un fs ex H H h h' :=
 ⟨λb ob q _ _ _=>k b ob q,λb ob q _ _ _=>⟨ob.slots,k b ob q⟩,λ_ _ _ n _=>n,λb ob q _=>⟨ob,k b ob q⟩,λ_ _ q=>q,λ_ _ _ q=>q,λ_ ps q=>⟨#[],by rw[q];simp⟩⟩
theorem Un.refl:Un fs ex H H h h:=Un.kept λ_ _ q=>q
theorem Un.laid(k:∀b u,h.get? b=some u->h'.get? b=some u)(hp:h.objs.size<=a)(hn:H a=none):Un fs ex H (upd H a o) h h' where
 keep:=λb u q _ _ _=>k b u q
 slot:=λb u q _ _ _=>⟨u.slots,k b u q⟩
 free:=λb u q n _=>by rw[ae_ (AL_ (AH_ (Av_ q) hp))];show n
 there:=λb u q _=>⟨u,k b u q⟩
 tups:=λb xs q=>by rw[ae_ (ag_ q hn)];show q
 frzs:=λb u xs q=>by rw[ae_ (ag_ q hn)];show q
 tbls:=λb ps q=>⟨#[],by rw[ae_ (ag_ q hn),q];simp⟩
theorem Un.write(mu:Mut (H x))(he:e=x\/H e=some (.own x))(k:∀b u,b≠e->h.get? b=some u->h'.get? b=some u)(heo:∃u,h'.get? e=some u):Un fs ex H (upd H x o) h h':=by
 have hx:∀b,H b=none->b≠x:=λb n z=>by subst z;rw[n]at mu;show mu
 have hb:∀b,H b=none->b≠e:=λb n z=>by
  subst z
  rcases he with r|r
  .show hx b n r
  .rw[n]at r;cases r
 have hm:∀b u,H b=some u->¬ Mut (some u)->b≠x:=λb u q nm z=>by subst z;rw[q]at mu;show nm mu
 show⟨λb u q n _ _=>k b u (hb b n) q,λb u q n _ _=>⟨u.slots,k b u (hb b n) q⟩,λb u q n _=>by rw[ae_ (hx b n)];show n,λb u q _=>?_,
  λb xs q=>by rw[ae_ (hm b _ q λz=>z)];show q,λb u xs q=>by rw[ae_ (hm b _ q λz=>z)];show q,λb ps q=>⟨#[],by rw[ae_ (hm b _ q λz=>z),q];simp⟩⟩
 by_cases hbe:b=e
 .subst hbe;show heo
 .show⟨u,k b u hbe q⟩
end
def trk(h:Heap)(H:Hp):List Addr:=(List.range h.objs.size).filter λa=>(H a).isSome
def H8_(h:Heap)(H:Hp):Heap:=PySem.W.hideAll h (trk h H)
theorem j3_(h:Heap)(H:Hp):(H8_ h H).objs.size=h.objs.size:=PySem.W.hideAll_size _ _
theorem lE_{o:Obj}(e:h.get? b=some o)(n:H b=none):(H8_ h H).get? b=some o :=
 PySem.W.hideAll_get _ e λhm=>by have q:(H b).isSome=true:=(Bd_.mp hm).2;rw[n]at q;simp at q
theorem mQ_{o:Obj}(e:(H8_ h H).get? b=some o):h.get? b=some o/\H b=none:=by
 have e':h.get? b=some o:=PySem.W.of_hideAll (trk h H) e;show⟨e',?_⟩;cases q:H b with
 |none=>rfl
 |some x =>have hm:b∈trk h H:=Bd_.mpr ⟨AU_.mpr (Av_ e'),by simp[q]⟩;have z:(H8_ h H).get? b=none:=PySem.W.hideAll_none (trk h H) hm;rw[z]at e;cases e
def Fx_(g h:Heap)(L:Addr):List (Addr×Obj):=(List.range h.objs.size).filterMap λa=>if a=L\/(g.get? a).isSome=true then none else(h.get? a).map λo=>(a,o)
theorem d5_{g:Heap}{L:Addr}{o:Obj}(h1:a≠L)(h2:g.get? a=none)(h3:h.get? a=some o):(a,o)∈Fx_ g h L :=
 BY_.mpr ⟨a,AU_.mpr (Av_ h3),by simp[h1,h2,h3]⟩
theorem gw_{g:Heap}{L:Addr}{p:Addr×Obj}(hp:p∈Fx_ g h L):p.1≠L/\g.get? p.1=none/\h.get? p.1=some p.2:=by
 obtain⟨b,_,e⟩:=BY_.mp hp;split at e
 .cases e
 .rename_i hn;cases q:h.get? b with
  |none=>rw[q]at e;simp at e
  |some u =>
   rw[q]at e;simp only[Ch_,Option.some.injEq]at e;subst e;show⟨λz=>hn (.inl z),?_,q⟩;change g.get? b=none;cases r:g.get? b with
   |none=>rfl
   |some v=>show(hn (.inr (by simp[r]))).elim
def rest(g h:Heap)(L d:Addr):List (Addr×Obj):=(Fx_ g h L).filter λp=>decide (p.1≠d)
theorem eo_{g:Heap}{L:Addr}:News g L h (Fx_ g h L):=λp hp=>let⟨a,b,c⟩:=gw_ hp;⟨c,a,b⟩
structure Mod(K:PySem.W.Frag)(mg:Str->Option Value)(base:Heap):Prop where
 kin:K.In base
 glob:base.Ns mainGlobals mg
 blt:∃mb,base.Ns builtinsNs mb/\∀x:Str,x ≠ "__name__" -> mb x=bootBuiltins x
 nolimit:base.NoLimit
structure Cx where
 prog:Program
 w:World
 K:PySem.W.Frag
 mg:Str->Option Value
 base:Heap
 A:Around
 N:List Str
 s₀:Shared
 H₀:Hp
 env:Env
 outer:List Env
 stack:List Env
 ex:List Addr
 fn:Str->Bool
 calm:Bool
 pn:List (Addr×Obj)
 xe:Value->Shared->Prop
def frs(l:List Env):List Addr:=l.filterMap (·.frame)
abbrev Cx.fs(X:Cx):List Addr:=frs X.outer
def Vis(sc:Scope)(x:Str):Prop:=sc.names.lookup x=some .local\/sc.names.lookup x=some .cell\/sc.names.lookup x=some .free
def Loc(sc:Scope)(x:Str):Prop:=sc.names.lookup x=some .local\/sc.names.lookup x=some .cell
def Look(env:Env)(h:Heap)(m:Str->Option Value)(x:Str)(u:Value):Prop :=
 (env.kindOf x=some .local/\m x=some u)\/((env.kindOf x=some .cell\/env.kindOf x=some .free)/\∃c,env.cells.lookup x=some c/\h.IsCell c (some u))
structure Cx.Ok(X:Cx):Prop where
 mod:Mod X.K X.mg X.base
 kind:X.env.scope.kind=.function
 glob:X.env.globals=mainGlobals
 blt:X.env.builtins=builtinsNs
 above:X.s₀.heap.objs.size<=X.env.locals
 inj:∀x y c,X.env.cells.lookup x=some c->X.env.cells.lookup y=some c->x=y
 has:∀x,(X.env.kindOf x=some .cell\/X.env.kindOf x=some .free)->∃c,X.env.cells.lookup x=some c
 cab:∀x c,X.fn x=true->X.env.cells.lookup x=some c->X.s₀.heap.objs.size<=c
 hd:X.calm=true->X.A.handled=none
 frames:X.A.frames=some X.stack
 stk:X.stack=X.outer\/(X.stack=X.env::X.outer/\X.env.frame=some X.env.locals)
 exf:∀b∈X.ex,b≠X.env.locals/\∀x c,X.env.cells.lookup x=some c->c≠b
 bs:∀b o,X.base.get? b=some o->X.s₀.heap.get? b=some o/\X.H₀ b=none
 bsz:X.base.objs.size<=X.s₀.heap.objs.size
 noex:∀b o,X.base.get? b=some o->b∉X.ex
 exfs:∀b∈X.ex,b∉X.fs
 funs:X.s₀.heap.FunFrames X.base X.outer
 frf:∀b∈X.fs,X.H₀ b=none
structure Inv(X:Cx)(pins:List (Addr×Obj))(σ:List (Option V))(H:Hp)(s:Shared):Prop where
 ok:X.Ok
 os:s.os=X.s₀.os
 bare:AllBare s.gens
 base:Un X.fs X.ex X.H₀ H X.s₀.heap s.heap
 loc:∃m,s.heap.Ns X.env.locals m/\∀(i:Nat)(x:Str)(v:V),X.N[i]?=some x->σ[i]?=some (some v)->Vis X.env.scope x->∃u,Fb_ v u/\Look X.env s.heap m x u
 cell:∀x c,X.env.cells.lookup x=some c->∃v,s.heap.IsCell c v
 free:H X.env.locals=none
 freeC:∀x c,X.env.cells.lookup x=some c->H c=none
 pin:∀p∈X.pn++pins,s.heap.get? p.1=some p.2/\H p.1=none/\p.1≠X.env.locals/\p.1∉X.fs/\∀v,p.2.data≠.cell v
 hok:HOk X.prog X.w H s.heap
 len:σ.length=X.N.length
variable {X:Cx}{pins:List (Addr×Obj)}{σ:List (Option V)}{s:Shared}
theorem Cx.Ok.nofr(ok:X.Ok){o:Obj}(e:X.base.get? b=some o):b∉X.fs:=λhb=>by have:=(ok.funs.mem hb).1;rw[e]at this;cases this
theorem Inv.bs(I:Inv X pins σ H s):∀b o,X.base.get? b=some o->s.heap.get? b=some o/\H b=none:=λb o e =>⟨I.base.keep b o (I.ok.bs b o e).1 (I.ok.bs b o e).2 (I.ok.nofr e) (I.ok.noex b o e),I.base.free b o (I.ok.bs b o e).1 (I.ok.bs b o e).2 (I.ok.noex b o e)⟩
theorem Inv.bk(I:Inv X pins σ H s):∀b o,X.base.get? b=some o->s.heap.get? b=some o:=λb o e=>(I.bs b o e).1
theorem Inv.mod(I:Inv X pins σ H s):Mod X.K X.mg X.base:=I.ok.mod
theorem Inv.kIn(I:Inv X pins σ H s):X.K.In s.heap:=I.ok.mod.kin.keeps I.bk
theorem Inv.lt(I:Inv X pins σ H s):X.env.locals<s.heap.objs.size:=let⟨_,hn,_⟩:=I.loc;hn.lt
theorem Inv.sz(I:Inv X pins σ H s):X.s₀.heap.objs.size<=s.heap.objs.size:=AT_ I.ok.above (AV_ I.lt)
theorem Inv.nofs(I:Inv X pins σ H s)(h:s.heap.objs.size<=a):a∉X.fs:=λhb=>by obtain⟨_,o,ho,_⟩:=I.ok.funs.mem hb;show absurd (AH_ (Av_ ho) (AT_ I.sz h)) (Bc_ _)
theorem Inv.cne(I:Inv X pins σ H s):∀x c,X.env.cells.lookup x=some c->c≠X.env.locals:=λx c e z=>by obtain⟨v,o,ho,hd⟩:=I.cell x c e;obtain⟨m,⟨o',es,ep,ho',hd',_⟩,_⟩:=I.loc;rw[z,ho']at ho;cases ho;rw[hd']at hd;cases hd
theorem Inv.funs(I:Inv X pins σ H s):s.heap.FunFrames X.base X.outer:=by
 have all:∀(l:List Env),(∀b∈frs l,b∈X.fs)->X.s₀.heap.FunFrames X.base l->s.heap.FunFrames X.base l:=by
  intro l
  induction l with
  |nil=>intro _ _;trivial
  |cons env r ih =>intro hs hl;obtain⟨hk,⟨L,o,hf,hn,ho,hd⟩,hr⟩:=hl;have hL:L∈X.fs:=hs L (by unfold frs;rw[BG_,hf];show Au_);obtain⟨sl,e⟩:=I.base.slot L o ho (I.ok.frf L hL) hL λz=>I.ok.exfs L z hL;show⟨hk,⟨L,_,hf,hn,e,hd⟩,ih (λb hb=>hs b (by unfold frs;rw[BG_,hf];show Am_ _ hb)) hr⟩
 show all X.outer (λ_ hb=>hb) I.ok.funs
theorem Inv.stack(I:Inv X pins σ H s):s.heap.FunFrames X.base X.stack:=by
 rcases I.ok.stk with e|⟨e,hf⟩
 .rw[e];show I.funs
 .rw[e];obtain⟨m,hn,_⟩:=I.loc;show .cons (by rw[I.ok.kind];decide) hf hn ?_ I.funs;show Heap.get?_none_of_le (AT_ I.ok.bsz I.ok.above)
theorem Inv.stkSub(I:Inv X pins σ H s):∀b∈frs X.stack,b∈X.env.locals::X.fs:=λb hb=>by
 rcases I.ok.stk with e|⟨e,hf⟩
 .rw[e]at hb;show Am_ _ hb
 .rw[e]at hb;unfold frs at hb;rw[BG_,hf]at hb;show hb
theorem Inv.stkFree(I:Inv X pins σ H s):∀b∈frs X.stack,H b=none:=λb hb=>by
 rcases As_.mp (I.stkSub b hb)with e|hb
 .rw[e];show I.free
 .obtain⟨_,o,ho,_⟩:=I.ok.funs.mem hb;show I.base.free b o ho (I.ok.frf b hb) λz=>I.ok.exfs b z hb
theorem Inv.step{g':Array GenState}{t':Nat}{d':Drawn}{ch:List Addr}(I:Inv X pins σ H s)
  (hch:∀b∈ch,(b∈X.ex\/X.s₀.heap.objs.size<=b)/\b≠X.env.locals/\(∀x c,X.env.cells.lookup x=some c->c≠b)/\∀p∈X.pn++pins,p.1≠b)
  (keep:∀b o,b≠X.env.locals->b∉X.fs->b∉ch->s.heap.get? b=some o->H b=none->h'.get? b=some o)
  (slot:∀b o,b≠X.env.locals->b∈X.fs->b∉ch->s.heap.get? b=some o->H b=none->∃sl,h'.get? b=some {o with slots:=sl}) (free:∀b o,b∉ch->s.heap.get? b=some o->H b=none->H' b=none)
  (there:∀b o,b∉ch->s.heap.get? b=some o->∃o',h'.get? b=some o')
  (tups:∀b xs,H b=some (.tup xs)->H' b=some (.tup xs)) (frzs:∀b o u,H b=some (.frz o u)->H' b=some (.frz o u)) (tbls:∀b ps,H b=some (.tbl ps)->∃more,H' b=some (.tbl (ps++more)))
  (ns:∀m,s.heap.Ns X.env.locals m->h'.Ns X.env.locals m) (hok:HOk X.prog X.w H' h') (hg:AllBare g'):
  Inv X pins σ H' {s with heap:=h',gens:=g',drawn:=d',toks:=t'}:=by
 have neL:∀b o,X.s₀.heap.get? b=some o->b≠X.env.locals:=λb o e=>AL_ (AH_ (Av_ e) I.ok.above)
 have neC:∀b o,X.s₀.heap.get? b=some o->b∉X.ex->b∉ch:=λb o e hx hb=>by
  rcases(hch b hb).1 with z|z
  .show hx z
  .show absurd (AH_ (Av_ e) z) (Bc_ _)
 have cellK:∀x c,X.env.cells.lookup x=some c->∀v,s.heap.IsCell c v->h'.IsCell c v:=λx c e v ⟨o,ho,hd⟩=>by
  have nch:c∉ch:=λz=>(hch c z).2.2.1 x c e rfl;by_cases hc:c∈X.fs
  .obtain⟨sl,q⟩:=slot c o (I.cne x c e) hc nch ho (I.freeC x c e);show⟨_,q,hd⟩
  .show⟨o,keep c o (I.cne x c e) hc nch ho (I.freeC x c e),hd⟩
 show⟨I.ok,I.os,hg,⟨λb o e n hb hx=>?_,λb o e n hb hx=>?_,λb o e n hx=>?_,λb o e hx=>?_,λb xs e=>tups b xs (I.base.tups b xs e),λb o xs e=>frzs b o xs (I.base.frzs b o xs e),λb ps e=>?_⟩,?_,λx c e=>?_,?_,λx c e=>?_,λp hp=>?_,hok,I.len⟩
 .show keep b o (neL b o e) hb (neC b o e hx) (I.base.keep b o e n hb hx) (I.base.free b o e n hx)
 .obtain⟨sl,e1⟩:=I.base.slot b o e n hb hx;obtain⟨sl',e2⟩:=slot b _ (neL b o e) hb (neC b o e hx) e1 (I.base.free b o e n hx);show⟨sl',e2⟩
 .obtain⟨o',e1⟩:=I.base.there b o e hx;show free b o' (neC b o e hx) e1 (I.base.free b o e n hx)
 .obtain⟨o',e1⟩:=I.base.there b o e hx;show there b o' (neC b o e hx) e1
 .obtain⟨m1,e1⟩:=I.base.tbls b ps e;obtain⟨m2,e2⟩:=tbls b _ e1;show⟨m1++m2,by rw[e2,Array.append_assoc]⟩
 .obtain⟨m,hn,hl⟩:=I.loc;show⟨m,ns m hn,λi x v e1 e2 e3=>?_⟩;obtain⟨u,r,l⟩:=hl i x v e1 e2 e3;show⟨u,r,?_⟩
  rcases l with l|⟨k,c,e,z⟩
  .show .inl l
  .show .inr ⟨k,c,e,cellK x c e _ z⟩
 .obtain⟨v,z⟩:=I.cell x c e;show⟨v,cellK x c e v z⟩
 .obtain⟨m,⟨o,_,_,ho,_⟩,_⟩:=I.loc;show free _ o (λz=>(hch _ z).2.1 rfl) ho I.free
 .obtain⟨v,o,ho,hd⟩:=I.cell x c e;show free c o (λz=>(hch c z).2.2.1 x c e rfl) ho (I.freeC x c e)
 .obtain⟨e,n,ne,nf,d⟩:=I.pin p hp;have nch:p.1∉ch:=λz=>(hch p.1 z).2.2.2 p hp rfl;show⟨keep p.1 p.2 ne nf nch e n,free p.1 p.2 nch e n,ne,nf,d⟩
theorem Inv.un{t':Nat}(I:Inv X pins σ H s)(u:Un X.fs [] H H' s.heap h')(hok:HOk X.prog X.w H' h'):Inv X pins σ H' {s with heap:=h',toks:=t'}:=by
 obtain⟨m,⟨o,es,ep,ho,r⟩,_⟩:=id I.loc;obtain⟨sl,hL⟩:=u.any ho I.free s_;show I.step (g':=s.gens) (d':=s.drawn) (ch:=[]) (λ_ z=>nomatch z) (λb o _ hb _ e n=>u.keep b o e n hb s_) (λb o _ hb _ e n=>u.slot b o e n hb s_) (λb o _ e n=>u.free b o e n s_) (λb o _ e=>u.there b o e s_) u.tups u.frzs u.tbls (λm' hm=>by obtain⟨o',es',ep',ho',r'⟩:=hm;rw[ho]at ho';cases ho';show⟨_,es',ep',hL,r'⟩) hok I.bare
theorem Inv.call{g':Array GenState}{t':Nat}{d':Drawn}{ch:List Addr}(I:Inv X pins σ H s)(u:Un (frs X.stack) ch H H' s.heap h')(hok:HOk X.prog X.w H' h')(hg:AllBare g')
  (hch:∀b∈ch,(b∈X.ex\/X.s₀.heap.objs.size<=b)/\b≠X.env.locals/\(∀x c,X.env.cells.lookup x=some c->c≠b)/\∀p∈X.pn++pins,p.1≠b):
  Inv X pins σ H' {s with heap:=h',gens:=g',drawn:=d',toks:=t'}:=by
 obtain⟨m,⟨o,es,ep,ho,r⟩,_⟩:=id I.loc;obtain⟨sl,hL⟩:=u.any ho I.free λz=>(hch _ z).2.1 rfl;show I.step (ch:=ch) hch (λb o hL hb hc e n=>u.keep b o e n (λz=>(As_.mp (I.stkSub b z)).elim hL hb) hc) (λb o _ _ hc e n=>u.any e n hc) (λb o hc e n=>u.free b o e n hc) (λb o hc e=>u.there b o e hc) u.tups u.frzs u.tbls (λm' hm=>by obtain⟨o',es',ep',ho',r'⟩:=hm;rw[ho]at ho';cases ho';show⟨_,es',ep',hL,r'⟩) hok hg
theorem Inv.turned{t':Nat}{it:Addr}(I:Inv X pins σ H s)(k:∀b o,b≠it->s.heap.get? b=some o->h'.get? b=some o)(hn:H it=none)(hL:it≠X.env.locals)
  (h1:it∈X.ex\/X.s₀.heap.objs.size<=it) (h2:∀x c,X.env.cells.lookup x=some c->c≠it) (h3:∀p∈X.pn++pins,p.1≠it):Inv X pins σ H {s with heap:=h',toks:=t'}:=by
 have nit:∀b u,H b=some u->b≠it:=λb u e z=>by rw[z,hn]at e;cases e
 show I.step (g':=s.gens) (d':=s.drawn) (ch:=[it]) (λb hb=>?_) (λb o _ _ hc e _=>k b o (λz=>hc (by simp[z])) e) (λb o _ _ hc e _=>⟨o.slots,k b o (λz=>hc (by simp[z])) e⟩) (λ_ _ _ _ n=>n)
  (λb o hc e=>⟨o,k b o (λz=>hc (by simp[z])) e⟩) (λ_ _ e=>e) (λ_ _ _ e=>e) (λb ps e=>⟨#[],by rw[e];simp⟩) (λm hm=>?_) (λb u e=>?_) I.bare
 .have e:b=it:=by simpa using hb
  subst e;show⟨h1,hL,h2,h3⟩
 .obtain⟨o,es,ep,ho,r⟩:=hm;show⟨o,es,ep,k _ o (Ne.symm hL) ho,r⟩
 .show(I.hok b u e).stay (λc v hc q=>k c v ?_ q) (λ_ q=>q) λ_ _ q=>q
  rcases hc with z|z
  .rw[z];show nit b u e
  .show nit c _ z
theorem Inv.tok(I:Inv X pins σ H s)(t:Nat):Inv X pins σ H {s with toks:=t}:=I.un (h':=s.heap) (t':=t) Un.refl I.hok
theorem Inv.kept{t':Nat}(I:Inv X pins σ H s)(k:∀b u,s.heap.get? b=some u->h'.get? b=some u):Inv X pins σ H {s with heap:=h',toks:=t'}:=I.un (Un.kept k) (I.hok.kept k)
theorem Inv.laid{t':Nat}(I:Inv X pins σ H s)(k:∀b u,s.heap.get? b=some u->h'.get? b=some u)(hp:s.heap.objs.size<=a)(new:Fg_ X.prog X.w (upd H a o) h' a o):
  Inv X pins σ (upd H a o) {s with heap:=h',toks:=t'}:=I.un (Un.laid k hp (I.hok.fresh hp)) (I.hok.laid k hp new)
theorem Inv.write{x e:Addr}{o:HO}{t':Nat}(I:Inv X pins σ H s)(mu:Mut (H x))(he:e=x\/H e=some (.own x))(k:∀b u,b≠e->s.heap.get? b=some u->h'.get? b=some u)(heo:∃u,h'.get? e=some u)
  (new:Fg_ X.prog X.w (upd H x o) h' x o):Inv X pins σ (upd H x o) {s with heap:=h',toks:=t'}:=I.un (Un.write mu he k heo) (I.hok.write mu he k heo new)
theorem Inv.pins_of{pins':List (Addr×Obj)}(I:Inv X pins σ H s)(h:∀p∈pins',s.heap.get? p.1=some p.2/\H p.1=none/\p.1≠X.env.locals/\p.1∉X.fs/\∀v,p.2.data≠.cell v):Inv X pins' σ H s :=
 ⟨I.ok,I.os,I.bare,I.base,I.loc,I.cell,I.free,I.freeC,λp hp=>(Ap_.mp hp).elim (λz=>I.pin p (AN_ _ z)) (h p),I.hok,I.len⟩
theorem i3_{N:List Str}(hN:N.Nodup){i j:Nat}{x:Str}(a:N[i]?=some x)(b:N[j]?=some x):i=j:=by obtain⟨h1,e1⟩:=Ad_.mp a;obtain⟨h2,e2⟩:=Ad_.mp b;show(List.getElem_inj hN).mp (e1.trans e2.symm)
theorem ht_{M:Model}{A:Around}{E:Value->Shared->Prop}{i:Nat}{x:Str}{v:V}{u:Value}{Q:Unit->Shared->Prop}(I:Inv X pins σ H s)(hN:X.N.Nodup)(hi:X.N[i]?=some x)(hx:Loc X.env.scope x)(r:Fb_ v u)
  (h:∀s',Inv X pins (σ.set i (some v)) H s'->(∃a,Heap.SameBut a s.heap s'.heap/\(a=X.env.locals\/X.env.cells.lookup x=some a))->Q () s') (hf:X.fn x=true\/X.env.scope.names.lookup x=some .local:=by first|show .inl rfl|show .inr rfl|assumption):wpAny M A (storeName X.env x u) Q E s:=by
 obtain⟨m,hn,hl⟩:=id I.loc;have hcls:(X.env.scope.kind == .class ||(X.env.scope.kind == .module && X.env.locals != X.env.globals))=false:=by rw[I.ok.kind];rfl
 have hiσ:i<σ.length:=by rw[I.len];show(Ad_.mp hi).1
 have cne:=I.cne
 have tracked:∀{a:Addr}{h':Heap},(∃o,s.heap.get? a=some o/\H a=none)->Heap.SameBut a s.heap h'->HOk X.prog X.w H h':=λ{a h'} ha hs b ob e=>by
  obtain⟨_,_,hfree⟩:=ha;show(I.hok b ob e).stay (λc w' hc q=>(hs.2 c ?_).trans q) (λ_ q=>q) λ_ _ q=>q;rintro rfl
  rcases hc with rfl|hc
  .rw[hfree]at e;cases e
  .rw[hfree]at hc;cases hc
 rcases hx with hk|hk
 .show wpAny_storeName_local hk hn (λh' hn' hs=>?_) hcls;obtain⟨oL,_,_,hoL,_⟩:=id hn;show h _ ⟨I.ok,I.os,I.bare,⟨λb o e n hb hx=>?_,λb o e n hb hx=>?_,I.base.free,λb o e hx=>?_,I.base.tups,I.base.frzs,I.base.tbls⟩,⟨_,hn',λj y v' e1 e2 e3=>?_⟩,λy c e=>?_,I.free,I.freeC,λp hp=>?_,tracked ⟨oL,hoL,I.free⟩ hs,by simpa using I.len⟩ ⟨_,hs,.inl rfl⟩
  .show(hs.2 b (AL_ (AH_ (Av_ e) I.ok.above))).trans (I.base.keep b o e n hb hx)
  .obtain⟨sl,e1⟩:=I.base.slot b o e n hb hx;show⟨sl,(hs.2 b (AL_ (AH_ (Av_ e) I.ok.above))).trans e1⟩
  .obtain⟨o',e1⟩:=I.base.there b o e hx;show⟨o',(hs.2 b (AL_ (AH_ (Av_ e) I.ok.above))).trans e1⟩
  .by_cases hj:j=i
   .subst hj;rw[hi]at e1;cases e1;rw[BX_ hiσ]at e2;cases e2;show⟨u,r,.inl ⟨hk,s_⟩⟩
   .rw[Bq_ (Ne.symm hj)]at e2;obtain⟨u',r',q⟩:=hl j y v' e1 e2 e3;show⟨u',r',?_⟩
    rcases q with⟨k,e⟩|⟨k,c,e,z⟩
    .show .inl ⟨k,?_⟩;have:y≠x:=λe=>hj (i3_ hN e1 (e▸hi));simp[this,e]
    .show .inr ⟨k,c,e,z.sameBut hs (cne y c e)⟩
  .obtain⟨w',z⟩:=I.cell y c e;show⟨w',z.sameBut hs (cne y c e)⟩
  .obtain⟨e,n,ne,nf,d⟩:=I.pin p hp;show⟨(hs.2 p.1 ne).trans e,n,ne,nf,d⟩
 .have hfn:X.fn x=true:=by
   rcases hf with z|z
   .show z
   .rw[z]at hk;cases hk
  obtain⟨c,hc⟩:=I.ok.has x (.inl hk);obtain⟨w',z⟩:=I.cell x c hc;show wpAny_storeName_cell I.ok.kind hk hc z (λh' hc' hs=>?_);obtain⟨oc,hoc,hocd⟩:=id z;show h {s with heap:=h'} ⟨I.ok,I.os,I.bare,⟨λb o e n hb hx=>?_,λb o e n hb hx=>?_,I.base.free,λb o e hx=>?_,I.base.tups,I.base.frzs,I.base.tbls⟩,⟨m,hn.sameBut hs (Ne.symm (cne x c hc)),λj y v' e1 e2 e3=>?_⟩,λy c' e=>?_,I.free,I.freeC,λp hp=>?_,tracked ⟨oc,hoc,I.freeC x c hc⟩ hs,by simpa using I.len⟩ ⟨c,hs,.inr hc⟩
  .show(hs.2 b (AL_ (AH_ (Av_ e) (I.ok.cab x c hfn hc)))).trans (I.base.keep b o e n hb hx)
  .obtain⟨sl,e1⟩:=I.base.slot b o e n hb hx;show⟨sl,(hs.2 b (AL_ (AH_ (Av_ e) (I.ok.cab x c hfn hc)))).trans e1⟩
  .obtain⟨o',e1⟩:=I.base.there b o e hx;show⟨o',(hs.2 b (AL_ (AH_ (Av_ e) (I.ok.cab x c hfn hc)))).trans e1⟩
  .by_cases hj:j=i
   .subst hj;rw[hi]at e1;cases e1;rw[BX_ hiσ]at e2;cases e2;show⟨u,r,.inr ⟨.inl hk,c,hc,hc'⟩⟩
   .rw[Bq_ (Ne.symm hj)]at e2;obtain⟨u',r',q⟩:=hl j y v' e1 e2 e3;show⟨u',r',?_⟩
    rcases q with q|⟨k,c',e,z'⟩
    .show .inl q
    .show .inr ⟨k,c',e,z'.sameBut hs ?_⟩;rintro rfl;show hj (i3_ hN e1 (I.ok.inj _ _ _ e hc▸hi))
  .by_cases hcc:c'=c
   .subst hcc;show⟨_,hc'⟩
   .obtain⟨w2,z2⟩:=I.cell y c' e;show⟨w2,z2.sameBut hs hcc⟩
  .obtain⟨e,n,ne,nf,d⟩:=I.pin p hp;show⟨(hs.2 p.1 ?_).trans e,n,ne,nf,d⟩;intro q;rw[q,hoc]at e;have q':oc=p.2:=Ar_ e;show d w' (by rw[<-q'];show hocd)
theorem fy_{M:Model}{A:Around}{E:Value->Shared->Prop}{i:Nat}{x:Str}{v:V}{u:Value}{Q:Unit->Shared->Prop}(I:Inv X pins σ H s)(hN:X.N.Nodup)(hi:X.N[i]?=some x)(hx:Loc X.env.scope x)(r:Fb_ v u)
  (h:∀s',Inv X pins (σ.set i (some v)) H s'->Q () s') (hf:X.fn x=true\/X.env.scope.names.lookup x=some .local:=by first|show .inl rfl|show .inr rfl|assumption):wpAny M A (storeName X.env x u) Q E s :=
 ht_ I hN hi hx r (λs' I' _=>h s' I') hf
theorem Inv.call'{s':Shared}{ch:List Addr}(I:Inv X pins σ H s)(ho:s'.os=s.os)(u:Un (frs X.stack) ch H H' s.heap s'.heap)(hok:HOk X.prog X.w H' s'.heap)(hg:AllBare s'.gens)
  (hch:∀b∈ch,(b∈X.ex\/X.s₀.heap.objs.size<=b)/\b≠X.env.locals/\(∀x c,X.env.cells.lookup x=some c->c≠b)/\∀p∈X.pn++pins,p.1≠b):Inv X pins σ H' s':=by
 obtain⟨h',g',d',t',o'⟩:=s';have e:o'=s.os:=ho;subst e;show I.call (g':=g') (t':=t') (d':=d') u hok hg hch
abbrev XK:=Value->Option Addr->Hp->Prop
abbrev St:=List (Option V)
abbrev VK:=V->Hp->Prop
abbrev TE:=St->Hp->VK->Prop
abbrev TT:=St->Hp->(Bool->Hp->Prop)->Prop
abbrev TA:=St->Hp->(List V->Hp->Prop)->Prop
structure GL_ where
 nx:St->Hp->Prop
 rt:VK
 bk:St->Hp->Prop:=λ_ _=>False
 ct:St->Hp->Prop:=λ_ _=>False
abbrev TS:=GL_->St->Hp->Prop
def EP(X:Cx)(pins:List (Addr×Obj))(σ:St)(Q:VK)(u:Value)(s':Shared):Prop:=∃v H',Inv X pins σ H' s'/\Fb_ v u/\Q v H'
def TP(X:Cx)(pins:List (Addr×Obj))(σ:St)(Q:Bool->Hp->Prop)(b:Bool)(s':Shared):Prop:=∃H',Inv X pins σ H' s'/\Q b H'
def AP(X:Cx)(pins:List (Addr×Obj))(σ:St)(Q:List V->Hp->Prop)(us:List Value)(s':Shared):Prop:=∃vs H',Inv X pins σ H' s'/\E8_ vs us/\Q vs H'
def SP(X:Cx)(pins:List (Addr×Obj))(D:GL_)(f:Flow)(s':Shared):Prop :=
 match f with
 | .next=>∃σ' H',Inv X pins σ' H' s'/\D.nx σ' H'
 | .brk=>∃σ' H',Inv X pins σ' H' s'/\D.bk σ' H'
 | .cont=>∃σ' H',Inv X pins σ' H' s'/\D.ct σ' H'
 | .ret u=>∃v σ' H',Inv X pins σ' H' s'/\Fb_ v u/\D.rt v H'
def PE(X:Cx)(e:Expr)(t:TE):Prop :=
 ∀(pins:List (Addr×Obj))(s:Shared)(σ:St)(H:Hp)(Q:VK),Inv X pins σ H s->t σ H Q->wpAny (model X.prog X.w) X.A (eval e X.env) (EP X pins σ Q) X.xe s
def PT(X:Cx)(e:Expr)(t:TT):Prop :=
 ∀(pins:List (Addr×Obj))(s:Shared)(σ:St)(H:Hp)(Q:Bool->Hp->Prop),Inv X pins σ H s->t σ H Q->wpAny (model X.prog X.w) X.A (isTrue e X.env (eval e X.env)) (TP X pins σ Q) X.xe s
def PW(X:Cx)(e:Expr)(t:TT):Prop :=
 ∀(whole:Sem Value)(pins:List (Addr×Obj))(s:Shared)(σ:St)(H:Hp)(Q:Bool->Hp->Prop),Inv X pins σ H s->t σ H Q->wpAny (model X.prog X.w) X.A (isTrue e X.env whole) (TP X pins σ Q) X.xe s
theorem PW.pt{e:Expr}{t:TT}(h:PW X e t):PT X e t:=h _
def PA(X:Cx)(es:List Expr)(t:TA):Prop :=
 ∀(pos:Pos)(pins:List (Addr×Obj))(s:Shared)(σ:St)(H:Hp)(Q:List V->Hp->Prop),Inv X pins σ H s->t σ H Q->wpAny (model X.prog X.w) X.A (spliced (backTo pos (starEach es X.env))) (AP X pins σ Q) X.xe s
def PS(X:Cx)(st:Stmt)(t:TS):Prop :=
 ∀(pins:List (Addr×Obj))(s:Shared)(σ:St)(H:Hp)(D:GL_),Inv X pins σ H s->t D σ H->wpAny (model X.prog X.w) X.A (exec st X.env) (SP X pins D) X.xe s
def PSs(X:Cx)(st:List Stmt)(t:TS):Prop :=
 ∀(pins:List (Addr×Obj))(s:Shared)(σ:St)(H:Hp)(D:GL_),Inv X pins σ H s->t D σ H->wpAny (model X.prog X.w) X.A (execs st X.env) (SP X pins D) X.xe s
theorem thn{α:Type}{t:Sem α}{Q Q':α->Shared->Prop}{M:Model}{A:Around}{E:Value->Shared->Prop}(h:wpAny M A t Q E s)(hQ:∀a s,Q a s->Q' a s):wpAny M A t Q' E s:=BB_ h hQ λ_ _ x=>x
section
def Jb_(i:Nat):TE:=λσ H Q=>∃v,σ[i]?=some (some v)/\Q v H
def tC(v:V):TE:=λ_ H Q=>Q v H
theorem mr_{i:Nat}{x:Str}{pos:Pos}(hN:X.N[i]?=some x)(hv:Vis X.env.scope x)(hd:(x == ("__debug__" : Str))=false:=by decide) (hcd:(x == ("__classdict__" : Str))=false:=by decide):PE X (.Name x pos) (Jb_ i):=by
 intro pins s σ H Q I h;obtain⟨v,e,h⟩:=h;obtain⟨m,hn,hl⟩:=I.loc;obtain⟨u,r,l⟩:=hl i x v hN e hv;have fin:EP X pins σ Q u s:=⟨v,H,I,r,h⟩
 rcases l with⟨hk,hm⟩|⟨hk,c,hc,hcell⟩
 .show wpAny_Name (wpAny_loadName_local I.ok.kind hk hn hm fin) hd
 .rcases hk with hk|hk
  .show wpAny_Name (wpAny_loadName_cell I.ok.kind hk hc hcell fin) hd
  .show wpAny_Name (wpAny_loadName_free I.ok.kind hk hc hcell fin hcd) hd
theorem ad_{i j pos}:PE X (.Constant (.int i) j pos) (tC (.int i)):=λ_ _ _ H _ I h=>wpAny_Constant_int ⟨.int i,H,I.tok _,⟨_,rfl⟩,h⟩
theorem F2_{b j pos}:PE X (.Constant (.bool b) j pos) (tC (.bl b)):=λ_ _ _ H _ I h=>Constant_bool ⟨.bl b,H,I,rfl,h⟩
theorem hu_{j pos}:PE X (.Constant .none j pos) (tC .non):=λ_ _ _ H _ I h=>Ew_ ⟨.non,H,I,rfl,h⟩
theorem gB_{x j pos}:PE X (.Constant (.str x) j pos) (tC (.str x)):=λ_ _ _ H _ I h=>Calls.Constant_str ⟨.str x,H,I.tok _,⟨_,rfl⟩,h⟩
def Gl(X:Cx)(x:Str):Prop:=X.env.kindOf x=some .globalImplicit
theorem mR_{E:Value->Shared->Prop}{pins:List (Addr×Obj)}{s:Shared}{σ:St}{H:Hp}{x:Str}{u:Value}{pos:Pos}{Q:Value->Shared->Prop}(I:Inv X pins σ H s)(hg:Gl X x)(hm:X.mg x=some u)(h:Q u s)
  (hd:(x == ("__debug__" : Str))=false:=by decide):wpAny (model X.prog X.w) X.A (eval (.Name x pos) X.env) Q E s :=
 Du_ I.ok.kind hg (Calls.loadGlobal_global (by rw[I.ok.glob];show I.mod.glob.keeps I.bk) hm h) hd
theorem fF_{E:Value->Shared->Prop}{pins:List (Addr×Obj)}{s:Shared}{σ:St}{H:Hp}{x:Str}{u:Value}{pos:Pos}{Q:Value->Shared->Prop}(I:Inv X pins σ H s)(hg:Gl X x)(hm:X.mg x=none)(hv:bootBuiltins x=some u)(h:Q u s)
  (hn:x ≠ "__name__" := by decide) (hd:(x == ("__debug__" : Str))=false:=by decide):wpAny (model X.prog X.w) X.A (eval (.Name x pos) X.env) Q E s:=by
 obtain⟨mb,h1,h2⟩:=I.mod.blt;show Du_ I.ok.kind hg (Calls.loadGlobal_builtin (by rw[I.ok.glob];show I.mod.glob.keeps I.bk) hm (by rw[I.ok.blt];show h1.keeps I.bk) ((h2 x hn).trans hv) h) hd
theorem mS_{x:Str}{v:V}{u:Value}{pos:Pos}(hg:Gl X x)(hm:X.mg x=none)(hv:bootBuiltins x=some u)(r:Fb_ v u)(hn:x ≠ "__name__" := by decide) (hd:(x == ("__debug__" : Str))=false:=by decide):PE X (.Name x pos) (tC v):=
 λ_ _ _ H _ I h=>fF_ I hg hm hv ⟨v,H,I,r,h⟩ hn hd
variable {a b:Expr}{ta tb:TE}{pos:Pos}
def PC(X:Cx)(op:CmpOp)(a b:Expr)(t:TE):Prop :=
 ∀(pins:List (Addr×Obj))(s:Shared)(σ:St)(H:Hp)(Q:VK),Inv X pins σ H s->t σ H Q ->
  wpAny (model X.prog X.w) X.A (eval a X.env) (λv s₁=>wpAny (model X.prog X.w) X.A (eval b X.env) (λu s₂=>wpAny (model X.prog X.w) X.A (compareOp op v u) (EP X pins σ Q) X.xe s₂) X.xe s₁) X.xe s
variable{op:CmpOp}
theorem Hi_(b:Expr)(h:op≠.In)(h2:op≠.NotIn):behindInMarks op b=false:=by
 have e1:(op == CmpOp.In)=false:=by cases op <;> first|rfl|show absurd rfl h
 have e2:(op == CmpOp.NotIn)=false:=by cases op <;> first|rfl|show absurd rfl h2
 cases b <;> simp[behindInMarks,e1,e2]
def Kg_(ta:TE):TE:=λσ H Q=>ta σ H λx H1=>Q (.bl (decide (x=.non))) H1
def Iu_(ta:TE):TE:=λσ H Q=>ta σ H λx H1=>Q (.bl (!decide (x=.non))) H1
theorem Fb_.none_iff{x:V}{v:Value}(r:Fb_ x v):(v == Value.none)=decide (x=.non):=by
 cases x with
 |non=>cases r;rfl
 |bl _=>cases r;rfl
 |int _=>obtain⟨t,rfl⟩:=r;rfl
 |str _=>obtain⟨t,rfl⟩:=r;rfl
 |byt _=>obtain⟨t,rfl⟩:=r;rfl
 |flt _=>obtain⟨t,rfl⟩:=r;rfl
 |ref _=>cases r;rfl
 |ty _=>cases r;rfl
theorem ms_{j pos'} (ha:PE X a ta):PC X .Is a (.Constant .none j pos') (Kg_ ta):=by intro pins s σ H Q I h;show thn (ha pins s σ H _ I h) λv s1 ⟨x,H1,I1,r1,q1⟩=>?_;show Ew_ (is_none_gen ⟨.bl _,H1,I1,by rw[r1.none_iff];rfl,q1⟩)
theorem mT_{j pos'} (ha:PE X a ta):PC X .IsNot a (.Constant .none j pos') (Iu_ ta):=by intro pins s σ H Q I h;show thn (ha pins s σ H _ I h) λv s1 ⟨x,H1,I1,r1,q1⟩=>?_;show Ew_ (isnot_none_gen ⟨.bl _,H1,I1,by rw[r1.none_iff];rfl,q1⟩)
def tB(t:TE):TT:=λσ H Q=>t σ H λx H1=>∃c,x=.bl c/\Q c H1
theorem nD_{t:TE}(h:PC X op a b t)(h1:behindInMarks op b=false:=by first|show Hi_ _ d_ d_|rfl):PE X (.Compare a [op] [b] pos) t:=λpins s σ H Q I hw=>wpAny_Compare1 (h pins s σ H Q I hw) h1
theorem fG_{t:TE}(h:PC X op a b t)(h1:behindInMarks op b=false:=by first|show Hi_ _ d_ d_|rfl):PT X (.Compare a [op] [b] pos) (tB t):=by intro pins s σ H Q I hw;show Eg_ (thn (h pins s σ H _ I hw) λv s1 h1=>thn h1 λu s2 h2=>thn h2 λc s3 ⟨x,H1,I1,r1,q1⟩=>?_) h1;obtain⟨d,rfl,q⟩:=q1;cases r1;show Bh_ ⟨H1,I1,q⟩
theorem i4_{e:Expr}{t:TE}(h:PE X e t)(he:∀whole,isTrue e X.env whole=(do let v <-whole;standAt e.pos;holding [v] (truthy v)):=by intro _;rfl):PT X e (tB t):=by intro pins s σ H Q I hw;show isTrue_plain (thn (h pins s σ H _ I hw) λv s1 ⟨x,H1,I1,r1,q1⟩=>?_) (he _);obtain⟨d,rfl,q⟩:=q1;cases r1;show Bh_ ⟨H1,I1,q⟩
variable {tA tB':TT}{rest:List Expr}
def Kb_(t u:TT):TT:=λσ H Q=>t σ H λc H1=>if c=true then u σ H1 Q else Q false H1
def tOr(t u:TT):TT:=λσ H Q=>t σ H λc H1=>if c=true then Q true H1 else u σ H1 Q
def J6_(t:TT):TT:=λσ H Q=>t σ H λc H1=>Q (!c) H1
theorem j4_(ha:PT X a tA):PW X (.BoolOp .And [a] pos) tA:=by
 intro wh pins s σ H Q I h;show isTrue_and (thn (ha pins s σ H Q I h) λc s1 e=>?_);cases c with
 |true=>show isTrue_and_nil e
 |false=>show e
theorem mt_(ha:PT X a tA):PW X (.BoolOp .Or [a] pos) tA:=by
 intro wh pins s σ H Q I h;show isTrue_or (thn (ha pins s σ H Q I h) λc s1 e=>?_);cases c with
 |false=>show isTrue_or_nil e
 |true=>show e
theorem i5_(ha:PT X a tA)(hb:PW X (.BoolOp .And (b::rest) pos) tB'):PW X (.BoolOp .And (a::b::rest) pos) (Kb_ tA tB'):=by
 intro wh pins s σ H Q I h;show isTrue_and (thn (ha pins s σ H _ I h) λc s1 ⟨H1,I1,q1⟩=>?_);cases c with
 |true=>show hb wh pins s1 σ H1 Q I1 q1
 |false=>show⟨H1,I1,q1⟩
theorem HZ_(ha:PT X a tA)(hb:PW X (.BoolOp .Or (b::rest) pos) tB'):PW X (.BoolOp .Or (a::b::rest) pos) (tOr tA tB'):=by
 intro wh pins s σ H Q I h;show isTrue_or (thn (ha pins s σ H _ I h) λc s1 ⟨H1,I1,q1⟩=>?_);cases c with
 |true=>show⟨H1,I1,q1⟩
 |false=>show hb wh pins s1 σ H1 Q I1 q1
theorem j5_(ha:PT X a tA):PT X (.UnaryOp .Not a pos) (J6_ tA):=by intro pins s σ H Q I h;show isTrue_not (ha pins s σ H (λc H1=>Q (!c) H1) I h)
def IC_(ta tb:TE):TE:=λσ H Q=>ta σ H λx H1=>∃c,x=.bl c/\if c=true then tb σ H1 Q else Q (.bl false) H1
def KI_(ta tb:TE):TE:=λσ H Q=>ta σ H λx H1=>∃c,x=.bl c/\if c=true then Q (.bl true) H1 else tb σ H1 Q
def IJ_(ta:TE):TE:=λσ H Q=>ta σ H λx H1=>∃c,x=.bl c/\Q (.bl (!c)) H1
theorem mu_{op} {t:TE} (h:PE X a t):PE X (.BoolOp op [a] pos) t:=λpins s σ H Q I hw=>BoolOp_one (h pins s σ H Q I hw)
theorem mv_(ha:PE X a ta)(hb:PE X (.BoolOp .And (b::rest) pos) tb):PE X (.BoolOp .And (a::b::rest) pos) (IC_ ta tb):=by
 intro pins s σ H Q I h;show BoolOp_and (thn (ha pins s σ H _ I h) λv s1 ⟨x,H1,I1,r1,q1⟩=>?_);obtain⟨c,rfl,q1⟩:=q1;cases r1;show Bh_ ?_;cases c with
 |true=>show hb pins s1 σ H1 Q I1 q1
 |false=>show⟨.bl false,H1,I1,rfl,q1⟩
theorem nE_(ha:PE X a ta):PE X (.UnaryOp .Not a pos) (IJ_ ta):=by intro pins s σ H Q I h;show UnaryOp_ (thn (ha pins s σ H _ I h) λv s1 ⟨x,H1,I1,r1,q1⟩=>?_);obtain⟨c,rfl,q1⟩:=q1;cases r1;show not_of (Bh_ ⟨.bl (!c),H1,I1,rfl,q1⟩)
def tIf(t:TT)(ta tb:TE):TE:=λσ H Q=>t σ H λc H1=>if c=true then ta σ H1 Q else tb σ H1 Q
theorem lF_{c:Expr}(hc:PT X c tA)(ha:PE X a ta)(hb:PE X b tb):PE X (.IfExp c a b pos) (tIf tA ta tb):=by
 intro pins s σ H Q I h;show wpAny_IfExp (thn (hc pins s σ H _ I h) λd s1 ⟨H1,I1,q1⟩=>?_);cases d with
 |true=>show ha pins s1 σ H1 Q I1 q1
 |false=>show hb pins s1 σ H1 Q I1 q1
end
def SqL(K:PySem.W.Frag)(H:Hp)(a:Addr)(xs:List V):Prop :=
 Rd H a (.lst xs) \/
  ∃(o:Obj)(its:Array Value)(n:Nat),K.lookup a=some o/\o.cls=.type "list" /\ o.dict=none/\o.data=.seq its n/\its.size<=sizeLine/\E8_ xs its.toList
def SqT(K:PySem.W.Frag)(H:Hp)(a:Addr)(xs:List V):Prop :=
 Rd H a (.tup xs) \/
  ∃(o:Obj)(its:Array Value)(n:Nat),K.lookup a=some o/\o.cls=.type "tuple" /\ o.data=.seq its n/\its.size<=sizeLine/\E8_ xs its.toList
def absV:Value->Option V
 | .none=>some .non
 | .bool b=>some (.bl b)
 | .int i _=>some (.int i)
 | .str x _=>some (.str x)
 | .bytes b _=>some (.byt b)
 | .float b _=>some (.flt b)
 | .ref a=>some (.ref a)
 | .type n=>some (.ty n)
 |_=>none
theorem Fb_.abs{x:V}{u:Value}(r:Fb_ x u):absV u=some x:=by
 cases x with
 |non=>cases r;rfl
 |bl _=>cases r;rfl
 |int _=>obtain⟨t,rfl⟩:=r;rfl
 |str _=>obtain⟨t,rfl⟩:=r;rfl
 |byt _=>obtain⟨t,rfl⟩:=r;rfl
 |flt _=>obtain⟨t,rfl⟩:=r;rfl
 |ref _=>cases r;rfl
 |ty _=>cases r;rfl
theorem Fb_.inj{x y:V}{u:Value}(r:Fb_ x u)(q:Fb_ y u):x=y:=Ar_ (r.abs.symm.trans q.abs)
theorem E8_.inj:∀{xs ys:List V}{us:List Value},E8_ xs us->E8_ ys us->xs=ys
 |_,_,_,.nil,.nil=>rfl
 |_,_,_,.cons r t,.cons r' t'=>by rw[r.inj r',E8_.inj t t']
variable {σ:St}{xs ys:List V}
variable{K:PySem.W.Frag}
theorem SqT.of(h:H a=some (.tup xs)):SqT K H a xs:=.inl (.inl h)
theorem Inv.list(I:Inv X pins σ H s)(h:SqL X.K H a xs):∃its:List Value,E8_ xs its/\PlainL s.heap a its.toArray/\xs.length<=sizeLine:=by
 rcases h with h|⟨o,its,n,hk,hc,hd,hs,hz,r⟩
 .obtain⟨z,its,n,r,e⟩:=h.ok I.hok;show⟨its,r,⟨_,n,e,rfl,rfl,rfl⟩,z⟩
 .show⟨its.toList,r,⟨o,n,I.kIn a o hk,hc,hd,by simpa using hs⟩,?_⟩;have e:=r.length;simp only[Cg_]at e;lia
theorem Inv.tuple(I:Inv X pins σ H s)(h:SqT X.K H a xs):∃its:List Value,E8_ xs its/\IsTup s.heap a its.toArray/\xs.length<=sizeLine:=by
 rcases h with h|⟨o,its,n,hk,hc,hs,hz,r⟩
 .obtain⟨z,its,r,p⟩:=h.ok I.hok;show⟨its,r,p,z⟩
 .show⟨its.toList,r,⟨o,I.kIn a o hk,hc,n,by simpa using hs⟩,?_⟩;have e:=r.length;simp only[Cg_]at e;lia
theorem Inv.list_inj(I:Inv X pins σ H s)(h:SqL X.K H a xs)(h':SqL X.K H a ys):xs=ys:=by
 obtain⟨its,r,⟨o,n,e,_,_,d⟩,_⟩:=I.list h;obtain⟨its',r',⟨o',n',e',_,_,d'⟩,_⟩:=I.list h';rw[e]at e';cases e';rw[d]at d';injection d' with d1 _
 have:its=its':=by simpa using congrArg Array.toList d1
 subst this;show r.inj r'
abbrev Cx.wish(X:Cx)(E:Value->Shared->Prop):Cx:={X with xe:=E}
abbrev Cx.nox(X:Cx):Cx:=X.wish λ_ _=>False
theorem Cx.Ok.wish(ok:X.Ok)(E:Value->Shared->Prop):(X.wish E).Ok :=
 ⟨ok.mod,ok.kind,ok.glob,ok.blt,ok.above,ok.inj,ok.has,ok.cab,ok.hd,ok.frames,ok.stk,ok.exf,ok.bs,ok.bsz,ok.noex,ok.exfs,ok.funs,ok.frf⟩
theorem Cx.Ok.unwish{E:Value->Shared->Prop}(ok:(X.wish E).Ok):X.Ok :=
 ⟨ok.mod,ok.kind,ok.glob,ok.blt,ok.above,ok.inj,ok.has,ok.cab,ok.hd,ok.frames,ok.stk,ok.exf,ok.bs,ok.bsz,ok.noex,ok.exfs,ok.funs,ok.frf⟩
variable {E:Value->Shared->Prop}
theorem Inv.wish(I:Inv X pins σ H s)(E:Value->Shared->Prop):Inv (X.wish E) pins σ H s:=⟨I.ok.wish E,I.os,I.bare,I.base,I.loc,I.cell,I.free,I.freeC,I.pin,I.hok,I.len⟩
theorem Inv.unwish(I:Inv (X.wish E) pins σ H s):Inv X pins σ H s:=⟨I.ok.unwish,I.os,I.bare,I.base,I.loc,I.cell,I.free,I.freeC,I.pin,I.hok,I.len⟩
theorem SP.unwish{D:GL_}{f:Flow}{s':Shared}(h:SP (X.wish E) pins D f s'):SP X pins D f s':=by
 cases f with
 |next=>obtain⟨σ',H',I,q⟩:=h;show⟨σ',H',I.unwish,q⟩
 |brk=>obtain⟨σ',H',I,q⟩:=h;show⟨σ',H',I.unwish,q⟩
 |cont=>obtain⟨σ',H',I,q⟩:=h;show⟨σ',H',I.unwish,q⟩
 |ret u=>obtain⟨v,σ',H',I,r,q⟩:=h;show⟨v,σ',H',I.unwish,r,q⟩
theorem PSs.nox{st:List Stmt}{t:TS}(h:PSs X.nox st t):PSs X st t:=λpins s σ H D I hw =>BB_ (h pins s σ H D (I.wish _) hw) (λ_ _ q=>q.unwish) λ_ _ z=>False.elim z
section
variable {st:Stmt}{rest:List Stmt}{t u:TS}{e:Expr}{te:TE}{pos:Pos}
def IQ_:TS:=λD σ H=>D.nx σ H
def Km_(t u:TS):TS:=λD σ H=>t {D with nx:=u D} σ H
theorem a4_:PSs X [] IQ_:=λ_ _ σ H _ I h=>C4_ ⟨σ,H,I,h⟩
theorem ac_(h1:PS X st t)(h2:PSs X rest u):PSs X (st::rest) (Km_ t u):=by
 intro pins s σ H D I h;show wpAny_execs_cons (thn (h1 pins s σ H {D with nx:=u D} I h) λf s1 q=>?_);cases f with
 |next =>
  obtain⟨σ',H',I',q⟩:=q;show h2 pins s1 σ' H' D I' q
 |ret v=>show q
 |brk=>show q
 |cont=>show q
theorem ah_(h1:PS X st t):PSs X [st] t:=by
 intro pins s σ H D I h;show wpAny_execs_cons (thn (h1 pins s σ H D I h) λf s1 q=>?_);cases f with
 |next=>show C4_ q
 |ret v=>show q
 |brk=>show q
 |cont=>show q
def Js_:TS:=λD σ H=>D.bk σ H
theorem lG_:PS X (.Break pos) Js_:=λ_ _ σ H _ I h=>wpAny_Break ⟨σ,H,I,h⟩
theorem Inv.quiet(I:Inv X pins σ H s):interactive X.env=false:=by simp[interactive,I.ok.kind]
def H6_(te:TE):TS:=λD σ H=>te σ H λ_ H1=>D.nx σ H1
theorem mU_(he:PE X e te)(hs:swapsWith e none pos.line X.env=pure false:=by rfl):PS X (.Expr e pos) (H6_ te):=by intro pins s σ H D I h;show wpAny_Expr_any (thn (he pins s σ H _ I h) λv s1 ⟨x,H1,I1,r1,q1⟩=>⟨σ,H1,I1,q1⟩) I.quiet hs
def JZ_(te:TE):TS:=λD σ H=>te σ H D.rt
theorem aF_(he:PE X e te):PS X (.Return (some e) pos) (JZ_ te):=by intro pins s σ H D I h;show wpAny_Return_some (thn (he pins s σ H _ I h) λv s1 ⟨x,H1,I1,r1,q1⟩=>⟨x,σ,H1,I1,r1,q1⟩)
def Jy_:TS:=λD _ H=>D.rt .non H
def Kf_(c:TT)(t u:TS):TS:=λD σ H=>c σ H λb H1=>if b=true then t D σ H1 else u D σ H1
theorem FH_{c:Expr}{a b:List Stmt}{tc:TT}(hc:PT X c tc)(ha:PSs X a t)(hb:PSs X b u):PS X (.If c a b pos) (Kf_ tc t u):=by
 intro pins s σ H D I h;show wpAny_If (thn (hc pins s σ H _ I h) λd s1 ⟨H1,I1,q1⟩=>?_);cases d with
 |true=>show ha pins s1 σ H1 D I1 q1
 |false=>show hb pins s1 σ H1 D I1 q1
def Jj_:TS:=λ_ _ _=>False
theorem j6_{sts:List Stmt}:PSs X sts Jj_:=λ_ _ _ _ _ _ h=>h.elim
end
abbrev TG:=V->St->Hp->(St->Hp->Prop)->Prop
abbrev TGs:=List V->St->Hp->(St->Hp->Prop)->Prop
def PG(X:Cx)(target:Expr)(t:TG):Prop :=
 ∀(pins:List (Addr×Obj))(s:Shared)(σ:St)(H:Hp)(v:V)(u:Value)(Q:St->Hp->Prop),Inv X pins σ H s->Fb_ v u->t v σ H Q ->
  wpAny (model X.prog X.w) X.A (assign target X.env u) (λ_ s'=>∃σ' H',Inv X pins σ' H' s'/\Q σ' H') X.xe s
def PGs(X:Cx)(ts:List Expr)(t:TGs):Prop :=
 ∀(pins:List (Addr×Obj))(s:Shared)(σ:St)(H:Hp)(vs:List V)(us:List Value)(Q:St->Hp->Prop),Inv X pins σ H s->E8_ vs us->t vs σ H Q ->
  wpAny (model X.prog X.w) X.A (assignInOrder ((assignEach ts X.env).map (·.2)) us) (λ_ s'=>∃σ' H',Inv X pins σ' H' s'/\Q σ' H') X.xe s
abbrev J4_:=V->V->V->Hp->(Hp->Prop)->Prop
def KF_(X:Cx)(t:J4_):Prop :=
 ∀(pins:List (Addr×Obj))(s:Shared)(σ:St)(H:Hp)(o i v:V)(ov iv u:Value)(Q:Hp->Prop),Inv X pins σ H s->Fb_ o ov->Fb_ i iv->Fb_ v u->t o i v H Q ->
  wpAny (model X.prog X.w) X.A (setItem ov iv u) (λ_ s'=>∃H',Inv X pins σ H' s'/\Q H') X.xe s
variable {pos:Pos}
def Gl_(i:Nat):TG:=λv σ H Q=>Q (σ.set i (some v)) H
theorem j7_{i:Nat}{x:Str}(hN:X.N.Nodup)(hi:X.N[i]?=some x)(hx:Loc X.env.scope x)(hf:X.fn x=true\/X.env.scope.names.lookup x=some .local:=by first|show .inl rfl|show .inr rfl|assumption):PG X (.Name x pos) (Gl_ i):=by intro pins s σ H v u Q I r h;show wpAny_assign_Name (fy_ I hN hi hx r (λs' I'=>⟨_,H,I',h⟩) hf)
def J5_:TGs:=λvs σ H Q=>vs=[]/\Q σ H
def IR_(t:TG)(u:TGs):TGs:=λvs σ H Q=>∃v r,vs=v::r/\t v σ H λσ' H'=>u r σ' H' Q
theorem bw_:PGs X [] J5_:=by intro pins s σ H vs us Q I r h;obtain⟨e,h⟩:=h;subst e;cases r;show assignInOrder_nil ⟨σ,H,I,h⟩
theorem an_{e:Expr}{es:List Expr}{t:TG}{u:TGs}(h1:PG X e t)(h2:PGs X es u)
  (hs:(assignEach (e::es) X.env).map (·.2)=assign e X.env::(assignEach es X.env).map (·.2):=by rfl):PGs X (e::es) (IR_ t u):=by
 intro pins s σ H vs us Q I r h;obtain⟨v,vr,e1,h⟩:=h;subst e1;cases r with
 |cons r rr =>rw[hs];show Dn_ (thn (h1 pins s σ H _ _ _ I r h) λ_ s1 ⟨σ1,H1,I1,q1⟩=>?_);show h2 pins s1 σ1 H1 _ _ Q I1 rr q1
def JT_(K:PySem.W.Frag)(n:Nat)(t:TGs):TG:=λv σ H Q=>∃a xs,v=.ref a/\SqT K H a xs/\xs.length=n/\t xs σ H Q
theorem nF_{es:List Expr}{k:Nat}{t:TGs}{n:Nat}(hc:X.calm=true)(h:PGs X es t)
  (hn:(assignEach es X.env).length=n:=by rfl) (hst:(assignEach es X.env).findIdx? (·.1)=none:=by rfl):PG X (.Tuple es k pos) (JT_ X.K n t):=by
 intro pins s σ H v u Q I r hw;obtain⟨a,xs,e1,hq,hl,hw⟩:=hw;subst e1;cases r;obtain⟨its,rv,ht,hz⟩:=I.tuple hq;show assign_Tuple_tuple (I.ok.hd hc) ht (by simp[hn,<-hl,rv.length]) hst λh' hx=>?_;have I1:Inv X pins σ H {s with heap:=h'}:=I.kept (t':=s.toks) λb o e=>hx b o (AL_ (Av_ e)) e;show h pins _ σ H xs _ Q I1 (by simpa using rv) hw
def Kk_(to ti:TE)(t:J4_):TG:=λv σ H Q=>to σ H λo H1=>ti σ H1 λi H2=>t o i v H2 λH3=>Q σ H3
theorem mw_{o i:Expr}{to ti:TE}{t:J4_}(ho:PE X o to)(hi:PE X i ti)(hs:KF_ X t)
  (ha:∀v,assign (.Subscript o i pos) X.env v=(do
   let ov <-holding [v] (eval o X.env)
   let iv <-holding [v,ov] (eval i X.env)
   standAt pos
   holding [v,ov,iv] (setItem ov iv v)
   release [v,ov,iv] []):=by intro _;rfl):PG X (.Subscript o i pos) (Kk_ to ti t):=by
 intro pins s σ H v u Q I r h;rw[ha];show Ac_ (Be_ (thn (ho pins s σ H _ I h) λov s1 ⟨x,H1,I1,r1,q1⟩=>?_));show Ac_ (Be_ (thn (hi pins s1 σ H1 _ I1 q1) λiv s2 ⟨y,H2,I2,r2,q2⟩=>?_));show Ac_ (Dv_ (Ac_ (Be_ (thn (hs pins s2 σ H2 x y v ov iv u _ I2 r1 r2 r q2) λ_ s3 ⟨H3,I3,q3⟩=>?_))));show wpAny_release ⟨σ,H3,I3,q3⟩
def Jc_(te:TE)(g:TG):TS:=λD σ H=>te σ H λx H1=>g x σ H1 D.nx
theorem j8_{tg e:Expr}{te:TE}{g:TG}(he:PE X e te)(hg:PG X tg g)(hs:swapsWithSole [tg] e pos.line X.env=pure false:=by rfl) (hw:swappedStores [tg] e X.env=pure none:=by rfl)
  (h1:(assignEach [tg] X.env).map (·.2)=[assign tg X.env]:=by rfl):PS X (.Assign [tg] e pos) (Jc_ te g):=by
 intro pins s σ H D I h;show wpAny_Assign_stores (thn (he pins s σ H _ I h) λv s1 ⟨x,H1,I1,r1,q1⟩=>?_) hs hw;rw[h1];show thn (hg pins s1 σ H1 x v _ I1 r1 q1) λ_ s2 q=>q
theorem nG_{i:Nat}{x:Str}{e:Expr}{te:TE}{pos':Pos}(hN:X.N.Nodup)(hi:X.N[i]?=some x)(hx:Loc X.env.scope x)(he:PE X e te)(hs:swapsWith e (some (.Name x pos')) pos.line X.env=pure false:=by rfl) (hf:X.fn x=true\/X.env.scope.names.lookup x=some .local:=by first|show .inl rfl|show .inr rfl|assumption):
  PS X (.Assign [.Name x pos'] e pos) (Jc_ te (Gl_ i)):=by
 intro pins s σ H D I h;show wpAny_Assign_Name (thn (he pins s σ H _ I h) λv s1 ⟨y,H1,I1,r1,q1⟩=>?_) hs;show fy_ I1 hN hi hx r1 (λs2 I2=>⟨_,H1,I2,q1⟩) hf
def Kj_(i j:Nat)(ta:TA):TS:=λD σ H=>ta σ H λvs H1=>∃v w,vs=[v,w]/\D.nx ((σ.set i (some v)).set j (some w)) H1
theorem i6_{i j:Nat}{x y:Str}{a b:Expr}{ta:TA}{px py pt:Pos}{kt k2 pt2} (hc:X.calm=true) (hN:X.N.Nodup) (hi:X.N[i]?=some x) (hj:X.N[j]?=some y) (hij:i≠j)
  (hx:X.env.scope.names.lookup x=some .local) (hy:X.env.scope.names.lookup y=some .local) (ha:PA X [a,b] ta)
  (hw:swappedStores [.Tuple [.Name x px,.Name y py] kt pt] (.Tuple [a,b] k2 pt2) X.env=pure (some [x,y]))
  (hs:swapsWithSole [.Tuple [.Name x px,.Name y py] kt pt] (.Tuple [a,b] k2 pt2) pos.line X.env=pure false:=by rfl):
  PS X (.Assign [.Tuple [.Name x px,.Name y py] kt pt] (.Tuple [a,b] k2 pt2) pos) (Kj_ i j ta):=by
 intro pins s σ H D I h;rw[exec_Assign_arm];show Ac_ (Dv_ ?_);rw[hs];show Ac_ (Ah_ ?_);rw[if_neg d_];show Ac_ (Tuple_ (thn (ha _ pins s σ H _ I h) λus s1 ⟨vs,H1,I1,r1,q1⟩=>?_));obtain⟨v,w,e1,q1⟩:=q1;subst e1
 obtain⟨u1,u2,rfl,rv,rw'⟩:∃u1 u2,us=[u1,u2]/\Fb_ v u1/\Fb_ w u2:=by
  cases r1 with
  |cons p q =>
   cases q with
   |cons p' q' =>
    cases q';show⟨_,_,rfl,p,p'⟩
 show BP_ ?_ (by change 2<=sizeLine;decide);have I2:Inv X pins σ H1 {s1 with heap:=s1.heap.push {cls:=.type "tuple",data:=.seq [u1,u2].toArray}}:=I1.kept (t':=s1.toks) λb o e=>Al_ _ e;rw[hw];show Ac_ (Ah_ ?_);change wpAny (model X.prog X.w) X.A (do rule "assign.swapped-stores";let items <-unpackItems (.ref s1.heap.objs.size) 2 none;assignInOrder [λv=>bindName X.env y v,λv=>bindName X.env x v] items.reverse;pure Flow.next) _ _ _;show Ac_ (DA_ (Ac_ (unpackItems_tuple (items:=#[u1,u2]) (I.ok.hd hc) (IsTup.new s1.heap _) λh' hx'=>?_)));have I3:=I2.kept (h':=h') (t':=s1.toks) λb o e=>hx' b o (AL_ (Av_ e)) e;change wpAny _ _ (assignInOrder [λv=>bindName X.env y v,λv=>bindName X.env x v] [u2,u1] >>= λ_=>pure Flow.next) _ _ _;show Ac_ (Dn_ (wpAny_bindName (fy_ I3 hN hj (.inl hy) rw' (λs2 I4=>?_) (.inr hy))));show Dn_ (wpAny_bindName (fy_ I4 hN hi (.inl hx) rv (λs3 I5=>assignInOrder_nil (Ah_ ?_)) (.inr hx)));rw[List.set_comm _ _ (Ne.symm hij)]at I5;show⟨_,H1,I5,q1⟩
def Hw_(c:TT)(tb:TS):TS:=λD σ H=>∃W:Nat->St->Hp->Prop,(∃m,W m σ H)/\∀m σ H,W m σ H ->
 c σ H λb H1=>if b=true then ∃N:St->Hp->Prop,(∀σ' H',N σ' H'->∃m',m'<m/\W m' σ' H')/\tb {D with nx:=N,ct:=N,bk:=D.nx} σ H1 else D.nx σ H1
theorem ep_{c:Expr}{body:List Stmt}{tc:TT}{tb:TS}(hp:PassesOwn (model X.prog X.w) X.A X.env X.xe)(hc:PT X c tc)(hb:PSs X body tb):PS X (.While c body [] pos) (Hw_ tc tb):=by
 intro pins s σ H D I h;obtain⟨W,⟨m0,w0⟩,turn⟩:=h;show wpAny_While (codeAny_whileLoop (λn s'=>∃σ' H',Inv X pins σ' H' s'/\W n σ' H') ?_ m0 ⟨σ,H,I,w0⟩);rintro n s1 ⟨σ1,H1,I1,w1⟩;show B0_ hp (thn (hc pins s1 σ1 H1 _ I1 (turn n σ1 H1 w1)) λb s2 ⟨H2,I2,q2⟩=>?_);cases b with
 |true =>
  obtain⟨N,hN,q2⟩:=q2;rw[if_pos rfl];show B0_ hp (thn (hb pins s2 σ1 H2 _ I2 q2) λf s3 q3=>?_);cases f with
  |next =>
   obtain⟨σ3,H3,I3,n3⟩:=q3;obtain⟨m',hm,w3⟩:=hN σ3 H3 n3;show⟨m',hm,σ3,H3,I3,w3⟩
  |cont =>
   obtain⟨σ3,H3,I3,n3⟩:=q3;obtain⟨m',hm,w3⟩:=hN σ3 H3 n3;show⟨m',hm,σ3,H3,I3,w3⟩
  |brk=>show q3
  |ret v=>show q3
 |false =>rw[if_neg AF_];show C4_ ⟨σ1,H2,I2,q2⟩
structure It where
 go:Nat->Hp->Prop
 yld:Nat->Hp->V->Hp->Prop
 stop:Nat->Hp->Prop
def GI_(X:Cx)(pins:List (Addr×Obj))(H:Hp)(b:Addr):Prop :=
 H b=none/\b≠X.env.locals/\b∉X.fs/\(b∈X.ex\/X.s₀.heap.objs.size<=b)/\(∀x c,X.env.cells.lookup x=some c->c≠b)/\∀p∈X.pn++pins,p.1≠b
theorem Inv.fpOk(I:Inv X pins σ H s)(hb:s.heap.objs.size<=b)(hn:H' b=none):GI_ X pins H' b:=by
 show⟨hn,DD_ (AH_ I.lt hb),I.nofs hb,.inr (AT_ I.sz hb),λx c e z=>?_,λp hp z=>?_⟩
 .obtain⟨v,q⟩:=I.cell x c e;show absurd (AH_ q.lt (by rw[z];show hb)) (Bc_ _)
 .show absurd (AH_ (Av_ (I.pin p hp).1) (by rw[z];show hb)) (Bc_ _)
structure I8_(P:Program)(w:World)(K:PySem.W.Frag)(tg:Expr)(J:It)(fp:List Addr)(it:Addr)(tn:Nat->Heap->Prop):Prop where
 mem:it∈fp
 obj:∀i h,tn i h->∀b∈fp,∃o,h.get? b=some o/\∀v,o.data≠.cell v
 keep:∀i h h',tn i h->(∀b∈fp,∀o,h.get? b=some o->h'.get? b=some o)->tn i h'
 item:∀(X:Cx),X.prog=P->X.w=w->X.K=K->X.calm=true->∀(i:Nat)(pins:List (Addr×Obj))(s:Shared)(σ:St)(H:Hp)(E:Value->Shared->Prop),Inv X pins σ H s->(∀b∈fp,GI_ X pins H b)->tn i s.heap->J.go i H ->
  wpAny (model P w) X.A (pyNext (.ref it)) (λr s1=>∃u,r=some u /\
   wpAny (model P w) X.A (letOwnedTupleGo tg (.ref it) u) (λ_ s2=>∃x H',Inv X pins σ H' s2/\Fb_ x u/\J.yld i H x H'/\tn (i+1) s2.heap/\∀b∈fp,H' b=none) E s1) E s
 done:∀(X:Cx),X.prog=P->X.w=w->X.K=K->X.calm=true->∀(i:Nat)(pins:List (Addr×Obj))(s:Shared)(σ:St)(H:Hp)(E:Value->Shared->Prop),Inv X pins σ H s->(∀b∈fp,GI_ X pins H b)->tn i s.heap->J.stop i H ->
  wpAny (model P w) X.A (pyNext (.ref it)) (λr s1=>r=none/\Inv X pins σ H s1) E s
 self:∀(A:Around)(i:Nat)(s:Shared)(Q:Value->Shared->Prop)(E:Value->Shared->Prop),tn i s.heap->Q (.ref it) s->wpAny (model P w) A (pyIter (.ref it)) Q E s
abbrev TI:=St->Hp->(It->Hp->Prop)->Prop
def PIE(X:Cx)(pins:List (Addr×Obj))(σ:St)(tg:Expr)(R:It->Hp->Prop)(itv:Value)(s2:Shared):Prop :=
 ∃(it:Addr)(fp:List Addr)(tn:Nat->Heap->Prop)(J:It)(H':Hp),itv=.ref it/\Inv X pins σ H' s2/\I8_ X.prog X.w X.K tg J fp it tn/\tn 0 s2.heap/\(∀b∈fp,GI_ X pins H' b)/\R J H'
def PI(X:Cx)(tg iter:Expr)(wi:TI):Prop :=
 ∀(pins:List (Addr×Obj))(s:Shared)(σ:St)(H:Hp)(R:It->Hp->Prop),Inv X pins σ H s->wi σ H R ->
  wpAny (model X.prog X.w) X.A (eval iter X.env) (λv s1=>wpAny (model X.prog X.w) X.A (pyIter v) (PIE X pins σ tg R) X.xe s1) X.xe s
theorem I1_{M:Model}{A:Around}{E:Value->Shared->Prop}{s:Shared}{tg:Expr}{it:Addr}{u:Value}{o:Obj}{n:String}{vs:Array Value}{Q:Unit->Shared->Prop}(ho:s.heap.get? it=some o)(hc:o.cls=.type n)(hd:o.data=.fields vs)
    (hn:["enumerate","zip","dict_itemiterator","dict_reverseitemiterator","odict_iterator","itertools.zip_longest","itertools.pairwise"].contains n=false) (hQ:Q () s):wpAny M A (letOwnedTupleGo tg (.ref it) u) Q E s:=by
  unfold letOwnedTupleGo
  cases tg <;> first
    |show Ah_ hQ
    | (cases u <;> first
        |show Ah_ hQ
        | (show Ac_ (wpAny_load ho ?_)
           rw[hc,hd];change wpAny M A (if(["enumerate","zip","dict_itemiterator","dict_reverseitemiterator","odict_iterator","itertools.zip_longest","itertools.pairwise"].contains n && vs[0]? == some (rawInt _))=true then _ else _) Q E s;rw[if_neg (by intro h;rw[hn,Bool.false_and]at h;cases h)];show Ah_ hQ))
def Itl(K:PySem.W.Frag)(a:Addr):It :=
 ⟨λi H=>∃xs x,SqL K H a xs/\xs[i]?=some x,λi H x H'=>H'=H/\∀xs,SqL K H a xs->xs[i]?=some x,λi H=>∃xs,SqL K H a xs/\xs.length<=i⟩
def Itt(K:PySem.W.Frag)(a:Addr):It :=
 ⟨λi H=>∃xs x,SqT K H a xs/\xs[i]?=some x,λi H x H'=>H'=H/\∀xs,SqT K H a xs->xs[i]?=some x,λi H=>∃xs,SqT K H a xs/\xs.length<=i⟩
def Itr(lo:Int)(n:Nat):It:=⟨λi _=>i<n,λi H x H'=>H'=H/\x=.int (lo+i),λi _=>n<=i⟩
theorem j9_{tg:Expr}(a it:Addr):I8_ P w K tg (Itl K a) [it] it (λi h=>h.IsListIter it a i) where
 mem:=s_
 obj:=λi h st b hb=>by
  have e:b=it:=by simpa using hb
  subst e;obtain⟨o,e,c,d⟩:=st;show⟨o,e,λv z=>by rw[d]at z;cases z⟩
 keep:=λi h h' st k=>st.at λo e=>k it s_ o e
 item:=by intro X hP hw hK hc i pins s σ H E I hf st hg;subst hP hw hK;obtain⟨xs,x,hq,hx⟩:=hg;obtain⟨its,rv,p,hz⟩:=I.list hq;obtain⟨u,hu,ru⟩:=rv.get hx;obtain⟨f0,f1,f2,f3,f4,f5⟩:=hf it s_;show CS_ st p.isList (x:=u) (by simpa using hu) λh' st' sb=>?_;have I1:Inv X pins σ H {s with heap:=h'}:=I.turned (t':=s.toks) (λb o hb e=>(sb.2 b hb).trans e) f0 f1 f3 f4 f5;obtain⟨o,e,c,d⟩:=id st';show⟨u,rfl,I1_ (s:={s with heap:=h'}) e c d d_ ⟨x,H,I1,ru,⟨rfl,λys hy=>by rw[I.list_inj hy hq];show hx⟩,st',λb hb=>(hf b hb).1⟩⟩
 done:=by intro X hP hw hK hc i pins s σ H E I hf st hg;subst hP hw hK;obtain⟨xs,hq,hx⟩:=hg;obtain⟨its,rv,p,hz⟩:=I.list hq;obtain⟨f0,f1,f2,f3,f4,f5⟩:=hf it s_;have hl:=rv.length;show CX_ (I.ok.hd hc) st p.isList (by simp;lia) λh' eb=>⟨rfl,I.turned (t':=s.toks) (λb o hb e=>eb b o hb e) f0 f1 f3 f4 f5⟩
 self:=λ_ _ _ _ _ st h=>wpAny_pyIter_listiter st h
theorem jE_{tg:Expr}(it:Addr)(lo:Int)(n:Nat):I8_ P w K tg (Itr lo n) [it] it (λi h=>IsRangeIter h it (lo+(i:Nat)*1) ((n:Int)-(i:Nat)) 1) where
 mem:=s_
 obj:=λi h st b hb=>by
  have e:b=it:=by simpa using hb
  subst e;show⟨_,st,λv z=>by have z':Data.fields _=Data.cell v:=z;cases z'⟩
 keep:=λi h h' st k=>k it s_ _ st
 item:=by intro X hP hw hK hc i pins s σ H E I hf st hg;subst hP hw hK;obtain⟨f0,f1,f2,f3,f4,f5⟩:=hf it s_;have W:=Walks.range (prog:=X.prog) (w:=X.w) (I.ok.hd hc) it lo 1 n;show W.item i s _ _ hg st λv h' tk hv st' kk=>?_;obtain⟨t,rfl⟩:=hv;have I1:Inv X pins σ H {s with heap:=h',toks:=tk}:=I.turned (λb o hb e=>kk b o (by simpa using hb) e) f0 f1 f3 f4 f5;show⟨_,rfl,I1_ (s:={s with heap:=h',toks:=tk}) (n := "range_iterator") st' rfl rfl d_ ⟨.int (lo+i),H,I1,⟨t,?_⟩,⟨rfl,rfl⟩,st',λb hb=>(hf b hb).1⟩⟩;rw[Int.mul_one]
 done:=by intro X hP hw hK hc i pins s σ H E I hf st hg;subst hP hw hK;obtain⟨f0,f1,f2,f3,f4,f5⟩:=hf it s_;show wpAny_pyNext_range_end (I.ok.hd hc) st (by have:n<=i:=hg;lia) λh' eb=>⟨rfl,I.turned (t':=s.toks) (λb o hb e=>eb b o hb e) f0 f1 f3 f4 f5⟩
 self:=λ_ _ _ _ _ st h=>wpAny_pyIter_rangeiter st h
variable {tg:Expr}
def H7_(K:PySem.W.Frag)(tl:TE):TI:=λσ H R=>tl σ H λx H1=>∃a,x=.ref a/\(∃xs,SqL K H1 a xs)/\R (Itl K a) H1
def KN_(K:PySem.W.Frag)(tl:TE):TI:=λσ H R=>tl σ H λx H1=>∃a,x=.ref a/\(∃xs,SqT K H1 a xs)/\R (Itt K a) H1
theorem mV_{l:Expr}{tl:TE}(hl:PE X l tl):PI X tg l (H7_ X.K tl):=by
 intro pins s σ H R I h;show thn (hl pins s σ H _ I h) λv s1 ⟨x,H1,I1,r1,q1⟩=>?_;obtain⟨a,e,⟨xs,hq⟩,q⟩:=q1;subst e;cases r1;obtain⟨its,rv,p,hz⟩:=I1.list hq;show CQ_ p.isList ?_;show⟨s1.heap.objs.size,[s1.heap.objs.size],_,_,H1,rfl,I1.kept (t':=s1.toks) λb o e=>Al_ _ e,j9_ a _,⟨_,Az_ _ rfl,rfl,rfl⟩,λb hb=>?_,q⟩;have e:b=s1.heap.objs.size:=by simpa using hb
 subst e;show I1.fpOk (Aj_ _) (I1.hok.fresh (Aj_ _))
theorem lH_{pins:List (Addr×Obj)}{σ:St}{H:Hp}{s:Shared}{R:It->Hp->Prop}{E:Value->Shared->Prop}{lo hi:Int}{t u v:Tok}{tk:Nat}(I:Inv X pins σ H s)(h1:-(2 ^ 62)<=lo)(h2:lo<2 ^ 62)(h3:-(2 ^ 62)<=hi)(h4:hi<2 ^ 62)
  (q:R (Itr lo (hi-lo).toNat) H):wpAny (model X.prog X.w) X.A (pyIter (.ref s.heap.objs.size)) (PIE X pins σ tg R) E {s with heap:=s.heap.push {cls:=.type "range",data:=.fields #[.int lo t,.int hi u,.int 1 v]},toks:=tk}:=by
 show wpAny_pyIter_range (IsRange.new ..) (small_one h1 h2 h3 h4) ?_;have I1:Inv X pins σ H {s with heap:=s.heap.push {cls:=.type "range",data:=.fields #[.int lo t,.int hi u,.int 1 v]},toks:=tk}:=I.kept λb o e=>Al_ _ e
 show⟨(s.heap.push {cls:=.type "range",data:=.fields #[.int lo t,.int hi u,.int 1 v]}).objs.size,[(s.heap.push {cls:=.type "range",data:=.fields #[.int lo t,.int hi u,.int 1 v]}).objs.size],_,_,H,rfl,
  I1.kept (t':=tk) λb o e=>Al_ _ e,jE_ _ lo (hi-lo).toNat,?_,λb hb=>?_,q⟩
 .have e1:lo+((0:Nat):Int)*1=lo:=s_
  have e2:(((hi-lo).toNat:Nat):Int)-((0:Nat):Int)=Builtin.Range.rangeSize lo hi 1:=by rw[rangeSize_one];split <;> lia
  change IsRangeIter _ _ (lo+((0:Nat):Int)*1) ((((hi-lo).toNat:Nat):Int)-((0:Nat):Int)) 1;rw[e1,e2];show Az_ _ rfl
 .have e:b=(s.heap.push {cls:=.type "range",data:=.fields #[.int lo t,.int hi u,.int 1 v]}).objs.size:=by simpa using hb
  subst e;show I1.fpOk (Aj_ _) (I1.hok.fresh (Aj_ _))
def IL_(ta:TA):TI:=λσ H R=>ta σ H λvs H1=>∃j:Int,vs=[.int j] /\ -(2 ^ 62)<=j/\j<2 ^ 62/\R (Itr 0 j.toNat) H1
def Jw_(ta:TA):TI:=λσ H R=>ta σ H λvs H1=>∃i j:Int,vs=[.int i,.int j]/\(-(2 ^ 62)<=i/\i<2 ^ 62 /\ -(2 ^ 62)<=j/\j<2 ^ 62)/\R (Itr i (j-i).toNat) H1
theorem bS_{a:Expr}{ta:TA}{p:Pos}(hg:Gl X "range") (hm:X.mg "range"=none) (ha:PA X [a] ta) (hs:starEach [a] X.env=[(false,eval a X.env)]:=by rfl):PI X tg (.Call (.Name "range" p) [a] [] pos) (IL_ ta):=by
 intro pins s σ H R I h;show Call_ (fF_ I hg hm boot_range (BE_ (thn (ha pos pins s σ H _ I h) λus s1 ⟨vs,H1,I1,r1,q1⟩=>?_) hs rfl));obtain⟨j,e,q1,q2,q⟩:=q1;subst e;cases r1 with
 |cons r rr =>
  cases rr;obtain⟨t,rfl⟩:=r;show call_range_1 (lH_ I1 o_ o_ q1 q2 (by simpa using q))
def KL_(wi:TI)(g:TG)(tb:TS):TS:=λD σ H=>wi σ H λJ H1=>∃W:Nat->Nat->St->Hp->Prop,(∃m,W 0 m σ H1)/\∀i m σ H,W i m σ H ->
 (J.stop i H/\D.nx σ H)\/(J.go i H/\∃N:St->Hp->Prop,(∀σ' H',N σ' H'->∃m',m'<m/\W (i+1) m' σ' H')/\∀x H',J.yld i H x H'->g x σ H' λσ2 H2=>tb {D with nx:=N,ct:=N,bk:=D.nx} σ2 H2)
def Gz_(fp:List Addr)(h:Heap):List (Addr×Obj):=fp.filterMap λb=>(h.get? b).map λo=>(b,o)
variable{fp:List Addr}
theorem dJ_{o:Obj}(hb:b∈fp)(e:h.get? b=some o):(b,o)∈Gz_ fp h:=BY_.mpr ⟨b,hb,by rw[e];rfl⟩
theorem ka_{p:Addr×Obj}(hp:p∈Gz_ fp h):p.1∈fp/\h.get? p.1=some p.2:=by
 obtain⟨b,hb,e⟩:=BY_.mp hp;cases q:h.get? b with
 |none=>rw[q]at e;cases e
 |some o =>rw[q]at e;have e':(b,o)=p:=Ar_ e;subst e';show⟨hb,q⟩
theorem Inv.pinned(I:Inv X pins σ H s)(hf:∀b∈fp,GI_ X pins H b)(ho:∀b∈fp,∃o,s.heap.get? b=some o/\∀v,o.data≠.cell v):Inv X (pins++Gz_ fp s.heap) σ H s :=
 I.pins_of λp hp=>(Ap_.mp hp).elim (λz=>I.pin p (AO_ _ z)) λz=>by obtain⟨hb,e⟩:=ka_ z;obtain⟨f0,f1,f2,_⟩:=hf p.1 hb;obtain⟨o,e',d⟩:=ho p.1 hb;rw[e]at e';cases e';show⟨e,f0,f1,f2,d⟩
theorem Inv.unpinned{pl:List (Addr×Obj)}(I:Inv X (pins++pl) σ H s):Inv X pins σ H s:=I.pins_of λp hp=>I.pin p (AO_ _ (AN_ _ hp))
theorem bq_{iter:Expr}{body:List Stmt}{wi:TI}{g:TG}{tb:TS}{pos:Pos}(hp:PassesOwn (model X.prog X.w) X.A X.env X.xe)(hc:X.calm=true)(hi:PI X tg iter wi)(hg:PG X tg g)(hb:PSs X body tb)
  (hs:∀x,foldedSetIterable iter X.env x=pure x:=by intro _;rfl):PS X (.For tg iter body [] pos) (KL_ wi g tb):=by
 intro pins s σ H D I h;show wpAny_For (thn (hi pins s σ H _ I h) λv s1 h1=>thn h1 λitv s2 h2=>?_) hs;obtain⟨it,fp,tn,J,H2,e,I2,T,st2,f2,W,⟨m0,w0⟩,turn⟩:=h2;subst e
 have stat:∀{H':Hp},(∀b∈fp,H' b=none)->∀b∈fp,GI_ X pins H' b:=λhn b hb=>⟨hn b hb,(f2 b hb).2⟩;show codeAny_forLoop_any (λn s'=>∃i σ' H',Inv X pins σ' H' s'/\tn i s'.heap/\(∀b∈fp,H' b=none)/\W i n σ' H') ?_ m0 ⟨0,σ,H2,I2,st2,λb hb=>(f2 b hb).1,w0⟩;rintro n s3 ⟨i,σ3,H3,I3,st3,fr3,w3⟩
 rcases turn i n σ3 H3 w3 with⟨stop,qn⟩|⟨go,N,hN,step⟩
 .show B0_ hp (thn (T.done X rfl rfl rfl hc i pins s3 σ3 H3 X.xe I3 (stat fr3) st3 stop) λr s4 ⟨hr,I4⟩=>?_);subst hr;show C4_ ⟨σ3,H3,I4,qn⟩
 .show B0_ hp (thn (T.item X rfl rfl rfl hc i pins s3 σ3 H3 X.xe I3 (stat fr3) st3 go) λr s4 ⟨u,hr,h4⟩=>?_);subst hr;show B0_ hp (thn h4 λ_ s5 ⟨x,H5,I5,r5,y5,st5,fr5⟩=>?_);have I5':=I5.pinned (stat fr5) (T.obj _ _ st5);show B0_ hp (thn (hg _ s5 σ3 H5 x u _ I5' r5 (step x H5 y5)) λ_ s6 ⟨σ6,H6,I6,q6⟩=>?_);show B0_ hp (thn (hb _ s6 σ6 H6 _ I6 q6) λf s7 q7=>?_);have again:∀{σ7:St}{H7:Hp},Inv X (pins++Gz_ fp s5.heap) σ7 H7 s7->N σ7 H7->∃m,m<n/\∃i σ' H',Inv X pins σ' H' s7/\tn i s7.heap/\(∀b∈fp,H' b=none)/\W i m σ' H':=λ{σ7 H7} I7 n7=>by obtain⟨m',hm,w7⟩:=hN σ7 H7 n7;show⟨m',hm,i+1,σ7,H7,I7.unpinned,T.keep _ _ _ st5 λb hb o e=>(I7.pin (b,o) (AO_ _ (AO_ _ (dJ_ hb e)))).1,λb hb=>?_,w7⟩;obtain⟨o,e,d⟩:=T.obj _ _ st5 b hb;show(I7.pin (b,o) (AO_ _ (AO_ _ (dJ_ hb e)))).2.1
  cases f with
  |next=>obtain⟨σ7,H7,I7,n7⟩:=q7;show again I7 n7
  |cont=>obtain⟨σ7,H7,I7,n7⟩:=q7;show again I7 n7
  |brk=>obtain⟨σ7,H7,I7,q7⟩:=q7;show⟨σ7,H7,I7.unpinned,q7⟩
  |ret v=>obtain⟨x7,σ7,H7,I7,r7,q7⟩:=q7;show⟨x7,σ7,H7,I7.unpinned,r7,q7⟩
theorem lI_{K:PySem.W.Frag}{a:Addr}{xs:List V}{g:TG}{tb:TS}{D:GL_}{σ:St}{H:Hp}(Pv:Nat->St->Hp->Prop)(h0:Pv 0 σ H)(hl:∀i σ H,i<=xs.length->Pv i σ H->SqL K H a xs)
  (hs:∀i x σ H,xs[i]?=some x->Pv i σ H->g x σ H λσ2 H2=>tb {D with nx:=Pv (i+1),ct:=Pv (i+1),bk:=D.nx} σ2 H2) (hd:∀σ H,Pv xs.length σ H->D.nx σ H):
  ∃W:Nat->Nat->St->Hp->Prop,(∃m,W 0 m σ H)/\∀i m σ H,W i m σ H ->
   ((Itl K a).stop i H/\D.nx σ H)\/((Itl K a).go i H/\∃N:St->Hp->Prop,(∀σ' H',N σ' H'->∃m',m'<m/\W (i+1) m' σ' H')/\∀x H',(Itl K a).yld i H x H'->g x σ H' λσ2 H2=>tb {D with nx:=N,ct:=N,bk:=D.nx} σ2 H2):=by
 show⟨λi m σ H=>m=xs.length-i/\i<=xs.length/\Pv i σ H,⟨xs.length,s_,AB_ _,h0⟩,?_⟩;rintro i m σ H ⟨rfl,hi,p⟩;have q:=hl i σ H hi p;by_cases hlt:i<xs.length
 .show .inr ⟨⟨xs,xs[i],q,by simp[hlt]⟩,Pv (i+1),λσ' H' p'=>⟨xs.length-(i+1),o_,rfl,hlt,p'⟩,λx H' y=>?_⟩;obtain⟨e,y⟩:=y;subst e;show hs i x σ _ (y xs q) p
 .have e:i=xs.length:=o_
  subst e;show .inl ⟨⟨xs,q,Aj_ _⟩,hd σ H p⟩
theorem kb_{lo:Int}{n:Nat}{g:TG}{tb:TS}{D:GL_}{σ:St}{H:Hp}(Pv:Nat->St->Hp->Prop)(h0:Pv 0 σ H)
  (hs:∀i σ H,i<n->Pv i σ H->g (.int (lo+i)) σ H λσ2 H2=>tb {D with nx:=Pv (i+1),ct:=Pv (i+1),bk:=D.nx} σ2 H2) (hd:∀σ H,Pv n σ H->D.nx σ H):
  ∃W:Nat->Nat->St->Hp->Prop,(∃m,W 0 m σ H)/\∀i m σ H,W i m σ H ->
   ((Itr lo n).stop i H/\D.nx σ H)\/((Itr lo n).go i H/\∃N:St->Hp->Prop,(∀σ' H',N σ' H'->∃m',m'<m/\W (i+1) m' σ' H')/\∀x H',(Itr lo n).yld i H x H'->g x σ H' λσ2 H2=>tb {D with nx:=N,ct:=N,bk:=D.nx} σ2 H2):=by
 show⟨λi m σ H=>m=n-i/\i<=n/\Pv i σ H,⟨n,s_,AB_ _,h0⟩,?_⟩;rintro i m σ H ⟨rfl,hi,p⟩;by_cases hlt:i<n
 .show .inr ⟨hlt,Pv (i+1),λσ' H' p'=>⟨n-(i+1),o_,rfl,hlt,p'⟩,λx H' y=>?_⟩;obtain⟨e,y⟩:=y;subst e y;show hs i σ _ hlt p
 .have e:i=n:=o_
  subst e;show .inl ⟨Aj_ _,hd σ H p⟩
abbrev R2:=V->V->Hp->VK->Prop
def OpR(X:Cx)(f:Value->Value->Sem Value)(r:R2):Prop :=
 ∀(pins:List (Addr×Obj))(s:Shared)(σ:St)(H:Hp)(x y:V)(v u:Value)(Q:VK),Inv X pins σ H s->Fb_ x v->Fb_ y u->r x y H Q ->
  wpAny (model X.prog X.w) X.A (f v u) (EP X pins σ Q) X.xe s
def FB_(X:Cx)(f:Value)(r:List V->Hp->VK->Prop):Prop :=
 ∀(pins:List (Addr×Obj))(s:Shared)(σ:St)(H:Hp)(xs:List V)(us:List Value)(Q:VK),Inv X pins σ H s->E8_ xs us->r xs H Q ->
  wpAny (model X.prog X.w) X.A (call f us) (EP X pins σ Q) X.xe s
def tOp(r:R2)(ta tb:TE):TE:=λσ H Q=>ta σ H λx H1=>tb σ H1 λy H2=>r x y H2 Q
def tUn(r:V->Hp->VK->Prop)(ta:TE):TE:=λσ H Q=>ta σ H λx H1=>r x H1 Q
def rI(C:Int->Int->Prop)(g:Int->Int->V):R2:=λx y H Q=>∃i j,x=.int i/\y=.int j/\C i j/\Q (g i j) H
def rI0(g:Int->Int->V):R2:=λx y H Q=>∃i j,x=.int i/\y=.int j/\Q (g i j) H
def rU(g:Int->V):V->Hp->VK->Prop:=λx H Q=>∃i,x=.int i/\Q (g i) H
section
variable {a b c:Expr}{ta tb tc:TE}
theorem binT(ha:PE X a ta)(hb:PE X b tb){pins:List (Addr×Obj)}{s:Shared}{σ:St}{H:Hp}{R:V->V->Hp->Prop}(I:Inv X pins σ H s)
  (h:ta σ H λx H1=>tb σ H1 λy H2=>R x y H2) {Q:Value->Shared->Prop} {f:Value->Value->Sem Value}
  (hf:∀v u s2 x y H2,Inv X pins σ H2 s2->Fb_ x v->Fb_ y u->R x y H2->wpAny (model X.prog X.w) X.A (f v u) Q X.xe s2):
  wpAny (model X.prog X.w) X.A (eval a X.env) (λv s₁=>wpAny (model X.prog X.w) X.A (eval b X.env) (λu s₂=>wpAny (model X.prog X.w) X.A (f v u) Q X.xe s₂) X.xe s₁) X.xe s:=by
 show thn (ha pins s σ H _ I h) λv s1 ⟨x,H1,I1,r1,q1⟩=>?_;show thn (hb pins s1 σ H1 _ I1 q1) λu s2 ⟨y,H2,I2,r2,q2⟩=>?_;show hf v u s2 x y H2 I2 r1 r2 q2
theorem EQ_{op:Operator}{r:R2}(ho:OpR X (binaryOp op) r)(ha:PE X a ta)(hb:PE X b tb):PE X (.BinOp a op b pos) (tOp r ta tb):=by intro pins s σ H Q I h;show wpAny_BinOp (binT ha hb I h λv u s2 x y H2 I2 rx ry q=>ho pins s2 σ H2 x y v u Q I2 rx ry q)
theorem opI{f:Value->Value->Sem Value}{C:Int->Int->Prop}{g:Int->Int->Int}
  (rule:∀(i j:Int)(t u:Tok)(s:Shared)(Q:Value->Shared->Prop)(E:Value->Shared->Prop),C i j->Q (.int (g i j) s.toks) {s with toks:=s.toks+1}->wpAny (model X.prog X.w) X.A (f (.int i t) (.int j u)) Q E s):
  OpR X f (rI C λi j=>.int (g i j)):=by
 intro pins s σ H x y v u Q I rx ry h;obtain⟨i,j,rfl,rfl,hc,q⟩:=h;obtain⟨t,rfl⟩:=rx;obtain⟨t',rfl⟩:=ry;show rule i j t t' s _ _ hc ⟨.int (g i j),H,I.tok _,⟨_,rfl⟩,q⟩
theorem opI0{f:Value->Value->Sem Value}{g:Int->Int->Int}
  (rule:∀(i j:Int)(t u:Tok)(s:Shared)(Q:Value->Shared->Prop)(E:Value->Shared->Prop),Q (.int (g i j) s.toks) {s with toks:=s.toks+1}->wpAny (model X.prog X.w) X.A (f (.int i t) (.int j u)) Q E s):
  OpR X f (rI0 λi j=>.int (g i j)):=by
 intro pins s σ H x y v u Q I rx ry h;obtain⟨i,j,rfl,rfl,q⟩:=h;obtain⟨t,rfl⟩:=rx;obtain⟨t',rfl⟩:=ry;show rule i j t t' s _ _ ⟨.int (g i j),H,I.tok _,⟨_,rfl⟩,q⟩
theorem opB0{f:Value->Value->Sem Value}{g:Int->Int->Bool}
  (rule:∀(i j:Int)(t u:Tok)(s:Shared)(Q:Value->Shared->Prop)(E:Value->Shared->Prop),Q (.bool (g i j)) s->wpAny (model X.prog X.w) X.A (f (.int i t) (.int j u)) Q E s):
  OpR X f (rI0 λi j=>.bl (g i j)):=by
 intro pins s σ H x y v u Q I rx ry h;obtain⟨i,j,rfl,rfl,q⟩:=h;obtain⟨t,rfl⟩:=rx;obtain⟨t',rfl⟩:=ry;show rule i j t t' s _ _ ⟨.bl (g i j),H,I,rfl,q⟩
def Kd_(i j:Int):Prop:=0<=j/\j<=1000000/\i.natAbs<2 ^ 64
def Jg_(i j:Int):Prop:=(-(2 ^ 64)<i/\i<2 ^ 64)\/(-(2 ^ 64)<j/\j<2 ^ 64)
theorem Jg_.ok{i j:Int}(h:Jg_ i j):IntMulOk i j:=by
 rcases h with⟨h1,h2⟩|⟨h1,h2⟩
 .show .of_left (intBits_le_64 h1 h2)
 .show .of_right (intBits_le_64 h1 h2)
theorem a5_:OpR X (binaryOp .Add) (rI0 λi j=>.int (i+j)):=opI0 λ_ _ _ _ _ _ _ q=>add_int q
theorem nH_:OpR X (binaryOp .Sub) (rI0 λi j=>.int (i-j)):=opI0 λ_ _ _ _ _ _ _ q=>sub_int q
theorem fn_:OpR X (binaryOp .Mult) (rI Jg_ λi j=>.int (i*j)):=opI λ_ _ _ _ _ _ _ hc q=>mul_int q hc.ok
theorem aN_:OpR X (binaryOp .Mod) (rI (λ_ j=>0<j) λi j=>.int (i%j)):=opI λi j _ _ _ _ _ hc q=>by have h1:(0:Int)<j:=hc;show mod_int' o_ (by rw[Int.fmod_eq_emod_of_nonneg i o_];show q)
theorem kc_:OpR X (binaryOp .Pow) (rI Kd_ λi j=>.int (i ^ j.toNat)):=opI λ_ _ _ _ _ _ _ hc q=>pow_int_small hc.1 hc.2.1 hc.2.2 q
end
def scal:V->V->Bool
 | .non,.non=>true | .non,.int _=>true | .int _,.non=>true | .non,.bl _=>true | .bl _,.non=>true | .non,.str _=>true | .str _,.non=>true
 | .int _,.int _=>true | .bl _,.bl _=>true | .str _,.str _=>true | .byt _,.byt _=>true
 | .int _,.str _=>true | .str _,.int _=>true | .bl _,.str _=>true | .str _,.bl _=>true
 |_,_=>false
def rEq:R2:=λx y H Q=>scal x y=true/\Q (.bl (decide (x=y))) H
def rNe:R2:=λx y H Q=>scal x y=true/\Q (.bl (!decide (x=y))) H
theorem kd_{i j:Int}:decide (V.int i=V.int j)=(i == j):=by rw[Ci_];simp
theorem mx_{i j:Bool}:decide (V.bl i=V.bl j)=(i == j):=by rw[Ci_];simp
theorem ke_{i j:Str}:decide (V.str i=V.str j)=(i == j):=by rw[Ci_];simp
theorem kf_{i j:Array UInt8}:decide (V.byt i=V.byt j)=(i.toList == j.toList):=by rw[Ci_];cases i;cases j;simp
section
variable {a b c:Expr}{ta tb tc:TE}
theorem aM_{Q:VK}{k k':Bool}(I:Inv X pins σ H s)(q:Q (.bl k) H)(e:k=k'):EP X pins σ Q (.bool k') s:=by subst e;show⟨.bl k,H,I,rfl,q⟩
theorem GD_:OpR X (compareOp .Eq) rEq:=by
 intro pins s σ H x y v u Q I rx ry h;obtain⟨hs,q⟩:=h;cases x with
 |non =>
  cases rx;cases y with
  |non=>cases ry;show PySem.EqNone.eq_none_none (aM_ I q s_)
  |bl j=>cases ry;show PySem.EqNone.eq_none_bool (aM_ I q s_)
  |int j=>obtain⟨t',rfl⟩:=ry;show PySem.EqNone.eq_none_int (aM_ I q s_)
  |str j=>obtain⟨t',rfl⟩:=ry;show PySem.EqNone.eq_none_str (aM_ I q s_)
  |_=>show absurd (show false=true from hs) AF_
 |bl i =>
  cases rx;cases y with
  |non=>cases ry;show PySem.EqNone.eq_bool_none (aM_ I q s_)
  |bl j=>cases ry;show eq_bool (aM_ I q mx_)
  |str j=>obtain⟨t',rfl⟩:=ry;show PySem.EqMixed.eq_bool_str (aM_ I q s_)
  |_=>show absurd (show false=true from hs) AF_
 |int i =>
  obtain⟨t,rfl⟩:=rx;cases y with
  |non=>cases ry;show PySem.EqNone.eq_int_none (aM_ I q s_)
  |int j=>obtain⟨t',rfl⟩:=ry;show eq_int (aM_ I q kd_)
  |str j=>obtain⟨t',rfl⟩:=ry;show PySem.EqMixed.eq_int_str (aM_ I q s_)
  |_=>show absurd (show false=true from hs) AF_
 |str i =>
  obtain⟨t,rfl⟩:=rx;cases y with
  |non=>cases ry;show PySem.EqNone.eq_str_none (aM_ I q s_)
  |bl j=>cases ry;show PySem.EqMixed.eq_str_bool (aM_ I q s_)
  |int j=>obtain⟨t',rfl⟩:=ry;show PySem.EqMixed.eq_str_int (aM_ I q s_)
  |str j=>obtain⟨t',rfl⟩:=ry;show eq_str (aM_ I q ke_)
  |_=>show absurd (show false=true from hs) AF_
 |byt i =>
  obtain⟨t,rfl⟩:=rx;cases y with
  |byt j=>obtain⟨t',rfl⟩:=ry;show PySem.W.eq_bytes (aM_ I q kf_)
  |_=>show absurd (show false=true from hs) AF_
 |_=>cases y <;> show absurd (show false=true from hs) AF_
theorem I4_:OpR X (compareOp .NotEq) rNe:=by
 intro pins s σ H x y v u Q I rx ry h;obtain⟨hs,q⟩:=h;cases x with
 |non =>
  cases rx;cases y with
  |non=>cases ry;show PySem.EqNone.ne_none_none (aM_ I q s_)
  |bl j=>cases ry;show PySem.EqNone.ne_none_bool (aM_ I q s_)
  |int j=>obtain⟨t',rfl⟩:=ry;show PySem.EqNone.ne_none_int (aM_ I q s_)
  |str j=>obtain⟨t',rfl⟩:=ry;show PySem.EqNone.ne_none_str (aM_ I q s_)
  |_=>show absurd (show false=true from hs) AF_
 |bl i =>
  cases rx;cases y with
  |non=>cases ry;show PySem.EqNone.ne_bool_none (aM_ I q s_)
  |bl j=>cases ry;show ne_bool (aM_ I q (congrArg not mx_))
  |str j=>obtain⟨t',rfl⟩:=ry;show PySem.EqMixed.ne_bool_str (aM_ I q s_)
  |_=>show absurd (show false=true from hs) AF_
 |int i =>
  obtain⟨t,rfl⟩:=rx;cases y with
  |non=>cases ry;show PySem.EqNone.ne_int_none (aM_ I q s_)
  |int j=>obtain⟨t',rfl⟩:=ry;show ne_int (aM_ I q (congrArg not kd_))
  |str j=>obtain⟨t',rfl⟩:=ry;show PySem.EqMixed.ne_int_str (aM_ I q s_)
  |_=>show absurd (show false=true from hs) AF_
 |str i =>
  obtain⟨t,rfl⟩:=rx;cases y with
  |non=>cases ry;show PySem.EqNone.ne_str_none (aM_ I q s_)
  |bl j=>cases ry;show PySem.EqMixed.ne_str_bool (aM_ I q s_)
  |int j=>obtain⟨t',rfl⟩:=ry;show PySem.EqMixed.ne_str_int (aM_ I q s_)
  |str j=>obtain⟨t',rfl⟩:=ry;show ne_str (aM_ I q (congrArg not ke_))
  |_=>show absurd (show false=true from hs) AF_
 |byt i =>
  obtain⟨t,rfl⟩:=rx;cases y with
  |byt j=>obtain⟨t',rfl⟩:=ry;show PySem.W.ne_bytes (aM_ I q (congrArg not kf_))
  |_=>show absurd (show false=true from hs) AF_
 |_=>cases y <;> show absurd (show false=true from hs) AF_
theorem JD_:OpR X (compareOp .Lt) (rI0 λi j=>.bl (decide (i<j))):=opB0 λ_ _ _ _ _ _ _ q=>lt_int q
theorem JA_:OpR X (compareOp .Gt) (rI0 λi j=>.bl (decide (j<i))):=opB0 λ_ _ _ _ _ _ _ q=>gt_int q
theorem Kx_:OpR X (compareOp .GtE) (rI0 λi j=>.bl (decide (j<=i))):=opB0 λ_ _ _ _ _ _ _ q=>ge_int q
variable{op:CmpOp}
theorem Fc_(b:Expr)(h:op≠.In:=by decide) (h2:op≠.NotIn:=by decide):behindInMarks op b=false:=by
 have e1:(op == CmpOp.In)=false:=by cases op <;> first|rfl|show absurd rfl h
 have e2:(op == CmpOp.NotIn)=false:=by cases op <;> first|rfl|show absurd rfl h2
 cases b <;> simp[behindInMarks,e1,e2]
theorem gR_{r:R2}(ho:OpR X (compareOp op) r)(ha:PE X a ta)(hb:PE X b tb)(hm:behindInMarks op b=false):PE X (.Compare a [op] [b] pos) (tOp r ta tb):=by intro pins s σ H Q I h;show wpAny_Compare1 (binT ha hb I h λv u s2 x y H2 I2 rx ry q=>ho pins s2 σ H2 x y v u Q I2 rx ry q) hm
def IG_(t:TE):TT:=λσ H Q=>t σ H λx H'=>∃k,x=.bl k/\Q k H'
theorem aG_{r:R2}(ho:OpR X (compareOp op) r)(ha:PE X a ta)(hb:PE X b tb)(hm:behindInMarks op b=false):PT X (.Compare a [op] [b] pos) (IG_ (tOp r ta tb)):=by
 intro pins s σ H Q I h;show Eg_ (thn (ha pins s σ H _ I h) λv s1 ⟨x,H1,I1,r1,q1⟩=>thn (hb pins s1 σ H1 _ I1 q1) λu s2 ⟨y,H2,I2,r2,q2⟩ =>thn (ho pins s2 σ H2 x y v u _ I2 r1 r2 q2) λc s3 ⟨z,H3,I3,r3,k,e,q3⟩=>?_) hm;subst e;cases r3;show Bh_ ⟨H3,I3,q3⟩
theorem GE_:(sizeLine:Nat)<2 ^ 63:=by rw[BL_];decide
theorem jF_:OpR X (binaryOp .Add) (λx y H Q=>∃i j,x=.str i/\y=.str j/\i.length+j.length<=sizeLine/\Q (.str (i++j)) H):=by intro pins s σ H x y v u Q I rx ry h;obtain⟨i,j,rfl,rfl,hz,q⟩:=h;obtain⟨t,rfl⟩:=rx;obtain⟨t',rfl⟩:=ry;show add_str (λt' tk=>⟨.str (i++j),H,I.tok _,⟨_,rfl⟩,q⟩) hz
theorem FS_{x:V}{us:List Value}(r:E8_ [x] us):∃u,us=[u]/\Fb_ x u:=by
 cases r with
 |cons r1 r2=>cases r2;show⟨_,rfl,r1⟩
theorem Go_{x y:V}{us:List Value}(r:E8_ [x,y] us):∃u w',us=[u,w']/\Fb_ x u/\Fb_ y w':=by
 cases r with
 |cons r1 r2 =>
  cases r2 with
  |cons r3 r4=>cases r4;show⟨_,_,rfl,r1,r3⟩
theorem lJ_:FB_ X (.builtin "abs") (λxs H Q=>∃i,xs=[.int i]/\Q (.int (if i<0 then -i else i)) H):=by intro pins s σ H xs us Q I r h;obtain⟨i,rfl,q⟩:=h;obtain⟨u,rfl,t,rfl⟩:=FS_ r;show call_abs_int λu tk=>⟨.int (if i<0 then -i else i),H,I.tok _,⟨_,rfl⟩,q⟩
theorem kg_(hc:X.calm=true):FB_ X (.builtin "max") (λxs H Q=>∃i j,xs=[.int i,.int j]/\Q (.int (if j > i then j else i)) H):=by
 intro pins s σ H xs us Q I r h;obtain⟨i,j,rfl,q⟩:=h;obtain⟨u,w',rfl,⟨t,rfl⟩,⟨t',rfl⟩⟩:=Go_ r;show max_two_ints (I.ok.hd hc) λh' tk k=>⟨_,H,I.kept k,?_,q⟩;by_cases hj:j > i
 .rw[if_pos hj,if_pos hj];show⟨_,rfl⟩
 .rw[if_neg hj,if_neg hj];show⟨_,rfl⟩
theorem kh_(hc:X.calm=true):FB_ X (.builtin "min") (λxs H Q=>∃i j,xs=[.int i,.int j]/\Q (.int (if j<i then j else i)) H):=by
 intro pins s σ H xs us Q I r h;obtain⟨i,j,rfl,q⟩:=h;obtain⟨u,w',rfl,⟨t,rfl⟩,⟨t',rfl⟩⟩:=Go_ r;show min_two_ints (I.ok.hd hc) λh' tk k=>⟨_,H,I.kept k,?_,q⟩;by_cases hj:j<i
 .rw[if_pos hj,if_pos hj];show⟨_,rfl⟩
 .rw[if_neg hj,if_neg hj];show⟨_,rfl⟩
end
variable {prog:Program}{A:Around}{K:PySem.W.Frag}{dx C f:Addr}{mA:Str->Option Value}{name:Str}{v:Value}
theorem G7_.some_of{v:V}{o:Option Value}(r:G7_ (some v) o):∃u,o=some u/\Fb_ v u:=by
 cases o with
 |none=>show(show False from r).elim
 |some u=>show⟨u,rfl,r⟩
variable {o e value:Expr}{f:Str}{pos' tpos:Pos}{ta tv:TE}
structure Gh_(k:Nat)(A:Around):Prop where
 hd:A.handled=none
 dp:A.depth+3*k+5<recursionLimit
 un:A.units+16*k+200<cLine
theorem Gh_.mono{j k:Nat}(r:Gh_ k A)(h:j<=k):Gh_ j A:=⟨r.hd,by have:=r.dp;lia,by have:=r.un;lia⟩
theorem Gh_.deeper{k:Nat}(r:Gh_ (k+1) A)(env:Env):Gh_ k (A.deeper env):=
 ⟨r.hd,by have:=r.dp;change A.depth+1+3*k+5<_;lia,by have:=r.un;change A.units+3+16*k+200<_;lia⟩
theorem Gh_.depth{k:Nat}(r:Gh_ k A):A.depth<recursionLimit:=by have:=r.dp;lia
theorem Gh_.units{k:Nat}(r:Gh_ k A):A.units+64<cLine:=by have:=r.un;lia
def JS_:TA:=λ_ H Q=>Q [] H
def Hk_(ta:TE)(tr:TA):TA:=λσ H Q=>ta σ H λx H1=>tr σ H1 λxs H2=>Q (x::xs) H2
section
variable {es:List Expr}{te:TE}{t:TA}
theorem ab_:PA X [] JS_:=λ_ _ _ _ H Q I h=>Calls.spliced_nil ⟨[],H,I,.nil,h⟩
theorem mW_(ha:PE X e te)(hr:PA X es t)(hs:starEach (e::es) X.env=(false,eval e X.env)::starEach es X.env:=by rfl):PA X (e::es) (Hk_ te t):=by intro pos pins s σ H Q I h;rw[hs];change wpAny _ _ (spliced ((false,eval e X.env)::backTo pos (starEach es X.env))) _ _ s;show Calls.spliced_cons (thn (ha pins s σ H _ I h) λu s1 ⟨x,H1,I1,r1,q1⟩=>?_);show thn (hr pos pins s1 σ H1 _ I1 q1) λus s2 ⟨xs,H2,I2,r2,q2⟩=>⟨x::xs,H2,I2,.cons r1 r2,q2⟩
def JQ_(t:TA):TE:=λσ H Q=>t σ H λxs H1=>xs.length<=sizeLine/\∀p,H1 p=none->Q (.ref p) (upd H1 p (.tup xs))
def J2_(t:TA):TE:=λσ H Q=>t σ H λxs H1=>xs.length<=sizeLine/\∀p,H1 p=none->Q (.ref p) (upd H1 p (.lst xs))
theorem ap_{x1} (h:PA X es t):PE X (.Tuple es x1 pos) (JQ_ t):=by intro pins s σ H Q I hq;show wpAny_Tuple_spliced (thn (h pos pins s σ H _ I hq) λus s1 ⟨xs,H1,I1,r,z,q⟩=>⟨by rw[<-r.length];show z,?_⟩);have hf:H1 s1.heap.objs.size=none:=I1.hok.fresh (Aj_ _);show⟨.ref s1.heap.objs.size,upd H1 s1.heap.objs.size (.tup xs),I1.laid (t':=s1.toks) (λb u e=>Al_ _ e) (Aj_ _) ?_,rfl,q _ hf⟩;show⟨z,us,r,⟨_,Az_ _ rfl,rfl,_,rfl⟩⟩
theorem bx_(h:PA X es t):PE X (.List es pos) (J2_ t):=by intro pins s σ H Q I hq;show wpAny_List_spliced (thn (h pos pins s σ H _ I hq) λus s1 ⟨xs,H1,I1,r,z,q⟩=>⟨by rw[<-r.length];show z,?_⟩);have hf:H1 s1.heap.objs.size=none:=I1.hok.fresh (Aj_ _);show⟨.ref s1.heap.objs.size,upd H1 s1.heap.objs.size (.lst xs),I1.laid (t':=s1.toks) (λb u e=>Al_ _ e) (Aj_ _) ?_,rfl,q _ hf⟩;show⟨z,us,0,r,Az_ _ rfl⟩
end
abbrev Sp:=List V->Hp->VK->XK->Prop
abbrev CXT:=List Env->Hp->Shared->XK->Value->Shared->Prop
structure JR_(P:Program)(w:World)(K:PySem.W.Frag)(mg:Str->Option Value)(base:Heap)(A:Around)(outer:List Env)(s:Shared)(H:Hp):Prop where
 frames:A.frames=some outer
 mod:Mod K mg base
 bs:∀b o,base.get? b=some o->s.heap.get? b=some o/\H b=none
 bsz:base.objs.size<=s.heap.objs.size
 funs:s.heap.FunFrames base outer
 frf:∀b∈frs outer,H b=none
 hok:HOk P w H s.heap
 bare:AllBare s.gens
def CE(outer:List Env)(P:Program)(w:World)(H:Hp)(s:Shared)(Q:VK)(u:Value)(s':Shared):Prop :=
 ∃v H',s'.os=s.os/\AllBare s'.gens/\Un (frs outer) [] H H' s.heap s'.heap/\HOk P w H' s'.heap/\Fb_ v u/\Q v H'
def CR(CX:CXT)(outer:List Env)(P:Program)(w:World)(H:Hp)(s:Shared)(Q:VK)(E:XK)(r:Result)(s':Shared):Prop :=
 match r with
 | .ok (.ret u)=>CE outer P w H s Q u s'
 | .ok _=>False
 | .error e=>CX outer H s E e s'
structure H5_(P:Program)(w:World)(K:PySem.W.Frag)(mg:Str->Option Value)(base:Heap)(CX:CXT)(k:Nat)(f:Addr)(fd:FuncData)(ps:List Str)(sp:Sp):Prop where
 len:∀vs H Q E,sp vs H Q E->vs.length=ps.length
 run:∀(A:Around)(outer:List Env)(s:Shared)(H:Hp)(args:Args)(us:List Value)(vs:List V)(Q:VK)(E:XK),Gh_ k A->JR_ P w K mg base A outer s H->BindsTo s fd args (ps.zip us)->E8_ vs us->sp vs H Q E ->
  codeAny (model P w) A (.call (.ref f) args) (CR CX outer P w H s Q E) s
variable {s':Shared}
theorem Inv.env0(I:Inv X pins σ H s):JR_ X.prog X.w X.K X.mg X.base X.A X.stack s H :=
 ⟨I.ok.frames,I.ok.mod,I.bs,AT_ I.ok.bsz I.sz,I.stack,I.stkFree,I.hok,I.bare⟩
theorem Inv.after{Q:VK}{u:Value}(I:Inv X pins σ H s)(h:CE X.stack X.prog X.w H s Q u s'):EP X pins σ Q u s':=by obtain⟨v,H',os,bare,un,hok,r,q⟩:=h;obtain⟨hh,g,d,t,os'⟩:=s';obtain rfl:os'=s.os:=os;show⟨v,H',I.call (h':=hh) (g':=g) (d':=d) (t':=t) (ch:=[]) un hok bare (λb z=>absurd z s_),r,q⟩
def HO_(sp:Sp)(dvs:List V)(E:XK)(t:TA):TE:=λσ H Q=>t σ H λvs H1=>sp (vs++dvs) H1 Q E
def Hm_(K:PySem.W.Frag)(fd:FuncData)(ps:List Str)(ds:List Value):Prop :=
 ∀(s:Shared)(us:List Value),K.In s.heap->(us++ds).length=ps.length->BindsTo s fd ⟨us,[]⟩ (ps.zip (us++ds))
theorem Hm_.all{fd:FuncData}{ps:List Str}(h:∀us:List Value,us.length=ps.length->bindArgs fd ⟨us,[]⟩=pure (ps.zip us)):Hm_ K fd ps []:=λs us _ hl=>by rw[Bp_]at hl⊢;show .of_eq (h us hl)
def HW_(CX:CXT)(X:Cx)(E:XK):Prop:=∀(pins:List (Addr×Obj))(σ:St)(H:Hp)(s:Shared)(e:Value)(s':Shared),Inv X pins σ H s->CX X.stack H s E e s'->X.xe e s'
section
variable {CX:CXT}{k:Nat}{f:Addr}{fd:FuncData}{ps:List Str}{sp:Sp}{dvs:List V}{ds:List Value}{E:XK}{x m:Str}{p apos:Pos}{es:List Expr}{t:TA}
theorem nI_{pins:List (Addr×Obj)}{σ:St}{H:Hp}{s:Shared}{Q:VK}{us:List Value}{vs:List V}(F:H5_ X.prog X.w X.K X.mg X.base CX k f fd ps sp)(hr:Gh_ k X.A)(hb:Hm_ X.K fd ps ds)(hd:E8_ dvs ds)(hx:HW_ CX X E)
  (I:Inv X pins σ H s) (r:E8_ vs us) (h:sp (vs++dvs) H Q E):wpAny (model X.prog X.w) X.A (call (.ref f) us) (EP X pins σ Q) X.xe s:=by
 have r2:E8_ (vs++dvs) (us++ds):=r.append hd;have hl:(us++ds).length=ps.length:=by rw[<-r2.length];show F.len _ _ _ _ h
 show wpAny_call (EG_ (F.run X.A X.stack s H ⟨us,[]⟩ (us++ds) (vs++dvs) Q E hr I.env0 (hb s us I.kIn hl) r2 h) λr s' hq=>?_);cases r with
 |error e=>show hx pins σ H s e s' I hq
 |ok fl =>
  cases fl with
  |ret u=>show I.after hq
  |next=>show False.elim hq
  |brk=>show False.elim hq
  |cont=>show False.elim hq
theorem mX_(F:H5_ X.prog X.w X.K X.mg X.base CX k f fd ps sp)(hr:Gh_ k X.A)(hg:Gl X x)(hm:X.mg x=some (.ref f))(hk:PySem.W.keepIn X.K (.ref f)=true)(hb:Hm_ X.K fd ps ds)(hd:E8_ dvs ds)(hx:HW_ CX X E)
  (ha:PA X (e::es) t) (hdb:(x == ("__debug__" : Str))=false:=by decide) (he:starEach (e::es) X.env=(false,eval e X.env)::starEach es X.env:=by rfl) (hpl:(backTo pos (starEach es X.env)).any (·.1)=false:=by rfl):
  PE X (.Call (.Name x p) (e::es) [] pos) (HO_ sp dvs E t):=by
 intro pins s σ H Q I h;show CH_ (mR_ I hg hm ?_ hdb);show PySem.W.callWith_K (h₀:=X.base) I.ok.mod.kin hk (thn (ha pos pins s σ H _ I h) λus s1 ⟨vs,H1,I1,r,q⟩=>⟨I1.kIn,?_⟩) he hpl;show nI_ F hr hb hd hx I1 r q
end
structure EY_(N P:List Str)(sc:Scope):Prop where
 kind:sc.kind=.function
 co:sc.isCoroutine=false
 gen:sc.isGenerator=false
 nd:N.Nodup
 pre:N.take P.length=P
 par:∀x∈P,sc.names.lookup x=some .local\/sc.names.lookup x=some .cell
 nofree:∀y∈sc.names,y.2≠.free
theorem hv_{kindOf:Str->Option NameKind}{x:Str}:∀{binds:List (Str×Value)}{m:Str->Option Value},(∀v,(x,v)∉binds)->bindL kindOf binds m x=m x
 |[],_,_=>rfl
 | (n,v)::r,m,h=>by
  unfold bindL;rw[hv_ λw hw=>h w (Am_ _ hw)];split
  .have:x≠n:=by rintro rfl;show h v Au_
   simp[this]
  .rfl
theorem hw_{kindOf:Str->Option NameKind}{x:Str}:∀{binds:List (Str×Value)}{m:Str->Option Value},(∀v,(x,v)∉binds)->bindC kindOf binds m x=m x
 |[],_,_=>rfl
 | (n,v)::r,m,h=>by
  unfold bindC;rw[hw_ λw hw=>h w (Am_ _ hw)];split
  .rfl
  .have:x≠n:=by rintro rfl;show h v Au_
   simp[this]
theorem hx_{kindOf:Str->Option NameKind}{x:Str}{v:Value}:∀{P:List Str}{vs:List Value}{i:Nat}{m:Str->Option Value},P.Nodup->P[i]?=some x->vs[i]?=some v->kindOf x=some .local ->
  bindL kindOf (P.zip vs) m x=some v
 |[],_,_,_,_,h,_,_=>by simp at h
 |_::_,[],_,_,_,_,h,_=>by simp at h
 |p::P,w::vs,0,m,nd,h1,h2,hk=>by
  simp at h1 h2;subst h1;subst h2;change bindL kindOf ((p,w)::P.zip vs) m p=_;unfold bindL;rw[hv_ λv hv=>(AG_.mp nd).1 (DY_ hv).1,if_pos hk];simp
 |p::P,w::vs,i+1,m,nd,h1,h2,hk=>by change bindL kindOf ((p,w)::P.zip vs) m x=_;unfold bindL;show hx_ (i:=i) (AG_.mp nd).2 (by simpa using h1) (by simpa using h2) hk
theorem hy_{kindOf:Str->Option NameKind}{x:Str}{v:Value}:∀{P:List Str}{vs:List Value}{i:Nat}{m:Str->Option Value},P.Nodup->P[i]?=some x->vs[i]?=some v->kindOf x≠some .local ->
  bindC kindOf (P.zip vs) m x=some v
 |[],_,_,_,_,h,_,_=>by simp at h
 |_::_,[],_,_,_,_,h,_=>by simp at h
 |p::P,w::vs,0,m,nd,h1,h2,hk=>by
  simp at h1 h2;subst h1;subst h2;change bindC kindOf ((p,w)::P.zip vs) m p=_;unfold bindC;rw[hw_ λv hv=>(AG_.mp nd).1 (DY_ hv).1,if_neg hk];simp
 |p::P,w::vs,i+1,m,nd,h1,h2,hk=>by change bindC kindOf ((p,w)::P.zip vs) m x=_;unfold bindC;show hy_ (i:=i) (AG_.mp nd).2 (by simpa using h1) (by simpa using h2) hk
def start(N:List Str)(vs:List V):St:=vs.map some++List.replicate (N.length-vs.length) none
def IM_(CX:CXT)(P:Program)(w:World)(K:PySem.W.Frag)(mg:Str->Option Value)(base:Heap)(N:List Str)(qual:Str)(scope:Scope)(f:Addr)(cd:Value)(A:Around)(outer:List Env)(s:Shared)(H:Hp)(E:XK):Cx where
 prog:=P
 w:=w
 K:=K
 mg:=mg
 base:=base
 A:=A.deeper (envOfC qual scope s.heap.objs.size f cd)
 N:=N
 s₀:=s
 H₀:=H
 env:=envOfC qual scope s.heap.objs.size f cd
 outer:=outer
 stack:=envOfC qual scope s.heap.objs.size f cd::outer
 ex:=[]
 calm:=true
 fn:=λ_=>true
 pn:=[]
 xe:=λe s'=>wpAny (model P w) (A.deeper (envOfC qual scope s.heap.objs.size f cd)) (leaving (envOfC qual scope s.heap.objs.size f cd) e) (λ_ s''=>CX outer H s E e s'') (λe' s''=>CX outer H s E e' s'') s'
theorem i7_{sc:Scope}{n:Nat}{x:Str}(h:sc.names.lookup x=some .cell):∃c,(cellsFrom n sc.names []).lookup x=some c:=by have q:=D5_ sc.names n [] (.inl h);show DE_.mp q
theorem ki_{CX:CXT}{P:Program}{w:World}{K:PySem.W.Frag}{mg:Str->Option Value}{base:Heap}{N ps:List Str}{qual:Str}{scope:Scope}{f:Addr}{cd:Value}{A:Around}{outer:List Env}{s s1:Shared}{H:Hp}{E:XK}{us:List Value}{vs:List V}
  (S:EY_ N ps scope) (hd:A.handled=none) (e0:JR_ P w K mg base A outer s H) (hl:vs.length=ps.length) (r:E8_ vs us)
  (x:InCallC s s.heap.objs.size (bindL (envOfC qual scope s.heap.objs.size f cd).kindOf (ps.zip us) λ_=>none) (cellsFrom (s.heap.objs.size+1) scope.names []) (bindC (envOfC qual scope s.heap.objs.size f cd).kindOf (ps.zip us) λ_=>none) s1):
  Inv (IM_ CX P w K mg base N qual scope f cd A outer s H E) [] (start N vs) H s1:=by
 have hpl:ps.length<=N.length:=by have:=congrArg List.length S.pre;rw[BI_]at this;lia
 obtain⟨h1,tk,rfl,hk⟩:=x.done;have noA:∀b:Addr,b∉(IM_ CX P w K mg base N qual scope f cd A outer s H E).ex:=λb z=>absurd (show b∈([]:List Addr)from z) s_
 show⟨⟨e0.mod,S.kind,rfl,rfl,Aj_ _,λy z c h1 h2=>?_,λy hy=>?_,λy c _ h=>?_,λ_=>hd,Around.frames_deeper e0.frames,.inr ⟨rfl,rfl⟩,λb z=>absurd z (noA b),e0.bs,e0.bsz,λb _ _=>noA b,λb z=>absurd z (noA b),e0.funs,e0.frf⟩,
  rfl,e0.bare,Un.kept hk,⟨_,x.toInCall.ns,λi y v h1 h2 h3=>?_⟩,λy c h=>⟨_,x.cell y c h⟩,e0.hok.fresh (Aj_ _),λy c h=>?_,λp hp=>absurd (show p∈([]:List (Addr×Obj))from hp) s_,e0.hok.kept hk,?_⟩
 .show name_of_addr x.apart (Bf_ h1) (Bf_ h2)
 .have hy:scope.names.lookup y=some .cell\/scope.names.lookup y=some .free:=hy
  rcases hy with hy|hy
  .show i7_ hy
  .show absurd rfl (S.nofree _ (Bf_ hy))
 .show AV_ (x.above y c (Bf_ h))
 .have hi:i<vs.length:=by
   unfold start at h2;by_cases hi:i<vs.length
   .show hi
   .rw[Ay_ (by simpa using hi)]at h2;rw[DS_]at h2;split at h2 <;> cases h2
  have ha:vs[i]?=some v:=by
   unfold start at h2;rw[Ao_ (by simpa using hi),Ae_]at h2;cases e:vs[i]? with
   |none=>rw[e]at h2;cases h2
   |some a=>rw[e]at h2;cases h2;rfl
  obtain⟨u,hu,rv⟩:=r.get ha;have hp:ps[i]?=some y:=by rw[<-S.pre,DF_ o_];show h1
  have ndP:ps.Nodup:=by rw[<-S.pre];show S.nd.sublist (List.take_sublist _ _)
  show⟨u,rv,?_⟩
  rcases S.par y (Ai_ hp)with k|k
  .show .inl ⟨k,hx_ ndP hp hu k⟩
  .obtain⟨c,e⟩:=i7_ (n:=s.heap.objs.size+1) k;show .inr ⟨.inl k,c,e,?_⟩;have q:=x.cell y c e;rw[hy_ ndP hp hu (by change scope.names.lookup y≠_;rw[k];decide)]at q;show q
 .show e0.hok.fresh (AV_ (x.above y c (Bf_ h)))
 .unfold start;change _=N.length;rw[Af_,Ab_,Cu_];lia
theorem Kw_{CX:CXT}{P:Program}{w:World}{K:PySem.W.Frag}{mg:Str->Option Value}{base:Heap}{k:Nat}{f:Addr}{name qual:Str}{params:Arguments}{body:List Stmt}{scope:Scope}{dV kV doc pm cdv ct oc:Value}{an od:Option Addr}
  {osl:Array (Option Value)} {N ps:List Str} {sp:Sp} (lk:K.lookup f=some ⟨oc,od,.func (PySem.W.fnOf name qual params body scope dV kV doc pm an cdv ct),osl⟩) (hcd:PySem.W.codeIn K cdv qual=true) (S:EY_ N ps scope)
  (len:∀vs H Q E,sp vs H Q E->vs.length=ps.length)
  (hbody:∀(A:Around)(outer:List Env)(s:Shared)(H:Hp)(vs:List V)(Q:VK)(E:XK),Gh_ k (A.deeper (envOfC qual scope s.heap.objs.size f cdv))->sp vs H Q E ->
   ∃t,PSs (IM_ CX P w K mg base N qual scope f cdv A outer s H E) body t/\t {nx:=λ_ H'=>Q .non H',rt:=Q} (start N vs) H):
  H5_ P w K mg base CX (k+1) f (PySem.W.fnOf name qual params body scope dV kV doc pm an cdv ct) ps sp:=by
 show⟨len,λA outer s H args us vs Q E hr e0 hb r hsp=>?_⟩;have hl:=len _ _ _ _ hsp;have KX:K.In s.heap:=e0.mod.kin.keeps λb o e=>(e0.bs b o e).1;have lim:s.heap.NoLimit:=e0.mod.nolimit.keeps λb o e=>(e0.bs b o e).1
 have hkind:∀y∈ps.zip us,scope.names.lookup y.1=some .local\/(scope.names.lookup y.1=some .cell/\((cellsFrom (s.heap.objs.size+1) scope.names []).lookup y.1).isSome=true):=λ⟨n,v⟩ hy=>by
  rcases S.par n (DY_ hy).1 with q|q
  .show .inl q
  .show .inr ⟨q,D5_ _ _ _ (.inl q)⟩
 show codeAny_call_function hr.depth (KX _ _ lk) rfl S.co S.gen rfl (PySem.W.codeRec_of KX hcd) (hb _ _ _ _ ?_);show wpAny_newFunctionEnv_cells S.kind hkind λenv he s1 x=>?_;subst he;show⟨lim.keeps x.toInCall.keep,codeAny_func ?_⟩;obtain⟨t,ht,hq⟩:=hbody A outer s H vs Q E (hr.deeper _) hsp;have I:Inv (IM_ CX P w K mg base N qual scope f cdv A outer s H E) [] (start N vs) H s1:=ki_ S hr.hd e0 hl r x;show BB_ (ht [] s1 (start N vs) H _ I hq) (λfl s' hs=>?_) λe s' hs=>hs
 have fin:∀{σ':St}{H':Hp}{v:V}{u:Value},Inv (IM_ CX P w K mg base N qual scope f cdv A outer s H E) [] σ' H' s'->Fb_ v u->Q v H'->CE outer P w H s Q u s' :=
  λ{σ' H' v u} J rv q=>⟨v,H',J.os,J.bare,J.base,J.hok,rv,q⟩
 cases fl with
 |ret u =>
  obtain⟨v,σ',H',J,rv,q⟩:=hs;show fin J rv q
 |next =>
  obtain⟨σ',H',J,q⟩:=hs;show fin (v:=V.non) (u:=Value.none) J rfl q
 |brk =>
  obtain⟨_,_,_,q⟩:=hs;show False.elim q
 |cont =>obtain⟨_,_,_,q⟩:=hs;show False.elim q
section
variable {x:Str}{p:Pos}{es:List Expr}{t:TA}{id T:String}{r:List V->Hp->VK->Prop}
def tCB(r:List V->Hp->VK->Prop)(t:TA):TE:=λσ H Q=>t σ H λvs H1=>r vs H1 Q
theorem lK_(hc:FB_ X (.builtin id) r)(hg:Gl X x)(hm:X.mg x=none)(hv:bootBuiltins x=some (.builtin id))(ha:PA X (e::es) t)(hn:x ≠ "__name__" := by decide) (hdb:(x == ("__debug__" : Str))=false:=by decide)
  (he:starEach (e::es) X.env=(false,eval e X.env)::starEach es X.env:=by rfl) (hpl:(backTo pos (starEach es X.env)).any (·.1)=false:=by rfl):PE X (.Call (.Name x p) (e::es) [] pos) (tCB r t):=by
 intro pins s σ H Q I h;show CH_ (fF_ I hg hm hv ?_ hn hdb);show PyProof.Rows.callWith_builtin1 (thn (ha pos pins s σ H _ I h) λus s1 ⟨vs,H1,I1,r1,q1⟩=>hc pins s1 σ H1 vs us Q I1 r1 q1) he hpl
theorem kj_(hc:FB_ X (.type T) r)(hg:Gl X x)(hm:X.mg x=none)(hv:bootBuiltins x=some (.type T))(ha:PA X (e::es) t)(hn:x ≠ "__name__" := by decide) (hdb:(x == ("__debug__" : Str))=false:=by decide)
  (he:starEach (e::es) X.env=(false,eval e X.env)::starEach es X.env:=by rfl) (hpl:(backTo pos (starEach es X.env)).any (·.1)=false:=by rfl):PE X (.Call (.Name x p) (e::es) [] pos) (tCB r t):=by
 intro pins s σ H Q I h;show CH_ (fF_ I hg hm hv ?_ hn hdb);show BE_ (thn (ha pos pins s σ H _ I h) λus s1 ⟨vs,H1,I1,r1,q1⟩=>hc pins s1 σ H1 vs us Q I1 r1 q1) he hpl
end
end L2
namespace HT
open PySem PyProof.Rows
open PySem.SeqAt
open PySem.AutoSeq1 (wpAny_loadPart')
open PySem.MeetsSeq PySem.MeetsSeq2 PySem.MeetsSeq3
variable {prog:Program}{w:World}{A:Around}{E:Value->Shared->Prop}{s:Shared}
def sIx(n d:Nat):Option Int->Nat
 |none=>d
 |some v=>if v<0 then(v+(n:Int)).toNat else min v.toNat n
theorem sIx_none(n d:Nat):sIx n d none=d:=rfl
theorem sIx_nat(n d k:Nat):sIx n d (some (k:Int))=min k n:=by change(if(k:Int)<0 then((k:Int)+(n:Int)).toNat else min (k:Int).toNat n)=min k n;rw[if_neg o_,A5_]
end HT
namespace L2
open PySem PySem.Spec PyProof.Rows
abbrev TO:=St->Hp->(Option Int->Hp->Prop)->Prop
def PO(X:Cx)(e:Option Expr)(t:TO):Prop :=
 ∀(pins:List (Addr×Obj))(s:Shared)(σ:St)(H:Hp)(Q:Option Int->Hp->Prop),Inv X pins σ H s->t σ H Q ->
  wpAny (model X.prog X.w) X.A (evalPart e X.env) (λu s'=>∃o H',Inv X pins σ H' s'/\IsPart u o/\Q o H') X.xe s
def GN_:TO:=λ_ H Q=>Q none H
def IS_(t:TE):TO:=λσ H Q=>t σ H λx H1=>∃i,x=.int i/\Q (some i) H1
theorem jG_{ns:List Int}:∀{us:List Value},E8_ (ns.map V.int) us->IntsAre us ns:=by
 induction ns with
 |nil=>intro us r;rw[DG_]at r;cases r;show .nil
 |cons n ns ih =>
  intro us r;rw[Aw_]at r;cases r with
  |cons r1 r2 =>obtain⟨t,e⟩:=r1;subst e;show .cons n t (ih r2)
variable {X:Cx}{e:Expr}{te:TE}{lo hi:Option Expr}{tl th:TO}{pos p2:Pos}
theorem du_:PO X none GN_:=by intro pins s σ H Q I h;rw[evalPart_none];show Ah_ ⟨none,H,I,.none,h⟩
theorem dv_(h:PE X e te):PO X (some e) (IS_ te):=by intro pins s σ H Q I hw;rw[evalPart_some];show thn (h pins s σ H _ I hw) λu s1 ⟨x,H1,I1,r1,q1⟩=>?_;obtain⟨i,rfl,q⟩:=q1;obtain⟨t,rfl⟩:=r1;show⟨some i,H1,I1,.int i t,q⟩
def SlR(X:Cx)(r:V->Option Int->Option Int->Hp->VK->Prop):Prop :=
 ∀(pins:List (Addr×Obj))(s:Shared)(σ:St)(H:Hp)(x:V)(v vl vu:Value)(lo hi:Option Int)(sl:Addr)(Q:VK),Inv X pins σ H s->Fb_ x v->s.heap.IsSliceOf sl vl vu .none->IsPart vl lo->IsPart vu hi->r x lo hi H Q ->
  ∃T id,typeLookup (.type T) "__getitem__"=pure (some (.builtin id))/\s.TypeIs v T/\wpAny (model X.prog X.w) X.A (getItem v (.ref sl)) (EP X pins σ Q) X.xe s
def tSl(r:V->Option Int->Option Int->Hp->VK->Prop)(te:TE)(tl th:TO):TE:=λσ H Q=>te σ H λx H1=>tl σ H1 λl H2=>th σ H2 λu H3=>r x l u H3 Q
theorem cj_{r:V->Option Int->Option Int->Hp->VK->Prop}(hr:SlR X r)(he:PE X e te)(hl:PO X lo tl)(hu:PO X hi th):PE X (.Subscript e (.Slice lo hi none p2) pos) (tSl r te tl th):=by intro pins s σ H Q I h;show Subscript_ (thn (he pins s σ H _ I h) λv s1 ⟨x,H1,I1,r1,q1⟩=>?_);show wpAny_Slice (thn (hl pins s1 σ H1 _ I1 q1) λvl s2 ⟨l,H2,I2,pl,q2⟩=>thn (hu pins s2 σ H2 _ I2 q2) λvu s3 ⟨u,H3,I3,pu,q3⟩=>?_);rw[evalPart_none];show Ah_ ?_;have I4:Inv X pins σ H3 {s3 with heap:=s3.heap.push {cls:=.type "slice",data:=.fields #[vl,vu,.none]}}:=I3.kept (t':=s3.toks) λb ob q=>Al_ _ q;obtain⟨T,id,hT,ht,hg⟩:=hr pins {s3 with heap:=s3.heap.push {cls:=.type "slice",data:=.fields #[vl,vu,.none]}} σ H3 x v vl vu l u s3.heap.objs.size Q I4 r1 (Heap.IsSliceOf.new ..) pl pu q3;change wpAny (model X.prog X.w) X.A (subscriptTail e (.Slice lo hi none p2) v (.ref s3.heap.objs.size)) (EP X pins σ Q) X.xe {s3 with heap:=s3.heap.push {cls:=.type "slice",data:=.fields #[vl,vu,.none]}};show tail_any (ops:=[.ref s3.heap.objs.size,v]) ht hT hg (by with_unfolding_all rfl)
def Hy_(xs:List V)(lo hi:Option Int):List V:=(xs.drop (HT.sIx xs.length 0 lo)).take (HT.sIx xs.length xs.length hi-HT.sIx xs.length 0 lo)
theorem iv_(xs:List V)(lo hi:Option Int):(Hy_ xs lo hi).length<=xs.length:=by unfold Hy_;rw[BI_,By_];lia
def ixN(n:Nat)(i:Int):Option Nat:=if 0<=i then(if i<n then some i.toNat else none)else if -(n:Int)<=i then some (i+n).toNat else none
def atI{α:Type}(xs:List α)(i:Int):Option α:=(ixN xs.length i).bind λj=>xs[j]?
theorem kk_{n:Nat}{i:Int}{j:Nat}(h:ixN n i=some j):seqIndex? i n=some j/\j<n /\ -(n:Int)<=i/\i<n:=by
 unfold ixN at h;by_cases h0:0<=i
 .rw[if_pos h0]at h;by_cases h1:i<n
  .rw[if_pos h1]at h;have e:i.toNat=j:=Ar_ h;show⟨by rw[D6_ h0 h1,e],o_,o_,h1⟩
  .rw[if_neg h1]at h;cases h
 .rw[if_neg h0]at h;by_cases h1:-(n:Int)<=i
  .rw[if_pos h1]at h;have e:(i+n).toNat=j:=Ar_ h;show⟨by rw[EH_ o_ h1,e],o_,h1,o_⟩
  .rw[if_neg h1]at h;cases h
theorem iw_{α:Type}{xs:List α}{i:Int}{v:α}(h:atI xs i=some v):∃j,seqIndex? i xs.length=some j/\xs[j]?=some v/\j<xs.length /\ -(xs.length:Int)<=i/\i<xs.length:=by
 unfold atI at h;cases e:ixN xs.length i with
 |none=>rw[e]at h;cases h
 |some j =>rw[e]at h;obtain⟨h1,h2,h3,h4⟩:=kk_ e;show⟨j,h1,h,h2,h3,h4⟩
theorem mY_{α:Type}{xs:List α}{j:Nat}{v:α}(h:xs[j]?=some v):atI xs (j:Int)=some v:=by
 have hj:j<xs.length:=(Ad_.mp h).1;have e:ixN xs.length (j:Int)=some j:=by unfold ixN;rw[if_pos o_,if_pos o_];simp
 unfold atI;rw[e];show h
def IP_(b:Expr):Prop:=∀o i,subscripted b false o i=operate [o,i] (getItem o i)
def IxR(X:Cx)(r:R2):Prop :=
 ∀(value slice:Expr)(pins:List (Addr×Obj))(s:Shared)(σ:St)(H:Hp)(x y:V)(v u:Value)(Q:VK),Inv X pins σ H s->Fb_ x v->Fb_ y u->r x y H Q ->
  subscripted slice false v u=operate [v,u] (getItem v u)->wpAny (model X.prog X.w) X.A (subscriptTail value slice v u) (EP X pins σ Q) X.xe s
def MtR(X:Cx)(id:String)(r:V->List V->Hp->VK->Prop):Prop :=
 ∀(pins:List (Addr×Obj))(s:Shared)(σ:St)(H:Hp)(x:V)(xs:List V)(v:Value)(us:List Value)(Q:VK),Inv X pins σ H s->Fb_ x v->E8_ xs us->r x xs H Q ->
  wpAny (model X.prog X.w) X.A (call (.builtin id) (v::us)) (EP X pins σ Q) X.xe s
section
variable {a b:Expr}{ta tb:TE}
theorem EU_{r:R2}(hr:IxR X r)(ha:PE X a ta)(hb:PE X b tb)(hs:IP_ b:=by intro _ _;rfl):PE X (.Subscript a b pos) (tOp r ta tb):=by intro pins s σ H Q I h;show Subscript_ (binT ha hb I h λv u s2 x y H2 I2 rx ry q=>hr a b pins s2 σ H2 x y v u Q I2 rx ry q (hs _ _))
def KD_(K:PySem.W.Frag):R2:=λx y H Q=>∃p xs i v,x=.ref p/\y=.int i/\SqL K H p xs/\atI xs i=some v/\Q v H
def Kc_(K:PySem.W.Frag):R2:=λx y H Q=>∃p xs i v,x=.ref p/\y=.int i/\SqT K H p xs/\atI xs i=some v/\Q v H
def J1_:R2:=λx y H Q=>∃z i c,x=.str z/\y=.int i/\z.length<=sizeLine/\atI z.cps.toList i=some c/\Q (.str ⟨#[c]⟩) H
theorem kl_:IxR X (KD_ X.K):=by
 intro value slice pins s σ H x y v u Q I rx ry h hs;obtain⟨p,xs,i,z,rfl,rfl,hq,he,q⟩:=h;cases rx;obtain⟨t,rfl⟩:=ry;obtain⟨its,r,pl,hz⟩:=I.list hq;obtain⟨j,h1,h2,h3,h4,h5⟩:=iw_ he;obtain⟨w,ew,rw'⟩:=r.get h2;have hl:=r.length;have hn:=GE_;have fin:EP X pins σ Q w s:=⟨z,H,I,rw',q⟩;by_cases h0:0<=i
 .have hj:i.toNat=j:=by rw[D6_ h0 h5]at h1;show Ar_ h1
  show item_listR pl.isList h0 o_ (by rw[hj];simpa using ew) fin hs
 .have hj:(i+(its.toArray.size:Int)).toNat=j:=by rw[EH_ o_ h4]at h1;rw[At_,<-hl];show Ar_ h1
  show D7_ (x:=w) pl.isList.typeIs slot_list_getitem.lookup
   (wpAny_getItem_list_neg (Q:=λr s'=>r=w/\EP X pins σ Q r s') pl.isList o_ (by rw[At_] <;> lia) o_ (by rw[hj];simpa using ew) ⟨rfl,fin⟩) hs
theorem nJ_:IxR X (Kc_ X.K):=by
 intro value slice pins s σ H x y v u Q I rx ry h hs;obtain⟨p,xs,i,z,rfl,rfl,hq,he,q⟩:=h;cases rx;obtain⟨t,rfl⟩:=ry;obtain⟨its,r,pl,hz⟩:=I.tuple hq;obtain⟨j,h1,h2,h3,h4,h5⟩:=iw_ he;obtain⟨w,ew,rw'⟩:=r.get h2;have hl:=r.length;have hn:=GE_;have fin:EP X pins σ Q w s:=⟨z,H,I,rw',q⟩
 show D7_ (x:=w) pl.typeIs slot_tuple_getitem.lookup
  (getItem_tuple (j:=j) (Q:=λr s'=>r=w/\EP X pins σ Q r s') pl o_ o_ (by rw[At_,<-hl];show h1) (by simpa using ew) ⟨rfl,fin⟩) hs
theorem my_:IxR X J1_:=by
 intro value slice pins s σ H x y v u Q I rx ry h hs;obtain⟨z,i,c,rfl,rfl,hz,he,q⟩:=h;obtain⟨t,rfl⟩:=rx;obtain⟨t',rfl⟩:=ry;obtain⟨j,h1,h2,h3,h4,h5⟩:=iw_ he;have hl:z.cps.toList.length=z.length:=by simp[Str.length]
 rw[hl]at h1 h4 h5;have hn:=GE_;show tail_any (Ep_ s z t) slot_str_getitem.lookup (getItem_str (c:=c) (by have e1:decide (i < -(2 ^ 63:Int))=false:=AE_ o_;have e2:decide (i ≥ 2 ^ 63)=false:=AE_ o_;rw[e1,e2,Bool.or_false]) (by rw[h1];simpa using h2) ⟨.str ⟨#[c]⟩,H,I.tok _,⟨_,rfl⟩,q⟩) hs
theorem jH_(its:List Value)(n j:Nat)(u:Value):Obj.mapSeq (·.setIfInBounds j u) {cls:=.type "list",data:=.seq its.toArray n}={cls:=.type "list",data:=.seq (its.set j u).toArray n}:=by simp[Obj.mapSeq]
theorem Inv.lst{pins:List (Addr×Obj)}{σ:St}{H:Hp}{s:Shared}{p:Addr}{xs:List V}(I:Inv X pins σ H s)(h:H p=some (.lst xs)):
  ∃(its:List Value)(n:Nat),E8_ xs its/\s.heap.get? p=some {cls:=.type "list",data:=.seq its.toArray n}/\xs.length<=sizeLine:=by
 obtain⟨z,its,n,r,e⟩:=I.hok p _ h;show⟨its,n,r,e,z⟩
theorem Inv.lstUpd{pins:List (Addr×Obj)}{σ:St}{H:Hp}{s:Shared}{p:Addr}{xs ys:List V}{its its':List Value}{n n':Nat}{f:Obj->Obj}(I:Inv X pins σ H s)(h:H p=some (.lst xs))
  (ho:s.heap.get? p=some {cls:=.type "list",data:=.seq its.toArray n}) (hf:f {cls:=.type "list",data:=.seq its.toArray n}={cls:=.type "list",data:=.seq its'.toArray n'}) (r:E8_ ys its') (hz:ys.length<=sizeLine) (t:Nat):
  Inv X pins σ (upd H p (.lst ys)) {s with heap:=s.heap.update p f,toks:=t}:=by
 have e:(s.heap.update p f).get? p=some {cls:=.type "list",data:=.seq its'.toArray n'}:=by rw[Cv_ f ho (by rw[hf] <;> rfl),hf]
 show I.write (x:=p) (e:=p) (by rw[h];trivial) (.inl rfl) (λb u hb q=>(AW_ _ _ (Ne.symm hb)).trans q) ⟨_,e⟩ ?_;show⟨hz,its',n',r,e⟩
def IK_:V->V->V->Hp->(Hp->Prop)->Prop:=λo i v H Q=>∃p xs k j,o=.ref p/\i=.int k/\H p=some (.lst xs)/\ixN xs.length k=some j/\Q (upd H p (.lst (xs.set j v)))
theorem i8_:KF_ X IK_:=by
 intro pins s σ H o i v ov iv u Q I ro ri rv h;obtain⟨p,xs,k,j,rfl,rfl,hp,hj,q⟩:=h;cases ro;obtain⟨t,rfl⟩:=ri;obtain⟨its,n,r,ho,hz⟩:=I.lst hp;obtain⟨h1,h2,h3,h4⟩:=kk_ hj;have hl:=r.length;have hn:=GE_
 have I':Inv X pins σ (upd H p (.lst (xs.set j v))) {s with heap:=s.heap.update p (Obj.mapSeq (·.setIfInBounds j u))} :=
  I.lstUpd hp ho (jH_ its n j u) (r.set rv j) (by rw[Cj_];show hz) s.toks
 by_cases h0:0<=k
 .have hk:k.toNat=j:=by rw[D6_ h0 h4]at h1;show Ar_ h1
  show PySem.W.ki_setAt ho h0 o_ (by rw[At_,<-hl];show h4) (by rw[hk];show⟨_,I',q⟩)
 .have hk:(k+(its.toArray.size:Int)).toNat=j:=by rw[EH_ o_ h3]at h1;rw[At_,<-hl];show Ar_ h1
  show PySem.W.ki_setBack ho o_ (by rw[At_,<-hl];show h3) o_ (by rw[hk];show⟨_,I',q⟩)
theorem hz_(lo hi:Option Int)(n:Nat):(sliceBounds lo hi none n).1=((HT.sIx n 0 lo:Nat):Int)/\(sliceBounds lo hi none n).2.1=((HT.sIx n n hi:Nat):Int)/\(sliceBounds lo hi none n).2.2=1:=by
 show⟨?_,?_,rfl⟩
 .cases lo with
  |none=>simp[sliceBounds,HT.sIx]
  |some i =>
   simp only[sliceBounds,HT.sIx,Option.getD_none,show(1:Int) > 0 by decide,if_true];by_cases h:i<0
   .simp only[h,if_true] <;> lia
   .simp only[h,Co_] <;> lia
 .cases hi with
  |none=>simp[sliceBounds,HT.sIx]
  |some i =>
   simp only[sliceBounds,HT.sIx,Option.getD_none,show(1:Int) > 0 by decide,if_true];by_cases h:i<0
   .simp only[h,if_true] <;> lia
   .simp only[h,Co_] <;> lia
theorem gS_(its:List Value)(lo hi:Option Int):slicePick its.toArray lo hi none=((its.drop (HT.sIx its.length 0 lo)).take (HT.sIx its.length its.length hi-HT.sIx its.length 0 lo)).toArray:=by obtain⟨h1,h2,h3⟩:=hz_ lo hi its.toArray.size;unfold slicePick;rw[h1,h2,h3];simp only[sliceRange_one,pick_run,At_] <;> rfl
def rSlL(K:PySem.W.Frag):V->Option Int->Option Int->Hp->VK->Prop:=λx lo hi H Q=>∃a xs,x=.ref a/\SqL K H a xs/\∀p,H p=none->Q (.ref p) (upd H p (.lst (Hy_ xs lo hi)))
theorem mZ_:SlR X (rSlL X.K):=by intro pins s σ H x v vl vu lo hi sl Q I rx hs pl pu h;obtain⟨a,xs,rfl,hx,q⟩:=h;cases rx;obtain⟨its,r,ht,hz⟩:=I.list hx;have hlen:=r.length;show⟨"list",_,slot_list_getitem.lookup,ht.isList.typeIs,?_⟩;show wpAny_getItem_list_slice ht.isList hs pl pu .none s_ ?_ (by rw[At_] <;> lia);rw[gS_,<-hlen];show⟨.ref s.heap.objs.size,_,I.laid (t':=s.toks) (o:=.lst (Hy_ xs lo hi)) (λb ob q=>Al_ _ q) (Aj_ _) ?_,rfl,q _ (I.hok.fresh (Aj_ _))⟩;show⟨AT_ (iv_ xs lo hi) hz,_,0,(r.drop (HT.sIx xs.length 0 lo)).take (HT.sIx xs.length xs.length hi-HT.sIx xs.length 0 lo),Az_ _ rfl⟩
def F1_:V->Bool
 | .non=>true
 | .bl _=>true
 | .int _=>true
 | .str _=>true
 |_=>false
def eqV:V->V->Bool
 | .non,.non=>true
 | .bl a,.bl b=>a == b
 | .bl a,.int b=>(if a then 1 else 0)== b
 | .int a,.bl b=>a == (if b then 1 else 0)
 | .int a,.int b=>a == b
 | .str a,.str b=>a == b
 |_,_=>false
theorem nK_{A:Around}{s:Shared}{y x:V}{u v:Value}(ry:Fb_ y u)(rx:Fb_ x v)(fy:F1_ y=true)(fx:F1_ x=true):SeqAt.EqAt A s u v (eqV y x):=by
 cases y with
 |non =>
  cases ry;cases x with
  |non=>cases rx;show C5_ _
  |bl b=>cases rx;show SeqAt.EqAt.none_bool b
  |int b=>obtain⟨t,rfl⟩:=rx;show SeqAt.EqAt.none_int b t
  |str b=>obtain⟨t,rfl⟩:=rx;show SeqAt.EqAt.none_str b t
  |_=>show absurd (show false=true from fx) AF_
 |bl a =>
  cases ry;cases x with
  |non=>cases rx;show SeqAt.EqAt.bool_none a
  |bl b=>cases rx;show Eq_ a b
  |int b=>obtain⟨t,rfl⟩:=rx;show SeqAt.EqAt.bool_int a b t
  |str b=>obtain⟨t,rfl⟩:=rx;show SeqAt.EqAt.bool_str a b t
  |_=>show absurd (show false=true from fx) AF_
 |int a =>
  obtain⟨t',rfl⟩:=ry;cases x with
  |non=>cases rx;show SeqAt.EqAt.int_none a t'
  |bl b=>cases rx;show SeqAt.EqAt.int_bool a t' b
  |int b=>obtain⟨t,rfl⟩:=rx;show SeqAt.EqAt.int_int a t' b t
  |str b=>obtain⟨t,rfl⟩:=rx;show SeqAt.EqAt.int_str a t' b t
  |_=>show absurd (show false=true from fx) AF_
 |str a =>
  obtain⟨t',rfl⟩:=ry;cases x with
  |non=>cases rx;show SeqAt.EqAt.str_none a t'
  |bl b=>cases rx;show SeqAt.EqAt.str_bool a t' b
  |int b=>obtain⟨t,rfl⟩:=rx;show SeqAt.EqAt.str_int a t' b t
  |str b=>obtain⟨t,rfl⟩:=rx;show Do_ a t' b t
  |_=>show absurd (show false=true from fx) AF_
 |_=>show absurd (show false=true from fy) AF_
def eqU(x:V)(u:Value):Bool:=match u with
 | .none=>eqV .non x
 | .bool b=>eqV (.bl b) x
 | .int i _=>eqV (.int i) x
 | .str z _=>eqV (.str z) x
 |_=>false
theorem mz_{x y:V}{u:Value}(r:Fb_ y u)(f:F1_ y=true):eqU x u=eqV y x:=by
 cases y with
 |non=>cases r;rfl
 |bl b=>cases r;rfl
 |int i=>obtain⟨t,rfl⟩:=r;rfl
 |str z=>obtain⟨t,rfl⟩:=r;rfl
 |_=>show absurd (show false=true from f) AF_
theorem fH_{x:V}:∀{xs:List V}{us:List Value},E8_ xs us->xs.all F1_=true->us.any (eqU x)=xs.any λy=>eqV y x
 |_,_,.nil,_=>rfl
 |y::xs,u::us,.cons r t,f=>by rw[Ex_,Cd_]at f;rw[B2_,B2_,mz_ r f.1,fH_ t f.2]
theorem eq_{A:Around}{s:Shared}{x:V}{v:Value}(rx:Fb_ x v)(fx:F1_ x=true):∀{xs:List V}{us:List Value},E8_ xs us->xs.all F1_=true->∀u∈us,SeqAt.EqAt A s u v (eqU x u)
 |_,_,.nil,_=>λu hu=>by cases hu
 |y::xs,u::us,.cons r t,f=>λu' hu=>by
  rw[Ex_,Cd_]at f
  rcases As_.mp hu with rfl|hu
  .rw[mz_ r f.1];show nK_ r rx f.1 fx
  .show eq_ rx fx t f.2 u' hu
def inV(x:V)(xs:List V):Bool:=xs.any λy=>eqV y x
def rIn(K:PySem.W.Frag)(neg:Bool):R2:=λx y H Q=>∃p xs,y=.ref p/\(SqL K H p xs\/SqT K H p xs)/\F1_ x=true/\xs.all F1_=true/\Q (.bl (if neg then !inV x xs else inV x xs)) H
theorem km_:OpR X (compareOp .In) (rIn X.K false):=by
 intro pins s σ H x y v u Q I rx ry h;obtain⟨p,xs,rfl,hq,fx,fs,q⟩:=h;cases ry
 rcases hq with hq|hq
 .obtain⟨its,r,pl,hz⟩:=I.list hq;show SeqAt.in_listAt (eqU x) pl.isList (λw hw=>eq_ rx fx r fs w (by simpa using hw)) ⟨.bl _,H,I,rfl,?_⟩;rw[show its.toArray.any (eqU x)=its.any (eqU x) by simp,fH_ r fs];show q
 .obtain⟨its,r,pl,hz⟩:=I.tuple hq;show SeqAt.in_tupleAt (eqU x) pl (λw hw=>eq_ rx fx r fs w (by simpa using hw)) ⟨.bl _,H,I,rfl,?_⟩;rw[show its.toArray.any (eqU x)=its.any (eqU x) by simp,fH_ r fs];show q
theorem hA_:OpR X (compareOp .NotIn) (rIn X.K true):=by
 intro pins s σ H x y v u Q I rx ry h;obtain⟨p,xs,rfl,hq,fx,fs,q⟩:=h;cases ry
 rcases hq with hq|hq
 .obtain⟨its,r,pl,hz⟩:=I.list hq;show SeqAt.notIn_listAt (eqU x) pl.isList (λw hw=>eq_ rx fx r fs w (by simpa using hw)) ⟨.bl _,H,I,rfl,?_⟩;rw[show its.toArray.any (eqU x)=its.any (eqU x) by simp,fH_ r fs];show q
 .obtain⟨its,r,pl,hz⟩:=I.tuple hq;show SeqAt.notIn_tupleAt (eqU x) pl (λw hw=>eq_ rx fx r fs w (by simpa using hw)) ⟨.bl _,H,I,rfl,?_⟩;rw[show its.toArray.any (eqU x)=its.any (eqU x) by simp,fH_ r fs];show q
theorem fo_:FB_ X (.builtin "len") (λxs H Q=>∃p ys,xs=[.ref p]/\(SqL X.K H p ys\/SqT X.K H p ys)/\Q (.int ys.length) H):=by
 intro pins s σ H xs us Q I r h;obtain⟨p,ys,rfl,hq,q⟩:=h;obtain⟨u,rfl,rx⟩:=FS_ r;cases rx;have hn:=GE_
 rcases hq with hq|hq
 .obtain⟨its,r',pl,hz⟩:=I.list hq;have hlen:=r'.length;show Calls.call_len_list pl.isList (by simp only[At_] <;> lia) ⟨.int ys.length,H,I.tok _,⟨s.toks+1,by rw[At_,hlen]⟩,q⟩
 .obtain⟨its,r',pl,hz⟩:=I.tuple hq;have hlen:=r'.length;show len_tuple pl (by simp only[At_] <;> lia) ⟨.int ys.length,H,I.tok _,⟨s.toks+1,by rw[At_,hlen]⟩,q⟩
theorem hB_:FB_ X (.type "list") (λxs H Q=>∃p ys,xs=[.ref p]/\(SqL X.K H p ys\/SqT X.K H p ys)/\∀l,H l=none->Q (.ref l) (upd H l (.lst ys))):=by
 intro pins s σ H xs us Q I r h;obtain⟨p,ys,rfl,hq,q⟩:=h;obtain⟨u,rfl,rx⟩:=FS_ r;cases rx
 have fin:∀(its:List Value),E8_ ys its->ys.length<=sizeLine->∀(h':Heap)(c':Nat),(∀b o',s.heap.get? b=some o'->h'.get? b=some o') ->
   h'.get? s.heap.objs.size=some {cls:=.type "list",dict:=none,data:=.seq its.toArray c',slots:=#[]}->EP X pins σ Q (.ref s.heap.objs.size) {s with heap:=h'}:=λits r' hz h' c' kp e =>
  ⟨.ref s.heap.objs.size,_,I.laid (t':=s.toks) kp (Aj_ _) (show Fg_ X.prog X.w _ h' _ (.lst ys)from⟨hz,its,c',r',e⟩),rfl,q _ (I.hok.fresh (Aj_ _))⟩
 rcases hq with hq|hq
 .obtain⟨its,r',pl,hz⟩:=I.list hq;have hlen:=r'.length;obtain⟨o,ho,hc,n,hd⟩:=pl.isList;show call_list_seq p (.inl rfl) ho hc hd (λh' c' kp e=>fin its r' hz h' c' kp e) (by simp only[At_] <;> lia)
 .obtain⟨its,r',pl,hz⟩:=I.tuple hq;have hlen:=r'.length;obtain⟨o,ho,hc,n,hd⟩:=pl;show call_list_seq p (.inr rfl) ho hc hd (λh' c' kp e=>fin its r' hz h' c' kp e) (by simp only[At_] <;> lia)
def tyV(K:PySem.W.Frag)(T:String)(x:V)(H:Hp):Prop:=match x with
 | .str _=>T = "str"
 | .int _=>T = "int"
 | .ref p=>(T = "list" /\ ∃xs,SqL K H p xs)\/(T = "tuple" /\ ∃o,K.lookup p=some o/\o.cls=.type "tuple" /\ o.dict=none) \/
   (T = "dict" /\ ((∃kvs,H p=some (.dK kvs))\/∃kvs,H p=some (.dT kvs)))\/(T = "set" /\ ∃S n,H p=some (.set S n))
 |_=>False
theorem mA_{pins:List (Addr×Obj)}{σ:St}{H:Hp}{s:Shared}{T:String}{x:V}{v:Value}(I:Inv X pins σ H s)(r:Fb_ x v)(ty:tyV X.K T x H):
  s.TypeIs v T/\∀a,v=.ref a->∃ob,s.heap.get? a=some ob/\ob.dict=none:=by
 cases x with
 |str z =>
  obtain⟨t,rfl⟩:=r;cases(show T = "str"from ty);show⟨Ep_ s z t,λ_ e=>nomatch e⟩
 |int i =>
  obtain⟨t,rfl⟩:=r;cases(show T = "int"from ty);show⟨typeIs_int s i t,λ_ e=>nomatch e⟩
 |ref p =>
  cases r
  rcases ty with⟨rfl,xs,hq⟩|⟨rfl,o,hk,hc,hd⟩|⟨rfl,hk⟩|⟨rfl,S,n,hk⟩
  .obtain⟨its,_,pl,_⟩:=I.list hq;show⟨pl.isList.typeIs,λa e=>?_⟩;cases e;obtain⟨o,n,e,c,hd,_⟩:=pl;show⟨o,e,hd⟩
  .show⟨⟨o,I.kIn p o hk,hc⟩,λa e=>?_⟩;cases e;show⟨o,I.kIn _ o hk,hd⟩
  .have z:∃o,s.heap.get? p=some o/\o.ExactDict:=by
    rcases hk with⟨kvs,hk⟩|⟨kvs,hk⟩
    .obtain⟨_,_,_,_,o,_,_,e,ex,_⟩:=I.hok p _ hk;show⟨o,e,ex⟩
    .obtain⟨_,_,_,_,o,_,_,e,ex,_⟩:=I.hok p _ hk;show⟨o,e,ex⟩
   obtain⟨o,e,ex⟩:=z;show⟨⟨o,e,ex.1⟩,λa e2=>?_⟩;cases e2;show⟨o,e,ex.2.1⟩
  .obtain⟨o,_,_,_,e,ex,_⟩:=I.hok p _ hk;show⟨⟨o,e,ex.1⟩,λa e2=>?_⟩;cases e2;show⟨o,e,ex.2.1⟩
 |_=>show False.elim ty
def Kl_(K:PySem.W.Frag)(T:String)(r:V->List V->Hp->VK->Prop)(to:TE):TE:=λσ H Q=>to σ H λx H1=>tyV K T x H1/\r x [] H1 Q
def tBM(K:PySem.W.Frag)(T:String)(r:V->List V->Hp->VK->Prop)(to:TE)(t:TA):TE:=λσ H Q=>to σ H λx H1=>tyV K T x H1/\t σ H1 λxs H2=>r x xs H2 Q
variable {o:Expr}{es:List Expr}{to:TE}{t:TA}{name:Str}{apos cpos:Pos}{T id:String}{r:V->List V->Hp->VK->Prop}
theorem nL_(pa:PlainAttrs T)(slot:Slot T name id)(hty:typeOf (.builtin id)=pure (.type "method_descriptor")) (hm:MtR X id r) (ho:PE X o to)
  (hbase:attributeBase o name X.env (eval o X.env)=eval o X.env:=by rfl) (hline:(apos.endLine == cpos.line)=true:=by rfl):PE X (.Call (.Attribute o name apos) [] [] cpos) (Kl_ X.K T r to):=by
 intro pins s σ H Q I h;show CO_ hbase hline (thn (ho pins s σ H _ I h) λv s1 ⟨x,H1,I1,r1,ty,q1⟩=>?_);obtain⟨h1,h2⟩:=mA_ I1 r1 ty;show⟨T,id,pa,slot,hty,h1,h2,Cp_ rfl (De_ (hm pins s1 σ H1 x [] v [] Q I1 r1 .nil q1))⟩
theorem Ft_(pa:PlainAttrs T)(slot:Slot T name id)(hty:typeOf (.builtin id)=pure (.type "method_descriptor")) (hm:MtR X id r) (ho:PE X o to) (ha:PA X (e::es) t)
  (hbase:attributeBase o name X.env (eval o X.env)=eval o X.env:=by rfl)
  (hfew:((backTo cpos (starEach (e::es) X.env)).all (λx=>!x.1) && (backToKw cpos (keywordEach [] X.env)).all (λx=>x.1.isSome)
   && decide ((e::es).length+([]:List Keyword).length+(if([]:List Keyword).isEmpty then 0 else 1)<30))=true:=by rfl)
  (hline:(apos.endLine == cpos.line)=true:=by rfl) (hs:starEach (e::es) X.env=(false,eval e X.env)::starEach es X.env:=by rfl) (hplain:(backTo cpos (starEach es X.env)).any (·.1)=false:=by rfl):
  PE X (.Call (.Attribute o name apos) (e::es) [] cpos) (tBM X.K T r to t):=by
 intro pins s σ H Q I h;show wpAny_Call_method_late hbase hfew hline rfl (thn (ho pins s σ H _ I h) λv s1 ⟨x,H1,I1,r1,ty,q1⟩=>?_);obtain⟨h1,h2⟩:=mA_ I1 r1 ty;show⟨T,id,pa,slot,hty,h1,h2,?_⟩;have hA:=ha cpos pins s1 σ H1 _ I1 q1;rw[hs]at hA⊢;show Cp_ (by change(false ||(backTo cpos (starEach es X.env)).any (·.1))=false;rw[hplain] <;> rfl) (Calls.evalArgs_plain ?_);show thn hA λus s2 ⟨vs,H2,I2,r2,q2⟩=>hm pins s2 σ H2 x vs v us Q I2 r1 r2 q2
end
def MtM(X:Cx)(id:String)(r:V->List V->Hp->VK->Prop):Prop :=
 ∀(pins:List (Addr×Obj))(s:Shared)(σ:St)(H:Hp)(x:V)(xs:List V)(v:Value)(us:List Value)(Q:VK),Inv X pins σ H s->Fb_ x v->E8_ xs us->r x xs H Q ->
  wpAny (model X.prog X.w) X.A (call (.builtin id) (v::us)) (EP X pins σ Q) X.xe s
theorem E8_.one:∀{x:V}{us:List Value},E8_ [x] us->∃u,us=[u]/\Fb_ x u
 |_,_,.cons r .nil=>⟨_,rfl,r⟩
theorem E8_.two:∀{x y:V}{us:List Value},E8_ [x,y] us->∃u v,us=[u,v]/\Fb_ x u/\Fb_ y v
 |_,_,_,.cons r (.cons q .nil)=>⟨_,_,rfl,r,q⟩
theorem E8_.zero:∀{us:List Value},E8_ [] us->us=[]
 |_,.nil=>rfl
theorem E8_.eraseIdx:∀{xs:List V}{us:List Value}(i:Nat),E8_ xs us->E8_ (xs.eraseIdx i) (us.eraseIdx i)
 |_,_,_,.nil=>.nil
 |_,_,0,.cons _ t=>t
 |_,_,i+1,.cons r t=>.cons r (E8_.eraseIdx i t)
theorem E8_.reverse{xs:List V}{us:List Value}(h:E8_ xs us):E8_ xs.reverse us.reverse:=by
 induction h with
 |nil=>show .nil
 |cons r t ih=>rw[CR_,CR_];show E8_.append ih (.cons r .nil)
theorem hC_{α:Type}:∀(l:List α)(i:Nat),(l.eraseIdx i).length<=l.length
 |[],_=>Aj_ _
 |_::_,0=>CT_ _
 |_::r,i+1=>BT_ (hC_ r i)
variable {pins:List (Addr×Obj)}{σ:St}{H:Hp}{s:Shared}{l b:Addr}{xs ys zs:List V}
theorem Inv.lset{its its':List Value}{n:Nat}{f:Array Value->Array Value}{t':Nat}(I:Inv X pins σ H s)(hH:H l=some (.lst xs))
  (e:s.heap.get? l=some {cls:=.type "list",data:=.seq its.toArray n}) (hf:f its.toArray=its'.toArray) (hv:E8_ ys its') (hz:ys.length<=sizeLine):
  Inv X pins σ (upd H l (.lst ys)) {s with heap:=s.heap.update l (Obj.mapSeq f),toks:=t'}:=by
 have q:=PySem.IsL.update e f;rw[hf]at q;show I.write (x:=l) (e:=l) (by rw[hH];show trivial) (.inl rfl) (λb' u hb hu=>(AW_ s.heap (Obj.mapSeq f) (Ne.symm hb)).trans hu) ⟨_,q⟩ ?_;show⟨hz,its',_,hv,q⟩
theorem Inv.lnew{its:List Value}{t':Nat}(I:Inv X pins σ H s)(hv:E8_ ys its)(hz:ys.length<=sizeLine):
  Inv X pins σ (upd H s.heap.objs.size (.lst ys)) {s with heap:=s.heap.push {cls:=.type "list",data:=.seq its.toArray},toks:=t'} :=
 I.laid (λ_ _ q=>Al_ _ q) (Aj_ _) ⟨hz,its,0,hv,Az_ _ rfl⟩
theorem Inv.fresh(I:Inv X pins σ H s):H s.heap.objs.size=none:=I.hok.fresh (Aj_ _)
theorem Inv.lstM(I:Inv X pins σ H s)(hH:H l=some (.lst xs)):xs.length<=sizeLine/\∃(its:List Value)(n:Nat),E8_ xs its/\xs.length=its.length/\s.heap.get? l=some {cls:=.type "list",data:=.seq its.toArray n}:=by obtain⟨z,its,n,r,e⟩:=I.hok l _ hH;show⟨z,its,n,r,r.length,e⟩
theorem Ia_{n:Nat}(h:n<=sizeLine):Builtin.List.listTooLong n=false:=by unfold Builtin.List.listTooLong;show AE_ o_
def GM_:V->List V->Hp->VK->Prop:=λx vs H Q=>∃l xs y,x=.ref l/\vs=[y]/\H l=some (.lst xs)/\xs.length<sizeLine/\Q .non (upd H l (.lst (xs++[y])))
theorem aw_:MtM X "list.append" GM_:=by intro pins s σ H x vs v us Q I rx rv h;obtain⟨l,xs,y,rfl,rfl,hH,hz,q⟩:=h;cases rx;obtain⟨u,rfl,ru⟩:=rv.one;obtain⟨z,its,n,r,hl,e⟩:=I.lstM hH;show CA_ F.slot_list_append ⟨_,e,rfl⟩ F.entry_list_append (F.args_list_append_2 _ _) (PySem.list_append l its.toArray n u (by rw[At_];lia)) ⟨e,?_⟩;show⟨.non,_,I.lset (its':=its++[u]) hH e s_ (r.append (.cons ru .nil)) ?_,rfl,q⟩;rw[Af_,A9_];lia
def GO_:V->List V->Hp->VK->Prop:=λx vs H Q=>∃l b xs zs,x=.ref l/\vs=[.ref b]/\H l=some (.lst xs)/\H b=some (.lst zs)/\xs.length+zs.length<=sizeLine/\Q .non (upd H l (.lst (xs++zs)))
theorem kn_:MtM X "list.extend" GO_:=by
 intro pins s σ H x vs v us Q I rx rv h;obtain⟨l,b,xs,zs,rfl,rfl,hH,hB,hz,q⟩:=h;cases rx;obtain⟨u,rfl,ru⟩:=rv.one;cases ru;obtain⟨z,its,n,r,hl,e⟩:=I.lstM hH;obtain⟨z2,its2,n2,r2,hl2,e2⟩:=I.lstM hB;have hsz:its.toArray.size+its2.toArray.size<=sizeLine:=by rw[At_,At_];lia
 have hlong:¬ (!its.toArray.isEmpty && Builtin.List.listTooLong (its.toArray.size+its2.toArray.size))=true:=by rw[Ia_ hsz,Bool.and_false];show AF_
 show CA_ F.slot_list_extend ⟨_,e,rfl⟩ F.entry_list_extend (F.args_list_extend_2 _ _)
  (AutoSeq1.list_extend_list_list_0 l its.toArray n b its2.toArray n2 hlong (by rw[At_];lia) o_) ⟨e,e2,?_⟩
 show⟨.non,_,I.lset (its':=its++its2) hH e s_ (r.append r2) ?_,rfl,q⟩;rw[Af_];lia
def HM_:V->List V->Hp->VK->Prop:=λx vs H Q=>∃l xs i k y,x=.ref l/\vs=[.int i]/\H l=some (.lst xs) /\ -(2 ^ 63)<=i/\i<2 ^ 63/\seqIndex? i xs.length=some k/\xs[k]?=some y/\Q y (upd H l (.lst (xs.eraseIdx k)))
theorem lL_:MtM X "list.pop" HM_:=by
 intro pins s σ H x vs v us Q I rx rv h;obtain⟨l,xs,i,k,y,rfl,rfl,hH,h1,h2,hk,hy,q⟩:=h;cases rx;obtain⟨u,rfl,ru⟩:=rv.one;obtain⟨t,rfl⟩:=ru;obtain⟨z,its,n,r,hl,e⟩:=I.lstM hH;obtain⟨w,hw,rw'⟩:=r.get hy
 show CA_ F.slot_list_pop ⟨_,e,rfl⟩ F.entry_list_pop (F.args_list_pop_2 _ _)
  (MeetsSeq.list_pop_at l its.toArray n i t k w (fitsIndex_both h1 h2) (by rw[At_,<-hl];show hk) (by rw[<-Eh_];show hw) (by rw[At_];lia)) ⟨e,?_⟩
 show⟨y,_,I.lset (its':=its.eraseIdx k) hH e ?_ (r.eraseIdx k) ?_,rw',q⟩
 .change its.toArray.eraseIdxIfInBounds k=(its.eraseIdx k).toArray;rw[List.eraseIdxIfInBounds_toArray]
 .have:=hC_ xs k;lia
def Hc_:V->List V->Hp->VK->Prop:=λx vs H Q=>∃l xs,x=.ref l/\vs=[]/\H l=some (.lst xs)/\Q .non (upd H l (.lst xs.reverse))
def HS_:V->List V->Hp->VK->Prop:=λx vs H Q=>∃l xs,x=.ref l/\vs=[]/\H l=some (.lst xs)/\Q .non (upd H l (.lst []))
theorem lM_:MtM X "list.clear" HS_:=by intro pins s σ H x vs v us Q I rx rv h;obtain⟨l,xs,rfl,rfl,hH,q⟩:=h;cases rx;have hus:=rv.zero;subst hus;obtain⟨z,its,n,r,hl,e⟩:=I.lstM hH;show CA_ F.slot_list_clear ⟨_,e,rfl⟩ F.entry_list_clear (F.args_list_clear_1 _) (AutoSeq1.list_clear_list_0 l its.toArray n (by rw[At_];lia)) ⟨e,?_⟩;show⟨.non,_,I.lset (its':=[]) (ys:=[]) hH e rfl .nil (AB_ _),rfl,q⟩
def JV_:R2:=λx y H Q=>∃l b xs zs,x=.ref l/\y=.ref b/\H l=some (.lst xs)/\H b=some (.lst zs)/\xs.length+zs.length<=sizeLine/\∀p,H p=none->Q (.ref p) (upd H p (.lst (xs++zs)))
theorem hD_:OpR X (binaryOp .Add) JV_:=by
 intro pins s σ H x y v u Q I rx ry h;obtain⟨l,b,xs,zs,rfl,rfl,hH,hB,hz,q⟩:=h;cases rx;cases ry;obtain⟨z,its,n,r,hl,e⟩:=I.lstM hH;obtain⟨z2,its2,n2,r2,hl2,e2⟩:=I.lstM hB;show PySem.P.add_list e e2 ?_ (by rw[At_,At_];lia);have ea:its.toArray++its2.toArray=(its++its2).toArray:=s_
 rw[ea];show⟨.ref _,_,I.lnew (t':=s.toks) (r.append r2) (by rw[Af_];lia),rfl,q _ I.fresh⟩
variable {prog:Program}{w:World}{A:Around}{E:Value->Shared->Prop}
end L2
namespace Att
open PySem PySem.W PySem.Calls PyProof.Rows
theorem fI_{P:Params}{h:Heap}:∀(ns:List Int)(vs:List Value),WellAll P h vs (ns.map WData.int)->IntsAre vs ns:=by
 intro ns
 induction ns with
 |nil =>
  intro vs w;rw[DG_]at w;cases w;show .nil
 |cons n ns ih =>
  intro vs w;rw[Aw_]at w;cases w with
  |cons a b =>
   cases a;show .cons _ _ (ih _ b)
theorem ko_{l:OpenLaw}{n:Nat}(hn:l.most=some n){P:Params}{h:Heap}{args:List WData}{vals:List Value}
  (hpre:l.row.toRowW.claim.pre args=true) (hwl:WellAll P h vals args):
  ∃a vs ns,vals=[Value.ref a]/\args=[WData.list (ns.map WData.int)]/\h.get? a=some {cls:=.type "list",data:=.seq vs.toArray}/\IntsAre vs ns/\ns.length<=n:=by
 have hsh:WShape.hasAll [] args [.list .int]=true:=(pre_splitW hpre).1;have hc:l.pre.holds [] {args:=args}=true:=(pre_splitW hpre).2;obtain⟨d,r,rfl,h1,h2⟩:=hasAllW_cons hsh;obtain rfl:=hasAllW_nil h2;obtain⟨xs,rfl,h3⟩:=hasW_list h1;obtain⟨ns,rfl⟩:=items_int h3
 have hlen:ns.length<=n:=by
  unfold OpenLaw.pre at hc;have h4:(WTm.not (.lt (.lit (.int (n:Int))) (.len (.arg 0)))).holds [] {args:=[.list (ns.map .int)]}=true:=by have h4:=(holds_andW hc).1;rw[hn]at h4;show h4
  have h5:=condW_of h4 (w_not (w_lt w_lit (w_len_list (w_arg rfl))));rw[Ab_]at h5;show Nat.le_of_not_lt λq=>?_;have q':(n:Int)<((ns.length:Nat):Int):=o_
  first
   | (rw[A3_ q']at h5;show absurd h5 d_)
   | (simp at h5;lia)
 cases hwl with
 |cons w1 w2 =>
  cases w2;cases w1 with
  |list ho hall=>show⟨_,_,ns,rfl,rfl,ho,fI_ ns _ hall,hlen⟩
theorem kp_(l:OpenLaw)(args:List WData):l.row.toRowW.claim.post args (.bool true) args=true :=
 postW_of (r:=l.row.toRowW) (X:=(true == true))
  (show WShape.has [] (.bool true) .bool=true by first|rfl|decide|simp[WShape.has,WShape.arms,WShape.armsAll])
  (show(WTm.eq .res (.lit (.bool true))).value [] {args:=args,res:=some (.bool true),after:=args}=some (.bool (true == true))from w_eq_bool (w_res rfl) w_lit) rfl
theorem attach_call{l:OpenLaw}{n:Nat}{q:Program}{loose:List Str}{XP:(Str->Option Value)->Heap->Prop}{YP:World->Heap->Prop}{d:DefRec}
  (hn:l.most=some n) (hdf:d.params.defaults=[])
  (call:∀(w:World)(s₀ s₁:Shared)(mg mb:Str->Option Value)(fa:Addr)(o:Obj)(pm cd doc:Value)(a:Addr)(vs:List Value)(ns:List Int),
   Ground q loose [] XP w s₀ mg mb s₁.heap->YP w s₁.heap ->
   s₁.heap.get? fa=some o->o.data=.func (docDef d.name d.params d.body d.scope pm cd doc)->s₁.heap.CodeRec cd d.name->mg d.name=some (.ref fa) ->
   s₁.heap.get? a=some {cls:=.type "list",data:=.seq vs.toArray}->IntsAre vs ns->ns.length<=n->s₁.gens = #[] ->
   codeAny (model l.prog w) callerA (.call (.ref fa) ⟨[.ref a],[]⟩) (λr s'=>r=.ok (.ret (.bool true))/\OldK s₁.heap s'.heap/\s'.os=s₁.os/\AllBare s'.gens) s₁):
  WalkO q loose XP YP l.row.toRowW d [] (λf vs=>PySem.call f vs):=by
 intro w s₀ s₁ mg mb G Y fa o pm cd doc dV kV ho hd hcd hD hmg hg args vals as hpre hlay hrd hwl hlo;obtain rfl:dV=.none:=Dflts.none hD hdf;obtain rfl:kV=.none:=Dflts.noKw hD;obtain⟨a,vs,ns,rfl,rfl,hobj,hints,hlen⟩:=ko_ hn hpre hwl;show enter_call (EG_ (call w s₀ s₁ mg mb fa o pm cd doc a vs ns G Y ho (fd_plain hd) hcd hmg hobj hints hlen hg) λr s' hq=>?_);obtain⟨rfl,h2,h3,h4⟩:=hq;show⟨.inl ⟨.bool true,.bool true,[],rfl,λ_=>rfl,.bool true,kp_ l _,λ_=>⟨List.Pairwise.nil,λ_ hm=>(nomatch hm)⟩⟩,h2,h3,h4⟩
variable {prog:Program}{w:World}{A:Around}{E:Value->Shared->Prop}{s:Shared}{K:Frag}
end Att
namespace L2
open PySem PySem.Spec PyProof.Rows
theorem hE_:∀{vs:List Value}{ns:List Int},IntsAre vs ns->E8_ (ns.map V.int) vs
 |_,_,.nil=>.nil
 |_,_,.cons n t h=>.cons ⟨t,rfl⟩ (hE_ h)
def J0_(H:Hp):Prop:=∀b,H b=none\/∃o xs,H b=some (.frz o (.lst xs))
theorem lN_{P:Program}{w:World}{K:PySem.W.Frag}{mg mb:Str->Option Value}{CX:CXT}{k:Nat}{fa a:Addr}{fd:FuncData}{x:Str}{sp:Sp}{s₁:Shared}{vs:List Value}{ns:List Int}
  (KX:K.In s₁.heap) (hns:s₁.heap.Ns mainGlobals mg) (hb:s₁.heap.Ns builtinsNs mb) (hbb:∀x:Str,x ≠ "__name__" -> mb x=bootBuiltins x) (hlim:s₁.heap.NoLimit) (hg:s₁.gens = #[])
  (ha:s₁.heap.get? a=some {cls:=.type "list",data:=.seq vs.toArray}) (hi:IntsAre vs ns) (hl:ns.length<=sizeLine) (hr:Gh_ k callerA)
  (F:∀base:Heap,K.In base->base.Ns mainGlobals mg->H5_ P w K mg base CX k fa fd [x] sp) (hbind:∀(s:Shared)(u:Value),BindsTo s fd ⟨[u],[]⟩ [(x,u)])
  (hsp:∀H:Hp,J0_ H->SqL K H a (ns.map V.int)->sp [.ref a] H (λv _=>v=.bl true) λ_ _ _=>False)
  (hCX:∀H e s',CX [] H s₁ (λ_ _ _=>False) e s'->False):
  codeAny (model P w) callerA (.call (.ref fa) ⟨[.ref a],[]⟩) (λr s'=>r=.ok (.ret (.bool true))/\OldK s₁.heap s'.heap/\s'.os=s₁.os/\AllBare s'.gens) s₁:=by
 have rv:=hE_ hi;have lenV:=hi.length
 have core:∀H:Hp,J0_ H->SqL K H a (ns.map V.int)->HOk P w H s₁.heap->(∀b,H b≠none->b=a)->(H a≠none->K.lookup a=none) ->
   codeAny (model P w) callerA (.call (.ref fa) ⟨[.ref a],[]⟩) (λr s'=>r=.ok (.ret (.bool true))/\OldK s₁.heap s'.heap/\s'.os=s₁.os/\AllBare s'.gens) s₁:=by
  intro H hO hS hok hA hK;have base_of:∀{b:Addr}{o:Obj},s₁.heap.get? b=some o->H b=none->(H8_ s₁.heap H).get? b=some o:=λe n=>lE_ e n
  have noA:∀{b:Addr}{o:Obj}{es:Array DictEntry}{ep:Nat},s₁.heap.get? b=some o->o.data=.dict es ep->H b=none:=λ{b o es ep} e d=>by
   cases q:H b with
   |none=>rfl
   |some u =>have e':b=a:=hA b (by rw[q];simp);subst e';rw[ha]at e;cases e;have d':Data.seq vs.toArray _=Data.dict es ep:=d;cases d'
  have nsK:∀{b:Addr}{m:Str->Option Value},s₁.heap.Ns b m->(H8_ s₁.heap H).Ns b m:=λ{b m} ⟨o,es,ep,e,d,r⟩=>⟨o,es,ep,base_of e (noA e d),d,r⟩
  have hKb:K.In (H8_ s₁.heap H):=λb o e=>base_of (KX b o e) (by
   cases q:H b with
   |none=>rfl
   |some u =>have e':b=a:=hA b (by rw[q];simp);subst e';rw[hK (by rw[q];simp)]at e;cases e)
  have hM:Mod K mg (H8_ s₁.heap H):=⟨hKb,nsK hns,⟨mb,nsK hb,hbb⟩,let⟨mc,h1,h2⟩:=hlim;⟨mc,nsK h1,h2⟩⟩;have e0:JR_ P w K mg (H8_ s₁.heap H) callerA [] s₁ H:=⟨rfl,hM,λb o e=>mQ_ e,Nat.le_of_eq (j3_ _ _),trivial,λb hb=>absurd (show b∈([]:List Addr)from hb) s_,hok,.of_eq hg⟩;show EG_ ((F _ hKb (nsK hns)).run callerA [] s₁ H ⟨[.ref a],[]⟩ [.ref a] [.ref a] _ _ hr e0 (hbind s₁ (.ref a)) (.cons rfl .nil) (hsp H hO hS)) λr s' h=>?_;cases r with
  |error e=>show(hCX H e s' h).elim
  |ok fl =>
   cases fl with
   |next=>show False.elim h
   |brk=>show False.elim h
   |cont=>show False.elim h
   |ret u =>
    obtain⟨v,H',os,bare,un,hok',r',q⟩:=h;have q':v=.bl true:=q;subst q';obtain rfl:u=Value.bool true:=r';show⟨rfl,OldK.of_keep λb o e=>?_,os,bare⟩;cases q:H b with
    |none=>show un.keep b o e q (by intro z;show absurd (show b∈([]:List Addr)from z) s_) s_
    |some u =>
     rcases hO b with z|⟨ob,xs,z⟩
     .rw[q]at z;cases z
     .have z2:=un.frzs b ob _ z;obtain⟨e1,_⟩:=hok b _ z;obtain⟨e2,_⟩:=hok' b _ z2;rw[e]at e1;cases e1;show e2
 cases hk:K.lookup a with
 |some o =>
  have e:=KX a o hk;rw[ha]at e;cases e;show core (λ_=>none) (λ_=>.inl rfl) (.inr ⟨_,vs.toArray,_,hk,rfl,rfl,rfl,by rw[At_,lenV];show hl,by simpa using rv⟩) (λb u z=>by have z':(none:Option HO)=some u:=z;cases z') (λb z=>absurd rfl z) λz=>absurd rfl z
 |none =>
  show core (λb=>if b=a then some (.frz {cls:=.type "list",data:=.seq vs.toArray} (.lst (ns.map V.int)))else none) (λb=>?_) (.inl (.inr ⟨{cls:=.type "list",data:=.seq vs.toArray},if_pos rfl⟩)) (λb u z=>?_) (λb z=>?_) λ_=>hk
  .by_cases hb:b=a
   .show .inr ⟨_,_,if_pos hb⟩
   .show .inl (if_neg hb)
  .by_cases hb:b=a
   .have z':=(if_pos hb).symm.trans z;cases z';subst hb;show⟨ha,by rw[Ab_];show hl,vs,_,rv,ha⟩
   .have z':=(if_neg hb).symm.trans z;cases z'
  .by_cases hb:b=a
   .show hb
   .show absurd (if_neg hb) z
theorem m0_{l:PySem.W.OpenLaw}{n k:Nat}{q:Program}{loose:List Str}{XP:(Str->Option Value)->Heap->Prop}{YP:World->Heap->Prop}{d:DefRec}{K:Params->PySem.W.Frag}{CX:World->CXT}{sp:World->Sp}{x:Str}
  (hn:l.most=some n) (hn2:n<=sizeLine) (hdf:d.params.defaults=[]) (hr:Gh_ k callerA)
  (hY:∀(w:World)(h:Heap),YP w h->(K w.params).In h)
  (F:∀(w:World)(mg:Str->Option Value)(fa:Addr)(h:Heap),(K w.params).In h->h.Ns mainGlobals mg->mg d.name=some (.ref fa) ->
   ∃fd:FuncData,(∀(s:Shared)(u:Value),BindsTo s fd ⟨[u],[]⟩ [(x,u)]) /\
    ∀base:Heap,(K w.params).In base->base.Ns mainGlobals mg->H5_ l.prog w (K w.params) mg base (CX w) k fa fd [x] (sp w))
  (hsp:∀(w:World)(H:Hp)(a:Addr)(ns:List Int),ns.length<=n->J0_ H->SqL (K w.params) H a (ns.map V.int)->sp w [.ref a] H (λv _=>v=.bl true) λ_ _ _=>False)
  (hCX:∀(w:World)(H:Hp)(s:Shared)(e:Value)(s':Shared),CX w [] H s (λ_ _ _=>False) e s'->False):
  PySem.W.WalkO q loose XP YP l.row.toRowW d [] (λf vs=>PySem.call f vs):=by
 show Att.attach_call hn hdf λw s₀ s₁ mg mb fa o pm cd doc a vs ns G Y ho hd hcd hmg hobj hints hlen hg=>?_;have KX:=hY w _ Y;obtain⟨fd,hb,hF⟩:=F w mg fa _ KX G.T.g hmg;show lN_ KX G.T.g G.T.b G.T.builtins G.T.nolimit hg hobj hints (AT_ hlen hn2) hr hF hb (λH hO hS=>hsp w H a ns hlen hO hS) λH e s'=>hCX w H s₁ e s'
def F0_(s:Stmt):Arguments:=match s with
 | .FunctionDef _ a _ _ _ _ _ _ _ _=>a
 |_=>{posonlyargs:=[],args:=[],vararg:=none,kwonlyargs:=[],kw_defaults:=[],kwarg:=none,defaults:=[]}
def FJ_(s:Stmt):List Stmt:=match s with
 | .FunctionDef _ _ b _ _ _ _ _ _ _=>b
 |_=>[]
def EO_(s:Stmt):Scope:=match s with
 | .FunctionDef _ _ _ _ _ _ sc _ _ _=>sc
 |_=>{kind:=.function,names:=[],isGenerator:=false,isCoroutine:=false}
abbrev CX0:CXT:=λ_ _ _ _ _ _=>False
abbrev E0:XK:=λ_ _ _=>False
theorem Ky_{X:Cx}:HW_ CX0 X E0:=λ_ _ _ _ _ _ _ h=>h.elim
structure Fun(K:PySem.W.Frag)(x qual:Str)(st:Stmt)(f:Addr)(fd:FuncData):Prop where
 ex:∃(oc:Value)(od:Option Addr)(kV doc pm:Value)(an:Option Addr)(cdv ct:Value)(osl:Array (Option Value)),
  fd=PySem.W.fnOf x qual (F0_ st) (FJ_ st) (EO_ st) .none kV doc pm an cdv ct/\K.lookup f=some ⟨oc,od,.func fd,osl⟩/\PySem.W.codeIn K cdv qual=true
 kp:PySem.W.keepIn K (.ref f)=true
variable {P:Program}{w:World}{K:PySem.W.Frag}{mg:Str->Option Value}{base:Heap}
theorem Fun.ok{x qual:Str}{st:Stmt}{f:Addr}{fd:FuncData}{N ps:List Str}{k:Nat}{sp:Sp}(F:Fun K x qual st f fd)(S:EY_ N ps (EO_ st))(len:∀vs H Q E,sp vs H Q E->vs.length=ps.length)
  (hbody:∀(cdv:Value)(A:Around)(outer:List Env)(s:Shared)(H:Hp)(vs:List V)(Q:VK)(E:XK),Gh_ k (A.deeper (envOfC qual (EO_ st) s.heap.objs.size f cdv))->sp vs H Q E ->
   ∃t,PSs (IM_ CX0 P w K mg base N qual (EO_ st) f cdv A outer s H E).nox (FJ_ st) t/\t {nx:=λ_ H'=>Q .non H',rt:=Q} (start N vs) H):H5_ P w K mg base CX0 (k+1) f fd ps sp:=by
 obtain⟨oc,od,kV,doc,pm,an,cdv,ct,osl,rfl,lk,hcd⟩:=F.ex;show Kw_ lk hcd S len λA outer s H vs Q E hr hsp=>?_;obtain⟨t,h,q⟩:=hbody cdv A outer s H vs Q E hr hsp;show⟨t,h.nox,q⟩
theorem Fun.binds{x qual:Str}{st:Stmt}{f:Addr}{fd:FuncData}{ps:List Str}(F:Fun K x qual st f fd)
  (h:∀(kV doc pm:Value)(an:Option Addr)(cdv ct:Value)(us:List Value),us.length=ps.length->bindArgs (PySem.W.fnOf x qual (F0_ st) (FJ_ st) (EO_ st) .none kV doc pm an cdv ct) ⟨us,[]⟩=pure (ps.zip us)):Hm_ K fd ps []:=by
 obtain⟨oc,od,kV,doc,pm,an,cdv,ct,osl,rfl,lk,hcd⟩:=F.ex;show .all (h kV doc pm an cdv ct)
theorem nM_{x qual:Str}{st:Stmt}{f:Addr}{oc:Value}{od an:Option Addr}{osl:Array (Option Value)}{kV doc pm cdv ct:Value}(l:K.lookup f=some ⟨oc,od,.func (PySem.W.fnOf x qual (F0_ st) (FJ_ st) (EO_ st) .none kV doc pm an cdv ct),osl⟩)
  (c:PySem.W.codeIn K cdv qual=true) (k:PySem.W.keepIn K (.ref f)=true):Fun K x qual st f (PySem.W.fnOf x qual (F0_ st) (FJ_ st) (EO_ st) .none kV doc pm an cdv ct):=⟨⟨oc,od,kV,doc,pm,an,cdv,ct,osl,rfl,l,c⟩,k⟩
theorem EN_{n:Nat}(h:n<=1000):n<sizeLine:=Dp_ h d_
variable {X:Cx}
theorem ite2{c A B:Prop}[Decidable c](h1:c->A)(h2:¬ c->B):if c then A else B:=by
 by_cases h:c
 .rw[if_pos h];show h1 h
 .rw[if_neg h];show h2 h
def EL_(H H':Hp):Prop:=∀b o,H b=some o->H' b=some o
theorem EL_.refl(H:Hp):EL_ H H:=λ_ _ h=>h
theorem EL_.trans{H H1 H2:Hp}(a:EL_ H H1)(b:EL_ H1 H2):EL_ H H2:=λc o h=>b c o (a c o h)
variable{H':Hp}
theorem EL_.free{H:Hp}(e:EL_ H H'){l:Addr}(h:H' l=Option.none):H l=Option.none:=by
 cases q:H l with
 |none=>rfl
 |some o =>rw[e l o q]at h;cases h
theorem EL_.seq{H:Hp}{a:Addr}{xs:List V}(e:EL_ H H')(h:SqL K H a xs):SqL K H' a xs:=by
 rcases h with(h|⟨o,h⟩)|h
 .show .inl (.inl (e _ _ h))
 .show .inl (.inr ⟨o,e _ _ h⟩)
 .show .inr h
def GQ_(H:Hp):V->Option String
 | .non=>some "NoneType"
 | .bl _=>some "bool"
 | .int _=>some "int"
 | .str _=>some "str"
 | .ref p=>match H p with
  |some (.lst _)=>some "list"
  |some (.tup _)=>some "tuple"
  |_=>none
 |_=>none
def KO_(a b:String):Bool:=a == b ||(a == "bool" && b == "int")
def Gg_(T:String):Prop:=T = "int" \/ T = "bool" \/ T = "tuple" \/ T = "list" \/ T = "str"
theorem i9_:FB_ X (.builtin "isinstance") (λxs H Q=>∃x T k,xs=[x,.ty T]/\Gg_ T/\GQ_ H x=some k/\Q (.bl (KO_ k T)) H):=by
 intro pins s σ H xs us Q I r h;obtain⟨x,T,k,rfl,hT,hk,q⟩:=h;obtain⟨u,w',rfl,rx,ry⟩:=Go_ r;cases(show w'=Value.type T from ry);have fin:∀{b:Bool}{s':Shared},b=KO_ k T->Inv X pins σ H s'->EP X pins σ Q (.bool b) s':=λ{b s'} e J=>⟨.bl b,H,J,rfl,by rw[e];show q⟩;cases x with
 |non =>
  cases(show u=Value.none from rx);cases hk
  rcases hT with rfl|rfl|rfl|rfl|rfl
  .show IsiPair.NoneType_int (fin d_ (I.tok _))
  .show IsiPair.NoneType_bool (fin d_ (I.tok _))
  .show IsiPair.NoneType_tuple (fin d_ (I.tok _))
  .show IsiPair.NoneType_list (fin d_ (I.tok _))
  .show IsiPair.NoneType_str (fin d_ (I.tok _))
 |bl b =>
  cases(show u=Value.bool b from rx);cases hk
  rcases hT with rfl|rfl|rfl|rfl|rfl
  .show IsiPair.bool_int (fin d_ I)
  .show IsiPair.bool_bool (fin d_ I)
  .show IsiPair.bool_tuple (fin d_ (I.tok _))
  .show IsiPair.bool_list (fin d_ (I.tok _))
  .show IsiPair.bool_str (fin d_ (I.tok _))
 |int i =>
  obtain⟨t,rfl⟩:=(show ∃t,u=Value.int i t from rx);cases hk
  rcases hT with rfl|rfl|rfl|rfl|rfl
  .show IsiPair.int_int (fin d_ I)
  .show IsiPair.int_bool (fin d_ (I.tok _))
  .show IsiPair.int_tuple (fin d_ (I.tok _))
  .show IsiPair.int_list (fin d_ (I.tok _))
  .show IsiPair.int_str (fin d_ (I.tok _))
 |str z =>
  obtain⟨t,rfl⟩:=(show ∃t,u=Value.str z t from rx);cases hk
  rcases hT with rfl|rfl|rfl|rfl|rfl
  .show IsiPair.str_int (fin d_ (I.tok _))
  .show IsiPair.str_bool (fin d_ (I.tok _))
  .show IsiPair.str_tuple (fin d_ (I.tok _))
  .show IsiPair.str_list (fin d_ (I.tok _))
  .show IsiPair.str_str (fin d_ I)
 |ref p =>
  cases(show u=Value.ref p from rx);cases e:H p with
  |none=>simp[GQ_,e]at hk
  |some o =>
   cases o with
   |lst ys =>
    have hk':k = "list" := by simp[GQ_,e]at hk;show hk.symm
    subst hk';obtain⟨its,n,rr,ho,hz⟩:=I.lst e
    rcases hT with rfl|rfl|rfl|rfl|rfl
    .show IsiPair.list_int ho rfl (fin d_ (I.tok _))
    .show IsiPair.list_bool ho rfl (fin d_ (I.tok _))
    .show IsiPair.list_tuple ho rfl (fin d_ (I.tok _))
    .show IsiPair.list_list ho rfl (fin d_ I)
    .show IsiPair.list_str ho rfl (fin d_ (I.tok _))
   |tup ys =>
    have hk':k = "tuple" := by simp[GQ_,e]at hk;show hk.symm
    subst hk';obtain⟨its,rr,⟨ob,ho,hc,_⟩,hz⟩:=I.tuple (xs:=ys) (.inl (.inl e))
    rcases hT with rfl|rfl|rfl|rfl|rfl
    .show IsiPair.tuple_int ho hc (fin d_ (I.tok _))
    .show IsiPair.tuple_bool ho hc (fin d_ (I.tok _))
    .show IsiPair.tuple_tuple ho hc (fin d_ I)
    .show IsiPair.tuple_list ho hc (fin d_ (I.tok _))
    .show IsiPair.tuple_str ho hc (fin d_ (I.tok _))
   |_=>simp[GQ_,e]at hk
 |_=>cases hk
def Jk_:V->List V->Hp->VK->Prop:=λx xs H Q=>∃i,x=.int i/\xs=[]/\Q (.int (Builtin.Int.intBits i:Nat)) H
def Jx_(i j:Int):Prop:=Builtin.Int.intBits i+Builtin.Int.intBits j<=134217728
def Iy_(i j:Int):Prop:=0<j/\j.natAbs.log2<9000
theorem aq_:OpR X (binaryOp .FloorDiv) (rI Iy_ λi j=>.int (i/j)):=opI λi j _ _ _ _ _ hc q=>by have h1:(0:Int)<j:=hc.1;show floordiv_int o_ (by rw[Int.fdiv_eq_ediv_of_nonneg i o_];show q) (.inl (PyProof.noPylong_of_log2 hc.2))
def Jn_(i j:Int):Prop:=j≠0/\j.natAbs.log2<9000
def KJ_:List V->List V->Bool
 |[],[]=>true
 |x::xs,y::ys=>eqV x y && KJ_ xs ys
 |_,_=>false
def Fn0(K:PySem.W.Frag)(mg:Str->Option Value)(x:Str)(st:Stmt):Prop:=∃f fd,Fun K x x st f fd/\mg x=some (.ref f)
theorem nN_{K:PySem.W.Frag}{mg:Str->Option Value}{h:Heap}(X:K.In h)(G:h.Ns mainGlobals mg){x:Str}{st:Stmt}{f:Addr}{oc:Value}{od an:Option Addr}{osl:Array (Option Value)}{kV doc pm cdv ct:Value}
  (a:PySem.W.nsIn K mainGlobals x=some (some (.ref f))) (l:K.lookup f=some ⟨oc,od,.func (PySem.W.fnOf x x (F0_ st) (FJ_ st) (EO_ st) .none kV doc pm an cdv ct),osl⟩) (c:PySem.W.codeIn K cdv x=true) (k:PySem.W.keepIn K (.ref f)=true):Fn0 K mg x st :=
 ⟨f,_,nM_ l c k,PySem.W.mg_of X G a⟩
def Cal(P:Program)(w:World)(K:PySem.W.Frag)(mg:Str->Option Value)(base:Heap)(x:Str)(ps:List Str)(k:Nat)(sp:Sp):Prop :=
 ∃f fd,mg x=some (.ref f)/\PySem.W.keepIn K (.ref f)=true/\Hm_ K fd ps []/\H5_ P w K mg base CX0 k f fd ps sp
theorem aY_{P:Program}{w:World}{K:PySem.W.Frag}{mg:Str->Option Value}{base:Heap}{x:Str}{st:Stmt}{N ps:List Str}{k:Nat}{sp:Sp}(F:Fn0 K mg x st)(S:EY_ N ps (EO_ st))
  (hbody:∀(f:Addr)(cdv:Value)(A:Around)(outer:List Env)(s:Shared)(H:Hp)(vs:List V)(Q:VK)(E:XK),Gh_ k (A.deeper (envOfC x (EO_ st) s.heap.objs.size f cdv))->sp vs H Q E ->
   ∃t,PSs (IM_ CX0 P w K mg base N x (EO_ st) f cdv A outer s H E).nox (FJ_ st) t/\t {nx:=λ_ H'=>Q .non H',rt:=Q} (start N vs) H)
  (hb:∀(kV doc pm:Value)(an:Option Addr)(cdv ct:Value)(us:List Value),us.length=ps.length->bindArgs (PySem.W.fnOf x x (F0_ st) (FJ_ st) (EO_ st) .none kV doc pm an cdv ct) ⟨us,[]⟩=pure (ps.zip us):=by first|show λ_ _ _ _ _ _=>byL1 λ_=>rfl|show λ_ _ _ _ _ _=>byL2 λ_ _=>rfl|show λ_ _ _ _ _ _=>byL3 λ_ _ _=>rfl|show λ_ _ _ _ _ _=>byL4 λ_ _ _ _=>rfl|show λ_ _ _ _ _ _=>byL5 λ_ _ _ _ _=>rfl)
  (len:∀vs H Q E,sp vs H Q E->vs.length=ps.length:=by intro vs H Q E h;repeat (first|(obtain⟨rfl,_⟩:=h;rfl)|obtain⟨_,h⟩:=h)):Cal P w K mg base x ps (k+1) sp:=by
 obtain⟨f,fd,F,m⟩:=F;show⟨f,fd,m,F.kp,F.binds hb,F.ok S len λcdv A outer s H vs Q E=>hbody f cdv A outer s H vs Q E⟩
section
variable {x:Str}{ps:List Str}{k:Nat}{sp:Sp}{e:Expr}{es:List Expr}{t:TA}{p pos:Pos}
theorem lO_(C:Cal X.prog X.w X.K X.mg X.base x ps k sp)(hr:Gh_ k X.A)(hg:Gl X x)(ha:PA X (e::es) t)(hdb:(x == ("__debug__" : Str))=false:=by decide)
  (he:starEach (e::es) X.env=(false,eval e X.env)::starEach es X.env:=by rfl) (hpl:(backTo pos (starEach es X.env)).any (·.1)=false:=by rfl):PE X (.Call (.Name x p) (e::es) [] pos) (HO_ sp [] E0 t):=by
 obtain⟨f,fd,m,kp,b,F⟩:=C;show mX_ F hr hg m kp b .nil Ky_ ha hdb he hpl
end
variable{o:HO}
theorem EL_.upd{H:Hp}{a:Addr}(e:EL_ H H')(h:H a=none):EL_ H (upd H' a o):=λb o' q=>by rw[ae_ (ag_ q h)];show e b o' q
theorem EL_.new{H:Hp}{a:Addr}(h:H a=none):EL_ H (L2.upd H a o):=(EL_.refl H).upd h
def Iv_:R2:=λx y H Q=>∃p xs i v,x=.ref p/\y=.int i/\H p=some (.tup xs)/\atI xs i=some v/\Q v H
def ID_:R2:=λx y H Q=>∃p xs i v,x=.ref p/\y=.int i/\H p=some (.lst xs)/\atI xs i=some v/\Q v H
theorem ak_:IxR X Iv_:=by intro value slice pins s σ H x y v u Q I rx ry h hs;obtain⟨p,xs,i,z,e1,e2,hp,ha,q⟩:=h;show nJ_ value slice pins s σ H x y v u Q I rx ry ⟨p,xs,i,z,e1,e2,.inl (.inl hp),ha,q⟩ hs
theorem ay_:IxR X ID_:=by intro value slice pins s σ H x y v u Q I rx ry h hs;obtain⟨p,xs,i,z,e1,e2,hp,ha,q⟩:=h;show kl_ value slice pins s σ H x y v u Q I rx ry ⟨p,xs,i,z,e1,e2,.inl (.inl hp),ha,q⟩ hs
def Jt_:R2:=λx y H Q=>∃a b xs ys,x=.ref a/\y=.ref b/\H a=some (.tup xs)/\H b=some (.tup ys)/\xs.all F1_=true/\ys.all F1_=true/\Q (.bl (KJ_ xs ys)) H
def IO_:List V->Hp->VK->Prop:=λxs H Q=>∃p ys,xs=[V.ref p]/\(H p=some (.lst ys)\/H p=some (.tup ys))/\Q (.int ys.length) H
theorem aO_:FB_ X (.builtin "len") IO_:=by intro pins s σ H xs us Q I r h;obtain⟨p,ys,e,hp,q⟩:=h;show fo_ pins s σ H xs us Q I r ⟨p,ys,e,hp.imp (λz=>.inl (.inl z)) (λz=>.inl (.inl z)),q⟩
theorem mB_{x:Str}{n:String}{pos:Pos}(hg:Gl X x)(hm:X.mg x=none)(hv:bootBuiltins x=some (.type n))(hn:x ≠ "__name__" := by decide) (hd:(x == ("__debug__" : Str))=false:=by decide):PE X (.Name x pos) (tC (.ty n)):=
 mS_ hg hm hv rfl hn hd
theorem Fy_{α:Type}{x:α}{xs:List α}:atI (x::xs) 0=some x:=by simp[atI,ixN]
theorem FA_{α:Type}{x y:α}{xs:List α}:atI (x::y::xs) 1=some y:=by
 have h:(1:Int)<(xs.length:Int)+1+1:=o_
 simp[atI,ixN,h]
theorem Ho_{α:Type}{x y z:α}{xs:List α}:atI (x::y::z::xs) 2=some z:=by
 have h:(2:Int)<(xs.length:Int)+1+1+1:=o_
 simp[atI,ixN,h]
theorem fp_{α:Type}{xs:List α}{i:Int}{v:α}(h0:0<=i)(h:xs[i.toNat]?=some v):atI xs i=some v:=by
 have hl:i.toNat<xs.length:=(Ad_.mp h).1;have hl':i<xs.length:=o_
 unfold atI ixN;rw[if_pos h0,if_pos hl'];show h
theorem nO_(n:Nat):ixN (n+1) 0=some 0:=by
 have:(0:Int)<(n:Int)+1:=o_
 simp[ixN,this]
theorem fJ_{c:TT}{tb:TS}{D:GL_}{σ:St}{H:Hp}(Pv:St->Hp->Prop)(μ:St->Hp->Nat)(h0:Pv σ H)
  (hs:∀σ H,Pv σ H->c σ H λb H1=>if b=true then ∃N:St->Hp->Prop,(∀σ' H',N σ' H'->∃m',m'<μ σ H/\m'=μ σ' H'/\Pv σ' H')/\tb {D with nx:=N,ct:=N,bk:=D.nx} σ H1 else D.nx σ H1):Hw_ c tb D σ H :=
 ⟨λm σ H=>m=μ σ H/\Pv σ H,⟨_,rfl,h0⟩,by rintro m σ H ⟨rfl,p⟩;show hs σ H p⟩
theorem N_ok{Pv:St->Hp->Prop}{μ:St->Hp->Nat}{k:Nat}:∀σ' H',(Pv σ' H'/\μ σ' H'<k)->∃m',m'<k/\m'=μ σ' H'/\Pv σ' H':=λ_ _ ⟨a,b⟩=>⟨_,b,rfl,a⟩
def Gn_(J:It)(g:TG)(tb:TS)(D:GL_)(σ:St)(H:Hp):Prop:=∃W:Nat->Nat->St->Hp->Prop,(∃m,W 0 m σ H)/\∀i m σ H,W i m σ H ->
 (J.stop i H/\D.nx σ H)\/(J.go i H/\∃N:St->Hp->Prop,(∀σ' H',N σ' H'->∃m',m'<m/\W (i+1) m' σ' H')/\∀x H',J.yld i H x H'->g x σ H' λσ2 H2=>tb {D with nx:=N,ct:=N,bk:=D.nx} σ2 H2)
theorem m1_{wi:TI}{g:TG}{tb:TS}{D:GL_}{σ:St}{H:Hp}:KL_ wi g tb D σ H=wi σ H λJ H1=>Gn_ J g tb D σ H1:=rfl
theorem er_{lo:Int}{n:Nat}{g:TG}{tb:TS}{D:GL_}{σ:St}{H:Hp}(Pv:Nat->St->Hp->Prop)(h0:Pv 0 σ H)
  (hs:∀i σ H,i<n->Pv i σ H->g (.int (lo+i)) σ H λσ2 H2=>tb {D with nx:=Pv (i+1),ct:=Pv (i+1),bk:=D.nx} σ2 H2) (hd:∀σ H,Pv n σ H->D.nx σ H):Gn_ (Itr lo n) g tb D σ H:=kb_ Pv h0 hs hd
theorem fK_{K:PySem.W.Frag}{a:Addr}{xs:List V}{g:TG}{tb:TS}{D:GL_}{σ:St}{H:Hp}(Pv:Nat->St->Hp->Prop)(h0:Pv 0 σ H)(hl:∀i σ H,i<=xs.length->Pv i σ H->SqL K H a xs)
  (hs:∀i x σ H,xs[i]?=some x->Pv i σ H->g x σ H λσ2 H2=>tb {D with nx:=Pv (i+1),ct:=Pv (i+1),bk:=D.nx} σ2 H2) (hd:∀σ H,Pv xs.length σ H->D.nx σ H):Gn_ (Itl K a) g tb D σ H:=lI_ Pv h0 hl hs hd
def FD_:Expr->Bool
 | .Starred .. => false
 |_=>true
theorem az_{e:Expr}{es:List Expr}{env:Env}(h:FD_ e=true):starEach (e::es) env=(false,eval e env)::starEach es env:=by
 cases e <;> first|rfl|show absurd (show false=true from h) AF_
def E1_:List Expr->Bool
 |[]=>true
 |e::es=>FD_ e && E1_ es
theorem bT_{pos:Pos}{env:Env}:∀{es:List Expr},E1_ es=true->(backTo pos (starEach es env)).any (·.1)=false
 |[],_=>rfl
 |e::es,h=>by
  have h':FD_ e=true/\E1_ es=true:=by simpa[E1_]using h
  rw[az_ h'.1];change(false ||(backTo pos (starEach es env)).any (·.1))=false;rw[bT_ h'.2];rfl
def Hx_:Expr->Bool
 | .ListComp .. => true
 | .SetComp .. => true
 | .DictComp .. => true
 |_=>false
variable{env:Env}
theorem fL_{e:Expr}{t:Option Expr}{n:Nat}(h:Hx_ e=false):swapsWith e t n env=pure false:=by
 cases e <;> first|rfl|show absurd (show true=false from h) Bool.noConfusion
section
variable {x:Str}{ps:List Str}{k:Nat}{sp:Sp}{e:Expr}{es:List Expr}{te:TE}{t:TA}{p pos:Pos}{id:String}{r:List V->Hp->VK->Prop}
theorem pa_c(ha:PE X e te)(hr:PA X es t)(hs:FD_ e=true:=by rfl):PA X (e::es) (Hk_ te t):=mW_ ha hr (az_ hs)
theorem ao_(C:Cal X.prog X.w X.K X.mg X.base x ps k sp)(hr:Gh_ k X.A)(hg:Gl X x)(ha:PA X (e::es) t)(hs:E1_ (e::es)=true:=by rfl) (hdb:(x == ("__debug__" : Str))=false:=by decide):
  PE X (.Call (.Name x p) (e::es) [] pos) (HO_ sp [] E0 t):=
 have h':FD_ e=true/\E1_ es=true:=by simpa[E1_]using hs
 lO_ C hr hg ha hdb (az_ h'.1) (bT_ h'.2)
theorem as_(hc:FB_ X (.builtin id) r)(hg:Gl X x)(hm:X.mg x=none)(hv:bootBuiltins x=some (.builtin id))(ha:PA X (e::es) t)(hs:E1_ (e::es)=true:=by rfl) (hn:x ≠ "__name__" := by decide) (hdb:(x == ("__debug__" : Str))=false:=by decide):
  PE X (.Call (.Name x p) (e::es) [] pos) (tCB r t):=
 have h':FD_ e=true/\E1_ es=true:=by simpa[E1_]using hs
 lK_ hc hg hm hv ha hn hdb (az_ h'.1) (bT_ h'.2)
theorem af_{i:Nat}{pos':Pos}(hN:X.N.Nodup)(hi:X.N[i]?=some x)(hx:X.env.scope.names.lookup x=some .local)(he:PE X e te)(hs:Hx_ e=false:=by rfl):PS X (.Assign [.Name x pos'] e pos) (Jc_ te (Gl_ i)):=
 nG_ hN hi (.inl hx) he (fL_ hs) (.inr hx)
theorem ai_{i:Nat}(hN:X.N.Nodup)(hi:X.N[i]?=some x)(hx:X.env.scope.names.lookup x=some .local):PG X (.Name x pos) (Gl_ i):=j7_ hN hi (.inl hx) (.inr hx)
theorem au_(he:PE X e te)(hs:Hx_ e=false:=by rfl):PS X (.Expr e pos) (H6_ te):=mU_ he (fL_ hs)
theorem pv1(i:Nat)(hN:X.N[i]?=some x:=by rfl) (hv:X.env.scope.names.lookup x=some .local:=by rfl) (hd:(x == ("__debug__" : Str))=false:=by decide) (hcd:(x == ("__classdict__" : Str))=false:=by decide):PE X (.Name x pos) (Jb_ i):=mr_ hN (.inl hv) hd hcd
end
def tCut(t:TS):TS:=λD σ H=>∃M:St->Hp->Prop,t {D with nx:=M} σ H/\∀σ' H',M σ' H'->D.nx σ' H'
theorem es_{st:Stmt}{t:TS}(h:PS X st t):PS X st (tCut t):=by
 intro pins s σ H D I hq;obtain⟨M,h1,h2⟩:=hq;show thn (h pins s σ H _ I h1) λf s' q=>?_;cases f with
 |next=>obtain⟨σ',H',I',m⟩:=q;show⟨σ',H',I',h2 _ _ m⟩
 |brk=>show q
 |cont=>show q
 |ret u=>show q
theorem cb_:bootBuiltins "len"=some (.builtin "len"):=r_
theorem nP_:bootBuiltins "abs"=some (.builtin "abs"):=r_
theorem nQ_:bootBuiltins "max"=some (.builtin "max"):=r_
theorem mC_:bootBuiltins "min"=some (.builtin "min"):=r_
theorem et_:bootBuiltins "isinstance"=some (.builtin "isinstance"):=r_
theorem fM_:bootBuiltins "sorted"=some (.builtin "sorted"):=r_
theorem lP_:bootBuiltins "tuple"=some (.type "tuple"):=r_
theorem c5_:bootBuiltins "list"=some (.type "list"):=r_
theorem hF_:bootBuiltins "enumerate"=some (.type "enumerate"):=r_
def Gr_(cells:List (Str×Addr)):List (Str×NameKind)->List (Str×Addr)->List (Str×Addr)
 |[],acc=>acc
 | (n,k)::r,acc=>if k == .free then Gr_ cells r ((n,(cells.lookup n).getD 0)::acc)else Gr_ cells r acc
theorem jI_:∀(names:List (Str×NameKind))(acc:List (Str×Addr)),(∀p∈names,p.2=.free->∃c,env.cells.lookup p.1=some c) ->
  (forIn (m:=Sem) names acc λx r=>(match x with|(name,kind)=>if(kind == NameKind.free)=true then do let a <-cellOf env name;pure (ForInStep.yield ((name,a)::r))else pure (ForInStep.yield r)))=pure (Gr_ env.cells names acc):=by
 intro names
 induction names with
 |nil=>intro acc _;rfl
 |cons p r ih =>
  intro acc h;obtain⟨n,k⟩:=p;rw[B1_];by_cases hk:(k == NameKind.free)=true
  .obtain⟨c,hc⟩:=h (n,k) Au_ (by simpa using hk);have e1:cellOf env n=pure c:=by unfold cellOf;rw[hc]
   simp only[hk,if_true,e1];have:=ih ((n,c)::acc) λp hp=>h p (Am_ _ hp);change _=pure (Gr_ env.cells ((n,k)::r) acc);rw[Gr_,if_pos hk,hc];show this
  .simp only[hk];have:=ih acc λp hp=>h p (Am_ _ hp);change _=pure (Gr_ env.cells ((n,k)::r) acc);rw[Gr_,if_neg hk];show this
theorem gC_{scope:Scope}(h:∀p∈scope.names,p.2=.free->∃c,env.cells.lookup p.1=some c):closureFor scope env=pure (Gr_ env.cells scope.names []):=by unfold closureFor;show Eq.trans (congrArg (λz=>z >>= λs=>pure s) (jI_ (env:=env) scope.names [] h)) rfl
theorem gT_{cells:List (Str×Addr)}:∀(names:List (Str×NameKind))(acc:List (Str×Addr)),(∀p∈names,p.2=.free->∃c,cells.lookup p.1=some c)->(∀q∈acc,cells.lookup q.1=some q.2)->∀q∈Gr_ cells names acc,cells.lookup q.1=some q.2
 |[],acc,_,h=>h
 | (n,k)::r,acc,h1,h2=>by
  rw[Gr_];by_cases hk:(k == NameKind.free)=true
  .rw[if_pos hk];show gT_ r _ (λp hp=>h1 p (Am_ _ hp)) λq hq=>?_
   rcases As_.mp hq with rfl|hq
   .obtain⟨c,hc⟩:=h1 (n,k) Au_ (by simpa using hk);rw[hc];rfl
   .show h2 q hq
  .rw[if_neg hk];show gT_ r _ (λp hp=>h1 p (Am_ _ hp)) h2
theorem gU_{cells:List (Str×Addr)}{x:Str}:∀(names:List (Str×NameKind))(acc:List (Str×Addr)),((x,NameKind.free)∈names\/∃c,(x,c)∈acc)->∃c,(x,c)∈Gr_ cells names acc
 |[],acc,h=>h.elim (λz=>absurd z s_) id
 | (n,k)::r,acc,h=>by
  rw[Gr_];by_cases hk:(k == NameKind.free)=true
  .rw[if_pos hk];show gU_ r _ ?_
   rcases h with h|⟨c,hc⟩
   .rcases As_.mp h with e|h
    .cases e;show .inr ⟨_,Au_⟩
    .show .inl h
   .show .inr ⟨c,Am_ _ hc⟩
  .rw[if_neg hk];show gU_ r _ ?_
   rcases h with h|h
   .rcases As_.mp h with e|h
    .cases e;show absurd rfl hk
    .show .inl h
   .show .inr h
theorem ck_{x:Str}{c:Addr}:∀{l:List (Str×Addr)},(x,c)∈l->∃c',l.lookup x=some c'
 | (n,d)::r,h=>by
  rw[BU_];cases e:x == n with
  |true=>show⟨d,rfl⟩
  |false =>
   rcases As_.mp h with z|h
   .cases z;simp at e
   .show ck_ h
theorem fN_{cells:List (Str×Addr)}{q:Str×Addr}:∀(names:List (Str×NameKind))(acc:List (Str×Addr)),q∈Gr_ cells names acc->(q.1,NameKind.free)∈names\/q∈acc
 |[],acc,h=>.inr h
 | (n,k)::r,acc,h=>by
  rw[Gr_]at h;by_cases hk:(k == NameKind.free)=true
  .rw[if_pos hk]at h;have hk':k=.free:=by simpa using hk
   rcases fN_ r _ h with h|h
   .show .inl (Am_ _ h)
   .rcases As_.mp h with rfl|h
    .show .inl (by rw[hk'];show Au_)
    .show .inr h
  .rw[if_neg hk]at h;show(fN_ r _ h).imp (Am_ _) id
theorem cv_{x:Str}{c:Addr}:∀(names:List (Str×NameKind))(h:Heap)(acc:List (Str×Addr)),(x,c)∈cellsFrom h.objs.size names acc->(x,c)∈acc\/(h.objs.size<=c/\(pushCells h names).IsCell c none/\(x,NameKind.cell)∈names)
 |[],_,_,h=>.inl h
 | (n,k)::r,hp,acc,h=>by
  unfold cellsFrom at h;unfold pushCells;by_cases hk:(k == NameKind.cell)=true
  .rw[if_pos hk]at h⊢;have hk':k=.cell:=by simpa using hk
   have h':(x,c)∈cellsFrom (hp.push {cls:=.type "cell",data:=.cell none}).objs.size r ((n,hp.objs.size)::acc):=by rw[Cb_];show h
   rcases cv_ r _ _ h' with h|⟨h1,h2,h3⟩
   .rcases As_.mp h with e|h
    .cases e;show .inr ⟨Aj_ _,⟨_,C6_ r _ _ _ (Az_ _ rfl),rfl⟩,by rw[hk'];show Au_⟩
    .show .inl h
   .rw[Cb_]at h1;show .inr ⟨o_,h2,Am_ _ h3⟩
  .rw[if_neg hk]at h⊢;show(cv_ r hp acc h).imp id λ⟨h1,h2,h3⟩=>⟨h1,h2,Am_ _ h3⟩
theorem c6_{x:Str}:∀(names:List (Str×NameKind))(n:Nat)(acc:List (Str×Addr)),((x,NameKind.cell)∈names\/∃c,(x,c)∈acc)->∃c,(x,c)∈cellsFrom n names acc
 |[],_,acc,h=>h.elim (λz=>absurd z s_) id
 | (y,k)::r,n,acc,h=>by
  unfold cellsFrom;by_cases hk:(k == NameKind.cell)=true
  .rw[if_pos hk];show c6_ r _ _ ?_
   rcases h with h|⟨c,hc⟩
   .rcases As_.mp h with e|h
    .cases e;show .inr ⟨_,Au_⟩
    .show .inl h
   .show .inr ⟨c,Am_ _ hc⟩
  .rw[if_neg hk];show c6_ r _ _ ?_
   rcases h with h|h
   .rcases As_.mp h with e|h
    .cases e;show absurd rfl hk
    .show .inl h
   .show .inr h
theorem c7_{lo:Nat}:∀(names:List (Str×NameKind))(n:Nat)(acc:List (Str×Addr)),(∀x c,(x,c)∈acc->c<n)->(∀x y c,lo<=c->(x,c)∈acc->(y,c)∈acc->x=y)->∀x y c,lo<=c->(x,c)∈cellsFrom n names acc->(y,c)∈cellsFrom n names acc->x=y
 |[],_,_,_,h=>h
 | (z,k)::r,n,acc,h1,h2=>by
  unfold cellsFrom;by_cases hk:(k == NameKind.cell)=true
  .rw[if_pos hk];show c7_ r _ _ (λx c hm=>?_) λx y c hc hx hy=>?_
   .rcases As_.mp hm with e|hm
    .cases e;show DH_ _
    .show Cr_ (h1 x c hm)
   .rcases As_.mp hx with e|hx <;> rcases As_.mp hy with e'|hy
    .cases e;cases e';rfl
    .cases e;show absurd (h1 _ _ hy) (Bc_ _)
    .cases e';show absurd (h1 _ _ hx) (Bc_ _)
    .show h2 x y c hc hx hy
  .rw[if_neg hk];show c7_ r n acc h1 h2
def FU_(scope:Scope)(env:Env)(n:Nat):List (Str×Addr):=cellsFrom (n+1) scope.names (Gr_ env.cells scope.names [])
def cxC(X:Cx)(N':List Str)(scope:Scope)(s:Shared)(H:Hp)(ex:List Addr):Cx :=
 {X with N:=N',s₀:=s,H₀:=H,env:=compEnvC scope (FU_ scope X.env s.heap.objs.size) s.heap.objs.size X.env,outer:=X.stack,ex:=ex,fn:=λx=>decide ((x,NameKind.cell)∈scope.names)}
def pick(σ:St)(ix:List (Option Nat)):St:=ix.map λo=>match o with|some i=>(match σ[i]? with|some v=>v|none=>none)|none=>none
structure Scp(psc:Scope)(PN N':List Str)(ix:List (Option Nat))(scope:Scope):Prop where
 kind:scope.kind=.function
 names:∀x∈scope.names,x.2=.local->scope.names.lookup x.1=some .local
 uni:∀x∈scope.names,x.2=.free->scope.names.lookup x.1=some .free
 apart:∀x∈scope.names,x.2=.cell->(x.1,NameKind.free)∉scope.names
 free:∀x∈scope.names,x.2=.free->psc.names.lookup x.1=some .cell\/psc.names.lookup x.1=some .free
 len:ix.length=N'.length
 at_:∀(j i:Nat)(x:Str),N'[j]?=some x->ix[j]?=some (some i)->PN[i]?=some x/\(x,NameKind.free)∈scope.names
variable {pins:List (Addr×Obj)}{σ:St}{H:Hp}{s:Shared}{N':List Str}{ix:List (Option Nat)}{scope:Scope}{fp:List Addr}
theorem cl_{env:Env}:∀{names:List (Str×NameKind)}{x:Str},names.lookup x=some .free ->
  (names.map λ(n,k)=>if(k == NameKind.free && env.scope.kind == .function && env.kindOf n == some .cell)then(n,NameKind.cell)else(n,k)).lookup x=some .cell \/
  (names.map λ(n,k)=>if(k == NameKind.free && env.scope.kind == .function && env.kindOf n == some .cell)then(n,NameKind.cell)else(n,k)).lookup x=some .free
 |[],_,h=>by simp at h
 | (n,k)::r,x,h=>by
  have ih:=@cl_ env r x;simp only[Aw_];cases hx:x == n with
  |true =>
   simp only[BU_,hx]at h;cases h;by_cases hc:(NameKind.free == NameKind.free && env.scope.kind == .function && env.kindOf n == some .cell)=true
   .rw[if_pos hc];simp[BU_,hx]
   .rw[if_neg hc];simp[BU_,hx]
  |false =>
   simp only[BU_,hx]at h;by_cases hc:(k == NameKind.free && env.scope.kind == .function && env.kindOf n == some .cell)=true
   .rw[if_pos hc];simp only[BU_,hx];show ih h
   .rw[if_neg hc];simp only[BU_,hx];show ih h
theorem fO_{x:Str}(h:scope.names.lookup x=some .free):(relabel scope env).names.lookup x=some .cell\/(relabel scope env).names.lookup x=some .free:=cl_ h
theorem hG_{x:Str}(h:(relabel scope env).names.lookup x=some .cell\/(relabel scope env).names.lookup x=some .free):(x,NameKind.cell)∈scope.names\/(x,NameKind.free)∈scope.names:=by
 have:∃k,(x,k)∈(relabel scope env).names/\(k=.cell\/k=.free):=by
  rcases h with h|h
  .show⟨_,Bf_ h,.inl rfl⟩
  .show⟨_,Bf_ h,.inr rfl⟩
 obtain⟨k,hm,hk⟩:=this;obtain⟨⟨n,k'⟩,hm',e⟩:=An_.mp hm
 dsimp only at e
 split at e
 .rename_i hc;cases e;have:k'=.free:=by simp at hc;show hc.1.1
  rw[this]at hm';show .inr hm'
 .cases e
  rcases hk with rfl|rfl
  .show .inl hm'
  .show .inr hm'
theorem lQ_(I:Inv X pins σ H s)(S:Scp X.env.scope X.N N' ix scope)(hf:∀b∈fp,GI_ X pins H b)(hfl:∀b∈fp,b<s.heap.objs.size)(t':Nat):
  Inv (cxC X N' scope s H fp) [] (pick σ ix) H {s with heap:=pushCells (s.heap.push {cls:=.type "dict",data:=.dict #[]}) scope.names,toks:=t'}:=by
 have hn:(pushCells (s.heap.push {cls:=.type "dict",data:=.dict #[]}) scope.names).Ns s.heap.objs.size λ_=>none:=(Heap.Ns.new s.heap (.type "dict")).keeps (C6_ _ _);have hk:∀b o,s.heap.get? b=some o->(pushCells (s.heap.push {cls:=.type "dict",data:=.dict #[]}) scope.names).get? b=some o:=λb o e=>C6_ _ _ b o (Al_ _ e);have hfr:∀p∈scope.names,p.2=NameKind.free->∃c,X.env.cells.lookup p.1=some c:=λp hp e=>I.ok.has p.1 (S.free p hp e);have clm:∀q∈Gr_ X.env.cells scope.names [],X.env.cells.lookup q.1=some q.2:=gT_ scope.names [] hfr s_
 have spec:∀x c,(FU_ scope X.env s.heap.objs.size).lookup x=some c->(X.env.cells.lookup x=some c/\(x,NameKind.free)∈scope.names) \/
   (s.heap.objs.size<c/\(pushCells (s.heap.push {cls:=.type "dict",data:=.dict #[]}) scope.names).IsCell c none/\(x,NameKind.cell)∈scope.names):=λx c e=>by
  have hm:(x,c)∈cellsFrom (s.heap.push {cls:=.type "dict",data:=.dict #[]}).objs.size scope.names (Gr_ X.env.cells scope.names []):=by rw[Cb_];show Bf_ e
  rcases cv_ scope.names _ _ hm with h|⟨h1,h2,h3⟩
  .show .inl ⟨clm _ h,(fN_ scope.names [] h).elim id (λz=>absurd z s_)⟩
  .rw[Cb_]at h1;show .inr ⟨h1,h2,h3⟩
 have hasC:∀x,((relabel scope X.env).names.lookup x=some .cell\/(relabel scope X.env).names.lookup x=some .free)->∃c,(FU_ scope X.env s.heap.objs.size).lookup x=some c:=λx hx=>by have:∃c,(x,c)∈FU_ scope X.env s.heap.objs.size:=c6_ scope.names _ _ ((hG_ hx).imp id λz=>gU_ scope.names [] (.inl z));obtain⟨c,hc⟩:=this;show ck_ hc
 have cold:∀x c,X.env.cells.lookup x=some c->c<s.heap.objs.size:=λx c e=>let⟨v,q⟩:=I.cell x c e;q.lt
 show⟨⟨I.ok.mod,S.kind,I.ok.glob,I.ok.blt,Aj_ _,λx y c e1 e2=>?_,hasC,λx c z e=>?_,I.ok.hd,I.ok.frames,.inl rfl,
  λb hb=>⟨AL_ (hfl b hb),λx c e=>?_⟩,I.bs,AT_ I.ok.bsz I.sz,λb o e hb=>?_,λb hb z=>?_,I.stack,I.stkFree⟩,
  rfl,I.bare,Un.kept hk,⟨_,hn,λj x v e1 e2 e3=>?_⟩,λx c e=>?_,I.hok.fresh (Aj_ _),λx c e=>?_,λp hp=>?pn,I.hok.kept hk,?_⟩
 case pn =>obtain⟨q1,q2,q3,q4,q5⟩:=I.pin p (AN_ _ (show p∈X.pn from(Ap_.mp hp).elim id λz=>nomatch z));show⟨hk _ _ q1,q2,AL_ (Av_ q1),λz=>(As_.mp (I.stkSub _ z)).elim q3 q4,q5⟩
 .by_cases hc:c<s.heap.objs.size+1
  .rcases spec x c e1 with⟨q1,_⟩|⟨q1,_⟩
   .rcases spec y c e2 with⟨q2,_⟩|⟨q2,_⟩
    .show I.ok.inj x y c q1 q2
    .show absurd q2 (Ck_.mpr (Nat.le_of_lt_succ hc))
   .show absurd q1 (Ck_.mpr (Nat.le_of_lt_succ hc))
  .show c7_ (lo:=s.heap.objs.size+1) scope.names _ _ (λx c hm=>Cr_ (cold x c (clm _ hm))) (λx y c hc hx _=>absurd (cold x c (clm _ hx)) (Ck_.mpr (AT_ (CT_ _) hc))) x y c (Ck_.mp hc) (Bf_ e1) (Bf_ e2)
 .have z':(x,NameKind.cell)∈scope.names:=A6_ z
  rcases spec x c e with⟨_,q⟩|⟨q,_⟩
  .show absurd q (S.apart _ z' rfl)
  .show AV_ q
 .rcases spec x c e with⟨q,_⟩|⟨q,_⟩
  .show(hf b hb).2.2.2.2.1 x c q
  .show λz=>absurd (hfl b hb) (Ck_.mpr (z▸AV_ q))
 .show(hf b hb).2.2.2.1.elim (λz=>I.ok.noex b o e z) λz=>absurd (AH_ (Av_ e) I.ok.bsz) (Ck_.mpr z)
 .have hb2:=hf b hb
  rcases As_.mp (I.stkSub b z)with q|q
  .show hb2.2.1 q
  .show hb2.2.2.1 q
 .have e4:∃i,ix[j]?=some (some i)/\σ[i]?=some (some v):=by
   have e2':(pick σ ix)[j]?=some (some v):=e2;unfold pick at e2';rw[Ae_]at e2';cases q:ix[j]? with
   |none=>rw[q]at e2';cases e2'
   |some o =>
    rw[q]at e2';cases o with
    |none=>cases e2'
    |some i =>
     show⟨i,rfl,?_⟩;cases z:σ[i]? with
     |none=>simp[z]at e2'
     |some y=>simp[z]at e2';rw[e2']
  obtain⟨i,e4,e5⟩:=e4;obtain⟨a1,a2⟩:=S.at_ j i x e1 e4;have a3:=S.free _ a2 rfl;obtain⟨m0,hn0,hl0⟩:=I.loc;obtain⟨u,r,l⟩:=hl0 i x v a1 e5 (.inr a3);show⟨u,r,?_⟩
  rcases l with⟨k1,_⟩|⟨k1,c,hcl,hce⟩
  .have k1':X.env.scope.names.lookup x=some .local:=k1
   rcases a3 with z|z <;> (rw[k1']at z;cases z)
  .
   have e3':(relabel scope X.env).names.lookup x=some .local\/(relabel scope X.env).names.lookup x=some .cell\/(relabel scope X.env).names.lookup x=some .free:=e3;have k3:=fO_ (env:=X.env) (S.uni _ a2 rfl);obtain⟨c',hc'⟩:=hasC x k3
   rcases spec x c' hc' with⟨q,_⟩|⟨_,_,q⟩
   .rw[hcl]at q;cases q;show .inr ⟨k3,c,hc',hce.keeps hk⟩
   .show absurd a2 (S.apart _ q rfl)
 .rcases spec x c e with⟨q,_⟩|⟨q,q2,_⟩
  .obtain⟨v,q'⟩:=I.cell x c q;show⟨v,q'.keeps hk⟩
  .show⟨none,q2⟩
 .rcases spec x c e with⟨q,_⟩|⟨q,_⟩
  .show I.freeC x c q
  .show I.hok.fresh (AV_ q)
 .change(pick σ ix).length=N'.length;unfold pick;rw[Ab_];show S.len
variable {prog:Program}{A:Around}{R:Result->Shared->Prop}
def HD_(ifs:List Expr)(env:Env):Sem Bool:=forIn ifs true λc r=>if r=true then do let ok <-isTrue c env (eval c env);pure (ForInStep.yield ok)else pure (ForInStep.yield r)
theorem hH_{elt target iter:Expr}{ifs:List Expr}{scope:Scope}{pos:Pos}{it acc:Value}{env:Env}(I:Nat->Shared->Prop)
  (turn:∀n s,I n s->wpAny (model prog w) A (pyNext it) (λr s₁=>match r with
   |none=>R (.ok .next) s₁
   |some v=>wpAny (model prog w) A (letOwnedTupleGo target it v) (λ_ s₁'=>wpAny (model prog w) A (assign target env v) (λ_ s₂=>wpAny (model prog w) A (HD_ ifs env) (λok s₃ =>
     if ok=true then wpAny (model prog w) A (eval elt env) (λx s₄=>wpAny (model prog w) A (call (.builtin "list.append") [acc,x]) (λ_ s₅=>∃m,m<n/\I m s₅) (λ_ _=>False) s₄) (λ_ _=>False) s₃
     else ∃m,m<n/\I m s₃) (λ_ _=>False) s₂) (λ_ _=>False) s₁') (λ_ _=>False) s₁) (λ_ _=>False) s)
  (n:Nat) (h:I n s):codeAny (model prog w) A (.compLoop (.ListComp elt [⟨target,iter,ifs,0⟩] scope pos) 0 it acc env) R s:=by
 show codeAny_loop rfl I (λn s hI=>?_) n h;change wpAny _ _ ((compTurn (.ListComp elt [⟨target,iter,ifs,0⟩] scope pos) 0 it acc env).onRaise (λx=>do noteFrame x env;theTreesLotGoes x)) _ _ s;show wpAny_noted ?_;rw[compTurn_list];show Ac_ (Dv_ (Ac_ (BB_ (turn n s hI) (λr s₁ h₁=>?_) λ_ _ h'=>h'.elim)));cases r with
 |none=>show Ah_ h₁
 |some v =>
  show Ac_ (BB_ h₁ (λ_ s₁' h₁'=>?_) λ_ _ h'=>h'.elim);show Ac_ (BB_ h₁' (λ_ s₂ h₂=>Ac_ (BB_ h₂ (λok s₃ h₃=>?_) λ_ _ h'=>h'.elim)) λ_ _ h'=>h'.elim);cases ok with
  |false=>show Ah_ ⟨rfl,h₃⟩
  |true =>show Ac_ (Ac_ (BB_ h₃ (λx s₄ h₄=>Ac_ (BB_ h₄ (λ_ s₅ h₅=>Ah_ (Ah_ ⟨rfl,h₅⟩)) λ_ _ h'=>h'.elim)) λ_ _ h'=>h'.elim))
theorem ix_{M:Model}{A:Around}{E:Value->Shared->Prop}{s:Shared}{scope:Scope}{globals:Addr}{cl:List (Str×Addr)}{qual:Str}{env:Env}{Q:Env->Shared->Prop}
  (hQ:Q {scope:=scope,locals:=s.heap.objs.size,globals:=globals,cells:=cellsFrom (s.heap.objs.size+1) scope.names cl,qual:=qual,func:=none,code:=env.code,frame:=env.frame,builtins:=env.builtins} {s with heap:=pushCells (s.heap.push {cls:=.type "dict",data:=.dict #[]}) scope.names}):
  wpAny M A (newFunctionEnv scope globals cl [] qual none .none (some env)) Q E s:=by
 simp only[newFunctionEnv,Option.isSome_some,if_true];show Ac_ (wpAny_alloc ?_);show Ac_ (wpAny_layCells _ (λname kind cells=>by cases hkc:kind == NameKind.cell <;> simp[hkc]) _ _ _ _ ?_);rw[show({s with heap:=s.heap.push {cls:=.type "dict",data:=.dict #[]}}:Shared).heap.objs.size=s.heap.objs.size+1 from Cb_ ..];show Ac_ (Ah_ (Ah_ hQ))
def PF(X:Cx)(ifs:List Expr)(t:TT):Prop :=
 ∀(pins:List (Addr×Obj))(s:Shared)(σ:St)(H:Hp)(Q:Bool->Hp->Prop),Inv X pins σ H s->t σ H Q->wpAny (model X.prog X.w) X.A (HD_ ifs X.env) (TP X pins σ Q) X.xe s
def Ja_:TT:=λ_ H Q=>Q true H
theorem fP_:PF X [] Ja_:=λ_ _ _ H _ I h=>wpAny_tests_nil ⟨H,I,h⟩
theorem mD_{c:Expr}{t:TT}(h:PT X c t):PF X [c] t:=λpins s σ H Q I q=>wpAny_tests_one (h pins s σ H Q I q)
def Hh_(J:It)(g:TG)(tt:TT)(te:TE)(σ:St)(H:Hp)(Q:VK):Prop:=∀D,H D=none->∃W:Nat->Nat->St->Hp->Prop,(∃m,W 0 m σ (upd H D (.lst [])))/\∀i m σ H,W i m σ H ->
 (J.stop i H/\Q (.ref D) H)\/(J.go i H/\∃N:St->Hp->Prop,(∀σ' H',N σ' H'->∃m',m'<m/\W (i+1) m' σ' H')/\∀x H',J.yld i H x H'->g x σ H' λσ2 H2=>tt σ2 H2 λb H3 =>if b=true then te σ2 H3 λv H4=>∃xs,H4 D=some (.lst xs)/\xs.length<sizeLine/\N σ2 (upd H4 D (.lst (xs++[v])))else N σ2 H3)
def HG_(ix:List (Option Nat))(wi:TI)(g:TG)(tt:TT)(te:TE):TE:=λσ H Q=>wi σ H λJ H1=>Hh_ J g tt te (pick σ ix) H1 Q
section
variable {tg iter elt:Expr}{ifs:List Expr}{wi:TI}{g:TG}{tt:TT}{te:TE}{pos:Pos}
structure J9_(C:Cx->Prop)(P:Program)(w:World)(K:PySem.W.Frag)(tg:Expr)(J:It)(fp:List Addr)(it:Addr)(tn:Nat->Heap->Prop):Prop where
 obj:∀i h,tn i h->∀b∈fp,∃o,h.get? b=some o/\∀v,o.data≠.cell v
 keep:∀i h h',tn i h->(∀b∈fp,∀o,h.get? b=some o->h'.get? b=some o)->tn i h'
 item:∀(X:Cx),X.prog=P->X.w=w->X.K=K->C X->∀(i:Nat)(pins:List (Addr×Obj))(s:Shared)(σ:St)(H:Hp)(E:Value->Shared->Prop),Inv X pins σ H s->(∀b∈fp,GI_ X pins H b)->tn i s.heap->J.go i H ->
  wpAny (model P w) X.A (pyNext (.ref it)) (λr s1=>∃u,r=some u/\wpAny (model P w) X.A (letOwnedTupleGo tg (.ref it) u) (λ_ s2=>∃x H',Inv X pins σ H' s2/\Fb_ x u/\J.yld i H x H'/\tn (i+1) s2.heap/\∀b∈fp,H' b=none) E s1) E s
 done:∀(X:Cx),X.prog=P->X.w=w->X.K=K->C X->∀(i:Nat)(pins:List (Addr×Obj))(s:Shared)(σ:St)(H:Hp)(E:Value->Shared->Prop),Inv X pins σ H s->(∀b∈fp,GI_ X pins H b)->tn i s.heap->J.stop i H ->
  wpAny (model P w) X.A (pyNext (.ref it)) (λr s1=>r=none/\Inv X pins σ H s1) E s
 self:∀(A:Around)(i:Nat)(s:Shared)(Q:Value->Shared->Prop)(E:Value->Shared->Prop),tn i s.heap->Q (.ref it) s->wpAny (model P w) A (pyIter (.ref it)) Q E s
def PIc(C:Cx->Prop)(X:Cx)(tg iter:Expr)(wi:TI):Prop:=∀(pins:List (Addr×Obj))(s:Shared)(σ:St)(H:Hp)(R:It->Hp->Prop),Inv X pins σ H s->wi σ H R ->
 wpAny (model X.prog X.w) X.A (eval iter X.env) (λv s1=>wpAny (model X.prog X.w) X.A (pyIter v) (λitv s2=>∃(it:Addr)(fp:List Addr)(tn:Nat->Heap->Prop)(J:It)(H':Hp),itv=.ref it/\Inv X pins σ H' s2/\J9_ C X.prog X.w X.K tg J fp it tn/\tn 0 s2.heap/\(∀b∈fp,GI_ X pins H' b)/\R J H') X.xe s1) X.xe s
theorem PI.c(h:PI X tg iter wi):PIc (λX=>X.calm=true) X tg iter wi:=λpins s σ H R I q=>thn (h pins s σ H R I q) λ_ _ h1=>thn h1 λ_ _ ⟨it,fp,tn,J,H',e,I2,T,z⟩=>⟨it,fp,tn,J,H',e,I2,⟨T.obj,T.keep,T.item,T.done,T.self⟩,z⟩
theorem hI_{C:Cx->Prop}(hc:∀s H ex,C (cxC X N' scope s H ex))(hxe:X.xe=λ_ _=>False)(S:Scp X.env.scope X.N N' ix scope)(hi:PIc C X tg iter wi)(hg:∀s H ex,PG (cxC X N' scope s H ex) tg g)(ht:∀s H ex,PF (cxC X N' scope s H ex) ifs tt)(he:∀s H ex,PE (cxC X N' scope s H ex) elt te)
  {pins:List (Addr×Obj)} {s:Shared} {σ:St} {H:Hp} {Q:VK} (I:Inv X pins σ H s) (h:HG_ ix wi g tt te σ H Q) {Post:Value->Addr->Result->Shared->Prop}
  (fin':∀(D C:Addr)(H':Hp)(s':Shared),Inv X pins σ H' s'->GI_ X pins H' C->(∃m,s'.heap.Ns C m)->Q (.ref D) H'->Post (.ref D) C (.ok .next) s'):
  wpAny (model X.prog X.w) X.A (eval iter X.env) (λx s₁=>wpAny (model X.prog X.w) X.A (pyIter x) (λit s₂=>wpAny (model X.prog X.w) X.A (newList []) (λacc s₃ =>wpAny (model X.prog X.w) X.A (newFunctionEnv scope X.env.globals (Gr_ X.env.cells scope.names []) [] X.env.qual none .none (some X.env)) (λcenv s₄ =>codeAny (model X.prog X.w) X.A (.compStart (.ListComp elt [⟨tg,iter,ifs,0⟩] scope pos) 0 it acc {cenv with scope:=relabel scope X.env}) (Post acc cenv.locals) s₄) X.xe s₃) X.xe s₂) X.xe s₁) X.xe s:=by
 show thn (hi pins s σ H _ I h) λv s1 h1=>thn h1 λitv s2 h2=>?_;obtain⟨it,fp,tn,J,H2,e,I2,T,st2,f2,go⟩:=h2;subst e;show BP_ ?_;have hD:H2 s2.heap.objs.size=none:=I2.hok.fresh (Aj_ _)
 have I3:Inv X pins σ (upd H2 s2.heap.objs.size (.lst [])) {s2 with heap:=s2.heap.push {cls:=.type "list",dict:=none,data:=.seq ([]:List Value).toArray}} :=
  I2.laid (t':=s2.toks) (λb u e=>Al_ _ e) (Aj_ _) ⟨AB_ _,[],0,.nil,Az_ _ rfl⟩
 obtain⟨W,⟨m0,w0⟩,turn⟩:=go s2.heap.objs.size hD;have fpl:∀b∈fp,b<s2.heap.objs.size:=λb hb=>let⟨o,e,_⟩:=T.obj _ _ st2 b hb;Av_ e;have tF:∀{α:Type}{t:Sem α}{Q':α->Shared->Prop}{s':Shared},wpAny (model X.prog X.w) X.A t Q' X.xe s'->wpAny (model X.prog X.w) X.A t Q' (λ_ _=>False) s':=λhw=>hxe▸hw;generalize hH3:upd H2 s2.heap.objs.size (.lst [])=H3 at I3 w0;generalize hs3:({s2 with heap:=s2.heap.push {cls:=.type "list",dict:=none,data:=.seq ([]:List Value).toArray}}:Shared)=s3 at I3⊢;have h23:∀b o,s2.heap.get? b=some o->s3.heap.get? b=some o:=λb o e=>by rw[<-hs3];show Al_ _ e
 have sz3:s2.heap.objs.size<=s3.heap.objs.size:=by rw[<-hs3];change _<=(s2.heap.push _).objs.size;rw[Cb_];show CT_ _
 have fpl3:∀b∈fp,b<s3.heap.objs.size:=λb hb=>AH_ (fpl b hb) sz3;have f3:∀b∈fp,GI_ X pins H3 b:=λb hb=>⟨by rw[<-hH3,ae_ (AL_ (fpl b hb))];show(f2 b hb).1,(f2 b hb).2⟩;show ix_ ?_;generalize hh1:pushCells (s3.heap.push {cls:=.type "dict",data:=.dict #[]}) scope.names=h1;have hk:∀b o,s3.heap.get? b=some o->h1.get? b=some o:=λb o e=>by rw[<-hh1];show C6_ _ _ b o (Al_ _ e)
 have I4:Inv (cxC X N' scope s3 H3 fp) [] (pick σ ix) H3 {s3 with heap:=h1}:=by rw[<-hh1];show lQ_ I3 S f3 fpl3 s3.toks
 have st4:tn 0 h1:=T.keep _ _ _ st2 λb hb o e=>hk b o (h23 b o e);have fin:∀{σ':St}{H':Hp}{s':Shared},Inv (cxC X N' scope s3 H3 fp) [] σ' H' s'->Q (.ref s2.heap.objs.size) H'->Post (.ref s2.heap.objs.size) s3.heap.objs.size (.ok .next) s':=λ{σ' H' s'} J q=>by obtain⟨m,hn,_⟩:=J.loc;have K1:Inv X pins σ H' s':=I3.call' J.os J.base J.hok J.bare λb hb=>⟨(f3 b hb).2.2.2.1,(f3 b hb).2.1,(f3 b hb).2.2.2.2.1,(f3 b hb).2.2.2.2.2⟩;show fin' _ _ H' s' K1 (I3.fpOk (b:=s3.heap.objs.size) (Aj_ _) (show H' s3.heap.objs.size=none from J.free)) ⟨m,hn⟩ q
 have loop:codeAny (model X.prog X.w) X.A (.compLoop (.ListComp elt [⟨tg,iter,ifs,0⟩] scope pos) 0 (.ref it) (.ref s2.heap.objs.size) (compEnvC scope (FU_ scope X.env s3.heap.objs.size) s3.heap.objs.size X.env)) (Post (.ref s2.heap.objs.size) s3.heap.objs.size) {s3 with heap:=h1}:=by
  show hH_ (λn s'=>∃i σ' H',Inv (cxC X N' scope s3 H3 fp) [] σ' H' s'/\tn i s'.heap/\(∀b∈fp,H' b=none)/\W i n σ' H') ?_ m0 ⟨0,_,H3,I4,st4,λb hb=>(f3 b hb).1,w0⟩;rintro n s5 ⟨i,σ5,H5,I5,st5,fr5,w5⟩;have stat:∀{H':Hp},(∀b∈fp,H' b=none)->∀b∈fp,GI_ (cxC X N' scope s3 H3 fp) [] H' b:=λhn b hb=>⟨hn b hb,(I5.ok.exf b hb).1,I5.ok.exfs b hb,.inl hb,(I5.ok.exf b hb).2,λp hp=>(f3 b hb).2.2.2.2.2 p (AN_ _ (show p∈X.pn from(Ap_.mp hp).elim id λz=>nomatch z))⟩
  rcases turn i n σ5 H5 w5 with⟨stop,qn⟩|⟨go,N,hN,step⟩
  .show thn (tF (T.done (cxC X N' scope s3 H3 fp) rfl rfl rfl (hc _ _ _) i [] s5 σ5 H5 X.xe I5 (stat fr5) st5 stop)) λr s6 ⟨hr,I6⟩=>?_;subst hr;show fin I6 qn
  .show thn (tF (T.item (cxC X N' scope s3 H3 fp) rfl rfl rfl (hc _ _ _) i [] s5 σ5 H5 X.xe I5 (stat fr5) st5 go)) λr s6 ⟨u,hr,h6⟩=>?_;subst hr;show thn (tF h6) λ_ s7 ⟨x,H7,I7,r7,y7,st7,fr7⟩=>?_;have I7':=I7.pinned (stat fr7) (T.obj _ _ st7);have again:∀{σ':St}{H':Hp}{s':Shared},Inv (cxC X N' scope s3 H3 fp) ([]++Gz_ fp s7.heap) σ' H' s'->N σ' H'->∃m,m<n/\∃i σ' H',Inv (cxC X N' scope s3 H3 fp) [] σ' H' s'/\tn i s'.heap/\(∀b∈fp,H' b=none)/\W i m σ' H':=λ{σ' H' s'} J n10=>by obtain⟨m',hm,w10⟩:=hN σ' H' n10;show⟨m',hm,i+1,σ',H',J.unpinned,T.keep _ _ _ st7 λb hb o e=>(J.pin (b,o) (AO_ _ (AO_ _ (dJ_ hb e)))).1,λb hb=>?_,w10⟩;obtain⟨o,e,d⟩:=T.obj _ _ st7 b hb;show(J.pin (b,o) (AO_ _ (AO_ _ (dJ_ hb e)))).2.1
   show thn (tF (hg s3 H3 fp _ s7 σ5 H7 x u _ I7' r7 (step x H7 y7))) λ_ s8 ⟨σ8,H8,I8,q8⟩=>?_;show thn (tF (ht s3 H3 fp _ s8 σ8 H8 _ I8 q8)) λok s8' ⟨H8',I8',q8'⟩=>?_;cases ok with
   |false=>show again I8' (by simpa using q8')
   |true =>rw[if_pos rfl]at q8'⊢;show thn (tF (he s3 H3 fp _ s8' σ8 H8' _ I8' q8')) λv s9 ⟨y,H9,I9,r9,xs,hl9,hz9,n9⟩=>?_;show thn (tF (aw_ (X:=cxC X N' scope s3 H3 fp) _ s9 σ8 H9 (.ref s2.heap.objs.size) [y] (.ref s2.heap.objs.size) [v] (λ_ H'=>N σ8 H') I9 rfl (.cons r9 .nil) ⟨s2.heap.objs.size,xs,y,rfl,rfl,hl9,hz9,n9⟩)) λ_ s10 ⟨_,H10,I10,_,n10⟩=>again I10 n10
 show codeAny_compStart_list loop (T.self _ 0 _ _ _ st4 loop)
theorem e5_(hc:X.calm=true)(hxe:X.xe=λ_ _=>False)(S:Scp X.env.scope X.N N' ix scope)(hi:PI X tg iter wi)(hg:∀s H ex,PG (cxC X N' scope s H ex) tg g)(ht:∀s H ex,PF (cxC X N' scope s H ex) ifs tt)(he:∀s H ex,PE (cxC X N' scope s H ex) elt te)
  (hs:∀x,foldedSetIterable iter X.env x=pure x:=by intro _;rfl):PE X (.ListComp elt [⟨tg,iter,ifs,0⟩] scope pos) (HG_ ix wi g tt te):=by
 intro pins s σ H Q I h;rw[eval_ListComp];show DI_ (use:=none) rfl hs (gC_ λp hp e=>I.ok.has p.1 (S.free p hp e)) S.kind S.names (hI_ (C:=λX=>X.calm=true) (λ_ _ _=>hc) hxe S hi.c hg ht he I h λD C H' s' K1 F ⟨m,hn⟩ q=>?_);show⟨m,hn,λh' sb=>?_⟩;obtain⟨g0,g1,g2,g3,g4,g5⟩:=F;show⟨.ref D,H',K1.turned (t':=s'.toks) (λb o hb e=>sb.extBut b o hb e) g0 g1 g3 g4 g5,rfl,q⟩
theorem iy_{i:Nat}{y:Str}{py spos:Pos}(hc:X.calm=true)(hxe:X.xe=λ_ _=>False)(hN:X.N.Nodup)(hy:X.N[i]?=some y)(hl:X.env.scope.names.lookup y=some .local)
  (hsw:swapsWith (.ListComp elt [⟨tg,iter,ifs,0⟩] scope pos) (some (.Name y py)) spos.line X.env=pure true)
  (S:Scp X.env.scope X.N N' ix scope) (hi:PI X tg iter wi) (hg:∀s H ex,PG (cxC X N' scope s H ex) tg g) (ht:∀s H ex,PF (cxC X N' scope s H ex) ifs tt) (he:∀s H ex,PE (cxC X N' scope s H ex) elt te)
  (hs:∀x,foldedSetIterable iter X.env x=pure x:=by intro _;rfl):PS X (.Assign [.Name y py] (.ListComp elt [⟨tg,iter,ifs,0⟩] scope pos) spos) (Jc_ (HG_ ix wi g tt te) (Gl_ i)):=by
 intro pins s σ H D I h;rw[exec_Assign_Name_used _ _ _ _ hsw];show Ac_ (Dv_ (Ac_ ?_));change wpAny _ X.A (do let _ <-comprehension (.ListComp elt [⟨tg,iter,ifs,0⟩] scope pos) scope X.env _ (newList []) false (eval iter X.env) (some (assign (.Name y py) X.env))) _ _ s
 show Ac_ (BB_ (DI_ (use:=some (assign (.Name y py) X.env)) (Q:=λ_ s'=>SP X pins D .next s') rfl hs (gC_ λp hp e=>I.ok.has p.1 (S.free p hp e)) S.kind S.names
  (hI_ (C:=λX=>X.calm=true) (λ_ _ _=>hc) hxe S hi.c hg ht he I h λL C H' s' K1 F ⟨m,hn⟩ q=>?_)) (λ_ s' hq=>Ah_ (Ah_ hq)) λ_ _ e=>e)
 change wpAny _ X.A (assign (.Name y py) X.env (.ref L)) _ _ _;obtain⟨g0,g1,g2,g3,g4,g5⟩:=F;show wpAny_assign_Name (ht_ K1 hN hy (.inl hl) (v:=.ref L) rfl (λs2 I2 ⟨a,sb,ha⟩=>?_) (.inr hl))
 have hCa:C≠a:=by
  rcases ha with rfl|ha
  .show g1
  .show λz=>g4 _ _ ha z.symm
 show⟨m,hn.sameBut sb hCa,λh' sb'=>?_⟩;show⟨_,H',I2.turned (t':=s2.toks) (λb o hb e=>sb'.extBut b o hb e) g0 g1 g3 g4 g5,q⟩
end
def HC_(psc:Scope)(PN N':List Str)(ix:List (Option Nat))(scope:Scope):Bool :=
 scope.kind == .function &&
 scope.names.all (λx=>x.2 != .local ||scope.names.lookup x.1 == some .local) &&
 scope.names.all (λx=>x.2 != .free ||scope.names.lookup x.1 == some .free) &&
 scope.names.all (λx=>x.2 != .cell || !scope.names.contains (x.1,NameKind.free)) &&
 scope.names.all (λx=>x.2 != .free ||(psc.names.lookup x.1 == some .cell ||psc.names.lookup x.1 == some .free)) &&
 ix.length == N'.length &&
 (List.range N'.length).all (λj=>match ix[j]?,N'[j]? with|some (some i),some x=>PN[i]? == some x && scope.names.contains (x,NameKind.free)|_,_=>true)
theorem eu_{psc:Scope}{PN:List Str}(h:HC_ psc PN N' ix scope=true):Scp psc PN N' ix scope:=by
 unfold HC_ at h;simp only[Cd_,List.all_eq_true,beq_iff_eq,Bool.or_eq_true,Er_,ne_eq,CY_,Bool.not_eq_true',AU_]at h;obtain⟨⟨⟨⟨⟨⟨h1,h2⟩,h3⟩,h4⟩,h5⟩,h6⟩,h7⟩:=h;show⟨h1,λx hx e=>(h2 x hx).resolve_left λz=>z e,λx hx e=>(h3 x hx).resolve_left λz=>z e,λx hx e hm=>?_,λx hx e=>(h5 x hx).resolve_left λz=>z e,h6,λj i x e1 e2=>?_⟩
 .have:=(h4 x hx).resolve_left λz=>z e;rw[CY_.mpr hm]at this;cases this
 .have hj:j<N'.length:=(Ad_.mp e1).1;have:=h7 j hj;rw[e1,e2]at this;simp only[Cd_,beq_iff_eq,CY_]at this;show this
variable {x:Str}{pos:Pos}{i:Nat}{e:Expr}{te:TE}
theorem pvc(i:Nat)(hN:X.N[i]?=some x:=by rfl) (hv:X.env.scope.names.lookup x=some .cell:=by rfl) (hd:(x == ("__debug__" : Str))=false:=by decide) (hcd:(x == ("__classdict__" : Str))=false:=by decide):PE X (.Name x pos) (Jb_ i):=mr_ hN (.inr (.inl hv)) hd hcd
theorem lR_(hN:X.N.Nodup)(hi:X.N[i]?=some x)(hx:X.env.scope.names.lookup x=some .cell)(hf:X.fn x=true):PG X (.Name x pos) (Gl_ i):=j7_ hN hi (.inr hx) (.inl hf)
theorem aT_{tg l:Expr}{tl:TE}(hK:X.K=K)(hl:PE X l tl):PI X tg l (H7_ K tl):=hK▸mV_ hl
theorem lS_(hK:X.K=K):IxR X (KD_ K):=hK▸kl_
inductive Dt where
 |non|bl (b:Bool)|int (i:Int)|str (x:Str)|tup (xs:List Dt)|lst (xs:List Dt)
mutual
def Rep(H:Hp):V->Dt->Prop
 |v,.non=>v=.non
 |v,.bl b=>v=.bl b
 |v,.int i=>v=.int i
 |v,.str x=>v=.str x
 |v,.tup ds=>∃p xs,v=.ref p/\H p=some (.tup xs)/\Fk_ H xs ds
 |v,.lst ds=>∃p xs,v=.ref p/\H p=some (.lst xs)/\Fk_ H xs ds
def Fk_(H:Hp):List V->List Dt->Prop
 |xs,[]=>xs=[]
 |xs,d::ds=>∃x r,xs=x::r/\Rep H x d/\Fk_ H r ds
end
mutual
theorem Rep.mono{H H':Hp}(e:EL_ H H'):∀{v:V}(d:Dt),Rep H v d->Rep H' v d
 |v,.non,h=>h
 |v,.bl b,h=>h
 |v,.int i,h=>h
 |v,.str x,h=>h
 |v,.tup ds,⟨p,xs,h1,h2,h3⟩=>⟨p,xs,h1,e _ _ h2,Fk_.mono e ds h3⟩
 |v,.lst ds,⟨p,xs,h1,h2,h3⟩=>⟨p,xs,h1,e _ _ h2,Fk_.mono e ds h3⟩
theorem Fk_.mono{H H':Hp}(e:EL_ H H'):∀{xs:List V}(ds:List Dt),Fk_ H xs ds->Fk_ H' xs ds
 |xs,[],h=>h
 |xs,d::ds,⟨x,r,h1,h2,h3⟩=>⟨x,r,h1,Rep.mono e d h2,Fk_.mono e ds h3⟩
end
mutual
theorem Rep.inj{H:Hp}:∀{v:V}(d e:Dt),Rep H v d->Rep H v e->d=e
 |v,.non,e,h,h'=>by
  cases h;cases e <;> first|rfl|(simp[Rep]at h')
 |v,.bl b,e,h,h'=>by
  cases h;cases e <;> simp[Rep]at h' <;> simp[h']
 |v,.int i,e,h,h'=>by
  cases h;cases e <;> simp[Rep]at h' <;> simp[h']
 |v,.str x,e,h,h'=>by
  cases h;cases e <;> simp[Rep]at h' <;> simp[h']
 |v,.tup ds,e,⟨p,xs,h1,h2,h3⟩,h'=>by
  subst h1;cases e with
  |tup es =>
   obtain⟨p',xs',g1,g2,g3⟩:=h';cases g1;rw[h2]at g2;cases g2;rw[Fk_.inj ds es h3 g3]
  |lst es =>
   obtain⟨p',xs',g1,g2,g3⟩:=h';cases g1;rw[h2]at g2;cases g2
  |_=>simp[Rep]at h'
 |v,.lst ds,e,⟨p,xs,h1,h2,h3⟩,h'=>by
  subst h1;cases e with
  |tup es =>
   obtain⟨p',xs',g1,g2,g3⟩:=h';cases g1;rw[h2]at g2;cases g2
  |lst es =>
   obtain⟨p',xs',g1,g2,g3⟩:=h';cases g1;rw[h2]at g2;cases g2;rw[Fk_.inj ds es h3 g3]
  |_=>simp[Rep]at h'
theorem Fk_.inj{H:Hp}:∀{xs:List V}(ds es:List Dt),Fk_ H xs ds->Fk_ H xs es->ds=es
 |xs,[],es,h,h'=>by
  cases h;cases es with
  |nil=>rfl
  |cons e es=>obtain⟨x,r,g,_⟩:=h';cases g
 |xs,d::ds,es,⟨x,r,h1,h2,h3⟩,h'=>by
  subst h1;cases es with
  |nil=>cases h'
  |cons e es =>obtain⟨x',r',g1,g2,g3⟩:=h';cases g1;rw[Rep.inj d e h2 g2,Fk_.inj ds es h3 g3]
end
theorem Fk_.length{H:Hp}:∀{xs:List V}{ds:List Dt},Fk_ H xs ds->xs.length=ds.length
 |xs,[],h=>by cases h;rfl
 |xs,d::ds,⟨x,r,h1,h2,h3⟩=>by subst h1;simp[Fk_.length h3]
theorem Fk_.get{H:Hp}:∀{xs:List V}{ds:List Dt}{i:Nat}{d:Dt},Fk_ H xs ds->ds[i]?=some d->∃x,xs[i]?=some x/\Rep H x d
 |xs,[],i,d,h,e=>by simp at e
 |xs,d'::ds,0,d,⟨x,r,h1,h2,h3⟩,e=>by
  subst h1;simp at e;subst e;show⟨x,rfl,h2⟩
 |xs,d'::ds,i+1,d,⟨x,r,h1,h2,h3⟩,e=>by subst h1;obtain⟨y,hy,hr⟩:=Fk_.get (i:=i) (d:=d) h3 (by simpa using e);show⟨y,by simpa using hy,hr⟩
theorem Fk_.append{H:Hp}:∀{xs:List V}{ds:List Dt}{ys:List V}{es:List Dt},Fk_ H xs ds->Fk_ H ys es->Fk_ H (xs++ys) (ds++es)
 |xs,[],ys,es,h,g=>by cases h;show g
 |xs,d::ds,ys,es,⟨x,r,h1,h2,h3⟩,g=>by subst h1;show⟨x,r++ys,rfl,h2,Fk_.append h3 g⟩
mutual
def deq:Dt->Dt->Option Bool
 | .non,.non=>some true
 | .bl a,.bl b=>some (a == b)
 | .int a,.int b=>some (a == b)
 | .str a,.str b=>some (a == b)
 | .tup xs,.tup ys=>deqs xs ys
 | .lst xs,.lst ys=>if xs.length=ys.length then deqs xs ys else some false
 |_,_=>none
def deqs:List Dt->List Dt->Option Bool
 |[],[]=>some true
 |x::xs,y::ys=>match deq x y,deqs xs ys with
  |some a,some b=>some (a && b)
  |_,_=>none
 |_,_=>some false
end
mutual
def dep:Dt->Nat
 | .tup ds=>deps ds+1
 | .lst ds=>deps ds+1
 |_=>0
def deps:List Dt->Nat
 |[]=>0
 |d::ds=>max (dep d) (deps ds)
end
def eAt(ds es:List Dt)(j:Nat):Bool:=match ds[j]?,es[j]? with
 |some d,some e=>(deq d e).getD false
 |_,_=>false
theorem bD_:∀(ds es:List Dt)(b:Bool),deqs ds es=some b->((List.range (min ds.length es.length)).all (eAt ds es) && ds.length == es.length)=b
 |[],[],b,h=>by cases h;rfl
 |[],_::_,b,h=>by cases h;simp
 |_::_,[],b,h=>by cases h;simp
 |d::ds,e::es,b,h=>by
  rw[deqs]at h;cases h1:deq d e with
  |none=>rw[h1]at h;cases h
  |some a =>
   cases h2:deqs ds es with
   |none=>rw[h1,h2]at h;cases h
   |some c =>
    rw[h1,h2]at h;cases h;rw[<-bD_ ds es c h2];simp only[A1_,Nat.succ_min_succ,List.range_succ_eq_map,Ex_,List.all_map,Bool.and_assoc];congr 1
    .simp[eAt,h1]
    .congr 1;simp
mutual
theorem gV_:∀(d:Dt)(b:Bool),deq d d=some b->b=true
 | .non,b,h=>by cases h;rfl
 | .bl a,b,h=>by simp[deq]at h;show h
 | .int a,b,h=>by simp[deq]at h;show h
 | .str a,b,h=>by simp[deq]at h;show h
 | .tup xs,b,h=>fQ_ xs b h
 | .lst xs,b,h=>by rw[deq,if_pos rfl]at h;show fQ_ xs b h
theorem fQ_:∀(ds:List Dt)(b:Bool),deqs ds ds=some b->b=true
 |[],b,h=>by cases h;rfl
 |d::ds,b,h=>by
  rw[deqs]at h;cases h1:deq d d with
  |none=>rw[h1]at h;cases h
  |some a =>
   cases h2:deqs ds ds with
   |none=>rw[h1,h2]at h;cases h
   |some c =>rw[h1,h2]at h;cases h;rw[gV_ d a h1,fQ_ ds c h2];rfl
end
def Vw(K:PySem.W.Frag)(H J:Hp):Prop:=(∀q xs,J q=some (.tup xs)->SqT K H q xs)/\∀q xs,J q=some (.lst xs)->SqL K H q xs
theorem Vw.refl:Vw K H H:=⟨λ_ _ h=>.inl (.inl h),λ_ _ h=>.inl (.inl h)⟩
mutual
theorem ja_(I:Inv X pins σ H s){J:Hp}(hJ:Vw X.K H J):∀(d e:Dt){A:Around}{x y:V}{u v:Value}{b:Bool},Rep J x d->Rep J y e->Fb_ x u->Fb_ y v->deq d e=some b->A.units+dep d<cLine->SeqAt.EqAt A s u v b
 | .non,e,A,x,y,u,v,b,hx,hy,rx,ry,hb,hu=>by
  cases e <;> first|(cases hb;cases hx;cases hy;cases rx;cases ry;show C5_ _)|(simp[deq]at hb)
 | .bl a,e,A,x,y,u,v,b,hx,hy,rx,ry,hb,hu=>by
  cases e <;> first|(cases hb;cases hx;cases hy;cases rx;cases ry;show Eq_ _ _)|(simp[deq]at hb)
 | .int a,e,A,x,y,u,v,b,hx,hy,rx,ry,hb,hu=>by
  cases e <;> first|(cases hb;cases hx;cases hy;obtain⟨t,rfl⟩:=rx;obtain⟨t',rfl⟩:=ry;show SeqAt.EqAt.int_int _ _ _ _)|(simp[deq]at hb)
 | .str a,e,A,x,y,u,v,b,hx,hy,rx,ry,hb,hu=>by
  cases e <;> first|(cases hb;cases hx;cases hy;obtain⟨t,rfl⟩:=rx;obtain⟨t',rfl⟩:=ry;show Do_ _ _ _ _)|(simp[deq]at hb)
 | .tup ds,e,A,x,y,u,v,b,hx,hy,rx,ry,hb,hu=>by
  cases e with
  |tup es =>
   obtain⟨p,xs,e1,hp,hr⟩:=id hx;obtain⟨q,ys,e2,hq,hs⟩:=id hy;subst e1 e2;cases rx;cases ry;by_cases hpq:p=q
   .subst hpq;have:=Rep.inj _ _ hx hy;cases this;rw[gV_ _ b hb];show C5_ _
   .obtain⟨its,r1,pl1,_⟩:=I.tuple (hJ.1 _ _ hp);obtain⟨its',r2,pl2,_⟩:=I.tuple (hJ.1 _ _ hq);have l1:=r1.length;have l2:=r2.length;have g1:=hr.length;have g2:=hs.length;have hu':A.in1.units+deps ds<cLine:=by have:A.units+(deps ds+1)<cLine:=hu;rw[A7_];lia
    have hb':deqs ds es=some b:=hb;rw[<-bD_ ds es b hb'];have:=SeqAt.RcAt.tuples (e:=eAt ds es) (A:=A) (s:=s) pl1 pl2 (Dp_ (Bz_ _ _) hu) (λj h1 h2=>by have:=d6_ I hJ ds es hr hs r1 r2 hb' hu' j (by simpa using h1) (by simpa using h2);simpa using this);simp only[At_,<-l1,<-l2,g1,g2]at this;show Dq_ hpq this
  |_=>simp[deq]at hb
 | .lst ds,e,A,x,y,u,v,b,hx,hy,rx,ry,hb,hu=>by
  cases e with
  |lst es =>
   obtain⟨p,xs,e1,hp,hr⟩:=id hx;obtain⟨q,ys,e2,hq,hs⟩:=id hy;subst e1 e2;cases rx;cases ry;by_cases hpq:p=q
   .subst hpq;have:=Rep.inj _ _ hx hy;cases this;rw[gV_ _ b hb];show C5_ _
   .obtain⟨its,r1,pl1,_⟩:=I.list (hJ.2 _ _ hp);obtain⟨its',r2,pl2,_⟩:=I.list (hJ.2 _ _ hq);have l1:=r1.length;have l2:=r2.length;have g1:=hr.length;have g2:=hs.length;have hu0:A.units<cLine:=Dp_ (Bz_ _ _) hu;have hu':A.in1.units+deps ds<cLine:=by have:A.units+(deps ds+1)<cLine:=hu;rw[A7_];lia
    rw[deq]at hb;by_cases hl:ds.length=es.length
    .rw[if_pos hl]at hb;rw[<-bD_ ds es b hb];have:=SeqAt.RcAt.lists (e:=eAt ds es) (A:=A) (s:=s) pl1.isList pl2.isList (by simp only[At_];lia) hu0 (λj h1 h2=>by have:=d6_ I hJ ds es hr hs r1 r2 hb hu' j (by simpa using h1) (by simpa using h2);simpa using this);simp only[At_,<-l1,g1]at this;show Dq_ hpq ?_;have e3:min ds.length es.length=ds.length:=o_
     rw[e3,hl];simpa[hl]using this
    .rw[if_neg hl]at hb;cases hb;show Dq_ hpq (SeqAt.RcAt.lists_lengths pl1.isList pl2.isList (by simp only[At_,Er_,ne_eq];lia) hu0)
  |_=>simp[deq]at hb
theorem d6_(I:Inv X pins σ H s){J:Hp}(hJ:Vw X.K H J):∀(ds es:List Dt){A:Around}{xs ys:List V}{us vs:List Value}{b:Bool},Fk_ J xs ds->Fk_ J ys es->E8_ xs us->E8_ ys vs->deqs ds es=some b->A.units+deps ds<cLine ->
  ∀(j:Nat)(h1:j<us.length)(h2:j<vs.length),SeqAt.EqAt A s us[j] vs[j] (eAt ds es j)
 |[],es,A,xs,ys,us,vs,b,hx,hy,rx,ry,hb,hu,j,h1,h2=>by
  cases hx;cases rx;show absurd h1 (Bi_ _)
 |d::ds,es,A,xs,ys,us,vs,b,⟨x,r,e1,hd,hr⟩,hy,rx,ry,hb,hu,j,h1,h2=>by
  subst e1;cases es with
  |nil =>
   cases hy;cases ry;show absurd h2 (Bi_ _)
  |cons e es =>
   obtain⟨y,r',e2,he,hs⟩:=hy;subst e2;cases rx with
   |cons rx rxs =>
    cases ry with
    |cons ry rys =>
     rw[deqs]at hb;cases g1:deq d e with
     |none=>rw[g1]at hb;cases hb
     |some a =>
      cases g2:deqs ds es with
      |none=>rw[g1,g2]at hb;cases hb
      |some c =>
       have hm:A.units+max (dep d) (deps ds)<cLine:=hu;cases j with
       |zero =>
        have:=ja_ I hJ d e (A:=A) hd he rx ry g1 o_;simpa[eAt,g1]using this
       |succ j =>have:=d6_ I hJ ds es (A:=A) hr hs rxs rys g2 o_ j (by simpa using h1) (by simpa using h2);simpa[eAt]using this
end
def Ka_(K:PySem.W.Frag):R2:=λx y H Q=>∃J p q d e b,Vw K H J/\x=.ref p/\y=.ref q/\Rep J x d/\Rep J y e/\deq d e=some b/\dep d<=60/\Q (.bl b) H
theorem nR_(hK:X.K=K)(hu:X.A.units+64<cLine):OpR X (compareOp .Eq) (Ka_ K):=by
 subst hK;intro pins s σ H x y v u Q I rx ry h;obtain⟨J,p,q,d,e,b,hJ,e1,e2,hx,hy,hb,hd,k⟩:=h;subst e1 e2;cases rx;cases ry;have fin:EP X pins σ Q (.bool b) s:=⟨.bl b,H,I,rfl,k⟩;cases d with
 |tup ds =>
  cases e with
  |tup es =>
   obtain⟨_,xs,z,hp,hr⟩:=hx;cases z;obtain⟨_,ys,z,hq,hs⟩:=hy;cases z;obtain⟨its,r1,pl1,_⟩:=I.tuple (hJ.1 _ _ hp);obtain⟨its',r2,pl2,_⟩:=I.tuple (hJ.1 _ _ hq);have l1:=r1.length;have l2:=r2.length;have g1:=hr.length;have g2:=hs.length;have hd':deps ds+1<=60:=hd;have hu':X.A.in1.units+deps ds<cLine:=by rw[A7_];lia
   have hb':deqs ds es=some b:=hb;show SeqAt.eq_tupleAt (e:=eAt ds es) pl1 pl2 o_ (λj h1 h2=>by have:=d6_ I hJ ds es hr hs r1 r2 hb' hu' j (by simpa using h1) (by simpa using h2);simpa using this) ?_;simp only[At_,<-l1,<-l2,g1,g2];rw[bD_ ds es b hb'];show fin
  |_=>simp[deq]at hb
 |lst ds =>
  cases e with
  |lst es =>
   obtain⟨_,xs,z,hp,hr⟩:=hx;cases z;obtain⟨_,ys,z,hq,hs⟩:=hy;cases z;obtain⟨its,r1,pl1,_⟩:=I.list (hJ.2 _ _ hp);obtain⟨its',r2,pl2,_⟩:=I.list (hJ.2 _ _ hq);have l1:=r1.length;have l2:=r2.length;have g1:=hr.length;have g2:=hs.length;have hd':deps ds+1<=60:=hd;have hu':X.A.in1.units+deps ds<cLine:=by rw[A7_];lia
   rw[deq]at hb;by_cases hl:ds.length=es.length
   .rw[if_pos hl]at hb;show SeqAt.eq_listAt (e:=eAt ds es) pl1.isList pl2.isList (by simp only[At_];lia) o_ (λj h1 h2=>by have:=d6_ I hJ ds es hr hs r1 r2 hb hu' j (by simpa using h1) (by simpa using h2);simpa using this) ?_;have e3:=bD_ ds es b hb;have e4:min ds.length es.length=ds.length:=o_
    rw[e4,hl]at e3;simp only[DJ_,Bool.and_true]at e3;simp only[At_,<-l1,g1,hl,e3];show fin
   .rw[if_neg hl]at hb;cases hb;show SeqAt.eq_list_lengthsAt pl1.isList pl2.isList (by simp only[At_,Er_,ne_eq];lia) o_ fin
  |_=>simp[deq]at hb
 |_=>simp[Rep]at hx
def Ke_:R2:=λx y H Q=>∃p q d e b,x=.ref p/\y=.ref q/\Rep H x d/\Rep H y e/\deq d e=some b/\dep d<=60/\Q (.bl b) H
theorem jb_(hu:X.A.units+64<cLine):OpR X (compareOp .Eq) Ke_:=λpins s σ H x y v u Q I rx ry ⟨p,q,d,e,b,h⟩=>nR_ rfl hu pins s σ H x y v u Q I rx ry ⟨H,p,q,d,e,b,Vw.refl,h⟩
def J7_(K:PySem.W.Frag):R2:=λx y H Q=>∃J p q d e b,Vw K H J/\x=.ref p/\y=.ref q/\Rep J x d/\Rep J y e/\deq d e=some b/\dep d<=60/\Q (.bl (!b)) H
theorem nS_(hK:X.K=K)(hu:X.A.units+64<cLine):OpR X (compareOp .NotEq) (J7_ K):=by
 subst hK;intro pins s σ H x y v u Q I rx ry h;obtain⟨J,p,q,d,e,b,hJ,e1,e2,hx,hy,hb,hd,k⟩:=h;subst e1 e2;cases rx;cases ry;have fin:EP X pins σ Q (.bool (!b)) s:=⟨.bl (!b),H,I,rfl,k⟩;cases d with
 |tup ds =>
  cases e with
  |tup es =>
   obtain⟨_,xs,z,hp,hr⟩:=hx;cases z;obtain⟨_,ys,z,hq,hs⟩:=hy;cases z;obtain⟨its,r1,pl1,_⟩:=I.tuple (hJ.1 _ _ hp);obtain⟨its',r2,pl2,_⟩:=I.tuple (hJ.1 _ _ hq);have l1:=r1.length;have l2:=r2.length;have g1:=hr.length;have g2:=hs.length;have hd':deps ds+1<=60:=hd;have hu':X.A.in1.units+deps ds<cLine:=by rw[A7_];lia
   have hb':deqs ds es=some b:=hb;show SeqAt.RcNeAt.tuples (e:=eAt ds es) pl1 pl2 o_ (λj h1 h2=>by have:=d6_ I hJ ds es hr hs r1 r2 hb' hu' j (by simpa using h1) (by simpa using h2);simpa using this) _ _ _ _ ?_;simp only[At_,<-l1,<-l2,g1,g2];rw[bD_ ds es b hb'];show fin
  |_=>simp[deq]at hb
 |lst ds =>
  cases e with
  |lst es =>
   obtain⟨_,xs,z,hp,hr⟩:=hx;cases z;obtain⟨_,ys,z,hq,hs⟩:=hy;cases z;obtain⟨its,r1,pl1,_⟩:=I.list (hJ.2 _ _ hp);obtain⟨its',r2,pl2,_⟩:=I.list (hJ.2 _ _ hq);have l1:=r1.length;have l2:=r2.length;have g1:=hr.length;have g2:=hs.length;have hd':deps ds+1<=60:=hd;have hu':X.A.in1.units+deps ds<cLine:=by rw[A7_];lia
   rw[deq]at hb;by_cases hl:ds.length=es.length
   .rw[if_pos hl]at hb;show SeqAt.RcNeAt.lists (e:=eAt ds es) pl1.isList pl2.isList (by simp only[At_];lia) o_ (λj h1 h2=>by have:=d6_ I hJ ds es hr hs r1 r2 hb hu' j (by simpa using h1) (by simpa using h2);simpa using this) _ _ _ _ ?_;have e3:=bD_ ds es b hb;have e4:min ds.length es.length=ds.length:=o_
    rw[e4,hl]at e3;simp only[DJ_,Bool.and_true]at e3;simp only[At_,<-l1,g1,hl,e3];show fin
   .rw[if_neg hl]at hb;cases hb;show SeqAt.RcNeAt.lists_lengths pl1.isList pl2.isList (by simp only[At_,Er_,ne_eq];lia) o_ _ _ _ _ fin
  |_=>simp[deq]at hb
 |_=>simp[Rep]at hx
def Kh_:R2:=λx y H Q=>∃p q d e b,x=.ref p/\y=.ref q/\Rep H x d/\Rep H y e/\deq d e=some b/\dep d<=60/\Q (.bl (!b)) H
theorem jc_(hu:X.A.units+64<cLine):OpR X (compareOp .NotEq) Kh_:=λpins s σ H x y v u Q I rx ry ⟨p,q,d,e,b,h⟩=>nS_ rfl hu pins s σ H x y v u Q I rx ry ⟨H,p,q,d,e,b,Vw.refl,h⟩
variable {h':Heap}
theorem Inv.turnedL{t':Nat}{ch:List Addr}(I:Inv X pins σ H s)(k:∀b o,b∉ch->s.heap.get? b=some o->h'.get? b=some o)(hf:∀b∈ch,GI_ X pins H b):Inv X pins σ H {s with heap:=h',toks:=t'}:=by
 have nit:∀b u,H b=some u->b∉ch:=λb u e z=>by rw[(hf b z).1]at e;cases e
 show I.step (g':=s.gens) (d':=s.drawn) (ch:=ch) (λb hb=>?_) (λb o _ _ hc e _=>k b o hc e) (λb o _ _ hc e _=>⟨o.slots,k b o hc e⟩) (λ_ _ _ _ n=>n)
  (λb o hc e=>⟨o,k b o hc e⟩) (λ_ _ e=>e) (λ_ _ _ e=>e) (λb ps e=>⟨#[],by rw[e];simp⟩) (λm hm=>?_) (λb u e=>?_) I.bare
 .obtain⟨g0,g1,g2,g3,g4,g5⟩:=hf b hb;show⟨g3,g1,g4,g5⟩
 .obtain⟨o,es,ep,ho,r⟩:=hm;show⟨o,es,ep,k _ o (λz=>(hf _ z).2.1 rfl) ho,r⟩
 .show(I.hok b u e).stay (λc v hc q=>k c v ?_ q) (λ_ q=>q) λ_ _ q=>q
  rcases hc with z|z
  .rw[z];show nit b u e
  .show nit c _ z
def Itz(K:PySem.W.Frag)(a b:Addr):It :=
  ⟨λi H=>∃xs ys x y,SqL K H a xs/\SqL K H b ys/\xs[i]?=some x/\ys[i]?=some y,
   λi H v H'=>∃T x y,v=.ref T/\H T=none/\H'=upd H T (.tup [x,y])/\(∀xs,SqL K H a xs->xs[i]?=some x)/\(∀ys,SqL K H b ys->ys[i]?=some y),
   λi H=>∃xs ys,SqL K H a xs/\SqL K H b ys/\(xs.length<=i\/ys.length<=i)⟩
def KK_(K:PySem.W.Frag)(ta:TA):TI:=λσ H R=>ta σ H λvs H1=>∃a b,vs=[.ref a,.ref b]/\(∃xs,SqL K H1 a xs)/\(∃ys,SqL K H1 b ys)/\R (Itz K a b) H1
variable {elts:List Expr}{kt:Nat}{tpos:Pos}
def KH_(K:PySem.W.Frag):List V->Hp->VK->Prop:=λxs H Q=>∃(p:Addr)(ns:List Int),xs=[V.ref p]/\SqL K H p (ns.map V.int)/\Q (.int ns.sum) H
def HJ_:List V->Hp->VK->Prop:=λxs H Q=>∃p ys,xs=[V.ref p]/\(H p=some (.lst ys)\/H p=some (.tup ys))/\∀l,H l=none->Q (.ref l) (upd H l (.lst ys))
theorem b8_:FB_ X (.type "list") HJ_:=by intro pins s σ H xs us Q I r h;obtain⟨p,ys,e,hp,q⟩:=h;show hB_ pins s σ H xs us Q I r ⟨p,ys,e,hp.imp (λz=>.inl (.inl z)) (λz=>.inl (.inl z)),q⟩
theorem b3_{es:List Expr}{t:TA}{p:Pos}{n:String}{r:List V->Hp->VK->Prop}(hc:FB_ X (.type n) r)(hg:Gl X x)(hm:X.mg x=none)(hv:bootBuiltins x=some (.type n))(ha:PA X (e::es) t)(hs:E1_ (e::es)=true:=by rfl) (hn:x ≠ "__name__" := by decide) (hdb:(x == ("__debug__" : Str))=false:=by decide):
  PE X (.Call (.Name x p) (e::es) [] pos) (tCB r t):=
 have h':FD_ e=true/\E1_ es=true:=by simpa[E1_]using hs
 kj_ hc hg hm hv ha hn hdb (az_ h'.1) (bT_ h'.2)
def GA_(B H:Hp):Hp:=λb=>match B b with|some _=>none|none=>H b
def Hd_(B:Hp)(D:Addr)(H:Hp):Hp:=λb=>if b=D then none else GA_ B H b
variable{B:Hp}{b:Addr}
theorem bZ_(h:GA_ B H b=some o):B b=none/\H b=some o:=by
 unfold GA_ at h;cases e:B b with
 |some z=>rw[e]at h;cases h
 |none=>rw[e]at h;show⟨rfl,h⟩
theorem e6_(h:B b=none):GA_ B H b=H b:=by unfold GA_;rw[h]
theorem kq_{D:Addr}(h:Hd_ B D H b=some o):b≠D/\B b=none/\H b=some o:=by
 unfold Hd_ at h;by_cases e:b=D
 .rw[if_pos e]at h;cases h
 .rw[if_neg e]at h;show⟨e,bZ_ h⟩
theorem c8_{D:Addr}(e:b≠D)(h:B b=none):Hd_ B D H b=H b:=by unfold Hd_;rw[if_neg e,e6_ h]
theorem fR_:EL_ (GA_ B H) H:=λb o h=>(bZ_ h).2
theorem jd_{D:Addr}:EL_ (Hd_ B D H) (GA_ B H):=λb o h=>by obtain⟨h1,h2,h3⟩:=kq_ h;rw[e6_ h2];show h3
theorem hJ_{D:Addr}(e:EL_ H H'):EL_ (Hd_ B D H) (Hd_ B D H'):=λb o h=>by obtain⟨h1,h2,h3⟩:=kq_ h;rw[c8_ h1 h2];show e _ _ h3
theorem je_{D:Addr}:Hd_ B D (upd H D o)=Hd_ B D H:=by
 funext b;unfold Hd_ GA_;by_cases e:b=D
 .rw[if_pos e,if_pos e]
 .rw[if_neg e,if_neg e,ae_ e]
theorem ev_{J:It}{g:TG}{te:TE}{σ:St}{H:Hp}{Q:VK}(n:Nat)(B:Hp)(Pσ:St->Prop)(ds:List Dt)(hB:EL_ B H)(h0:Pσ σ)(hlen:ds.length=n)(hz:n<=1000)
  (hgo:∀i H',i<n->EL_ H H'->J.go i H') (hst:∀H',EL_ H H'->J.stop n H')
  (hs:∀D i x d σ' H' H'',H D=none->(∃o,H' D=some o)->EL_ H H'->i<n->ds[i]?=some d->J.yld i H' x H''->Pσ σ'->∀R:St->V->Hp->Prop,
   (∀σ2 v H3,Pσ σ2->EL_ H' H3->Rep (Hd_ B D H3) v d->R σ2 v H3)->g x σ' H'' λσ2 H2=>te σ2 H2 λv H3=>R σ2 v H3)
  (hd:∀D H',H D=none->EL_ H H'->Rep (GA_ B H') (.ref D) (.lst ds)->Q (.ref D) H'):Hh_ J g Ja_ te σ H Q:=by
 intro D hD;have hBD:B D=none:=hB.free hD;show⟨λi m σ' H'=>m=n-i/\i<=n/\Pσ σ'/\EL_ H H'/\∃ys,H' D=some (.lst ys)/\Fk_ (Hd_ B D H') ys (ds.take i)/\ys.length=i,⟨n,s_,AB_ _,h0,EL_.new hD,[],aa_,rfl,rfl⟩,?_⟩;rintro i m σ' H' ⟨rfl,hi,hp,hs',ys,hys,hr,hl⟩;by_cases hlt:i<n
 .show .inr ⟨hgo i H' hlt hs',λσ2 H2=>Pσ σ2/\EL_ H H2/\∃ys,H2 D=some (.lst ys)/\Fk_ (Hd_ B D H2) ys (ds.take (i+1))/\ys.length=i+1,λσ2 H2 ⟨a,b,c⟩=>⟨n-(i+1),o_,rfl,hlt,a,b,c⟩,λx H'' hy=>?_⟩;have hdi:ds[i]?=some ds[i]:=by simp[hlen,hlt]
  simp only[Ja_,if_true];show hs D i x ds[i] σ' H' H'' hD ⟨_,hys⟩ hs' hlt hdi hy hp _ λσ2 v H3 hp2 s3 hv=>?_;show⟨ys,s3 _ _ hys,by rw[hl];show EN_ o_,hp2,(hs'.trans s3).upd hD,ys++[v],aa_,?_,by simp[hl]⟩;rw[je_];have e:ds.take (i+1)=ds.take i++[ds[i]]:=by rw[Bu_,hdi];rfl
  rw[e];show(Fk_.mono (hJ_ s3) _ hr).append ⟨v,[],rfl,hv,rfl⟩
 .have e:i=n:=o_
  subst e;show .inl ⟨hst H' hs',hd D H' hD hs' ⟨D,ys,rfl,?_,?_⟩⟩
  .rw[e6_ hBD];show hys
  .rw[Bl_ o_]at hr;show Fk_.mono jd_ _ hr
theorem Fk_.of_get{xs:List V}{ds:List Dt}{x:V}(h:Fk_ H xs ds)(e:xs[i]?=some x):∃d,ds[i]?=some d/\Rep H x d:=by
 have hi:i<xs.length:=(Ad_.mp e).1;have hi':i<ds.length:=by rw[<-h.length];show hi
 obtain⟨y,hy,hr⟩:=h.get (i:=i) (d:=ds[i]) (by simp[hi']);rw[e]at hy;cases hy;show⟨ds[i],by simp[hi'],hr⟩
theorem by_{X:Cx}{K:PySem.W.Frag}{es:List Expr}{k:Nat}{t:TGs}{n:Nat}{pos:Pos}(hK:X.K=K)(hc:X.calm=true)(h:PGs X es t)
  (hn:(assignEach es X.env).length=n:=by rfl) (hst:(assignEach es X.env).findIdx? (·.1)=none:=by rfl):PG X (.Tuple es k pos) (JT_ K n t):=hK▸nF_ hc h hn hst
def Pl2(h:Heap)(e:Addr):Prop:=∃o vs,h.get? e=some o/\o.data=.fields vs/\vs[2]?=some .none
variable {M:Model}{E:Value->Shared->Prop}{env:Env}{outer:List Env}{L e:Addr}{Q:Unit->Shared->Prop}
variable {N:List Str}{qual:Str}{f:Addr}{cd:Value}{s₀:Shared}{H₀:Hp}{E:XK}
variable {σ:List (Option V)}
def Jd_(i j k:Nat)(ta:TA):TS:=λD σ H=>ta σ H λvs H1=>∃v w y,vs=[v,w,y]/\D.nx (((σ.set i (some v)).set j (some w)).set k (some y)) H1
def Itd(hi:Int)(n:Nat):It:=⟨λi _=>i<n,λi H x H'=>H'=H/\x=.int (hi-i),λi _=>n<=i⟩
def Jv_(ta:TA):TI:=λσ H R=>ta σ H λvs H1=>∃i j:Int,vs=[.int i,.int j,.int (-1)]/\(0<=j/\j<=i/\i<2 ^ 30)/\R (Itd i (i-j).toNat) H1
def JY_:V->Option Int->Option Int->Hp->VK->Prop:=λx lo hi H Q=>∃a xs,x=.ref a/\H a=some (.lst xs)/\∀p,H p=none->Q (.ref p) (upd H p (.lst (Hy_ xs lo hi)))
theorem cm_:SlR X JY_:=by intro pins s σ H x v vl vu lo hi sl Q I rx hs pl pu h;obtain⟨a,xs,e,hx,q⟩:=h;show mZ_ pins s σ H x v vl vu lo hi sl Q I rx hs pl pu ⟨a,xs,e,.inl (.inl hx),q⟩
theorem gW_(xs:List V)(k:Nat)(h:k<=xs.length):Hy_ xs (some (k:Int)) none=xs.drop k:=by unfold Hy_;rw[HT.sIx_nat,HT.sIx_none,DZ_ h];show Bl_ s_
theorem kr_(xs:List V)(k:Nat)(h:k<=xs.length):Hy_ xs none (some (k:Int))=xs.take k:=by unfold Hy_;rw[HT.sIx_nat,HT.sIx_none,DZ_ h];simp
open PySem.W
def noD(D:Addr)(H:Hp):Hp:=λb=>if b=D then none else H b
theorem jf_{D:Addr}(h:b≠D):noD D H b=H b:=if_neg h
theorem ks_{D:Addr}:EL_ (noD D H) H:=λb o e=>by
 unfold noD at e;split at e
 .cases e
 .show e
theorem kt_{D:Addr}:noD D (upd H D o)=noD D H:=by
 funext b;unfold noD;by_cases h:b=D
 .rw[if_pos h,if_pos h]
 .rw[if_neg h,if_neg h,ae_ h]
theorem nT_{D:Addr}(s:EL_ H H')(h:H D=none):EL_ H (noD D H'):=λb o e=>by rw[jf_ (ag_ e h)];show s _ _ e
theorem gX_{D:Addr}(s:EL_ H H'):EL_ (noD D H) (noD D H'):=λb o e=>by
 unfold noD at e⊢;by_cases h:b=D
 .rw[if_pos h]at e;cases e
 .rw[if_neg h]at e⊢;show s _ _ e
theorem fS_{J:It}{g:TG}{tt:TT}{te:TE}{σ:St}{H:Hp}{Q:VK}(n:Nat)(Pσ:St->Prop)(Pv:Nat->List V->Hp->Prop)(h0:Pσ σ)(hz:n<=1000)(p0:Pv 0 [] H)(mono:∀i vs H1 H2,EL_ H1 H2->Pv i vs H1->Pv i vs H2)(len:∀i vs H1,Pv i vs H1->vs.length<=i)
  (hgo:∀i H',i<n->EL_ H H'->J.go i H') (hst:∀H',EL_ H H'->J.stop n H')
  (hs:∀D i x σ' H' H'' vs,H D=none->(∃o,H' D=some o)->EL_ H H'->i<n->J.yld i H' x H''->Pσ σ'->Pv i vs (noD D H')->∀(Y:St->V->Hp->Prop)(R:St->Hp->Prop),(∀v σ2 H3,Pσ σ2->EL_ H' H3->Pv (i+1) (vs++[v]) (noD D H3)->Y σ2 v H3)->(∀σ2 H3,Pσ σ2->EL_ H' H3->Pv (i+1) vs (noD D H3)->R σ2 H3) ->
   g x σ' H'' λσ2 H2=>tt σ2 H2 λb H3=>if b=true then te σ2 H3 λv H4=>Y σ2 v H4 else R σ2 H3)
  (hd:∀D H' vs,H D=none->EL_ H H'->H' D=some (.lst vs)->Pv n vs (noD D H')->Q (.ref D) H'):Hh_ J g tt te σ H Q:=by
 intro D hD;show⟨λi m σ' H'=>m=n-i/\i<=n/\Pσ σ'/\EL_ H H'/\∃vs,H' D=some (.lst vs)/\Pv i vs (noD D H'),⟨n,s_,AB_ _,h0,EL_.new hD,[],aa_,mono _ _ _ _ (by rw[kt_];show nT_ (λ_ _ e=>e) hD) p0⟩,?_⟩;rintro i m σ' H' ⟨rfl,hi,hp,hs',vs,hDD,pv⟩;by_cases hlt:i<n
 .show .inr ⟨hgo i H' hlt hs',λσ2 H2=>Pσ σ2/\EL_ H H2/\∃vs,H2 D=some (.lst vs)/\Pv (i+1) vs (noD D H2),λσ2 H2 ⟨a,b,c⟩=>⟨n-(i+1),o_,rfl,hlt,a,b,c⟩,λx H'' hy=>?_⟩;show hs D i x σ' H' H'' vs hD ⟨_,hDD⟩ hs' hlt hy hp pv _ _ (λv σ2 H3 hp2 s3 pv3=>?_) λσ2 H3 hp2 s3 pv3=>?_
  .show⟨_,s3 _ _ hDD,?_,hp2,(hs'.trans s3).upd hD,_,aa_,by rw[kt_];show pv3⟩;have:=len _ _ _ pv;show EN_ o_
  .show⟨hp2,hs'.trans s3,vs,s3 _ _ hDD,pv3⟩
 .have e:i=n:=o_
  subst e;show .inl ⟨hst H' hs',hd D H' vs hD hs' hDD pv⟩
end L2
namespace RimT
variable {α:Type}[DecidableEq α]
def H9_(p:Nat):Nat->List α->List ((Nat×Nat)×α)
 |_,[]=>[]
 |k,w::l=>((p,k),w)::H9_ p (k+1) l
def Gk_:Nat->List (List α)->List ((Nat×Nat)×α)
 |_,[]=>[]
 |o,l::T=>H9_ o 0 l++Gk_ (o+1) T
abbrev ends(T:List (List α)):=Gk_ 0 T
def wi(T:List (List α))(e:Nat×Nat):Option α:=(T.getD e.1 [])[e.2]?
theorem fz_{p:Nat}{e:Nat×Nat}{w:α}:∀{l:List α}{k:Nat},(e,w)∈H9_ p k l↔e.1=p/\k<=e.2/\l[e.2-k]?=some w
 |[],k=>by simp[H9_]
 |a::l,k=>by
  rw[H9_,As_,fz_];constructor
  .rintro(h|⟨h1,h2,h3⟩)
   .cases h;simp
   .show⟨h1,o_,?_⟩;rw[show e.2-k=(e.2-(k+1))+1 by lia,BS_];show h3
  .rintro⟨h1,h2,h3⟩;by_cases z:e.2=k
   .left;rw[z,C7_,List.getElem?_cons_zero]at h3;cases h3;show BD_ (BD_ h1 z) rfl
   .right;show⟨h1,o_,?_⟩;rw[show e.2-k=(e.2-(k+1))+1 by lia,BS_]at h3;show h3
theorem fT_{e:Nat×Nat}{w:α}:∀{T:List (List α)}{o:Nat},(e,w)∈Gk_ o T↔o<=e.1/\(T.getD (e.1-o) [])[e.2]?=some w
 |[],o=>by simp[Gk_]
 |l::T,o=>by
  rw[Gk_,Ap_,fz_,fT_];constructor
  .rintro(⟨h1,h2,h3⟩|⟨h1,h2⟩)
   .show⟨o_,?_⟩;rw[h1,C7_];show h3
   .show⟨o_,?_⟩;rw[show e.1-o=(e.1-(o+1))+1 by lia];show h2
  .rintro⟨h1,h2⟩;by_cases z:e.1=o
   .left;rw[z,C7_]at h2;show⟨z,o_,h2⟩
   .right;show⟨o_,?_⟩;rw[show e.1-o=(e.1-(o+1))+1 by lia]at h2;show h2
variable{e:Nat×Nat}
theorem gY_{T:List (List α)}{w:α}:(e,w)∈ends T↔wi T e=some w:=by unfold ends;rw[fT_];simp[wi]
theorem jg_(p:Nat):∀(l:List α)(k:Nat),(H9_ p k l).map (·.2)=l
 |[],_=>rfl
 |a::l,k=>by rw[H9_,Aw_,jg_ p l]
theorem fU_:∀(T:List (List α))(o:Nat),(Gk_ o T).map (·.2)=T.flatten
 |[],_=>rfl
 |l::T,o=>by rw[Gk_,Aq_,jg_,fU_ T,AJ_]
theorem gD_(p:Nat):∀(l:List α)(k:Nat),((H9_ p k l).map (·.1)).Nodup
 |[],_=>AY_
 |a::l,k=>by
  rw[H9_,Aw_,AG_];show⟨λh=>?_,gD_ p l (k+1)⟩;obtain⟨⟨e,w⟩,he,q⟩:=An_.mp h;have:=(fz_.mp he).2.1
  dsimp only at q
  rw[q]at this
  dsimp only at this
  lia
theorem fV_:∀(T:List (List α))(o:Nat),((Gk_ o T).map (·.1)).Nodup
 |[],_=>AY_
 |l::T,o=>by
  rw[Gk_,Aq_,AS_];show⟨gD_ o l 0,fV_ T (o+1),λa ha b hb e=>?_⟩;subst e;obtain⟨⟨e,w⟩,he,q⟩:=An_.mp ha;obtain⟨⟨e',w'⟩,he',q'⟩:=An_.mp hb;have h1:=(fz_.mp he).1;have h2:=(fT_.mp he').1
  dsimp only at q q'
  rw[q]at h1;rw[q']at h2;lia
theorem fq_(w:α):∀l:List ((Nat×Nat)×α),(l.map (·.2)).count w=(l.filter λx=>decide (x.2=w)).length
 |[]=>rfl
 |a::l=>by
  rw[Aw_,C8_,fq_ w l,List.filter_cons];by_cases h:a.2=w
  .simp[h]
  .simp[h]
theorem gZ_{T:List (List α)}{w:α}(h:T.flatten.count w=2):∃a b,(ends T).filter (λx=>decide (x.2=w))=[(a,w),(b,w)]/\a≠b/\∀e,wi T e=some w↔e=a\/e=b:=by
 have hl:((ends T).filter λx=>decide (x.2=w)).length=2:=by rw[<-fq_,fU_];show h
 have nd:(((ends T).filter λx=>decide (x.2=w)).map (·.1)).Nodup:=(fV_ T 0).sublist (List.Sublist.map _ EB_)
 have mem:∀x,x∈(ends T).filter (λx=>decide (x.2=w))↔wi T x.1=some w/\x.2=w:=λx=>by
  rw[Bd_,decide_eq_true_eq];constructor
  .rintro⟨h1,h2⟩;show⟨?_,h2⟩;rw[<-gY_,<-h2];show h1
  .rintro⟨h1,h2⟩;show⟨?_,h2⟩;rw[<-gY_,<-h2]at h1;show h1
 generalize(ends T).filter (λx=>decide (x.2=w))=f at hl nd mem
 match f,hl with
 |[a,b],_ =>
  have ha:=(mem a).mp s_;have hb:=(mem b).mp s_;show⟨a.1,b.1,?_,?_,λe=>⟨λhe=>?_,?_⟩⟩
  .rw[show(a.1,w)=a from BD_ rfl ha.2.symm,show(b.1,w)=b from BD_ rfl hb.2.symm]
  .simp at nd;show nd
  .have:=(mem (e,w)).mpr ⟨he,rfl⟩
   rcases As_.mp this with z|z
   .show .inl (by rw[<-z])
   .show .inr (by rw[<-Ak_.mp z])
  .rintro(rfl|rfl)
   .show ha.1
   .show hb.1
def Tw(T:List (List α)):Prop:=∀w,w∈T.flatten->T.flatten.count w=2
theorem hK_{T:List (List α)}{w:α}(h:wi T e=some w):w∈T.flatten:=by rw[<-fU_ T 0];show An_.mpr ⟨_,gY_.mpr h,rfl⟩
def Gf_(T:List (List α))(a b:Nat×Nat):Prop:=a≠b/\∃w,wi T a=some w/\wi T b=some w
theorem Gf_.symm{T:List (List α)}{a b:Nat×Nat}(h:Gf_ T a b):Gf_ T b a:=⟨λe=>h.1 e.symm,h.2.elim λw q=>⟨w,q.2,q.1⟩⟩
theorem m2_{T:List (List α)}(h:Tw T){a:Nat×Nat}{w:α}(ha:wi T a=some w):∃b,Gf_ T a b:=by
 obtain⟨x,y,_,ne,all⟩:=gZ_ (h w (hK_ ha))
 rcases(all a).mp ha with e|e
 .show⟨y,e▸ne,w,ha,(all y).mpr (.inr rfl)⟩
 .show⟨x,λz=>ne (by rw[<-z,e]),w,ha,(all x).mpr (.inl rfl)⟩
theorem g0_{T:List (List α)}(h:Tw T){a b c:Nat×Nat}(hb:Gf_ T a b)(hc:Gf_ T a c):b=c:=by
 obtain⟨n1,w,a1,b1⟩:=hb;obtain⟨n2,w',a2,c2⟩:=hc;rw[a1]at a2;cases a2;obtain⟨x,y,_,ne,all⟩:=gZ_ (h w (hK_ a1))
 rcases(all a).mp a1 with e|e <;> rcases(all b).mp b1 with e1|e1 <;> rcases(all c).mp c2 with e2|e2 <;> subst e <;> subst e1 <;> subst e2 <;> first|rfl|show absurd rfl n1|show absurd rfl n2
def rl(T:List (List α))(p:Nat):Nat:=(T.getD p []).length
def IsC(T:List (List α))(P:Nat)(c:Nat×Nat):Prop:=c.1<T.length/\c.2<rl T c.1+(if c.1<P then 1 else 0)
theorem d7_{T:List (List α)}(h:e.2<rl T e.1):∃w,wi T e=some w:=⟨_,Aa_ h⟩
theorem Fo_{T:List (List α)}{w:α}(h:wi T e=some w):e.2<rl T e.1/\e.1<T.length:=by
 have h1:e.2<rl T e.1:=(Ad_.mp h).1;show⟨h1,?_⟩
 rcases Nat.lt_or_ge e.1 T.length with z|z
 .show z
 .unfold rl at h1;rw[Ag_,Bx_ z]at h1;simp at h1
def nx(T:List (List α))(P:Nat)(c m:Nat×Nat):Nat×Nat :=
 if c.2=rl T c.1 then((c.1+P-1)%P,0)else if m.1<P then(m.1,m.2+1)else(m.1,(m.2+1)%rl T m.1)
def corners(T:List (List α))(P:Nat):List (Nat×Nat):=(List.range T.length).flatMap λp=>(List.range (rl T p+(if p<P then 1 else 0))).map λk=>(p,k)
theorem d8_{T:List (List α)}{P:Nat}{c:Nat×Nat}:c∈corners T P↔IsC T P c:=by
 unfold corners IsC;rw[List.mem_flatMap];constructor
 .rintro⟨p,hp,hc⟩;obtain⟨k,hk,rfl⟩:=An_.mp hc;show⟨AU_.mp hp,AU_.mp hk⟩
 .rintro⟨h1,h2⟩;show⟨c.1,AU_.mpr h1,An_.mpr ⟨c.2,AU_.mpr h2,rfl⟩⟩
theorem b9_{β:Type}[DecidableEq β]:∀{l m:List β},l.Nodup->(∀x∈l,x∈m)->l.length<=m.length
 |[],_,_,_=>AB_ _
 |a::l,m,nd,h=>by
  rw[AG_]at nd
  have:=b9_ (l:=l) (m:=m.erase a) nd.2 λx hx=>by
   have hne:x≠a:=λe=>by subst e;show nd.1 hx
   show(List.mem_erase_of_ne hne).mpr (h x (Am_ _ hx))
  have ha:=h a Au_;rw[List.length_erase_of_mem ha]at this;have:0<m.length:=List.length_pos_of_mem ha;simp only[A1_];lia
theorem fW_{T:List (List α)}{P:Nat}:(corners T P).length<=T.flatten.length+P:=by
 have key:∀n,n<=T.length->((List.range n).flatMap λp=>(List.range (rl T p+(if p<P then 1 else 0))).map λk=>(p,k)).length<=(T.take n).flatten.length+min n P:=λn=>by
  induction n with
  |zero=>intro _;simp
  |succ n ih =>
   intro h;have i:=ih o_;have e:T[n]?=some T[n]:=Aa_ o_;rw[D0_,List.flatMap_append,Af_,Bu_,e,AX_,Af_];have r:rl T n=T[n].length:=by unfold rl;rw[Ag_,e];rfl
   simp only[List.flatMap_cons,List.flatMap_nil,Bp_,Ab_,B4_,Option.toList_some,AJ_,List.flatten_nil,r];split <;> lia
 have:=key T.length (Aj_ _);rw[DK_]at this;unfold corners;lia
variable {S:Type}[DecidableEq S]
structure Net(S:Type) where
 posts:List S
 rows:List (S×List S)
 worths:List (S×(Int×Int))
def Net.all(N:Net S):List S:=(N.rows.map (·.2)).flatten
structure E0_(N:Net S):Prop where
 nd:(N.rows.map (·.1)).Nodup
 two:∀x∈N.all,N.all.count x=2
 few:N.rows.length<=22
 tot:N.all.length<=30
 pl:N.posts.length<=6
 wl:N.worths.length<=15
theorem dw_{α:Type}{l m:List (List α)}(h:l.Perm m):l.flatten.Perm m.flatten:=by
 induction h with
 |nil=>show .nil
 |cons x _ ih=>rw[AJ_,AJ_];show ih.append_left x
 |swap x y l=>rw[AJ_,AJ_,AJ_,AJ_,<-A4_,<-A4_];show List.perm_append_comm.append_right _
 |trans _ _ h1 h2=>show h1.trans h2
theorem gE_{α:Type}(d:α)(l:List α):(List.range l.length).map (λi=>l.getD i d)=l:=by
 apply CB_
 .simp
 .intro i h1 h2;simp[h2]
abbrev End(S:Type):=S×Nat
def Gw_:List (S×List (End S))->S->End S->List (S×List (End S))
 |[],w,e=>[(w,[e])]
 | (k,es)::r,w,e=>if k=w then(k,es++[e])::r else(k,es)::Gw_ r w e
theorem fX_{w:S}{e:End S}:∀{a:List (S×List (End S))},(∀kv∈a,kv.1≠w)->Gw_ a w e=a++[(w,[e])]
 |[],_=>rfl
 | (k,es)::r,h=>by have:k≠w:=h (k,es) Au_;rw[Gw_,if_neg this,fX_ λkv hkv=>h kv (Am_ _ hkv)];rfl
theorem cP_{w:S}{e:End S}:∀{a:List (S×List (End S))},(∃kv∈a,kv.1=w)->∃i es,a[i]?=some (w,es)/\(∀j kv,j<i->a[j]?=some kv->kv.1≠w)/\Gw_ a w e=a.set i (w,es++[e])
 |[],h=>by obtain⟨kv,hkv,_⟩:=h;cases hkv
 | (k,es)::r,h=>by
  by_cases hk:k=w
  .subst hk;show⟨0,es,rfl,λj kv hj=>absurd hj o_,by rw[Gw_,if_pos rfl];rfl⟩
  .obtain⟨i,es',h1,h2,h3⟩:=cP_ (w:=w) (e:=e) (a:=r) (by
    obtain⟨kv,hkv,hw⟩:=h
    rcases As_.mp hkv with rfl|hkv
    .show absurd hw hk
    .show⟨kv,hkv,hw⟩)
   show⟨i+1,es',h1,λj kv hj hkv=>?_,by rw[Gw_,if_neg hk,h3];rfl⟩;cases j with
   |zero=>cases hkv;show hk
   |succ j=>show h2 j kv o_ hkv
def Fi_(p:S):Nat->List S->List (S×End S)
 |_,[]=>[]
 |k,w::ws=>(w,(p,k))::Fi_ p (k+1) ws
def occ(rows:List (S×List S)):List (S×End S):=(rows.map λr=>Fi_ r.1 0 r.2).flatten
def E4_(l:List (S×End S)):List (S×List (End S)):=l.foldl (λa x=>Gw_ a x.1 x.2) []
theorem cQ_(l:List (S×End S))(x:S×End S):E4_ (l++[x])=Gw_ (E4_ l) x.1 x.2:=by unfold E4_;rw[List.foldl_append];rfl
theorem g1_{w:S}{e:End S}{kv:S×List (End S)}:∀{a:List (S×List (End S))},kv∈Gw_ a w e->(kv.1=w/\((∃es,(w,es)∈a/\kv.2=es++[e])\/((∀x∈a,x.1≠w)/\kv.2=[e])))\/kv∈a
 |[],h=>by
  have:=Ak_.mp h;subst this;show .inl ⟨rfl,.inr ⟨λx hx=>(by cases hx),rfl⟩⟩
 | (k,es)::r,h=>by
  by_cases hk:k=w
  .subst hk;rw[Gw_,if_pos rfl]at h
   rcases As_.mp h with h|h
   .subst h;show .inl ⟨rfl,.inl ⟨es,Au_,rfl⟩⟩
   .show .inr (Am_ _ h)
  .rw[Gw_,if_neg hk]at h
   rcases As_.mp h with h|h
   .subst h;show .inr Au_
   .rcases g1_ h with⟨e1,e2⟩|h
    .show .inl ⟨e1,?_⟩
     rcases e2 with⟨es',h1,h2⟩|⟨h1,h2⟩
     .show .inl ⟨es',Am_ _ h1,h2⟩
     .show .inr ⟨λx hx=>?_,h2⟩
      rcases As_.mp hx with rfl|hx
      .show hk
      .show h1 x hx
    .show .inr (Am_ _ h)
theorem cR_{w:S}{e:End S}:∀{a:List (S×List (End S))},(Gw_ a w e).map (·.1)=if(∃kv∈a,kv.1=w)then a.map (·.1)else a.map (·.1)++[w]
 |[]=>by simp[Gw_]
 | (k,es)::r=>by
  by_cases hk:k=w
  .subst hk;rw[Gw_,if_pos rfl,if_pos ⟨(k,es),Au_,rfl⟩];rfl
  .rw[Gw_,if_neg hk,Aw_,cR_ (a:=r)];by_cases hr:∃kv∈r,kv.1=w
   .rw[if_pos hr,if_pos (by obtain⟨kv,h1,h2⟩:=hr;show⟨kv,Am_ _ h1,h2⟩)];rfl
   .rw[if_neg hr,if_neg (λ⟨kv,h1,h2⟩=>by
     rcases As_.mp h1 with rfl|h1
     .show hk h2
     .show hr ⟨kv,h1,h2⟩)]
    rfl
theorem a3_:∀(n:Nat)(l:List (S×End S)),l.length=n->((E4_ l).map (·.1)).Nodup/\(∀kv∈E4_ l,kv.2=(l.filter λx=>decide (x.1=kv.1)).map (·.2))/\(∀x∈l,∃kv∈E4_ l,kv.1=x.1)/\(∀kv∈E4_ l,∃x∈l,x.1=kv.1)
 |0,l,h=>by
  have:=Bb_ h;subst this;show⟨AY_,λkv hkv=>(by cases hkv),λx hx=>(by cases hx),λkv hkv=>(by cases hkv)⟩
 |n+1,l,h=>by
  obtain⟨m,x,rfl⟩:∃m x,l=m++[x]:=by show⟨l.dropLast,l.getLast (λe=>by rw[e]at h;cases h),(Cw_ _).symm⟩
  have hm:m.length=n:=by simpa using h
  obtain⟨h1,h2,h3,h4⟩:=a3_ n m hm;rw[cQ_]
  have fe:∀w,((m++[x]).filter λy=>decide (y.1=w))=(m.filter λy=>decide (y.1=w))++(if x.1=w then[x]else[]):=λw=>by
   rw[CI_];by_cases e:x.1=w
   .simp[e]
   .simp[e]
  show⟨?_,λkv hkv=>?_,λy hy=>?_,λkv hkv=>?_⟩
  .rw[cR_];by_cases hc:∃kv∈E4_ m,kv.1=x.1
   .rw[if_pos hc];show h1
   .rw[if_neg hc];show AS_.mpr ⟨h1,s_,λa ha b hb e=>?_⟩;obtain⟨kv,hkv,rfl⟩:=An_.mp ha;show hc ⟨kv,hkv,by rw[e];show Ak_.mp hb⟩
  .rw[fe,Aq_]
   rcases g1_ hkv with⟨e1,e2⟩|hkv'
   .rw[e1,if_pos rfl]
    rcases e2 with⟨es,h5,h6⟩|⟨h5,h6⟩
    .rw[h6];have:=h2 _ h5;simp only at this;rw[this];rfl
    .rw[h6];have:(m.filter λy=>decide (y.1=x.1))=[]:=by show List.filter_eq_nil_iff.mpr λy hy z=>?_;obtain⟨kv2,h7,h8⟩:=h3 y hy;show h5 kv2 h7 (h8.trans (A6_ z))
     rw[this];rfl
   .by_cases e:x.1=kv.1
    .
     exfalso;obtain⟨i,es,g1,g2,g3⟩:=cP_ (w:=x.1) (e:=x.2) (a:=E4_ m) ⟨kv,hkv',e.symm⟩;rw[g3]at hkv;obtain⟨j,hj,ej⟩:=Ax_.mp hkv;rw[Cj_]at hj;have hji:(E4_ m)[j]?=some ((E4_ m)[j]):=Aa_ hj;have hi:i<(E4_ m).length:=(Ad_.mp g1).1;by_cases hij:i=j
     .subst hij;rw[Ei_]at ej;have e9:kv.2=es++[x.2]:=by rw[<-ej]
      obtain⟨j2,hj2,ej2⟩:=Ax_.mp hkv';have k1:((E4_ m).map (·.1))[j2]?=((E4_ m).map (·.1))[i]?:=by rw[Ae_,Ae_,Aa_ hj2,ej2,g1];change some kv.1=some x.1;rw[e]
      have:=(AQ_ (by rw[Ab_];show hj2) h1).mp k1;subst this;rw[Aa_ hj2,ej2]at g1;have e10:=congrArg Prod.snd (Ar_ g1);rw[e9]at e10;have:=congrArg List.length e10;simp at this
     .rw[Df_ hij]at ej;have k1:((E4_ m).map (·.1))[j]?=((E4_ m).map (·.1))[i]?:=by rw[Ae_,Ae_,hji,ej,g1];change some kv.1=some x.1;rw[e]
      show hij ((AQ_ (by rw[Ab_];show hj) h1).mp k1).symm
    .rw[if_neg e];rw[h2 kv hkv'];simp
  .by_cases hc:∃kv∈E4_ m,kv.1=y.1
   .have hk:y.1∈(Gw_ (E4_ m) x.1 x.2).map (·.1):=by
     rw[cR_];obtain⟨kv,g1,g2⟩:=hc;have:y.1∈(E4_ m).map (·.1):=An_.mpr ⟨kv,g1,g2⟩;split
     .show this
     .show AN_ _ this
    obtain⟨kv,g1,g2⟩:=An_.mp hk;show⟨kv,g1,g2⟩
   .rcases Ap_.mp hy with hy|hy
    .show absurd (h3 y hy) hc
    .have e:=Ak_.mp hy;subst e;have hk:y.1∈(Gw_ (E4_ m) y.1 y.2).map (·.1):=by rw[cR_,if_neg hc];show AO_ _ (Ak_.mpr rfl)
     obtain⟨kv,g1,g2⟩:=An_.mp hk;show⟨kv,g1,g2⟩
  .rcases g1_ hkv with⟨e1,_⟩|hkv'
   .show⟨x,AO_ _ (Ak_.mpr rfl),e1.symm⟩
   .obtain⟨y,g1,g2⟩:=h4 kv hkv';show⟨y,AN_ _ g1,g2⟩
theorem e7_(p:S):∀(ws:List S)(k:Nat),(Fi_ p k ws).map (·.1)=ws
 |[],_=>rfl
 |w::ws,k=>by rw[Fi_,Aw_,e7_ p ws (k+1)]
theorem g2_(rows:List (S×List S)):(occ rows).map (·.1)=(rows.map (·.2)).flatten:=by unfold occ;rw[List.map_flatten,AP_];congr 1;show A0_ λr _=>e7_ r.1 r.2 0
theorem dK_{p:S}{x:S×End S}:∀{ws:List S}{k:Nat},x∈Fi_ p k ws->x.2.1=p/\k<=x.2.2
 |[],_,h=>by cases h
 |w::ws,k,h=>by
  rcases As_.mp h with rfl|h
  .show⟨rfl,Aj_ _⟩
  .have:=dK_ h;show⟨this.1,o_⟩
theorem hL_(p:S):∀(ws:List S)(k:Nat),((Fi_ p k ws).map (·.2)).Nodup
 |[],_=>AY_
 |w::ws,k=>by rw[Fi_,Aw_];show AG_.mpr ⟨λh=>?_,hL_ p ws (k+1)⟩;obtain⟨x,h1,h2⟩:=An_.mp h;have:=(dK_ h1).2;rw[h2]at this;simp only at this;lia
theorem ku_:∀{rows:List (S×List S)},(rows.map (·.1)).Nodup->((occ rows).map (·.2)).Nodup
 |[],_=>AY_
 |r::rows,h=>by have h':=AG_.mp h;have e:occ (r::rows)=Fi_ r.1 0 r.2++occ rows:=rfl;rw[e,Aq_];show AS_.mpr ⟨hL_ _ _ _,ku_ h'.2,λa ha b hb z=>?_⟩;obtain⟨x,x1,x2⟩:=An_.mp ha;obtain⟨y,y1,y2⟩:=An_.mp hb;have ex:=(dK_ x1).1;obtain⟨l,l1,l2⟩:=Bm_.mp y1;obtain⟨r2,r3,rfl⟩:=An_.mp l1;have ey:=(dK_ l2).1;show h'.1 (An_.mpr ⟨r2,r3,?_⟩);change r2.1=r.1;rw[<-ey,<-ex,x2,y2,z]
def Fq_(N:Net S):List (S×List (End S)):=E4_ (occ N.rows)
theorem m3_(N:Net S):((Fq_ N).map (·.1)).Nodup:=(a3_ _ _ rfl).1
theorem gF_(w:S):∀l:List (S×End S),((l.filter λx=>decide (x.1=w)).map (·.2)).length=(l.map (·.1)).count w
 |[]=>rfl
 |x::l=>by
  have ih:=gF_ w l;rw[Aw_,C8_,<-ih];by_cases e:x.1=w
  .simp[e]
  .simp[e]
theorem g3_{N:Net S}(ok:E0_ N){kv:S×List (End S)}(h:kv∈Fq_ N):∃a b,kv.2=[a,b]:=by
 obtain⟨_,h2,_,h4⟩:=a3_ _ (occ N.rows) rfl;have hl:kv.2.length=2:=by rw[h2 kv h,gF_,g2_];obtain⟨x,x1,x2⟩:=h4 kv h;show ok.two kv.1 ?_;change kv.1∈(N.rows.map (·.2)).flatten;rw[<-g2_,<-x2];show An_.mpr ⟨x,x1,rfl⟩
 match hk:kv.2,hl with
 |[a,b],_=>show⟨a,b,rfl⟩
theorem kv_{N:Net S}{kv:S×List (End S)}(h:kv∈Fq_ N){a:End S}(ha:a∈kv.2):(kv.1,a)∈occ N.rows:=by obtain⟨_,h2,_,_⟩:=a3_ _ (occ N.rows) rfl;rw[h2 kv h]at ha;obtain⟨x,x1,rfl⟩:=An_.mp ha;obtain⟨x2,x3⟩:=Bd_.mp x1;have e:x.1=kv.1:=A6_ x3;rw[<-e];show x2
theorem m4_{l:List (S×End S)}(h:(l.map (·.2)).Nodup){x y:S×End S}(hx:x∈l)(hy:y∈l)(e:x.2=y.2):x=y:=by obtain⟨i,hi,rfl⟩:=Ax_.mp hx;obtain⟨j,hj,rfl⟩:=Ax_.mp hy;have:=(AQ_ (l:=l.map (·.2)) (i:=i) (j:=j) (by rw[Ab_];show hi) h).mp (by rw[Ae_,Ae_,Aa_ hi,Aa_ hj];show congrArg some e);subst this;rfl
theorem jJ_{N:Net S}(ok:E0_ N){k1 k2:S×List (End S)}(h1:k1∈Fq_ N)(h2:k2∈Fq_ N){a:End S}(a1:a∈k1.2)(a2:a∈k2.2):k1.1=k2.1 :=
 (D8_ (m4_ (ku_ ok.nd) (kv_ h1 a1) (kv_ h2 a2) rfl)).1
theorem kw_{N:Net S}(ok:E0_ N){kv:S×List (End S)}(h:kv∈Fq_ N){a b:End S}(e:kv.2=[a,b]):a≠b:=by
 obtain⟨_,h2,_,_⟩:=a3_ _ (occ N.rows) rfl;have nd:kv.2.Nodup:=by rw[h2 kv h];have:=ku_ ok.nd;unfold List.Nodup at this⊢;rw[BQ_]at this⊢;show this.filter _
 rw[e]at nd;intro z;subst z;simp at nd
theorem fY_{α:Type}:∀{a b:List α},a.Nodup->b.Nodup->(∀x,x∈a↔x∈b)->a.Perm b
 |[],b,_,_,h=>by
  have:b=[]:=List.eq_nil_iff_forall_not_mem.mpr λx hx=>absurd ((h x).mpr hx) AR_;rw[this]
 |x::a,b,na,nb,h=>by
  obtain⟨s,t,rfl⟩:=List.append_of_mem ((h x).mp Au_);obtain⟨n1,n2⟩:=AG_.mp na;have p:(x::(s++t)).Perm (s++x::t):=List.perm_middle.symm;obtain⟨m1,m2⟩:=AG_.mp (p.nodup_iff.mpr nb);show(List.Perm.cons x (fY_ n2 m2 λy=>?_)).trans p;have hy:=h y;rw[<-p.mem_iff,As_,As_]at hy;constructor
  .intro hm;show(hy.mp (.inr hm)).resolve_left λz=>n1 (z▸hm)
  .intro hm;show(hy.mpr (.inr hm)).resolve_left λz=>m1 (z▸hm)
section
structure ES_(N:Net S):Prop where
 pnd:N.posts.Nodup
 pin:∀p∈N.posts,p∈N.rows.map (·.1)
 p0:0<N.posts.length
def pts(N:Net S):List S:=N.posts++(N.rows.map (·.1)).filter λx=>decide (x∉N.posts)
def F6_(N:Net S)(x:S):List S:=((N.rows.find? λr=>decide (r.1=x)).map (·.2)).getD []
def trn(N:Net S):List (List S):=(pts N).map (F6_ N)
theorem jh_{N:Net S}(ok:E0_ N)(po:ES_ N):(pts N).Nodup :=
 AS_.mpr ⟨po.pnd,ok.nd.filter _,λa ha b hb e=>by have:=(Bd_.mp hb).2;rw[CJ_]at this;show this (e▸ha)⟩
theorem c9_{N:Net S}(po:ES_ N){x:S}:x∈pts N↔x∈N.rows.map (·.1):=by
 unfold pts;rw[Ap_,Bd_,CJ_];constructor
 .rintro(h|h)
  .show po.pin x h
  .show h.1
 .intro h;by_cases hp:x∈N.posts
  .show .inl hp
  .show .inr ⟨h,hp⟩
theorem fA_{N:Net S}(ok:E0_ N)(po:ES_ N):(pts N).Perm (N.rows.map (·.1)):=fY_ (jh_ ok po) ok.nd λx=>c9_ po
theorem m5_{N:Net S}(ok:E0_ N)(po:ES_ N):(pts N).length=N.rows.length:=by rw[(fA_ ok po).length_eq,Ab_]
theorem kx_{x:S}{l:List S}:∀{rows:List (S×List S)},(rows.map (·.1)).Nodup->(x,l)∈rows->(rows.find? λr=>decide (r.1=x))=some (x,l)
 |[],_,h=>nomatch h
 |r::rows,nd,h=>by
  obtain⟨n1,n2⟩:=AG_.mp nd
  rcases As_.mp h with e|h
  .subst e;rw[List.find?_cons_of_pos s_]
  .rw[List.find?_cons_of_neg (by simp only[decide_eq_true_eq];show λz=>n1 (An_.mpr ⟨_,h,z.symm⟩))];show kx_ n2 h
theorem b4_{N:Net S}(ok:E0_ N){r:S×List S}(h:r∈N.rows):F6_ N r.1=r.2:=by unfold F6_;rw[kx_ ok.nd (l:=r.2) h];rfl
theorem bp_(N:Net S):(trn N).length=(pts N).length:=by unfold trn;rw[Ab_]
theorem fr_{N:Net S}(ok:E0_ N)(po:ES_ N):Tw (trn N):=by
 have e:(trn N).flatten.Perm N.all:=by
  unfold trn Net.all;have h1:((N.rows.map (·.1)).map (F6_ N))=N.rows.map (·.2):=by rw[AP_];show A0_ λr hr=>b4_ ok hr
  rw[<-h1];show dw_ ((fA_ ok po).map _)
 intro w hw;rw[e.count_eq];show ok.two w (e.mem_iff.mp hw)
variable (d0:S)
def phi(N:Net S)(c:Nat×Nat):End S:=((pts N).getD c.1 d0,c.2)
def pid(N:Net S)(x:S):Nat:=(pts N).idxOf x
variable {d0}
theorem fZ_{N:Net S}(ok:E0_ N)(po:ES_ N){a b:Nat×Nat}(ha:a.1<(pts N).length)(hb:b.1<(pts N).length)(h:phi d0 N a=phi d0 N b):a=b:=by have h1:(pts N).getD a.1 d0=(pts N).getD b.1 d0:=congrArg Prod.fst h;have h2:a.2=b.2:=congrArg (λe:End S=>e.2) h;rw[Ag_,Ag_,Aa_ ha,Aa_ hb]at h1;have:=(AQ_ (i:=a.1) (j:=b.1) ha (jh_ ok po)).mp (by rw[Aa_ ha,Aa_ hb];show congrArg some h1);show BD_ this h2
theorem ji_{N:Net S}{x:S}(h:x∈pts N):pid N x<(pts N).length:=List.idxOf_lt_length_of_mem h
theorem fs_{N:Net S}{x:S}(h:x∈pts N):(pts N)[pid N x]?=some x:=by rw[Aa_ (ji_ h)];show congrArg some (List.getElem_idxOf (ji_ h))
theorem ky_{N:Net S}{x:S}(h:x∈pts N)(k:Nat):phi d0 N (pid N x,k)=(x,k):=by unfold phi;rw[Ag_,fs_ h];rfl
theorem nU_{N:Net S}(ok:E0_ N)(po:ES_ N){p:Nat}{x:S}(h:(pts N)[p]?=some x):pid N x=p:=by have hp:=(Ad_.mp h).1;have hm:=Ai_ h;show(AQ_ (ji_ hm) (jh_ ok po)).mp (by rw[fs_ hm,h])
theorem ew_{N:Net S}(ok:E0_ N)(po:ES_ N){p:Nat}{x:S}(h:(pts N)[p]?=some x):x∈N.posts↔p<N.posts.length:=by
 constructor
 .intro hx;obtain⟨j,hj,ej⟩:=Ax_.mp hx;have e:(pts N)[j]?=some x:=by unfold pts;rw[Ao_ hj,Aa_ hj,ej]
  have:=(AQ_ (Ad_.mp h).1 (jh_ ok po)).mp (h.trans e.symm);lia
 .intro hp;unfold pts at h;rw[Ao_ hp]at h;show Ai_ h
theorem e8_{N:Net S}{p:Nat}{x:S}(h:(pts N)[p]?=some x):(trn N).getD p []=F6_ N x:=by unfold trn;rw[Ag_,Ae_,h];rfl
theorem kz_{x:S×End S}:∀{rows:List (S×List S)},x∈occ rows↔∃r∈rows,r.1=x.2.1/\r.2[x.2.2]?=some x.1:=by
 intro rows
 have row:∀(p:S)(ws:List S)(k:Nat),x∈Fi_ p k ws↔p=x.2.1/\k<=x.2.2/\ws[x.2.2-k]?=some x.1:=by
  intro p ws
  induction ws with
  |nil=>intro k;simp[Fi_]
  |cons w ws ih =>
   intro k;rw[Fi_,As_,ih];constructor
   .rintro(e|⟨e1,e2,e3⟩)
    .subst e;show⟨rfl,Aj_ _,s_⟩
    .show⟨e1,o_,?_⟩;rw[show x.2.2-k=(x.2.2-(k+1))+1 by lia];show e3
   .rintro⟨e1,e2,e3⟩;by_cases h:x.2.2=k
    .left;rw[h,C7_]at e3;have:w=x.1:=Ar_ e3;show BD_ this.symm (BD_ e1.symm h)
    .right;show⟨e1,o_,?_⟩;rw[show x.2.2-k=(x.2.2-(k+1))+1 by lia]at e3;show e3
 unfold occ;rw[Bm_];constructor
 .rintro⟨l,hl,hx⟩;obtain⟨r,hr,rfl⟩:=An_.mp hl;obtain⟨e1,_,e3⟩:=(row _ _ _).mp hx;show⟨r,hr,e1,e3⟩
 .rintro⟨r,hr,e1,e2⟩;show⟨_,An_.mpr ⟨r,hr,rfl⟩,(row _ _ _).mpr ⟨e1,AB_ _,e2⟩⟩
theorem mE_{N:Net S}(ok:E0_ N)(po:ES_ N){c:Nat×Nat}{w:S}(h:wi (trn N) c=some w):(w,phi d0 N c)∈occ N.rows:=by
 obtain⟨h1,h2⟩:=Fo_ h;rw[bp_]at h2;have hx:(pts N)[c.1]?=some (pts N)[c.1]:=Aa_ h2;obtain⟨r,hr,er⟩:=An_.mp ((c9_ po).mp (Bn_ h2));have e:(trn N).getD c.1 []=r.2:=by rw[e8_ hx,<-er,b4_ ok hr]
 show kz_.mpr ⟨r,hr,?_,?_⟩
 .change r.1=(pts N).getD c.1 d0;rw[Ag_,hx,er];rfl
 .unfold wi at h;rw[e]at h;show h
theorem kA_{N:Net S}(ok:E0_ N)(po:ES_ N){a b:Nat×Nat}(m:Gf_ (trn N) a b):∃kv∈Fq_ N,kv.2=[phi d0 N a,phi d0 N b]\/kv.2=[phi d0 N b,phi d0 N a]:=by
 obtain⟨ne,w,wa,wb⟩:=m;have ha:=mE_ (d0:=d0) ok po wa;have hb:=mE_ (d0:=d0) ok po wb;obtain⟨_,h2,h3,_⟩:=a3_ _ (occ N.rows) rfl;obtain⟨kv,hkv,ekv⟩:=h3 _ ha;have ekv':kv.1=w:=ekv;have ma:phi d0 N a∈kv.2:=by rw[h2 kv hkv];show An_.mpr ⟨_,Bd_.mpr ⟨ha,by simp[ekv']⟩,rfl⟩
 have mb:phi d0 N b∈kv.2:=by rw[h2 kv hkv];show An_.mpr ⟨_,Bd_.mpr ⟨hb,by simp[ekv']⟩,rfl⟩
 have la:=(Fo_ wa).2;have lb:=(Fo_ wb).2;rw[bp_]at la lb;have pne:phi d0 N a≠phi d0 N b:=λz=>ne (fZ_ ok po la lb z);obtain⟨x,y,exy⟩:=g3_ ok hkv;rw[exy]at ma mb;show⟨kv,hkv,?_⟩;rw[exy];simp only[As_,AR_,CC_]at ma mb
 rcases ma with ma|ma <;> rcases mb with mb|mb
 .show absurd (ma.trans mb.symm) pne
 .show .inl (by rw[ma,mb])
 .show .inr (by rw[ma,mb])
 .show absurd (ma.trans mb.symm) pne
def GH_(N:Net S):List (Nat×Nat):=N.rows.flatMap λr=>(List.range (r.2.length+if r.1∈N.posts then 1 else 0)).map λk=>(pid N r.1,k)
theorem Kv_{N:Net S}(ok:E0_ N)(po:ES_ N){r:S×List S}(hr:r∈N.rows){k:Nat}(hk:k<r.2.length+if r.1∈N.posts then 1 else 0):IsC (trn N) N.posts.length (pid N r.1,k):=by
 have hm:r.1∈pts N:=(c9_ po).mpr (An_.mpr ⟨r,hr,rfl⟩);have e:=fs_ hm;show⟨by rw[bp_];show ji_ hm,?_⟩;change k<rl (trn N) (pid N r.1)+if pid N r.1<N.posts.length then 1 else 0;unfold rl;rw[e8_ e,b4_ ok hr];by_cases h:r.1∈N.posts
 .rw[if_pos ((ew_ ok po e).mp h)];rw[if_pos h]at hk;show hk
 .rw[if_neg (λz=>h ((ew_ ok po e).mpr z))];rw[if_neg h]at hk;show hk
theorem fB_{N:Net S}(ok:E0_ N)(po:ES_ N){c:Nat×Nat}:c∈GH_ N↔IsC (trn N) N.posts.length c:=by
 unfold GH_;rw[List.mem_flatMap];constructor
 .rintro⟨r,hr,hc⟩;obtain⟨k,hk,rfl⟩:=An_.mp hc;show Kv_ ok po hr (AU_.mp hk)
 .rintro⟨h1,h2⟩;rw[bp_]at h1;have hx:(pts N)[c.1]?=some (pts N)[c.1]:=Aa_ h1;obtain⟨r,hr,er⟩:=An_.mp ((c9_ po).mp (Bn_ h1));show⟨r,hr,An_.mpr ⟨c.2,AU_.mpr ?_,?_⟩⟩
  .unfold rl at h2;rw[e8_ hx,<-er,b4_ ok hr]at h2;by_cases hp:r.1∈N.posts
   .rw[if_pos hp];rw[er]at hp;rw[if_pos ((ew_ ok po hx).mp hp)]at h2;show h2
   .rw[if_neg hp];rw[er]at hp;rw[if_neg (λz=>hp ((ew_ ok po hx).mpr z))]at h2;show h2
  .rw[er,nU_ ok po hx]
theorem lT_{N:Net S}(po:ES_ N):(GH_ N).map (phi d0 N)=(N.rows.map λr=>(List.range (r.2.length+if r.1∈N.posts then 1 else 0)).map λk=>(r.1,k)).flatten:=by unfold GH_;rw[List.flatMap_def,List.map_flatten,AP_];congr 1;apply A0_;intro r hr;change(List.map _ _).map _=_;rw[AP_];apply A0_;intro k _;show ky_ ((c9_ po).mpr (An_.mpr ⟨r,hr,rfl⟩)) k
end
abbrev Sd:=(Nat×Nat)×Bool
def tn(s:Sd):Sd:=(s.1,!s.2)
theorem GC_(s:Sd):tn (tn s)=s:=by unfold tn;simp
theorem Ks_(s:Sd):tn s≠s:=λh=>by have:=congrArg Prod.snd h;unfold tn at this;cases s.2 <;> simp_all
theorem kB_{a b:Sd}(h:a.1=b.1):a=b\/a=tn b:=by obtain⟨c,x⟩:=a;obtain⟨d,y⟩:=b;cases(show c=d from h);unfold tn;cases x <;> cases y <;> simp
structure Go(G:Sd->Sd->Prop):Prop where
 one:∀{a b c},G a b->G a c->b=c
 rev:∀{a b},G a b->G (tn b) (tn a)
 no:∀{a},¬ G a (tn a)
theorem Go.inj{G:Sd->Sd->Prop}(g:Go G){a b c:Sd}(h1:G a c)(h2:G b c):a=b:=by have:=g.one (g.rev h1) (g.rev h2);rw[<-GC_ a,this,GC_]
def Pa(G:Sd->Sd->Prop)(l:List Sd):Prop:=∀(i:Nat)(a b:Sd),l[i]?=some a->l[i+1]?=some b->G a b
theorem Pa.no_turn{G:Sd->Sd->Prop}(g:Go G){l:List Sd}(p:Pa G l):∀(n i:Nat)(a b:Sd),l[i]?=some a->l[i+n]?=some b->a≠tn b
 |0,i,a,b,ha,hb,e=>by
  rw[Nat.add_zero,ha]at hb;cases hb;show Ks_ a e.symm
 |1,i,a,b,ha,hb,e=>by
  have h:=p i a b ha hb;have e':b=tn a:=by rw[e,GC_]
  rw[e']at h;show g.no h
 |n+2,i,a,b,ha,hb,e=>by have l1:=(Ad_.mp hb).1;obtain⟨a',ha'⟩:∃a',l[i+1]?=some a':=⟨l[i+1],Aa_ o_⟩;obtain⟨b',hb'⟩:∃b',l[i+n+1]?=some b':=⟨l[i+n+1],Aa_ o_⟩;have h1:=p i a a' ha ha';have h2:=g.rev (p (i+n+1) b' b hb' hb);rw[<-e]at h2;have e2:=g.one h1 h2;show Pa.no_turn g p n (i+1) a' b' ha' (by rw[show i+1+n=i+n+1 by lia];show hb') e2
variable{G:Sd->Sd->Prop}{l:List Sd}
theorem Pa.nodup(g:Go G)(p:Pa G l){s:Sd}(h0:l[0]?=some s)(hs:∀j b,0<j->l[j]?=some b->b≠s):l.Nodup:=by
 rw[B3_,Bv_]
 have key:∀(i j:Nat)(a:Sd),i<j->l[i]?=some a->l[j]?=some a->False:=by
  intro i
  induction i with
  |zero =>
   intro j a hij h1 h2;rw[h0]at h1;cases h1;show hs j _ hij h2 rfl
  |succ i ih =>intro j a hij h1 h2;obtain⟨j,rfl⟩:∃k,j=k+1:=⟨j-1,o_⟩;have l1:=(Ad_.mp h1).1;have l2:=(Ad_.mp h2).1;obtain⟨x,hx⟩:∃x,l[i]?=some x:=⟨l[i],Aa_ o_⟩;obtain⟨y,hy⟩:∃y,l[j]?=some y:=⟨l[j],Aa_ o_⟩;have e:=g.inj (p i x a hx h1) (p j y a hy h2);subst e;show ih j x o_ hx hy
 intro i j hi hj hij e;show key i j l[i] hij (Aa_ hi) (by rw[Aa_ hj,e])
theorem Pa.corners(g:Go G)(p:Pa G l)(nd:l.Nodup):(l.map (·.1)).Nodup:=by
 rw[B3_,BQ_,Bv_];rw[B3_,Bv_]at nd;intro i j hi hj hij e
 rcases kB_ e with e|e
 .show nd i j hi hj hij e
 .show p.no_turn g (j-i) i _ _ (Aa_ hi) (by rw[show i+(j-i)=j by lia];show Aa_ hj) e
theorem Pa.back(g:Go G)(p:Pa G l):Pa G (l.reverse.map tn):=by intro i a b ha hb;have l1:=(Ad_.mp hb).1;rw[Ab_,BH_]at l1;rw[Ae_,CZ_ o_]at ha hb;obtain⟨x,hx,rfl⟩:=AK_.mp ha;obtain⟨y,hy,rfl⟩:=AK_.mp hb;show g.rev (p (l.length-1-(i+1)) y x hy ?_);rw[show l.length-1-(i+1)+1=l.length-1-i by lia];show hx
theorem Pa.same{G:Sd->Sd->Prop}(g:Go G){l m:List Sd}(p:Pa G l)(q:Pa G m)(h:l[0]?=m[0]?):∀i,i<l.length->i<m.length->l[i]?=m[i]?
 |0,_,_=>h
 |i+1,h1,h2=>by have ih:=Pa.same g p q h i o_ o_;have e1:l[i+1]?=some l[i+1]:=Aa_ h1;have e2:m[i+1]?=some m[i+1]:=Aa_ h2;have e3:l[i]?=some l[i]:=Aa_ o_;have:=g.one (p i _ _ e3 e1) (q i _ _ (ih▸e3) e2);rw[e1,e2,this]
section
def beh(T:List (List α))(P:Nat)(e:Nat×Nat):Nat×Nat:=if P<=e.1/\e.2+1=rl T e.1 then(e.1,0)else(e.1,e.2+1)
theorem e9_(T:List (List α))(P:Nat)(e:Nat×Nat):(beh T P e).1=e.1:=by unfold beh;split <;> rfl
variable{P:Nat}
theorem g4_{T:List (List α)}{a b:Nat×Nat}(ha:a.2<rl T a.1)(hb:b.2<rl T b.1)(h:beh T P a=beh T P b):a=b:=by
 have e1:a.1=b.1:=by rw[<-e9_ T P a,h,e9_]
 obtain⟨p,k⟩:=a;obtain⟨q,j⟩:=b;cases(show p=q from e1);have e2:=congrArg Prod.snd h;unfold beh at e2
 dsimp only at ha hb e2⊢
 congr 1;by_cases c1:P<=p/\k+1=rl T p
 .rw[if_pos c1]at e2;by_cases c2:P<=p/\j+1=rl T p
  .lia
  .rw[if_neg c2]at e2
   dsimp only at e2
   lia
 .rw[if_neg c1]at e2;by_cases c2:P<=p/\j+1=rl T p
  .rw[if_pos c2]at e2
   dsimp only at e2
   lia
  .rw[if_neg c2]at e2
   dsimp only at e2
   lia
theorem IY_{T:List (List α)}{w:α}(h:wi T e=some w):IsC T P (beh T P e):=by
 obtain⟨h1,h2⟩:=Fo_ h;show⟨by rw[e9_];show h2,?_⟩;rw[e9_];unfold beh;split
 .change 0<_;lia
 .rename_i c;change e.2+1<_;split
  .lia
  .have:¬ e.2+1=rl T e.1:=λz=>c ⟨o_,z⟩;lia
def Gg(T:List (List α))(P:Nat)(a b:Sd):Prop:=∃e f,Gf_ T e f/\((a=(e,true)/\b=(f,false))\/(a=(beh T P e,false)/\b=(beh T P f,true)))
theorem Gf_.lt{T:List (List α)}{a b:Nat×Nat}(h:Gf_ T a b):a.2<rl T a.1/\b.2<rl T b.1:=let⟨_,w,h1,h2⟩:=h;⟨(Fo_ h1).1,(Fo_ h2).1⟩
theorem FG_{T:List (List α)}(tw:Tw T):Go (Gg T P) where
 one:=by
  rintro a b c ⟨e,f,m,h⟩ ⟨e',f',m',h'⟩
  rcases h with⟨rfl,rfl⟩|⟨rfl,rfl⟩ <;> rcases h' with⟨h1,rfl⟩|⟨h1,rfl⟩
  .cases h1;rw[g0_ tw m m']
  .cases h1
  .cases h1
  .have:=g4_ m.lt.1 m'.lt.1 (congrArg Prod.fst h1);subst this;rw[g0_ tw m m']
 rev:=by
  rintro a b ⟨e,f,m,h⟩
  rcases h with⟨rfl,rfl⟩|⟨rfl,rfl⟩
  .show⟨f,e,m.symm,.inl ⟨rfl,rfl⟩⟩
  .show⟨f,e,m.symm,.inr ⟨rfl,rfl⟩⟩
 no:=by
  rintro a ⟨e,f,m,h⟩
  rcases h with⟨rfl,h⟩|⟨rfl,h⟩
  .show m.1 (congrArg Prod.fst h)
  .show m.1 (g4_ m.lt.1 m.lt.2 (congrArg Prod.fst h))
def wr(T:List (List α))(P:Nat)(s:Sd):Option α :=
 if s.2=true then wi T s.1 else if s.1.2=0 then(if P<=s.1.1 then wi T (s.1.1,rl T s.1.1-1)else none)else wi T (s.1.1,s.1.2-1)
theorem ex_{T:List (List α)}(h:e.2<rl T e.1):wr T P (beh T P e,false)=wi T e:=by
 unfold wr;rw[if_neg s_,e9_];unfold beh;by_cases c:P<=e.1/\e.2+1=rl T e.1
 .rw[if_pos c]
  dsimp only
  rw[if_pos rfl,if_pos c.1,show rl T e.1-1=e.2 by lia]
 .rw[if_neg c]
  dsimp only
  rw[if_neg o_,show e.2+1-1=e.2 by lia]
theorem GV_{T:List (List α)}{a b:Sd}(h:Gg T P a b):∃w,wr T P a=some w/\wr T P (tn b)=some w:=by
 obtain⟨e,f,m,h⟩:=h;obtain⟨ne,w,h1,h2⟩:=m
 rcases h with⟨rfl,rfl⟩|⟨rfl,rfl⟩
 .show⟨w,h1,h2⟩
 .show⟨w,by rw[ex_ (Fo_ h1).1];show h1,?_⟩;change wr T P (beh T P f,false)=some w;rw[ex_ (Fo_ h2).1];show h2
theorem jj_{T:List (List α)}{s:Sd}{w:α}(hc:IsC T P s.1)(h:wr T P s=some w):∃e,wi T e=some w/\(s=(e,true)\/(s=(beh T P e,false))):=by
 obtain⟨c,b⟩:=s;cases b with
 |true=>show⟨c,h,.inl rfl⟩
 |false =>
  unfold wr at h;rw[if_neg s_]at h
  dsimp only at h
  by_cases c0:c.2=0
  .rw[if_pos c0]at h;by_cases cP:P<=c.1
   .rw[if_pos cP]at h;show⟨_,h,.inr ?_⟩;have:=(Fo_ h).1;unfold beh
    dsimp only at this⊢
    rw[if_pos ⟨cP,o_⟩,<-c0]
   .rw[if_neg cP]at h;cases h
  .rw[if_neg c0]at h;show⟨_,h,.inr ?_⟩;have h1:=(Fo_ h).1;have h2:=hc.2;unfold beh
   dsimp only at h1 h2⊢
   rw[if_neg (λz=>by have:=z.2;rw[if_neg o_]at h2;lia),show c.2-1+1=c.2 by lia]
theorem d9_{T:List (List α)}{s b:Sd}(h:wr T P s=none):¬ Gg T P s b:=λg=>by obtain⟨w,h1,_⟩:=GV_ g;rw[h]at h1;cases h1
theorem gg_c{T:List (List α)}{a b:Sd}(h:Gg T P a b):IsC T P b.1:=by
 obtain⟨e,f,m,h⟩:=h;obtain⟨ne,w,h1,h2⟩:=m
 rcases h with⟨_,rfl⟩|⟨_,rfl⟩
 .have:=Fo_ h2;show⟨this.2,AH_ this.1 (Bz_ _ _)⟩
 .show IY_ h2
def stt(T:List (List α))(pl:Nat):Sd:=if pl%2=0 then((pl/2,rl T (pl/2)),false)else((pl/2,0),true)
theorem I5_{T:List (List α)}(hPT:P<=T.length){pl:Nat}(h:pl<2*P):IsC T P (stt T pl).1:=by
 have h2:pl/2<P:=o_
 unfold stt;split
 .show⟨by change pl/2<_;lia,by change rl T (pl/2)<rl T (pl/2)+_;rw[if_pos h2];lia⟩
 .show⟨by change pl/2<_;lia,by change 0<rl T (pl/2)+_;rw[if_pos h2];lia⟩
theorem be_{T:List (List α)}{pl:Nat}(h:pl<2*P):wr T P (tn (stt T pl))=none:=by
 have h2:pl/2<P:=o_
 unfold stt;split
 .change wi T (pl/2,rl T (pl/2))=none;show Bx_ (Aj_ _)
 .change wr T P ((pl/2,0),false)=none;unfold wr;rw[if_neg s_]
  dsimp only
  rw[if_pos rfl,if_neg o_]
theorem g5_{T:List (List α)}{a b:Nat}(h:stt T a=stt T b):a=b:=by
 unfold stt at h;by_cases ca:a%2=0
 .by_cases cb:b%2=0
  .rw[if_pos ca,if_pos cb]at h;have:=congrArg (λs:Sd=>s.1.1) h
   dsimp only at this
   lia
  .rw[if_pos ca,if_neg cb]at h;have:=congrArg Prod.snd h;cases this
 .by_cases cb:b%2=0
  .rw[if_neg ca,if_pos cb]at h;have:=congrArg Prod.snd h;cases this
  .rw[if_neg ca,if_neg cb]at h;have:=congrArg (λs:Sd=>s.1.1) h
   dsimp only at this
   lia
theorem jk_{T:List (List α)}{s:Sd}(hc:IsC T P s.1)(h:wr T P s=none):∃pl,pl<2*P/\tn s=stt T pl:=by
 obtain⟨⟨p,k⟩,b⟩:=s;obtain⟨h1,h2⟩:=hc
 dsimp only at h1 h2
 have hp:p<P:=by
  show B5_.mp λz=>?_;rw[if_neg z]at h2;cases b with
  |true =>
   have:wi T (p,k)=none:=h;obtain⟨w,hw⟩:=d7_ (T:=T) (e:=(p,k)) (by dsimp only;lia);rw[this]at hw;cases hw
  |false =>
   unfold wr at h;rw[if_neg s_]at h
   dsimp only at h
   by_cases k0:k=0
   .rw[if_pos k0,if_pos o_]at h;obtain⟨w,hw⟩:=d7_ (T:=T) (e:=(p,rl T p-1)) (by dsimp only;lia);rw[h]at hw;cases hw
   .rw[if_neg k0]at h;obtain⟨w,hw⟩:=d7_ (T:=T) (e:=(p,k-1)) (by dsimp only;lia);rw[h]at hw;cases hw
 rw[if_pos hp]at h2;cases b with
 |true =>
  have hk:k=rl T p:=by show B5_.mp λz=>?_;obtain⟨w,hw⟩:=d7_ (T:=T) (e:=(p,k)) (by dsimp only;lia);rw[show wi T (p,k)=none from h]at hw;cases hw
  show⟨2*p,o_,?_⟩;unfold stt tn;rw[if_pos o_,show 2*p/2=p by lia,hk];rfl
 |false =>
  have hk:k=0:=by
   show B5_.mp λz=>?_;unfold wr at h;rw[if_neg s_]at h
   dsimp only at h
   rw[if_neg z]at h;obtain⟨w,hw⟩:=d7_ (T:=T) (e:=(p,k-1)) (by dsimp only;lia);rw[h]at hw;cases hw
  show⟨2*p+1,o_,?_⟩;unfold stt tn;rw[if_neg o_,show(2*p+1)/2=p by lia,hk];rfl
end
section
variable {T:List (List α)}{P:Nat}
structure Ln(T:List (List α))(P:Nat)(s:Sd)(l:List Sd):Prop where
 pa:Pa (Gg T P) l
 hd:l[0]?=some s
 ed:∀x,l.getLast?=some x->wr T P x=none
variable{s:Sd}
theorem Ln.ne(h:Ln T P s l):l≠[]:=λe=>by have:=h.hd;rw[e]at this;cases this
theorem Ln.last(h:Ln T P s l):∃x,l.getLast?=some x/\l[l.length-1]?=some x:=by have:=h.ne;have hl:=Bg_.mpr this;show⟨l[l.length-1],by rw[Bw_,Aa_ o_],Aa_ o_⟩
theorem Ln.le{m:List Sd}(tw:Tw T)(h:Ln T P s l)(k:Ln T P s m):m.length<=l.length:=by show Ck_.mp λz=>?_;obtain⟨x,hx,hx'⟩:=h.last;have hl:=Bg_.mpr h.ne;have e:=h.pa.same (FG_ tw) k.pa (by rw[h.hd,k.hd]) (l.length-1) o_ o_;rw[hx']at e;have:=k.pa (l.length-1) x m[l.length-1+1] e.symm (Aa_ o_);show d9_ (h.ed x hx) this
theorem Ln.one{m:List Sd}(tw:Tw T)(h:Ln T P s l)(k:Ln T P s m):l=m:=by
 have hl:l.length=m.length:=Nat.le_antisymm (k.le tw h) (h.le tw k);show List.ext_getElem? λi=>?_;by_cases c:i<l.length
 .show h.pa.same (FG_ tw) k.pa (by rw[h.hd,k.hd]) i c o_
 .rw[Bx_ o_,Bx_ o_]
theorem Pa.allC(p:Pa (Gg T P) l)(h0:l[0]?=some s)(hc:IsC T P s.1):∀x∈l,IsC T P x.1:=λx hx=>by
 obtain⟨i,hi⟩:=Ba_.mp hx;cases i with
 |zero=>rw[h0]at hi;cases hi;show hc
 |succ i =>have l1:=(Ad_.mp hi).1;show gg_c (p i l[i] x (Aa_ o_) hi)
theorem Pa.nd_first(tw:Tw T)(p:Pa (Gg T P) l)(h0:l[0]?=some s)(hs:wr T P (tn s)=none):l.Nodup:=by show p.nodup (FG_ tw) h0 λj b hj hb e=>?_;subst e;obtain⟨j,rfl⟩:∃k,j=k+1:=⟨j-1,o_⟩;have l1:=(Ad_.mp hb).1;show d9_ hs ((FG_ tw).rev (p j l[j] b (Aa_ o_) hb))
theorem Pa.short(tw:Tw T)(p:Pa (Gg T P) l)(h0:l[0]?=some s)(hc:IsC T P s.1)(nd:l.Nodup):l.length<=(RimT.corners T P).length:=by
 have:=b9_ (p.corners (FG_ tw) nd) (m:=RimT.corners T P) λc hcm=>by obtain⟨x,hx,rfl⟩:=An_.mp hcm;show d8_.mpr (p.allC h0 hc x hx)
 rwa[Ab_]at this
theorem Ln.back(tw:Tw T){x:Sd}(h:Ln T P s l)(hs:wr T P (tn s)=none)(hx:l.getLast?=some x):Ln T P (tn x) (l.reverse.map tn):=by
 show⟨h.pa.back (FG_ tw),?_,λy hy=>?_⟩
 .have:=Bg_.mpr h.ne;rw[Ae_,CZ_ o_,Nat.sub_zero,<-Bw_,hx];rfl
 .rw[Cs_,Ej_]at hy;have e:l.head?=some s:=by rw[D9_];show h.hd
  rw[e]at hy;cases hy;show hs
def wiL(T:List (List α))(P:Nat)(l:List Sd):List α:=l.filterMap (wr T P)
theorem jl_:∀{l:List Sd}{a:Sd},Pa (Gg T P) (a::l)->wr T P (tn a)=none->(∀x,(a::l).getLast?=some x->wr T P x=none)->wiL T P ((a::l).reverse.map tn)=(wiL T P (a::l)).reverse:=by
 intro l
 have key:∀(l:List Sd)(a:Sd),Pa (Gg T P) (a::l)->(∀x,(a::l).getLast?=some x->wr T P x=none)->wiL T P (l.reverse.map tn)=(wiL T P (a::l)).reverse:=by
  intro l
  induction l with
  |nil =>
   intro a p hl;have:=hl a rfl;unfold wiL;simp[this]
  |cons b l ih =>intro a p hl;have hb:=ih b (λi x y hx hy=>p (i+1) x y hx hy) (λx hx=>hl x (by rw[DT_];show hx));obtain⟨w,h1,h2⟩:=GV_ (p 0 a b rfl rfl);unfold wiL at hb⊢;rw[CR_,Aq_,BJ_,hb,BG_ (a:=a),h1];simp[h2]
 intro a p ha hl;have:=key l a p hl;unfold wiL at this⊢;rw[CR_,Aq_,BJ_,this];simp[ha]
def ind(o:Option α)(w:α):Nat:=if o=some w then 1 else 0
def fC(T:List (List α))(P:Nat)(w:α)(c:Nat×Nat):Nat:=ind (wr T P (c,true)) w+ind (wr T P (c,false)) w
theorem Kq_(w:α)(s:Sd):fC T P w s.1=ind (wr T P s) w+ind (wr T P (tn s)) w:=by
 obtain⟨c,b⟩:=s;unfold fC tn;cases b
 .change ind (wr T P (c,true)) w+ind (wr T P (c,false)) w=ind (wr T P (c,false)) w+ind (wr T P (c,true)) w;lia
 .rfl
theorem f0_(w:α):∀l:List Sd,(wiL T P l).count w=(l.map λs=>ind (wr T P s) w).sum
 |[]=>rfl
 |s::l=>by
  have ih:=f0_ w l;unfold wiL at ih⊢;rw[BG_,Aw_,Bs_];cases h:wr T P s with
  |none =>
   dsimp only
   rw[ih];unfold ind;rw[if_neg s_];lia
  |some x =>
   dsimp only
   rw[C8_,ih];unfold ind;by_cases e:x=w
   .subst e;simp;lia
   .simp[e]
theorem iz_(w:α):∀(l:List Sd)(a:Sd),Pa (Gg T P) (a::l)->∀x,(a::l).getLast?=some x->((a::l).map λs=>ind (wr T P (tn s)) w).sum+ind (wr T P x) w=ind (wr T P (tn a)) w+((a::l).map λs=>ind (wr T P s) w).sum
 |[],a,p,x,hx=>by
  cases hx;simp
 |b::l,a,p,x,hx=>by
  have ih:=iz_ w l b (λi x y hx hy=>p (i+1) x y hx hy) x (by rw[DT_]at hx;show hx);obtain⟨v,h1,h2⟩:=GV_ (p 0 a b rfl rfl);have e:ind (wr T P (tn b)) w=ind (wr T P a) w:=by rw[h1,h2]
  rw[e]at ih;rw[Aw_,Bs_,Aw_ (f:=λs=>ind (wr T P s) w),Bs_];lia
theorem kC_(w:α):∀l:List Sd,((l.map (·.1)).map (fC T P w)).sum=(l.map λs=>ind (wr T P s) w).sum+(l.map λs=>ind (wr T P (tn s)) w).sum
 |[]=>rfl
 |s::l=>by have:=kC_ w l;rw[Aw_,Aw_,Bs_,Aw_,Bs_,Aw_,Bs_,this,Kq_];lia
theorem nV_(w:α)(h:Ln T P s l)(hs:wr T P (tn s)=none):((l.map (·.1)).map (fC T P w)).sum=2*(wiL T P l).count w:=by
 obtain⟨x,hx,_⟩:=h.last;cases l with
 |nil=>show absurd rfl h.ne
 |cons a l =>
  have e:a=s:=by have:=h.hd;simpa using this
  subst e;have:=iz_ w l a h.pa x hx;rw[h.ed x hx,hs]at this;rw[kC_,f0_];unfold ind at this;simp only[reduceCtorEq,Co_]at this;unfold ind;lia
theorem nW_(w:α){a x:Sd}(p:Pa (Gg T P) (a::l))(hx:(a::l).getLast?=some x)(g:Gg T P x a):(((a::l).map (·.1)).map (fC T P w)).sum=2*(wiL T P (a::l)).count w:=by have:=iz_ w l a p x hx;obtain⟨v,h1,h2⟩:=GV_ g;rw[h1,h2]at this;rw[kC_,f0_];lia
end
section
variable {T:List (List α)}{P:Nat}
theorem fC_{β:Type}{f:β->Nat}:∀{l:List β},(∀c∈l,f c=0)->(l.map f).sum=0
 |[],_=>rfl
 |a::l,h=>by rw[Aw_,Bs_,h a Au_,fC_ λc hc=>h c (Am_ _ hc)]
theorem iA_{β:Type}{f:β->Nat}{a:β}:∀{l:List β},l.Nodup->a∈l->(∀c∈l,c≠a->f c=0)->(l.map f).sum=f a
 |x::l,nd,ha,h=>by
  have h':=AG_.mp nd;rw[Aw_,Bs_];by_cases e:a=x
  .subst e;rw[fC_ λc hc=>h c (Am_ _ hc) λz=>h'.1 (z▸hc)];lia
  .rw[h x Au_ (λz=>e z.symm),iA_ h'.2 ((As_.mp ha).resolve_left e) λc hc=>h c (Am_ _ hc)];lia
theorem g6_{β:Type}{f:β->Nat}{a b:β}:∀{l:List β},l.Nodup->a≠b->a∈l->b∈l->(∀c∈l,c≠a->c≠b->f c=0)->(l.map f).sum=f a+f b
 |x::l,nd,ab,ha,hb,h=>by
  have h':=AG_.mp nd;rw[Aw_,Bs_];by_cases e:a=x
  .subst e;rw[iA_ h'.2 ((As_.mp hb).resolve_left λz=>ab z.symm) λc hc hcb=>h c (Am_ _ hc) (λz=>h'.1 (z▸hc)) hcb]
  .by_cases e2:b=x
   .subst e2;rw[iA_ h'.2 ((As_.mp ha).resolve_left e) λc hc hca=>h c (Am_ _ hc) hca (λz=>h'.1 (z▸hc))];lia
   .rw[h x Au_ (λz=>e z.symm) (λz=>e2 z.symm),g6_ h'.2 ab ((As_.mp ha).resolve_left e) ((As_.mp hb).resolve_left e2) λc hc=>h c (Am_ _ hc)];lia
theorem nX_(tw:Tw T){l:List (Nat×Nat)}(nd:l.Nodup)(hl:∀c,c∈l↔IsC T P c)(w:α):(l.map (fC T P w)).sum=if w∈T.flatten then 4 else 0:=by
 have split:∀l:List (Nat×Nat),(l.map (fC T P w)).sum=(l.map λc=>ind (wr T P (c,true)) w).sum+(l.map λc=>ind (wr T P (c,false)) w).sum:=by
  intro l
  induction l with
  |nil=>rfl
  |cons c l ih =>rw[Aw_,Bs_,ih,Aw_,Bs_,Aw_,Bs_];unfold fC;lia
 rw[split];by_cases hw:w∈T.flatten
 .rw[if_pos hw];obtain⟨a,b,_,ab,hab⟩:=gZ_ (tw w hw);have wa:wi T a=some w:=(hab a).mpr (.inl rfl);have wb:wi T b=some w:=(hab b).mpr (.inr rfl);have ic:∀{e},wi T e=some w->IsC T P e:=λ{e} h=>⟨(Fo_ h).2,AH_ (Fo_ h).1 (Bz_ _ _)⟩;have i1:∀{s},wr T P s=some w->ind (wr T P s) w=1:=λ{s} h=>by unfold ind;rw[if_pos h]
  have i0:∀{s},wr T P s≠some w->ind (wr T P s) w=0:=λ{s} h=>by unfold ind;rw[if_neg h]
  rw[g6_ nd ab ((hl a).mpr (ic wa)) ((hl b).mpr (ic wb)) λc hc na nb=>i0 (s:=(c,true)) λz=>((hab c).mp z).elim na nb,i1 (s:=(a,true)) wa,i1 (s:=(b,true)) wb];have ba:wr T P (beh T P a,false)=some w:=by rw[ex_ (Fo_ wa).1];show wa
  have bb:wr T P (beh T P b,false)=some w:=by rw[ex_ (Fo_ wb).1];show wb
  rw[g6_ (a:=beh T P a) (b:=beh T P b) nd (λz=>ab (g4_ (Fo_ wa).1 (Fo_ wb).1 z)) ((hl _).mpr (IY_ wa)) ((hl _).mpr (IY_ wb)) λc hc na nb=>i0 (s:=(c,false)) λz=>?_,i1 ba,i1 bb];obtain⟨e,he,h⟩:=jj_ ((hl c).mp hc) z
  rcases h with h|h
  .cases h
  .have hc':c=beh T P e:=congrArg Prod.fst h
   rcases(hab e).mp he with rfl|rfl
   .show na hc'
   .show nb hc'
 .rw[if_neg hw];have:∀s,ind (wr T P s) w=0->ind (wr T P s) w=0:=λ_ h=>h;rw[fC_ λc hc=>?_,fC_ λc hc=>?_]
  .unfold ind;show if_neg λz=>?_;obtain⟨e,he,_⟩:=jj_ ((hl c).mp hc) z;show hw (hK_ he)
  .unfold ind;show if_neg λz=>hw (hK_ z)
theorem iB_(tw:Tw T){L:List (List Sd)}{l:List (Nat×Nat)}(nd:l.Nodup)(hl:∀c,c∈l↔IsC T P c)(hp:(L.map λm=>m.map (·.1)).flatten.Perm l)(w:α)
  (hs:∀m∈L,((m.map (·.1)).map (fC T P w)).sum=2*(wiL T P m).count w):((L.map (wiL T P)).flatten).count w=if w∈T.flatten then 2 else 0:=by
 have h1:(((L.map λm=>m.map (·.1)).flatten).map (fC T P w)).sum=2*((L.map (wiL T P)).flatten).count w:=by
  clear hp
  induction L with
  |nil=>rfl
  |cons m L ih =>rw[Aw_,AJ_,Aq_,List.sum_append,hs m Au_,ih λm' hm=>hs m' (Am_ _ hm),Aw_,AJ_,B6_];lia
 rw[(hp.map _).sum_nat,nX_ tw nd hl]at h1;split at h1 <;> rename_i c
 .rw[if_pos c];lia
 .rw[if_neg c];lia
end
section
variable {T:List (List α)}{P:Nat}
def cs(l:List Sd):List (Nat×Nat):=l.map (·.1)
def Hu_(T:List (List α))(P:Nat)(S:List (Nat×Nat)):Prop:=∀a b,Gg T P a b->b.1∈S->a.1∈S
theorem Hu_.app{S S':List (Nat×Nat)}(h:Hu_ T P S)(h':Hu_ T P S'):Hu_ T P (S++S'):=λa b g hb=>by
 rcases Ap_.mp hb with hb|hb
 .show Ap_.mpr (.inl (h a b g hb))
 .show Ap_.mpr (.inr (h' a b g hb))
theorem Hu_.apart{S:List (Nat×Nat)}(h:Hu_ T P S){l:List Sd}{s:Sd}(p:Pa (Gg T P) l)(h0:l[0]?=some s)(hs:s.1∉S):∀(k:Nat)(x:Sd),l[k]?=some x->x.1∉S
 |0,x,hx=>by rw[h0]at hx;cases hx;show hs
 |k+1,x,hx=>λhm=>by have l1:=(Ad_.mp hx).1;have e:l[k]?=some l[k]:=Aa_ o_;show Hu_.apart h p h0 hs k _ e (h _ _ (p k _ x e hx) hm)
theorem bU_{c:Nat×Nat}:c∈cs l↔∃x∈l,x.1=c:=An_
theorem kD_(tw:Tw T)(p:Pa (Gg T P) l)(hf:∀s a,l[0]?=some s->Gg T P a s->a∈l)(he:∀x b,l.getLast?=some x->Gg T P x b->b∈l):Hu_ T P (cs l):=λa b g hb=>by
 have go:=FG_ (P:=P) tw;obtain⟨y,hy,ey⟩:=bU_.mp hb;obtain⟨k,hk⟩:=Ba_.mp hy;have l1:=(Ad_.mp hk).1
 rcases kB_ ey with rfl|rfl
 .cases k with
  |zero=>show bU_.mpr ⟨a,hf y a hk g,rfl⟩
  |succ k =>have e:l[k]?=some l[k]:=Aa_ o_;rw[go.inj g (p k _ y e hk)];show bU_.mpr ⟨_,Ai_ e,rfl⟩
 .have g':=go.rev g;by_cases c:k+1<l.length
  .have e:l[k+1]?=some l[k+1]:=Aa_ c;have:=go.one g' (p k _ _ hk e);show bU_.mpr ⟨_,Ai_ e,by rw[<-this];rfl⟩
  .have e:l.getLast?=some (tn b):=by rw[Bw_,show l.length-1=k by lia];show hk
   show bU_.mpr ⟨tn a,he _ _ e g',rfl⟩
theorem Ln.shut(tw:Tw T){s:Sd}(h:Ln T P s l)(hs:wr T P (tn s)=none):Hu_ T P (cs l):=kD_ tw h.pa (λs' a h0 g=>by rw[h.hd]at h0;cases h0;show absurd ((FG_ tw).rev g) (d9_ hs)) λx b hx g=>absurd g (d9_ (h.ed x hx))
theorem m6_(tw:Tw T){s x:Sd}(p:Pa (Gg T P) l)(h0:l[0]?=some s)(hx:l.getLast?=some x)(g:Gg T P x s):Hu_ T P (cs l):=kD_ tw p (λs' a h0' g'=>by
 rw[h0]at h0';cases h0';rw[(FG_ tw).inj g' g];show BM_ hx) λx' b hx' g'=>by
 rw[hx]at hx';cases hx';rw[(FG_ tw).one g' g];show Ai_ h0
structure LnP(T:List (List α))(P p:Nat)(l:List Sd)(j:Nat):Prop where
 ln:Ln T P (stt T p) l
 jl:j<2*P
 ed:∃x,l.getLast?=some x/\tn x=stt T j
variable{p j:Nat}
theorem LnP.one(tw:Tw T){j':Nat}{l':List Sd}(h:LnP T P p l j)(h':LnP T P p l' j'):l=l'/\j=j':=by have e:=h.ln.one tw h'.ln;subst e;obtain⟨x,h1,h2⟩:=h.ed;obtain⟨y,h3,h4⟩:=h'.ed;rw[h1]at h3;cases h3;show⟨rfl,g5_ (h2.symm.trans h4)⟩
theorem LnP.back(tw:Tw T)(hp:p<2*P)(h:LnP T P p l j):LnP T P j (l.reverse.map tn) p:=by
 obtain⟨x,h1,h2⟩:=h.ed;have b:=h.ln.back tw (be_ hp) h1;rw[h2]at b;show⟨b,hp,tn (stt T p),?_,GC_ _⟩;have e:l.head?=some (stt T p):=by rw[D9_];show h.ln.hd
 rw[Cs_,Ej_,e];rfl
theorem LnP.ne(tw:Tw T)(h:LnP T P p l j):j≠p:=λe=>by obtain⟨x,h1,h2⟩:=h.ed;subst e;have hl:=Bg_.mpr h.ln.ne;rw[Bw_]at h1;show h.ln.pa.no_turn (FG_ tw) (l.length-1) 0 _ _ h.ln.hd (by rw[CK_];show h1) h2.symm
theorem LnP.hits(tw:Tw T){i:Nat}(hi:i<2*P)(h:LnP T P p l j)(hm:(stt T i).1∈cs l):i=p\/i=j:=by
 obtain⟨y,hy,ey⟩:=bU_.mp hm;obtain⟨k,hk⟩:=Ba_.mp hy;have l1:=(Ad_.mp hk).1;have sf:=be_ (T:=T) hi
 rcases kB_ ey with rfl|e
 .cases k with
  |zero =>
   have:=h.ln.hd;rw[hk]at this;show .inl (g5_ (Ar_ this))
  |succ k =>have e:l[k]?=some l[k]:=Aa_ o_;show absurd ((FG_ tw).rev (h.ln.pa k _ _ e hk)) (d9_ sf)
 .by_cases c:k+1<l.length
  .have e':l[k+1]?=some l[k+1]:=Aa_ c;have:=h.ln.pa k _ _ hk e';rw[e]at this;show absurd this (d9_ sf)
  .obtain⟨x,h1,h2⟩:=h.ed;rw[Bw_,show l.length-1=k by lia,hk]at h1;cases h1;rw[e,GC_]at h2;show .inr (g5_ h2)
theorem LnP.first(h:LnP T P p l j):(stt T p).1∈cs l:=bU_.mpr ⟨_,Ai_ h.ln.hd,rfl⟩
theorem LnP.last(h:LnP T P p l j):(stt T j).1∈cs l:=by obtain⟨x,h1,h2⟩:=h.ed;show bU_.mpr ⟨x,BM_ h1,by rw[<-h2];rfl⟩
def OpL(T:List (List α))(P:Nat):Nat->List (Nat×Nat×List Sd)->Prop
 |0,O=>O=[]
 |i+1,O=>∃O' l j,OpL T P i O'/\LnP T P i l j/\O=if i<j then O'++[(i,j,l)]else O'
theorem OpL.in_:∀{i:Nat}{O:List (Nat×Nat×List Sd)},OpL T P i O->∀t∈O,t.1<i/\t.1<t.2.1/\LnP T P t.1 t.2.2 t.2.1
 |0,_,h,t,ht=>by rw[h]at ht;cases ht
 |i+1,_,⟨A,l,j,h1,h2,h3⟩,t,ht=>by
  rw[h3]at ht;have old:t∈A->_:=λhA=>let z:=OpL.in_ h1 t hA;(⟨o_,z.2⟩:t.1<i+1/\t.1<t.2.1/\LnP T P t.1 t.2.2 t.2.1);by_cases c:i<j
  .rw[if_pos c]at ht
   rcases Ap_.mp ht with ht|ht
   .show old ht
   .rw[Ak_.mp ht];show⟨DH_ _,c,h2⟩
  .rw[if_neg c]at ht;show old ht
theorem OpL.all:∀{i:Nat}{O:List (Nat×Nat×List Sd)},OpL T P i O->∀p,p<i->∃l j,LnP T P p l j/\(p<j->(p,j,l)∈O)
 |0,_,h,p,hp=>absurd hp (Bi_ _)
 |i+1,_,⟨A,l,j,h1,h2,h3⟩,p,hp=>by
  by_cases e:p=i
  .subst e;show⟨l,j,h2,λc=>by rw[h3,if_pos c];show Ap_.mpr (.inr (Ak_.mpr rfl))⟩
  .obtain⟨l',j',z1,z2⟩:=OpL.all h1 p o_;show⟨l',j',z1,λc=>?_⟩;rw[h3];split
   .show Ap_.mpr (.inl (z2 c))
   .show z2 c
def csO(O:List (Nat×Nat×List Sd)):List (Nat×Nat):=(O.map λt=>cs t.2.2).flatten
variable{O:List (Nat×Nat×List Sd)}
theorem f1_{c:Nat×Nat}:c∈csO O↔∃t∈O,c∈cs t.2.2:=by
 unfold csO;rw[Bm_];constructor
 .rintro⟨x,hx,hc⟩;obtain⟨t,ht,rfl⟩:=An_.mp hx;show⟨t,ht,hc⟩
 .rintro⟨t,ht,hc⟩;show⟨_,An_.mpr ⟨t,ht,rfl⟩,hc⟩
theorem OpL.passed(tw:Tw T){i:Nat}(hi:i<2*P)(h:OpL T P i O)(hl:LnP T P i l j):(stt T i).1∈csO O↔¬ i<j:=by
 rw[f1_];constructor
 .rintro⟨t,ht,hc⟩;obtain⟨h1,h2,h3⟩:=h.in_ t ht
  rcases h3.hits tw hi hc with e|e
  .lia
  .have b:=h3.back tw o_;rw[<-e]at b;have:=(hl.one tw b).2;lia
 .intro c;have:=hl.ne tw;obtain⟨l',j',h1,h2⟩:=h.all j o_;have b:=hl.back tw hi;have e:=(h1.one tw b).2;subst e;show⟨_,h2 o_,h1.last⟩
theorem OpL.put(tw:Tw T){i:Nat}(hi:i<2*P)(h:OpL T P i O)(hl:LnP T P i l j)(hn:(stt T i).1∉csO O):OpL T P (i+1) (O++[(i,j,l)]):=⟨O,l,j,h,hl,by rw[if_pos (B5_.mp λz=>hn ((h.passed tw hi hl).mpr z))]⟩
theorem OpL.skip(tw:Tw T){i:Nat}(hi:i<2*P)(h:OpL T P i O)(hl:LnP T P i l j)(hn:(stt T i).1∈csO O):OpL T P (i+1) O:=⟨O,l,j,h,hl,by rw[if_neg ((h.passed tw hi hl).mp hn)]⟩
end
end RimT
namespace L2
open PySem PySem.Spec PyProof.Rows
def grow(S H H':Hp):Hp:=λb=>match H b with|some _=>S b|none=>H' b
variable{S H H':Hp}{b:Addr}{o:HO}
theorem g7_(h:H b=some o):grow S H H' b=S b:=by unfold grow;rw[h]
theorem kE_(h:H b=none):grow S H H' b=H' b:=by unfold grow;rw[h]
theorem kF_(s:EL_ S H):EL_ S (grow S H H'):=λb o h=>by rw[g7_ (s _ _ h)];show h
theorem m7_(s:EL_ S H)(t:EL_ H H'):EL_ (grow S H H') H':=λb o h=>by
 unfold grow at h;cases e:H b with
 |some z=>rw[e]at h;show t _ _ (s _ _ h)
 |none=>rw[e]at h;show h
theorem b5_{a:Addr}(s:EL_ S H)(h:S a=none):EL_ S (upd H a o):=λb z e=>by rw[ae_ (ag_ e h)];show s _ _ e
theorem lU_{a:Addr}(s:EL_ S H)(h:H a=none):EL_ (upd S a o) (upd H a o):=λb z e=>by
 by_cases q:b=a
 .subst q;rw[aa_]at e⊢;show e
 .rw[ae_ q]at e⊢;show s _ _ e
theorem ey_{a:Addr}(s:EL_ S H)(h:H a=none):EL_ S (upd S a o):=EL_.new (s.free h)
section
variable {κ:Type}[DecidableEq κ]
def Fl_(kvs:List (κ×V))(k:κ):Option V:=(kvs.find? λkv=>decide (kv.1=k)).map (·.2)
def Fn_(kvs:List (κ×V))(k:κ)(v:V):List (κ×V):=
 if(kvs.any λkv=>decide (kv.1=k))=true then kvs.map (λkv=>if kv.1=k then(kv.1,v)else kv)else kvs++[(k,v)]
theorem aU_{p:κ×V}{r:List (κ×V)}{k:κ}(e:p.1=k):Fl_ (p::r) k=some p.2:=by simp[Fl_,BN_,e]
theorem aP_{p:κ×V}{r:List (κ×V)}{k:κ}(e:¬ p.1=k):Fl_ (p::r) k=Fl_ r k:=by simp[Fl_,BN_,e]
theorem cn_(k:κ):∀kvs:List (κ×V),(kvs.any λkv=>decide (kv.1=k))=(Fl_ kvs k).isSome
 |[]=>rfl
 |p::r=>by
  rw[B2_];by_cases e:p.1=k
  .simp only[aU_ e,A3_ e,Bool.true_or,Option.isSome_some]
  .rw[aP_ e,AE_ e,Bool.false_or];show cn_ k r
theorem jm_(k j:κ)(y:V):∀kvs:List (κ×V),Fl_ (kvs.map λkv=>if kv.1=k then(kv.1,y)else kv) j=(Fl_ kvs j).map λx=>if j=k then y else x
 |[]=>rfl
 |p::r=>by
  have ih:=jm_ k j y r;rw[Aw_];by_cases h:p.1=k
  .rw[if_pos h];by_cases e:p.1=j
   .rw[aU_ (p:=(p.1,y)) e,aU_ e,Ch_,if_pos (e.symm.trans h)]
   .rw[aP_ (p:=(p.1,y)) e,aP_ e,ih]
  .rw[if_neg h];by_cases e:p.1=j
   .rw[aU_ (p:=p) e,aU_ e,Ch_,if_neg (λz=>h (e.trans z))]
   .rw[aP_ (p:=p) e,aP_ e,ih]
theorem hM_(k j:κ)(y:V):∀kvs:List (κ×V),Fl_ kvs k=none->Fl_ (kvs++[(k,y)]) j=if j=k then some y else Fl_ kvs j
 |[],_=>by
  by_cases e:k=j
  .rw[if_pos e.symm];show aU_ (p:=(k,y)) e
  .rw[if_neg (λz=>e z.symm)];show aP_ (p:=(k,y)) e
 |p::r,hn=>by
  rw[DL_];have hk:¬ p.1=k:=λz=>by rw[aU_ z]at hn;cases hn
  rw[aP_ hk]at hn;have ih:=hM_ k j y r hn;by_cases e:p.1=j
  .rw[aU_ e,aU_ e,if_neg (λz=>hk (e.trans z))]
  .rw[aP_ e,aP_ e,ih]
theorem av_(kvs:List (κ×V))(k j:κ)(y:V):Fl_ (Fn_ kvs k y) j=if j=k then some y else Fl_ kvs j:=by
 unfold Fn_;by_cases a:(kvs.any λkv=>decide (kv.1=k))=true
 .rw[if_pos a,jm_];rw[cn_]at a;by_cases e:j=k
  .obtain⟨x,hx⟩:=DE_.mp a;rw[if_pos e,e,hx,Ch_,if_pos rfl]
  .rw[if_neg e];cases Fl_ kvs j with
   |none=>rfl
   |some x=>rw[Ch_,if_neg e]
 .rw[if_neg a];show hM_ k j y kvs ?_;rw[cn_]at a;cases q:Fl_ kvs k with
  |none=>rfl
  |some x=>rw[q]at a;show(a rfl).elim
theorem aL_(kvs:List (κ×V))(k:κ)(v:V):(Fn_ kvs k v).length<=kvs.length+1:=by
 unfold Fn_;split
 .rw[Ab_];lia
 .rw[Af_,A1_,D1_];lia
theorem lV_{kvs:List (κ×V)}{k:κ}(v:V)(h:Fl_ kvs k=none):Fn_ kvs k v=kvs++[(k,v)]:=by unfold Fn_;rw[cn_,h];show if_neg d_
theorem G7_.isSome_eq{o:Option V}{u:Option Value}(r:G7_ o u):o.isSome=u.isSome:=by
 cases o with
 |none=>cases u with
  |none=>rfl
  |some _=>show(show False from r).elim
 |some _=>cases u with
  |none=>show(show False from r).elim
  |some _=>rfl
theorem G7_.getD{o:Option V}{u:Option Value}{d:V}{d':Value}(r:G7_ o u)(rd:Fb_ d d'):Fb_ (o.getD d) (u.getD d'):=by
 cases o with
 |none=>cases u with
  |none=>show rd
  |some _=>show(show False from r).elim
 |some _=>cases u with
  |none=>show(show False from r).elim
  |some _=>show r
theorem KV.val{kvs:List (κ×V)}{vs:List (κ×Value)}(r:KV kvs vs)(k:κ):G7_ (Fl_ kvs k) (valueAt vs k):=by
 unfold KV at r
 induction r with
 |nil=>show True.intro
 | @cons p q ps qs h t ih =>
  obtain⟨h1,h2⟩:=h;by_cases e:p.1=k
  .have e':q.1=k:=h1.symm.trans e;have b:valueAt (q::qs) k=some q.2:=by simp[valueAt,BN_,e']
   rw[aU_ e,b];show h2
  .have e':¬ q.1=k:=λz=>e (h1.trans z);have b:valueAt (q::qs) k=valueAt qs k:=by simp[valueAt,BN_,e']
   rw[aP_ e,b];show ih
theorem KV.any{kvs:List (κ×V)}{vs:List (κ×Value)}(r:KV kvs vs)(k:κ):(kvs.any λkv=>decide (kv.1=k))=vs.any λkv=>decide (kv.1=k):=by
 unfold KV at r
 induction r with
 |nil=>rfl
 |cons h t ih=>rw[B2_,B2_,ih,h.1]
theorem KV.repl{kvs:List (κ×V)}{vs:List (κ×Value)}(r:KV kvs vs)(k:κ){y:V}{u:Value}(ry:Fb_ y u):
  KV (kvs.map λkv=>if kv.1=k then(kv.1,y)else kv) (vs.map λkv=>if kv.1=k then(kv.1,u)else kv):=by
 unfold KV at r⊢
 induction r with
 |nil=>show .nil
 | @cons p q ps qs h t ih =>
  rw[Aw_,Aw_];show .cons ?_ ih;obtain⟨h1,h2⟩:=h;by_cases e:p.1=k
  .rw[if_pos e,if_pos (h1.symm.trans e)];show⟨h1,ry⟩
  .rw[if_neg e,if_neg (λz=>e (h1.trans z))];show⟨h1,h2⟩
theorem KV.put{kvs:List (κ×V)}{vs:List (κ×Value)}(r:KV kvs vs)(k:κ){y:V}{u:Value}(ry:Fb_ y u):KV (Fn_ kvs k y) (stored vs k u):=by
 unfold Fn_ stored;rw[r.any k];by_cases e:(vs.any λkv=>decide (kv.1=k))=true
 .rw[if_pos e,if_pos e];show r.repl k ry
 .rw[if_neg e,if_neg e];show Ea_ r ⟨rfl,ry⟩
theorem KV.length{kvs:List (κ×V)}{vs:List (κ×Value)}(r:KV kvs vs):kvs.length=vs.length:=Br_ r
end
theorem GU_{P:Program}{w:World}{k:Key}{u:Value}(r:Fb_ (kV k) u):(EV_ P w).is k u=true:=by
 cases k with
 |inl i=>obtain⟨t,e⟩:=(show ∃t,u=Value.int i t from r);subst e;show it_ P w i t
 |inr x=>obtain⟨t,e⟩:=(show ∃t,u=Value.str x t from r);subst e;show iu_ P w x t
theorem hN_{P:Program}{w:World}:∀{ks:List Key}{us:List Value},E8_ (ks.map kV) us->ItemsAre (EV_ P w) ks us
 |[],_,r=>by rw[DG_]at r;cases r;show .nil
 |k::ks,_,r=>by
  rw[Aw_]at r;cases r with
  |cons h t=>show .cons (GU_ h) (hN_ t)
abbrev KT(H:Hp):List (List Key×V)->List (List Key×Addr×Value)->Prop:=Paired λp q=>p.1=q.1/\H q.2.1=some (.tup (p.1.map kV))/\Fb_ p.2 q.2.2
variable{kvs:List (List Key×V)}{xs:List (List Key×Addr×Value)}
theorem KT.val(r:KT H kvs xs)(k:List Key):G7_ (Fl_ kvs k) ((atKey xs k).map (·.2)):=by
 induction r with
 |nil=>show True.intro
 | @cons p q ps qs h t ih =>
  obtain⟨h1,_,h2⟩:=h;by_cases e:p.1=k
  .have e':q.1=k:=h1.symm.trans e;have b:atKey (q::qs) k=some q.2:=by simp[atKey,BN_,e']
   rw[aU_ e,b];show h2
  .have e':¬ q.1=k:=λz=>e (h1.trans z);have b:atKey (q::qs) k=atKey qs k:=by simp[atKey,BN_,e']
   rw[aP_ e,b];show ih
theorem KT.repl(r:KT H kvs xs)(k:List Key){y:V}{u:Value}(ry:Fb_ y u):
  KT H (kvs.map λkv=>if kv.1=k then(kv.1,y)else kv) (xs.map (putAt k u)):=by
 induction r with
 |nil=>show .nil
 | @cons p q ps qs h t ih =>
  rw[Aw_,Aw_];show .cons ?_ ih;obtain⟨h1,h2,h3⟩:=h;unfold putAt;by_cases e:p.1=k
  .rw[if_pos e,if_pos (h1.symm.trans e)];show⟨h1,h2,ry⟩
  .rw[if_neg e,if_neg (λz=>e (h1.trans z))];show⟨h1,h2,h3⟩
theorem KT.put(r:KT H kvs xs)(k:List Key){y:V}{u:Value}(hb:H b=some (.tup (k.map kV)))(ry:Fb_ y u):
  KT H (Fn_ kvs k y) (storedH xs k b u):=by
 have e:(kvs.any λkv=>decide (kv.1=k))=(atKey xs k).isSome:=by rw[cn_,(r.val k).isSome_eq,Ct_]
 unfold Fn_ storedH;rw[e];by_cases q:(atKey xs k).isSome=true
 .rw[if_pos q,if_pos q];show r.repl k ry
 .rw[if_neg q,if_neg q];show Ea_ r ⟨rfl,hb,ry⟩
theorem KT.keeps(r:KT H kvs xs)(ht:∀b ys,H b=some (.tup ys)->H' b=some (.tup ys)):KT H' kvs xs :=
 Paired.mapP r λ_ _ z=>⟨z.1,ht _ _ z.2.1,z.2.2⟩
variable {P:Program}{w:World}{H:Hp}{h:Heap}{a:Addr}
theorem JE_{u:HO}(ok:HOk P w H h)(e:Rd H a u):Fg_ P w H h a u:=e.ok ok
theorem H1_{kvs:List (Key×V)}(ok:HOk P w H h)(e:Rd H a (.dK kvs)):kvs.length<=sizeLine/\(a == sysModules)=false/\∃vs,KV kvs vs/\h.DictOf (EV_ P w) a vs :=
 show Fg_ P w H h a (.dK kvs)from JE_ ok e
theorem Hn_{kvs:List (Key×V)}(ok:HOk P w H h)(e:H a=some (.dK kvs)):kvs.length<=sizeLine/\(a == sysModules)=false/\∃vs,KV kvs vs/\h.DictOf (EV_ P w) a vs:=H1_ ok (.inl e)
theorem f2_{ks:List Key}(ok:HOk P w H h)(e:H a=some (.tup (ks.map kV))):(tupleKind (EV_ P w)).is h ks a:=by obtain⟨_,its,r,o,h1,h2,n,h3⟩:=(show Fg_ P w H h a (.tup (ks.map kV))from ok a _ e);show⟨o,its.toArray,n,h1,h2,h3,by simpa using hN_ r⟩
theorem HY_(ok:HOk P w H h)(e:Rd H a (.dT kvs)):kvs.length<=sizeLine/\(a == sysModules)=false /\
  ∃xs,KT H kvs xs/\h.DictOfH (tupleKind (EV_ P w)) a xs:=by
 obtain⟨z,y,xs,r,o,es,ep,h1,h2,h3,h4,h5⟩:=(show Fg_ P w H h a (.dT kvs)from JE_ ok e);show⟨z,y,xs,r,o,es,ep,h1,h2,h3,h4,λx hx=>?_,h5⟩
 have all:∀{l:List (List Key×V)}{m:List (List Key×Addr×Value)},KT H l m->∀x∈m,(tupleKind (EV_ P w)).is h x.1 x.2.1:=by
  intro l m q
  induction q with
  |nil=>intro x hx;show nomatch hx
  | @cons p q ps qs hq t ih =>
   intro x hx
   rcases As_.mp hx with e|hx
   .subst e;show f2_ ok (by rw[<-hq.1];show hq.2.1)
   .show ih x hx
 show all r x hx
theorem I0_(ok:HOk P w H h)(e:H a=some (.dT kvs)):kvs.length<=sizeLine/\(a == sysModules)=false /\
  ∃xs,KT H kvs xs/\h.DictOfH (tupleKind (EV_ P w)) a xs:=HY_ ok (.inl e)
def FZ_(H:Hp)(a:Addr)(y:V)(r:Option V):Prop :=
 (∃kvs k,Rd H a (.dK kvs)/\y=kV k/\r=Fl_ kvs k)\/∃kvs k b,Rd H a (.dT kvs)/\y=.ref b/\H b=some (.tup (k.map kV))/\r=Fl_ kvs k
def GP_(H:Hp)(a:Addr)(y v:V)(H':Hp):Prop :=
 (∃kvs k,H a=some (.dK kvs)/\y=kV k/\kvs.length<sizeLine/\H'=upd H a (.dK (Fn_ kvs k v))) \/
 ∃kvs k b,H a=some (.dT kvs)/\y=.ref b/\H b=some (.tup (k.map kV))/\kvs.length<sizeLine/\H'=upd H a (.dT (Fn_ kvs k v))
theorem FZ_.k{kvs:List (Key×V)}{k:Key}(e:H a=some (.dK kvs)):FZ_ H a (kV k) (Fl_ kvs k):=.inl ⟨kvs,k,.inl e,rfl,rfl⟩
theorem FZ_.t{k:List Key}(e:H a=some (.dT kvs))(eb:H b=some (.tup (k.map kV))):FZ_ H a (.ref b) (Fl_ kvs k):=.inr ⟨kvs,k,b,.inl e,rfl,eb,rfl⟩
theorem GP_.k{kvs:List (Key×V)}{k:Key}{v:V}(e:H a=some (.dK kvs))(hl:kvs.length<sizeLine):GP_ H a (kV k) v (upd H a (.dK (Fn_ kvs k v))):=.inl ⟨kvs,k,e,rfl,hl,rfl⟩
theorem GP_.t{k:List Key}{v:V}(e:H a=some (.dT kvs))(eb:H b=some (.tup (k.map kV)))(hl:kvs.length<sizeLine):
  GP_ H a (.ref b) v (upd H a (.dT (Fn_ kvs k v))):=.inr ⟨kvs,k,b,e,rfl,eb,hl,rfl⟩
variable {X:Cx}{pins:List (Addr×Obj)}{σ:St}{s:Shared}{y v:V}{u r:Value}{o:Option V}{A:Around}{E:Value->Shared->Prop}
theorem Inv.big(I:Inv X pins σ H s):sysModules<s.heap.objs.size:=by have h:mainGlobals<s.heap.objs.size:=(I.mod.glob.keeps I.bk).lt;show Nat.lt_trans d_ h
variable{Q:Value->Shared->Prop}
theorem kG_(hu:A.units+1<cLine)(I:Inv X pins σ H s)(g:FZ_ H a y (some v))(ry:Fb_ y u)(h:∀w' s',Inv X pins σ H s'->Fb_ v w'->Q w' s'):
  wpAny (model X.prog X.w) A (getItem (.ref a) u) Q E s:=by
 rcases g with⟨kvs,k,e,ey,l⟩|⟨kvs,k,b,e,ey,eb,l⟩
 .subst ey;obtain⟨z,hd,vs,rel,dd⟩:=H1_ I.hok e;obtain⟨w',hw,rw'⟩:=G7_.some_of (v:=v) (o:=valueAt vs k) (by rw[l];show rel.val k);show wpAny_getItem_of (GU_ ry) dd.mapOf hw (h w' _ (I.tok _) rw')
 .subst ey;cases(show u=Value.ref b from ry);obtain⟨z,hd,xs,rel,dd⟩:=HY_ I.hok e;obtain⟨w',hw,rw'⟩:=G7_.some_of (v:=v) (o:=(atKey xs k).map (·.2)) (by rw[l];show rel.val k);obtain⟨p,hp,hp2⟩:=AK_.mp hw;show wpAny_getItem_heap (CL_ hu) (f2_ I.hok eb) dd hp ?_;rw[hp2];show h w' _ (I.tok _) rw'
theorem d_in(hu:A.units+1<cLine)(I:Inv X pins σ H s)(g:FZ_ H a y o)(ry:Fb_ y u)(h:∀s',Inv X pins σ H s'->Q (.bool o.isSome) s'):
  wpAny (model X.prog X.w) A (compareOp .In u (.ref a)) Q E s:=by
 rcases g with⟨kvs,k,e,ey,l⟩|⟨kvs,k,b,e,ey,eb,l⟩
 .subst ey;obtain⟨z,hd,vs,rel,dd⟩:=H1_ I.hok e;show wpAny_in_of (GU_ ry) hd dd.mapOf ?_;rw[<-(rel.val k).isSome_eq,<-l];show h _ (I.tok _)
 .subst ey;cases(show u=Value.ref b from ry);obtain⟨z,hd,xs,rel,dd⟩:=HY_ I.hok e;show wpAny_in_heap (CL_ hu) (f2_ I.hok eb) hd dd ?_;have q:=(rel.val k).isSome_eq;rw[Ct_]at q;rw[<-q,<-l];show h _ (I.tok _)
theorem m8_(hu:A.units+1<cLine)(I:Inv X pins σ H s)(g:FZ_ H a y o)(ry:Fb_ y u)(h:∀s',Inv X pins σ H s'->Q (.bool (!o.isSome)) s'):
  wpAny (model X.prog X.w) A (compareOp .NotIn u (.ref a)) Q E s:=by
 rcases g with⟨kvs,k,e,ey,l⟩|⟨kvs,k,b,e,ey,eb,l⟩
 .subst ey;obtain⟨z,hd,vs,rel,dd⟩:=H1_ I.hok e;show wpAny_notIn_of (GU_ ry) hd dd.mapOf ?_;rw[<-(rel.val k).isSome_eq,<-l];show h _ (I.tok _)
 .subst ey;cases(show u=Value.ref b from ry);obtain⟨z,hd,xs,rel,dd⟩:=HY_ I.hok e;show wpAny_notIn_heap (CL_ hu) (f2_ I.hok eb) hd dd ?_;have q:=(rel.val k).isSome_eq;rw[Ct_]at q;rw[<-q,<-l];show h _ (I.tok _)
theorem fa_{h':Heap}{t':Nat}{ob:HO}(I:Inv X pins σ H s)(mu:Mut (H a))(hs:Heap.SameBut a s.heap h')(he:∃q,h'.get? a=some q)(new:Fg_ X.prog X.w (upd H a ob) h' a ob):
  Inv X pins σ (upd H a ob) {s with heap:=h',toks:=t'} :=
 I.write (x:=a) (e:=a) mu (.inl rfl) (λb q hb z=>(hs.2 b hb).trans z) he new
theorem kH_{h':Heap}{kvs:List (Key×V)}{vs:List (Key×Value)}(z:kvs.length<=sizeLine)(hd:(a == sysModules)=false)(rel:KV kvs vs)(dd:h'.DictOf (EV_ P w) a vs):
  Fg_ P w H' h' a (.dK kvs):=⟨z,hd,vs,rel,dd⟩
theorem kI_{Q:Unit->Shared->Prop}(hu:A.units+1<cLine)(I:Inv X pins σ H s)(g:GP_ H a y v H')(ry:Fb_ y u)(rv:Fb_ v r)(h:∀s',Inv X pins σ H' s'->Q () s'):
  wpAny (model X.prog X.w) A (setItem (.ref a) u r) Q E s:=by
 rcases g with⟨kvs,k,e,ey,l,eH⟩|⟨kvs,k,b,e,ey,eb,l,eH⟩
 .subst ey eH;obtain⟨z,hd,vs,rel,dd⟩:=Hn_ I.hok e;have hz:vs.length<=sizeLine:=by rw[<-rel.length];show z
  have hl:(Fn_ kvs k v).length<=sizeLine:=by have:=aL_ kvs k v;lia
  show wpAny_setItem_pairs (hsz:=hz) (GU_ ry) dd λh' dd' hs=>h _ ?_;have he:∃q,h'.get? a=some q:=let⟨q,_,_,hq,_⟩:=dd';⟨q,hq⟩;show fa_ I (by rw[e];show True.intro) hs he (kH_ hl hd (rel.put k rv) dd')
 .subst ey eH;cases(show u=Value.ref b from ry);obtain⟨z,hd,xs,rel,dd⟩:=I0_ I.hok e;have hz:xs.length<=sizeLine:=by rw[<-Br_ rel];show z
  have hl:(Fn_ kvs k v).length<=sizeLine:=by have:=aL_ kvs k v;lia
  show wpAny_setItem_heap (hsz:=hz) (CL_ hu) (f2_ I.hok eb) dd λh' dd' hs=>h _ ?_;obtain⟨q,es,ep,hq,h2,h3,h4,_,h5⟩:=dd';show fa_ I (by rw[e];show True.intro) hs ⟨q,hq⟩ ⟨hl,hd,_,(rel.put k eb rv).keeps λc ys ec=>?_,q,es,ep,hq,h2,h3,h4,h5⟩;rw[ae_ (GB_ ec e (λz=>nomatch z))];show ec
def Ki_(i:Expr):Prop:=∀ov iv,subscripted i false ov iv=operate [ov,iv] (getItem ov iv)
theorem kJ_{prog:Program}{w:World}{A:Around}{E:Value->Shared->Prop}{s:Shared}{env:Env}{value slice:Expr}{pos:Pos}{T id:String}{Q:Value->Shared->Prop}
  (hl:typeLookup (.type T) "__getitem__"=pure (some (.builtin id))) (hs:Ki_ slice)
  (h:wpAny (model prog w) A (eval value env) (λo s₁=>wpAny (model prog w) A (eval slice env) (λi s₂=>s₂.TypeIs o T/\wpAny (model prog w) A (getItem o i) Q E s₂) E s₁) E s):
  wpAny (model prog w) A (eval (.Subscript value slice pos) env) Q E s:=by
 show Subscript_ (BB_ h (λo s₁ h₁=>BB_ h₁ (λi s₂ h₂=>?_) λ_ _ x=>x) λ_ _ x=>x);obtain⟨hT,h₂⟩:=h₂;unfold subscriptTail;show Ac_ ?_;rw[getitemInPython_of_ne hT.not_modules];show Ac_ (CG_ hT hl ?_);have fin:wpAny (model prog w) A (subscripted slice false o i) (λr s₃=>wpAny (model prog w) A (letTemporaryGo value o r >>= λ_=>pure r) Q E s₃) E s₂:=by rw[hs o i];show wpAny_operating (BB_ h₂ (λr s₃ h₃=>Ac_ (wpAny_letTemporaryGo (Ah_ h₃))) λ_ _ x=>x)
 first
  |show Ah_ (Ac_ fin)
  |show Ac_ (Ah_ (Ac_ fin))
  |show Ac_ fin
theorem iC_(I:Inv X pins σ H s)(g:FZ_ H a y o):s.TypeIs (.ref a) "dict" := by
 rcases g with⟨kvs,k,e,_,_⟩|⟨kvs,k,b,e,_,_,_⟩
 .obtain⟨_,_,vs,_,dd⟩:=H1_ I.hok e;show dd.typeIs
 .obtain⟨_,_,xs,_,dd⟩:=HY_ I.hok e;show dd.typeIs
def IW_(td ty:TE):TE:=λσ H Q=>td σ H λx H1=>ty σ H1 λy H2=>∃a v,x=.ref a/\FZ_ H2 a y (some v)/\Q v H2
def J3_(ty td:TE):TE:=λσ H Q=>ty σ H λy H1=>td σ H1 λx H2=>∃a o,x=.ref a/\FZ_ H2 a y o/\Q (.bl o.isSome) H2
def GJ_(ty td:TE):TE:=λσ H Q=>ty σ H λy H1=>td σ H1 λx H2=>∃a o,x=.ref a/\FZ_ H2 a y o/\Q (.bl (!o.isSome)) H2
def IU_(td ty tv:TE):TS:=λD σ H=>tv σ H λv H1=>td σ H1 λx H2=>ty σ H2 λy H3=>∃a H4,x=.ref a/\GP_ H3 a y v H4/\D.nx σ H4
section
variable {o i e value:Expr}{pos pos' tpos:Pos}{td ty tv:TE}
theorem b0_(hu:X.A.units+1<cLine)(ho:PE X o td)(hi:PE X i ty)(hs:Ki_ i:=by intro _ _;rfl):PE X (.Subscript o i pos) (IW_ td ty):=by intro pins s σ H Q I h;show kJ_ PySem.F.slot_dict_getitem.lookup hs (thn (ho pins s σ H _ I h) λu s1 ⟨x,H1,I1,rx,q1⟩=>thn (hi pins s1 σ H1 _ I1 q1) λiv s2 ⟨y,H2,I2,ry,a,v,ex,g,q2⟩=>?_);subst ex;obtain rfl:u=Value.ref a:=rx;show⟨iC_ I2 g,kG_ hu I2 g ry λw' s3 I3 rw'=>⟨v,H2,I3,rw',q2⟩⟩
theorem nY_(hu:X.A.units+1<cLine)(hi:PE X i ty)(ho:PE X o td):PC X .In i o (J3_ ty td):=by intro pins s σ H Q I h;show thn (hi pins s σ H _ I h) λiv s1 ⟨y,H1,I1,ry,q1⟩=>thn (ho pins s1 σ H1 _ I1 q1) λu s2 ⟨x,H2,I2,rx,a,ov,ex,g,q2⟩=>?_;subst ex;obtain rfl:u=Value.ref a:=rx;show d_in hu I2 g ry λs3 I3=>⟨.bl ov.isSome,H2,I3,rfl,q2⟩
theorem f3_(hu:X.A.units+1<cLine)(hi:PE X i ty)(ho:PE X o td):PC X .NotIn i o (GJ_ ty td):=by intro pins s σ H Q I h;show thn (hi pins s σ H _ I h) λiv s1 ⟨y,H1,I1,ry,q1⟩=>thn (ho pins s1 σ H1 _ I1 q1) λu s2 ⟨x,H2,I2,rx,a,ov,ex,g,q2⟩=>?_;subst ex;obtain rfl:u=Value.ref a:=rx;show m8_ hu I2 g ry λs3 I3=>⟨.bl (!ov.isSome),H2,I3,rfl,q2⟩
theorem dx_(hu:X.A.units+1<cLine)(ho:PE X o td)(hi:PE X i ty)(hv:PE X value tv)(hs:swapsWith value (some (.Subscript o i pos')) pos.line X.env=pure false):
  PS X (.Assign [.Subscript o i pos'] value pos) (IU_ td ty tv):=by
 intro pins s σ H D I h;show Eb_ (thn (hv pins s σ H _ I h) λr s1 ⟨v,H1,I1,rv,q1⟩=>thn (ho pins s1 σ H1 _ I1 q1) λu s2 ⟨x,H2,I2,rx,q2⟩=>thn (hi pins s2 σ H2 _ I2 q2) λiv s3 ⟨y,H3,I3,ry,a,H4,ex,g,q3⟩=>?_) hs;subst ex;obtain rfl:u=Value.ref a:=rx;show kI_ hu I3 g ry rv λs4 I4=>⟨σ,H4,I4,q3⟩
end
theorem lW_(h:Heap)(hb:sysModules<h.objs.size):Fg_ P w H (h.push {cls:=.type "dict",data:=.dict #[]}) h.objs.size (.dK []):=
 ⟨AB_ _,Cf_.mpr (Ne.symm (AL_ hb)),[],.nil,Heap.DictOf.new h⟩
theorem lX_(h:Heap)(hb:sysModules<h.objs.size):Fg_ P w H (h.push {cls:=.type "dict",data:=.dict #[]}) h.objs.size (.dT []):=
 ⟨AB_ _,Cf_.mpr (Ne.symm (AL_ hb)),[],.nil,_,#[],0,Az_ _ rfl,⟨rfl,rfl,rfl⟩,rfl,rfl,AY_⟩
def HE_:TE:=λ_ H Q=>∀p,H p=none->Q (.ref p) (upd H p (.dK []))
def Hz_:TE:=λ_ H Q=>∀p,H p=none->Q (.ref p) (upd H p (.dT []))
variable {pos:Pos}
theorem g8_:PE X (.Dict [] [] pos) HE_:=λpins s σ H Q I h =>DM_ ⟨.ref s.heap.objs.size,_,I.laid (a:=s.heap.objs.size) (o:=.dK []) (t':=s.toks) (λ_ _ q=>Al_ _ q) (Aj_ _) (lW_ s.heap I.big),rfl,h _ (I.hok.fresh (Aj_ _))⟩
theorem ez_:PE X (.Dict [] [] pos) Hz_:=λpins s σ H Q I h =>DM_ ⟨.ref s.heap.objs.size,_,I.laid (a:=s.heap.objs.size) (o:=.dT []) (t':=s.toks) (λ_ _ q=>Al_ _ q) (Aj_ _) (lX_ s.heap I.big),rfl,h _ (I.hok.fresh (Aj_ _))⟩
def F4_(kvs more:List (Key×V)):List (Key×V):=more.foldl (λacc kv=>Fn_ acc kv.1 kv.2) kvs
theorem KV.merge:∀{more:List (Key×V)}{rs:List (Key×Value)}{kvs:List (Key×V)}{vs:List (Key×Value)},KV more rs->KV kvs vs->KV (F4_ kvs more) (merged vs rs):=by
 intro more rs kvs vs r;unfold KV at r
 induction r generalizing kvs vs with
 |nil=>intro q;show q
 | @cons p q ps qs h t ih =>
  intro r0;have e:KV (Fn_ kvs p.1 p.2) (stored vs q.1 q.2):=by have:=r0.put p.1 h.2;rw[<-h.1];show this
  show ih e
variable {d:V}
variable {kvs:List (Key×V)}
end L2
namespace Att
open PySem PySem.W PySem.Calls PyProof.Rows
end Att
namespace L2
open PySem PySem.Spec PyProof.Rows
variable {X:Cx}
section
variable {κ:Type}[DecidableEq κ]
theorem kK_{kvs:List (κ×V)}{k:κ}{v:V}(h:Fl_ kvs k=some v):k∈kvs.map (·.1):=by
 have q:(kvs.any λkv=>decide (kv.1=k))=true:=by
  rw[cn_,h]
  all_goals rfl
 obtain⟨p,hp,e⟩:=Ce_.mp q;show An_.mpr ⟨p,hp,A6_ e⟩
end
abbrev Sk:=List Key×Bool
variable {P:Program}{w:World}{A:Around}{E:Value->Shared->Prop}{s:Shared}
def Jo_(b:Bool):Int:=if b then 1 else 0
theorem kL_{b:Bool}{Q:Int->Shared->Prop}(hu:A.units<cLine)(k:Q (Jo_ b) {s with toks:=s.toks+1}):wpAny (model P w) A (pyHash (.bool b)) Q E s:=by
 change wpAny _ _ (pyHashByItsType (.bool b)) _ _ _;show EC_ (T := "bool") rfl F.slot_bool_hash entry_int_hash (args_int_hash _) (beq_builtin_none _) (.inr hu) ?_;cases b
 .show(show wpAny _ _ (do ret (<-mkInt 0)) _ _ s from Ac_ (EK_ (Ah_ ⟨_,_,rfl,k⟩)))
 .show(show wpAny _ _ (do ret (<-mkInt 1)) _ _ s from Ac_ (EK_ (Ah_ ⟨_,_,rfl,k⟩)))
def Hl_(P:Program)(w:World)(h:Heap)(k:Sk)(a:Addr):Prop:=∃o n p,h.get? a=some o/\o.cls=.type "tuple" /\ o.data=.seq #[.ref p,.bool k.2] n/\(tupleKind (EV_ P w)).is h k.1 p
variable{a:Addr}
theorem Hl_.ty{k:Sk}(x:Hl_ P w s.heap k a):s.TypeIs (.ref a) "tuple" := let⟨o,_,_,h,c,_⟩:=x;⟨o,h,c⟩
variable{h:Heap}{x y:Sk}
theorem Hl_.inj(hx:Hl_ P w h x a)(hy:Hl_ P w h y a):x=y:=by
 obtain⟨o,n,p,h1,_,h3,h4⟩:=hx;obtain⟨o',n',p',g1,_,g3,g4⟩:=hy;cases h1.symm.trans g1;rw[h3]at g3;injection g3 with g3 _
 have e:p=p'/\x.2=y.2:=by simpa using g3
 obtain⟨rfl,e2⟩:=e;have e1:=(tupleKind (EV_ P w)).inj h4 g4;show BD_ e1 e2
variable{d:Addr}
theorem Hl_.keeps{h':Heap}{k:Sk}{o:Obj}{es ep} (x:Hl_ P w h k a) (ho:h.get? d=some o) (hd:o.data=.dict es ep) (hs:Heap.SameBut d h h'):Hl_ P w h' k a:=by
 obtain⟨o',n,p,h1,h2,h3,h4⟩:=x;have ne:a≠d:=by rintro rfl;cases h1.symm.trans ho;rw[hd]at h3;show nomatch h3
 show⟨o',n,p,(hs.2 a ne).trans h1,h2,h3,(tupleKind (EV_ P w)).keeps h4 ho hd hs⟩
def Ir_(P:Program)(w:World)(k:Sk):Int:=reduceHash (Builtin.Tuple.tupleHashOf [(tupleKind (EV_ P w)).hash k.1,Jo_ k.2])
theorem m9_{k:Sk}{Q:Int->Shared->Prop}(hu:A.units+1<cLine)(x:Hl_ P w s.heap k a)(h:Q (Ir_ P w k) {s with toks:=s.toks+((k.1.length+1)+2)}):wpAny (model P w) A (pyHash (.ref a)) Q E s:=by have ty:=x.ty;obtain⟨o,n,p,h1,h2,h3,h4⟩:=x;change wpAny _ _ (pyHashByItsType (.ref a)) _ _ _;show EC_ (T := "tuple") ty F.slot_tuple_hash F.entry_tuple_hash (F.args_tuple_hash_1 _) (beq_builtin_none _) (.inr o_) ?_;change wpAny _ _ (Builtin.Tuple.tupleItemsOf (.ref a) >>= _) _ _ s;show Ac_ (Dr_ h1 h3 ?_);show Ac_ ?_;rw[<-Ds_];change wpAny _ _ (forIn [Value.ref p,Value.bool k.2] _ _) _ _ _;rw[B1_];show Ac_ (Ac_ ((tupleKind (EV_ P w)).pyHash (show A.in1.units<cLine from hu) h4 ?_));show Ac_ (Ah_ (Ah_ ?_));change wpAny _ _ (forIn [Value.bool k.2] _ _) _ _ _;rw[B1_];show Ac_ (Ac_ (kL_ (show A.in1.units<cLine from hu) ?_));show Ac_ (Ah_ (Ah_ ?_));change wpAny _ _ (forIn ([]:List Value) _ _) _ _ _;rw[Ek_];show Ah_ ?_;change wpAny _ _ (retInt _) _ _ _;show Ac_ (EK_ (Ah_ ⟨_,_,rfl,h⟩))
variable{Q:Bool->Shared->Prop}
theorem nZ_{b c:Bool}(h:Q (decide (b=c)) s):wpAny (model P w) A (eqBool (.bool b) (.bool c)) Q E s:=by
 unfold eqBool;change wpAny _ _ (if(Value.bool b == Value.bool c)=true then _ else _) Q E s;by_cases e:b=c
 .subst e;rw[if_pos s_];show Ac_ (DA_ (Ah_ (by simpa using h)))
 .rw[if_neg (by simp[e])];show Ac_ (wpAny_richCompare_same (op:=.Eq) (T := "bool") rfl rfl F.slot_bool_eq (BV_ F.slot_bool_eq rfl entry_int_eq (Ah_ ⟨.bool (decide (b=c)),?_,s_,Bh_ h⟩) (args_int_eq _ _)));cases b <;> cases c <;> first|show absurd rfl e|rfl
theorem Kt_{b:Addr}(hu:A.units+1<cLine)(hx:Hl_ P w s.heap x a)(hy:Hl_ P w s.heap y b)(h:Q (decide (x=y)) s):wpAny (model P w) A (eqBool (.ref a) (.ref b)) Q E s:=by
 unfold eqBool
 try with_reducible show Be_ ?_
 change wpAny _ _ (if(Value.ref a == Value.ref b)=true then _ else _) Q E s;by_cases hab:a=b
 .subst hab;rw[if_pos s_];obtain rfl:=hx.inj hy;show Ac_ (DA_ (Ah_ (by simpa using h)))
 .rw[if_neg (by simp[hab])];show Ac_ (wpAny_richCompare_same_room (op:=.Eq) hx.ty hy.ty F.slot_tuple_eq (BV_ F.slot_tuple_eq hx.ty F.entry_tuple_eq ?_ (F.args_tuple_eq_2 _ _)) o_);have tb:=hy.ty;obtain⟨o,n,p,h1,h2,h3,h4⟩:=hx;obtain⟨o',n',q,g1,g2,g3,g4⟩:=hy;change wpAny _ _ (isInstance (.ref b) (.type "tuple") >>= _) _ _ s;show Ac_ (CD_ tb C0_ ?_);simp only[Bool.not_true,BZ_,Co_];show Ac_ (Dr_ h1 h3 ?_);show Ac_ (Dr_ g1 g3 ?_);show Ac_ ?_;change wpAny _ _ (forIn [(Value.ref p,Value.ref q),(Value.bool x.2,Value.bool y.2)] _ _) _ _ _;rw[B1_];show Ac_ (Ac_ ((tupleKind (EV_ P w)).eqBool (show A.in1.units<cLine from hu) h4 g4 ?_));by_cases e1:x.1=y.1
  .rw[A3_ e1,if_neg d_];show Ah_ ?_;change wpAny _ _ (forIn [(Value.bool x.2,Value.bool y.2)] _ _) _ _ _;rw[B1_];show Ac_ (Ac_ (nZ_ ?_));by_cases e2:x.2=y.2
   .rw[A3_ e2,if_neg d_];rw[A3_ (BD_ e1 e2)]at h;show Ah_ ?_;change wpAny _ _ (forIn ([]:List (Value×Value)) _ _) _ _ _;rw[Ek_];show Ah_ (Ah_ ⟨_,rfl,(λe=>nomatch e),Bh_ h⟩)
   .rw[AE_ e2,if_pos d_];rw[AE_ (λz=>e2 (congrArg Prod.snd z))]at h;show Ac_ (Ah_ (Ah_ (Ah_ (Ah_ ⟨_,rfl,(λe=>nomatch e),Bh_ h⟩))))
  .rw[AE_ e1,if_pos d_];rw[AE_ (λz=>e1 (congrArg Prod.fst z))]at h;show Ac_ (Ah_ (Ah_ (Ah_ (Ah_ ⟨_,rfl,(λe=>nomatch e),Bh_ h⟩))))
theorem kM_{ks:List Key}{p:Addr}{n:Nat}(x:(tupleKind (EV_ P w)).is s.heap ks p)(h:Q true s):wpAny (model P w) A (eqIsQuiet (n+1) (.ref p)) Q E s:=by
 have ty:=IsTupleKey.typeIs x;obtain⟨o,items,m,ho,_,hd,hi⟩:=x;unfold eqIsQuiet;show Ac_ (CG_ ty F.slot_tuple_eq.lookup ?_);change wpAny _ _ (isInstance (.ref p) (.type "tuple") >>= _) _ _ s;show Ac_ (CD_ ty C0_ ?_);rw[if_neg d_];show Ac_ (Cc_ ho hd (Ac_ ?_));change wpAny _ _ (forIn items _ _) _ _ s;rw[<-Ds_];show wpAny_forIn_list _ (λrest r s'=>r.1=none/\s'=s/\∀v∈rest,carriedByValue v=true) _ ?_ ?_ _ _ ⟨rfl,rfl,hi.byValue⟩
 .rintro v rest r s' ⟨hr,rfl,all⟩;rw[eqIsQuiet_byValue _ (all v Au_)];show Ac_ (Ah_ ?_);rw[if_neg d_];show Ah_ ⟨rfl,rfl,λu hu=>all u (Am_ _ hu)⟩
 .rintro⟨r1,r2⟩ s' ⟨hr,rfl,_⟩;cases(show r1=none from hr);show Ah_ h
theorem lY_{k:Sk}(x:Hl_ P w s.heap k a)(h:Q true s):wpAny (model P w) A (eqIsQuiet 8 (.ref a)) Q E s:=by have ty:=x.ty;obtain⟨o,n,p,h1,h2,h3,h4⟩:=x;unfold eqIsQuiet;show Ac_ (CG_ ty F.slot_tuple_eq.lookup ?_);change wpAny _ _ (isInstance (.ref a) (.type "tuple") >>= _) _ _ s;show Ac_ (CD_ ty C0_ ?_);rw[if_neg d_];show Ac_ (Cc_ h1 h3 (Ac_ ?_));change wpAny _ _ (forIn #[Value.ref p,Value.bool k.2] _ _) _ _ s;rw[<-Ds_];change wpAny _ _ (forIn [Value.ref p,Value.bool k.2] _ _) _ _ _;rw[B1_];show Ac_ (Ac_ (kM_ (n:=6) h4 ?_));rw[if_neg d_];show Ah_ ?_;change wpAny _ _ (forIn [Value.bool k.2] _ _) _ _ _;rw[B1_,eqIsQuiet_byValue _ (by rfl)];show Ac_ (Ac_ (Ah_ ?_));rw[if_neg d_];show Ah_ ?_;change wpAny _ _ (forIn ([]:List Value) _ _) _ _ _;rw[Ek_];show Ah_ (Ah_ h)
def FV_(P:Program)(w:World):HeapKind P w Sk where
 is:=Hl_ P w
 hash:=Ir_ P w
 draws:=λk=>(k.1.length+1)+2
 room:=λA=>A.units+1<cLine
 inj:=λhx hy=>hx.inj hy
 keeps:=λx ho hd hs=>x.keeps ho hd hs
 pyHash:=λhu hk h=>m9_ hu hk h
 eqBool:=λhu hx hy h=>Kt_ hu hx hy h
 quiet:=λhk h=>lY_ hk h
def JW_(n:Nat):List V:=(List.range n).map λi:Nat=>V.int (i:Int)
def HV_(ta:TA):TE:=λσ H Q=>ta σ H λvs H1=>∃n:Nat,vs=[.int (n:Int)]/\n<=1000/\∀l,H1 l=none->Q (.ref l) (upd H1 l (.lst (JW_ n)))
theorem jn_:∀{xs:List V}{us:List Value},xs.length=us.length->(∀(j:Nat) x u,xs[j]?=some x->us[j]?=some u->Fb_ x u)->E8_ xs us
 |[],[],_,_=>.nil
 |[],_::_,h,_=>by simp at h
 |_::_,[],h,_=>by simp at h
 |x::xs,u::us,h,k=>.cons (k 0 x u rfl rfl) (jn_ (by simpa using h) λj y v e e'=>k (j+1) y v (by simpa using e) (by simpa using e'))
open PySem.W
def Gc_{α:Type}(lt:Nat->Nat->Bool)(n:Nat):KasT α->Option α
 | .ret a=>some a
 | .ask i j k=>if i<n/\j<n then Gc_ lt n (k (lt i j))else none
theorem mF_{α:Type}{ask:Nat->Nat->(Bool->Shared->Prop)->Shared->Prop}{lt:Nat->Nat->Bool}{n:Nat}{Q:α->Shared->Prop}{s:Shared}(hc:∀i j (C:Bool->Shared->Prop),i<n->j<n->C (lt i j) s->ask i j C s):
  ∀(t:KasT α){p:α},Gc_ lt n t=some p->Q p s->t.kasWp ask Q s
 | .ret a,p,e,q=>by
  cases e;show q
 | .ask i j k,p,e,q=>by
  unfold Gc_ at e;split at e
  .rename_i h;show hc i j _ h.1 h.2 (mF_ hc (k (lt i j)) e q)
  .cases e
variable {pins:List (Addr×Obj)}{σ:St}{H:Hp}
theorem n0_{m m':Str->Option Value}(x:h.Ns a m)(y:h.Ns a m'):m=m':=by obtain⟨o,es,ep,ho,hd,_,hf⟩:=x;obtain⟨o',es',ep',ho',hd',_,hf'⟩:=y;rw[ho]at ho';cases ho';rw[hd]at hd';cases hd';funext z;rw[<-hf z,hf' z]
theorem Inv.keeps(I:Inv X pins σ H s){m:Str->Option Value}{h':Heap}(F:Fr X.base X.env.locals h' m)(N:News X.base X.env.locals h' (Fx_ X.base s.heap X.env.locals)):
  ∀b o,b≠X.env.locals->s.heap.get? b=some o->h'.get? b=some o:=λb o hb e=>by
 cases q:X.base.get? b with
 |some u =>
  have z:=I.bk b u q;rw[e]at z;cases z;show F.keep b _ q
 |none=>show(N (b,o) (d5_ hb q e)).1
theorem Inv.led{H':Hp}{t':Nat}(I:Inv X pins σ H s){m:Str->Option Value}(hn:s.heap.Ns X.env.locals m){h':Heap}(F:Fr X.base X.env.locals h' m)(N:News X.base X.env.locals h' (Fx_ X.base s.heap X.env.locals))
  (free:∀b o,s.heap.get? b=some o->H b=none->H' b=none) (old:∀b o,H b=some o->H' b=some o) (new:∀b o,H' b=some o->H b=none->Fg_ X.prog X.w H' h' b o):Inv X pins σ H' {s with heap:=h',toks:=t'}:=by
 have kp:=I.keeps F N;show I.step (g':=s.gens) (d':=s.drawn) (ch:=[]) (λ_ z=>nomatch z) (λb o hb _ _ e _=>kp b o hb e) (λb o hb _ _ e _=>⟨o.slots,kp b o hb e⟩) (λb o _ e n=>free b o e n) (λb o _ e=>?_) (λb xs q=>old b _ q) (λb o u q=>old b _ q) (λb ps q=>⟨#[],by simpa using old b _ q⟩) (λm' hm=>?_) ?_ I.bare
 .by_cases hb:b=X.env.locals
  .subst hb;obtain⟨o',_,_,ho',_⟩:=F.ns;show⟨o',ho'⟩
  .show⟨o,kp b o hb e⟩
 .rw[n0_ hm hn];show F.ns
 .intro b o e;cases q:H b with
  |none=>show new b o e q
  |some u =>
   have z:=old b u q;rw[e]at z;cases z;show(I.hok b o q).stay (λc v hc r=>kp c v (λw=>?_) r) (λc r=>old c _ r) λc xs r=>old c _ r
   rcases hc with rfl|hc
   .rw[w,I.free]at q;cases q
   .rw[w,I.free]at hc;cases hc
theorem kN_{ys:List V}{its:List Value}(r:E8_ ys its)(is:List Nat):E8_ (is.map λi=>ys.getD i .non) (is.map λi=>its.getD i Value.none):=by
 induction is with
 |nil=>show .nil
 |cons i is ih =>
  show .cons ?_ ih;change Fb_ (ys.getD i .non) (its.getD i Value.none);rw[Ag_,Ag_];have hl:=r.length;cases e:ys[i]? with
  |none =>
   have:ys.length<=i:=DB_.mp e;rw[DB_.mpr o_];show rfl
  |some x =>obtain⟨u,hu,ru⟩:=r.get e;rw[hu];show ru
theorem JJ_{o:HO}(x:Fg_ P w H h a o):∃ob,h.get? a=some ob:=by
 cases o with
 |lst xs=>obtain⟨_,_,_,_,e⟩:=x;show⟨_,e⟩
 |tup xs=>obtain⟨_,_,_,ob,e,_⟩:=x;show⟨_,e⟩
 |dK kvs=>obtain⟨_,_,_,_,ob,_,_,e,_⟩:=x;show⟨_,e⟩
 |dT kvs=>obtain⟨_,_,_,_,ob,_,_,e,_⟩:=x;show⟨_,e⟩
 |set S n=>obtain⟨ob,_,_,_,e,_⟩:=x;show⟨_,e⟩
 |ins C dx fs=>obtain⟨_,_,_,e,_⟩:=x;show⟨_,e⟩
 |own y=>show x
 |xd fs=>obtain⟨_,⟨ob,_,_,e,_⟩,_⟩:=x;show⟨_,e⟩
 |rng lo hi=>obtain⟨_,_,_,e⟩:=x;show⟨_,e⟩
 |frz ob u=>show⟨_,x.1⟩
 |tbl ps=>show⟨_,show h.get? a=some _ from x⟩
 |met f y=>show⟨_,show h.get? a=some _ from x⟩
 |ext φ=>show x.2.1
theorem hO_{Q:VK}{p:Addr}{ys:List V}{lt:Nat->Nat->Bool}{κ:SortKind}{pm:Array Nat}(I:Inv X pins σ H s)(hq:SqL X.K H p ys)(h2:2<=ys.length)(h64:ys.length<64)
  (kind:∀(its:List Value)(s':Shared),E8_ ys its->Inv X pins σ H s'->∀C:SortKind->Shared->Prop,C κ s'->wpAny (model X.prog X.w) X.A.in1.in1 (keyKind' its.toArray) C (λ_ _=>False) s')
  (less:∀(its:List Value)(s':Shared)(i j:Nat),E8_ ys its->Inv X pins σ H s'->i<ys.length->j<ys.length->∀C:Bool->Shared->Prop,C (lt i j) s'->wpAny (model X.prog X.w) X.A.in1.in1 (keyLt' κ (its.getD i Value.none) (its.getD j Value.none)) C (λ_ _=>False) s')
  (run:Gc_ lt ys.length (kas_sort ys.length)=some pm) (hz:pm.size<=1000) (q:∀l,H l=none->Q (.ref l) (upd H l (.lst (pm.toList.map λi=>ys.getD i .non)))):
  wpAny (model X.prog X.w) X.A (call (.builtin "sorted") [.ref p]) (EP X pins σ Q) X.xe s:=by
 obtain⟨its,rv,pl,_⟩:=I.list hq;have hl:=rv.length;obtain⟨m,hn,_⟩:=id I.loc;have F0:Fr X.base X.env.locals s.heap m:=⟨hn,I.bk,AT_ I.ok.bsz I.ok.above⟩;show kat_sorted F0 eo_ pl.isList o_ o_ λD e1 h1 F1 N1 lt1=>?_;have N1':News X.base X.env.locals h1 (Fx_ X.base s.heap X.env.locals):=λz hz'=>N1 z (Am_ _ hz');have ND:=N1 (D,_) Au_;have fr:∀b o,s.heap.get? b=some o->b≠D:=λb o e w=>by subst w;show absurd (lt1 (b,o) (d5_ ND.2.1 ND.2.2 e)) (Bc_ _)
 have HD:H D=none:=by
  cases w:H D with
  |none=>rfl
  |some u =>obtain⟨o,g⟩:=JJ_ (I.hok D u w);show absurd rfl (fr D o g)
 have I1:Inv X pins σ H {s with heap:=h1,toks:=s.toks}:=I.led hn F1 N1' (λ_ _ _ n=>n) (λ_ _ w=>w) (λb o w n=>by rw[w]at n;cases n);show kind its _ rv I1 _ ?_;rw[<-hl];show mF_ (lt:=lt) (n:=ys.length) (λi j C hi hj hC=>less its _ i j rv I1 hi hj C hC) _ run ?_;show KasFin.intro F1 N1 (.head λz hz' w=>?_) λh2' c F2 N2=>?_
 .show absurd (lt1 z hz') (by rw[w];show Bc_ _)
 .have N2':News X.base X.env.locals h2' (Fx_ X.base s.heap X.env.locals):=λz hz'=>N2 z (Am_ _ hz');have hD:=(N2 (D,_) Au_).1;show⟨.ref D,upd H D (.lst (pm.toList.map λi=>ys.getD i .non)),I.led (t':=s.toks) hn F2 N2' (λb o e n=>by rw[ae_ (fr b o e)];show n) (λb o e=>by rw[ae_ (ag_ e HD)];show e) (λb o e n=>?_),rfl,q D HD⟩;by_cases hb:b=D
  .subst hb;rw[aa_]at e;cases e;show⟨AV_ (EN_ (by simp;lia)),_,c,kN_ rv _,hD⟩
  .rw[ae_ hb,n]at e;cases e
open HT
open PySem.SeqAt
open PySem.AutoSeq1 (wpAny_loadPart')
open PySem.MeetsSeq PySem.MeetsSeq2 PySem.MeetsSeq3
variable {prog:Program}
theorem cS_{α β:Type}{lt:Nat->Nat->Bool}{N:Nat}{f:α->KasT β}:∀(t:KasT α){a:α},Gc_ lt N t=some a->Gc_ lt N (t.bind f)=Gc_ lt N (f a)
 | .ret b,a,e=>by cases e;rfl
 | .ask i j k,a,e=>by
  unfold Gc_ at e;change(if i<N/\j<N then Gc_ lt N ((k (lt i j)).bind f)else none)=_;split at e
  .rename_i h;rw[if_pos h];show cS_ (k (lt i j)) e
  .cases e
section
variable {lt:Nat->Nat->Bool}{N:Nat}
def Pm(N:Nat)(p:Array Nat):Prop:=p.Perm (List.toArray (List.range N))
theorem Pm.below{p:Array Nat}(h:Pm N p)(h0:0<N)(i:Nat):p.getD i 0<N:=by
 by_cases hi:i<p.size
 .have e:p.getD i 0=p[i]:=by simp[Array.getD,hi]
  have m:p[i]∈(List.range N):=by
   have:p[i]∈p.toList:=s_
   show(Bt_.mp h).mem_iff.mp this
  rw[e];show AU_.mp m
 .have e:p.getD i 0=0:=by simp[Array.getD,hi]
  rw[e];show h0
theorem Pm.rev{p:Array Nat}(h:Pm N p)(i j:Nat):Pm N (kas_rev p i j):=(mirror_perm _ _ _ _).trans h
end
theorem Inv.frm(I:Inv X pins σ H s):∃m,s.heap.Ns X.env.locals m/\Fr X.base X.env.locals s.heap m:=by obtain⟨m,hn,_⟩:=id I.loc;show⟨m,hn,hn,I.bk,AT_ I.ok.bsz I.ok.above⟩
theorem Inv.led_new{X:Cx}{pins:List (Addr×Obj)}{σ:St}{H:Hp}{s:Shared}{t':Nat}{m:Str->Option Value}{h':Heap}{D:Addr}{o:HO}{ob:Obj}(I:Inv X pins σ H s)(hn:s.heap.Ns X.env.locals m)(F:Fr X.base X.env.locals h' m)
  (N:News X.base X.env.locals h' ((D,ob)::Fx_ X.base s.heap X.env.locals)) (lt1:∀q∈Fx_ X.base s.heap X.env.locals,q.1<D) (new:Fg_ X.prog X.w (upd H D o) h' D o):H D=none/\Inv X pins σ (upd H D o) {s with heap:=h',toks:=t'}:=by
 have ND:=N (D,ob) Au_;have fr:∀b o,s.heap.get? b=some o->b≠D:=λb o e w=>by subst w;show absurd (lt1 (b,o) (d5_ ND.2.1 ND.2.2 e)) (Bc_ _)
 have HD:H D=none:=by
  cases w:H D with
  |none=>rfl
  |some u =>obtain⟨o',g⟩:=JJ_ (I.hok D u w);show absurd rfl (fr D o' g)
 show⟨HD,I.led hn F (λz hz'=>N z (Am_ _ hz')) (λb o' e n=>by rw[ae_ (fr b o' e)];show n) (λb o' e=>by rw[ae_ (ag_ e HD)];show e) (λb o' e n=>?_)⟩;by_cases hb:b=D
 .subst hb;rw[aa_]at e;cases e;show new
 .rw[ae_ hb,n]at e;cases e
def Jf_:List V->Hp->VK->Prop:=λvs H Q=>∃(p:Addr)(ns:List Int),vs=[.ref p]/\H p=some (.lst (ns.map V.int))/\ns.length<64/\∀(l:Addr)(zs:List Int),H l=none->zs.Perm ns->zs.Pairwise (· <= ·)->Q (.ref l) (upd H l (.lst (zs.map V.int)))
theorem ft_:∀{us:List Value}{ns:List Int},IntsAre us ns->E8_ (ns.map V.int) us
 |_,_,.nil=>.nil
 |_,_,.cons n t h=>.cons ⟨t,rfl⟩ (ft_ h)
theorem gG_:FB_ X (.builtin "sorted") Jf_:=by intro pins s σ H xs us Q I r h;obtain⟨p,ns,rfl,hp,h64,q⟩:=h;obtain⟨u,rfl,e⟩:=FS_ r;cases e;obtain⟨its,rv,pl,_⟩:=I.list (.inl (.inl hp));obtain⟨m,hn,F0⟩:=I.frm;show kso_sorted F0 eo_ pl.isList (jG_ rv) h64 λD vs' zs c h' F N lt1 hz hlz hpm hpw _=>?_;have hD:=(N (D,_) Au_).1;obtain⟨HD,I2⟩:=I.led_new (t':=s.toks) (o:=.lst (zs.map V.int)) hn F N lt1 ⟨AV_ (EN_ (by rw[Ab_];lia)),vs',c,ft_ hz,hD⟩;show⟨.ref D,_,I2,rfl,q D zs HD hpm hpw⟩
theorem Kn_{a:Addr}{v:Value}{n:Nat}{P:PySem.Fin->Shared->Prop}(ho:s.heap.get? a=some (seqObj "list" #[v] n))
  (h:∀h' c,(∀b o,b≠a->s.heap.get? b=some o->h'.get? b=some o)->h'.get? a=some (seqObj "list" #[v] c)->P (.done (.ret .none)) {s with heap:=h'}):wpAny (model prog w) A (Builtin.«list.sort» ⟨[.ref a],[]⟩) P E s:=by
 have s1:=Heap.SameBut.update s.heap a (Obj.mapSeq λ_=>(#[]:Array Value));obtain⟨e1,o1⟩:∃e1,(s.heap.update a (Obj.mapSeq λ_=>(#[]:Array Value))).get? a=some (seqObj "list" #[] e1):=⟨_,D2_ ho λ_=>#[]⟩;rw[list_sort_plain];show Ac_ (listItems_at ho rfl (Ac_ (Ey_ ho rfl (Ac_ (seqEpoch_at o1 rfl (Ac_ (wpAny_newTuple (Ac_ (wpAny_newList (Be_ ?_) (AB_ _))) ?_)))) ?_ (AB_ _))))
 .dsimp only
  have lt2:(#[v]:Array Value).size<2:=by change 1<2;decide
  rw[if_pos lt2];show Ac_ (Ah_ ?_);rw[if_pos lt2];have k3:∀b o,(s.heap.update a (Obj.mapSeq λ_=>(#[]:Array Value))).get? b=some o->(((s.heap.update a (Obj.mapSeq λ_=>(#[]:Array Value))).push (seqObj "tuple" #[v] 0)).push (seqObj "list" #[] 0)).get? b=some o:=λb o e=>Al_ _ (Al_ _ e);have o3:=k3 _ _ o1;have st:failedOf (SortSt.mk' general' ((#[v]:Array Value).zip #[v]) #[] 7 none)=none:=rfl;have ar:(arrOf (SortSt.mk' general' ((#[v]:Array Value).zip #[v]) #[] 7 none)).map (λx=>x.snd)=#[v]:=by rw[show arrOf (SortSt.mk' general' ((#[v]:Array Value).zip #[v]) #[] 7 none)=(#[v]:Array Value).zip #[v]from rfl];simp
  show Ac_ (Ah_ (a:=((),SortSt.mk' general' ((#[v]:Array Value).zip #[v]) #[] 7 none)) ?_);show Ac_ (seqEpoch_at o3 rfl (Ac_ (Ey_ o3 rfl ?_ (AB_ _) ?_)))
  .dsimp only
   rw[ar,if_neg s_];obtain⟨c2,o4⟩:∃c2,((((s.heap.update a (Obj.mapSeq λ_=>(#[]:Array Value))).push (seqObj "tuple" #[v] 0)).push (seqObj "list" #[] 0)).update a (Obj.mapSeq λ_=>(#[v]:Array Value))).get? a=some (seqObj "list" #[v] c2):=⟨_,D2_ o3 λ_=>#[v]⟩;show Ah_ (h _ c2 (λb o hb e=>?_) o4);rw[AW_ _ _ (Ne.symm hb)];show k3 b o ?_;rw[AW_ _ _ (Ne.symm hb)];show e
  .rw[ar];show(show 1<=sizeLine+1 from Nat.le_add_left 1 _)
 .show(show 1<=sizeLine from AV_ (EN_ d_))
 .show(show 1<=sizeLine from AV_ (EN_ d_))
theorem I2_{l:Addr}{v:Value}{Q:Value->Shared->Prop}(hl:s.heap.IsList l #[v])
  (h:∀D h' c,s.heap.objs.size<=D->(∀b o,s.heap.get? b=some o->h'.get? b=some o)->h'.get? D=some (seqObj "list" #[v] c)->Q (.ref D) {s with heap:=h'}):wpAny (model prog w) A (call (.builtin "sorted") [.ref l]) Q E s:=by
 show Calls.call_function_entry kind_sorted plain_sorted entry_sorted (args_sorted1 _) ?_;unfold Builtin.«sorted»;have z1:(#[v]:Array Value).size<=sizeLine:=(show 1<=sizeLine from AV_ (EN_ d_));show Ac_ (m:=checkCount "sorted" 1 1 _) (Ah_ (Ac_ (collect_list hl (Ac_ (wpAny_newList ?_ z1)) z1)));have hz:((s.heap.push (seqObj "list" #[] 0)).update s.heap.objs.size (Obj.mapSeq λx=>x ++ #[v])).objs.size=s.heap.objs.size+1:=by rw[Heap.size_update,size_push']
 have kp:∀b o,s.heap.get? b=some o->(((s.heap.push (seqObj "list" #[] 0)).update s.heap.objs.size (Obj.mapSeq λx=>x ++ #[v])).push (seqObj "list" #[v] 0)).get? b=some o:=λb o q=>by have hlt:=Av_ q;show Al_ _ ?_;rw[AW_ _ _ (DD_ hlt)];show Al_ _ q
 have ho:=Az_ ((s.heap.push (seqObj "list" #[] 0)).update s.heap.objs.size (Obj.mapSeq λx=>x ++ #[v])) (o:=seqObj "list" #[v] 0) rfl;show Ac_ (Be_ (BV_ slot_list_sort ⟨_,ho,rfl⟩ entry_list_sort (Kn_ (n:=0) ho λh' c k2 hD=>⟨_,rfl,Ah_ ⟨_,rfl,h _ h' c ?_ (λb o e=>k2 b o ?_ (kp b o e)) hD⟩⟩) (args_list_sort _)))
 .change s.heap.objs.size<=((s.heap.push (seqObj "list" #[] 0)).update s.heap.objs.size (Obj.mapSeq λx=>x ++ #[v])).objs.size;rw[hz];show CT_ _
 .have:=Av_ e;change b≠((s.heap.push (seqObj "list" #[] 0)).update s.heap.objs.size (Obj.mapSeq λx=>x ++ #[v])).objs.size;rw[hz];show AL_ (Cr_ this)
def Ji_:List V->Hp->VK->Prop:=λvs H Q=>∃(p:Addr)(y:V),vs=[.ref p]/\H p=some (.lst [y])/\∀l,H l=none->Q (.ref l) (upd H l (.lst [y]))
theorem gH_:FB_ X (.builtin "sorted") Ji_:=by intro pins s σ H xs us Q I r h;obtain⟨p,y,rfl,hp,q⟩:=h;obtain⟨u,rfl,e⟩:=FS_ r;cases e;obtain⟨its,rv,pl,_⟩:=I.list (.inl (.inl hp));obtain⟨v,rfl,ry⟩:=FS_ rv;show I2_ pl.isList λD h' c hD kp ho=>?_;show⟨.ref D,_,I.laid (t':=s.toks) kp hD (show Fg_ X.prog X.w _ h' _ (.lst [y])from⟨(show 1<=sizeLine from AV_ (EN_ d_)),[v],c,rv,ho⟩),rfl,q _ (I.hok.fresh hD)⟩
theorem kO_:typeLookup (.type "list_reverseiterator") "__len__"=pure none:=by rw[typeLookup_type,El_];kernel_rfl
theorem lZ_:typeLookup (.type "list_reverseiterator") "__length_hint__"=pure (some (.builtin "list_reverseiterator.__length_hint__")):=by rw[typeLookup_type,El_];kernel_rfl
abbrev FO_(acc:Array Value)(c:Nat):Obj:={cls:=.type "list",dict:=none,data:=.seq acc c,slots:=#[]}
theorem iD_{it l:Addr}{items:Array Value}{Q:Value->Shared->Prop}(hh:A.handled=none)(hit:s.heap.IsRevIter it l ((items.size:Int)-1))(hl:s.heap.IsList l items)(hne:l≠it)(hz:items.size<=sizeLine)
  (hQ:∀h' tk acc c,(∀b o,b≠it->s.heap.get? b=some o->h'.get? b=some o)->h'.get? s.heap.objs.size=some (FO_ acc c)->ItemsOf (λi v=>items[items.size-1-i]?=some v) acc items.size->Q (.ref s.heap.objs.size) {s with heap:=h',toks:=tk}):
  wpAny (model prog w) A (call (.type "list") [.ref it]) Q E s:=by
 obtain⟨oi,hoi,_⟩:=id hit;obtain⟨ol,hol,_⟩:=id hl;have itl:=Av_ hoi;have ll:=Av_ hol;show callType_codes (Q₁:=λobj s₁=>obj=.ref s.heap.objs.size/\s₁={s with heap:=s.heap.push (FO_ #[] 0)}) F.called_list (F.typeCall_list_1 _) F.entry_list_init (code_list_new _ ⟨rfl,rfl⟩) λobj s₁ h₁=>?_;obtain⟨rfl,rfl⟩:=h₁;have hS:(s.heap.push (FO_ #[] 0)).get? s.heap.objs.size=some (FO_ #[] 0):=Az_ _ rfl;have k1:∀b o,s.heap.get? b=some o->(s.heap.push (FO_ #[] 0)).get? b=some o:=λb o e=>Al_ _ e;have nS:∀b o,s.heap.get? b=some o->b≠s.heap.objs.size:=λb o e=>AL_ (Av_ e);show⟨⟨_,hS,rfl⟩,F.args_list_init_2 _ _,?_⟩;change wpAny _ _ (do let old <-Builtin.List.listItems (.ref s.heap.objs.size);Builtin.List.listUpdate (.ref s.heap.objs.size) (λ_=>#[]);letGo old.toList.reverse;Builtin.List.listExtendWith (.ref s.heap.objs.size) (.ref it) .none) _ _ _;show Ac_ (listItems_at hS rfl (Ac_ (Ey_ hS rfl (Ac_ (CU_ ?_)) (AB_ _) (AB_ _))));have k2:∀b o,s.heap.get? b=some o->((s.heap.push (FO_ #[] 0)).update s.heap.objs.size (Obj.mapSeq λ_=>(#[]:Array Value))).get? b=some o:=λb o e=>by rw[AW_ _ _ (nS b o e).symm];show k1 b o e
 obtain⟨c0,hS2⟩:∃c0,((s.heap.push (FO_ #[] 0)).update s.heap.objs.size (Obj.mapSeq λ_=>(#[]:Array Value))).get? s.heap.objs.size=some (FO_ #[] c0):=⟨_,D2_ hS λ_=>#[]⟩;change wpAny _ _ _ _ _ {s with heap:=(s.heap.push (FO_ #[] 0)).update s.heap.objs.size (Obj.mapSeq λ_=>(#[]:Array Value))};generalize(s.heap.push (FO_ #[] 0)).update s.heap.objs.size (Obj.mapSeq λ_=>(#[]:Array Value))=h2 at*;have hit2:h2.IsRevIter it l ((items.size:Int)-1):=hit.at λo e=>k2 _ _ e;have hl2:h2.IsList l items:=hl.at λo e=>k2 _ _ e;have ty:Shared.TypeIs {s with heap:=h2} (.ref it) "list_reverseiterator" := Heap.IsRevIter.typeIs (s:={s with heap:=h2}) hit2;have W:=(Walks.listRev (prog:=prog) (w:=w) (A:=A.in1.in1) hh it l hne items).toS
 have nf:s.heap.objs.size∉[it,l]:=λhm=>by
  rcases As_.mp hm with e|hm
  .show absurd itl (by rw[<-e];show Bc_ _)
  .show absurd ll (by rw[<-Ak_.mp hm];show Bc_ _)
 have ne1:Builtin.List.listSameRef (.ref s.heap.objs.size) (.ref it)=false:=by have:s.heap.objs.size≠it:=λe=>nf (by rw[e];show Au_);simp[Builtin.List.listSameRef,this]
 unfold Builtin.List.listExtendWith;show Ac_ (C9_ ty ?_);rw[if_neg (by rw[ne1];decide)];show Ac_ (wpAny_pyIter_revIter (s:={s with heap:=h2}) hit2 (Ac_ (Be_ ?_)));unfold Builtin.List.listLengthHint;show Ac_ (CG_ ty kO_ ?_);change wpAny _ _ (specialOf (Value.ref it) (Str.ofString "__length_hint__") >>= _) _ _ _;show Ac_ (CG_ ty lZ_ ?_);generalize hid:("list_reverseiterator.__length_hint__" : String)=id0
 wp_delta
 rw[show splitId id0=some ("list_reverseiterator","__length_hint__")from by subst hid;decide +kernel];subst hid;show Ac_ (CD_ (b:=true) ty (by rw[isSubtype_type];kernel_rfl) (Ah_ ?_));rw[if_neg d_];have st0:(0:Nat)<=items.size/\h2.IsRevIter it l ((items.size:Int)-1-((0:Nat):Int))/\h2.IsList l items:=⟨AB_ _,by rw[show(items.size:Int)-1-((0:Nat):Int)=(items.size:Int)-1 by lia];show hit2,hl2⟩;show Ah_ ⟨BA_ F.plain_extend_loop _,codeAny_extend_loopS (s:={s with heap:=h2}) W hz s.heap.objs.size nf .none items.size 0 #[] c0 rfl (AB_ _) st0 hS2 (ItemsOf.nil _) λs' acc c hm hS' hacc=>?_⟩;rw[Moved.eq_with hm];show⟨rfl,hQ s'.heap s'.toks acc c (λb o hb e=>hm.heap b o (λhmem=>?_) (k2 b o e)) hS' hacc⟩
 rcases As_.mp hmem with e'|hmem
 .show nS b o e e'
 .show hb (Ak_.mp hmem)
theorem iE_:bootBuiltins "reversed"=some (.type "reversed"):=r_
def Iz_(ta:TA):TE:=λσ H Q=>ta σ H λvs H1=>∃a xs,vs=[.ref a]/\H1 a=some (.lst xs)/\∀p,H1 p=none->Q (.ref p) (upd H1 p (.lst xs.reverse))
theorem f4_{a:Expr}{ta:TA}{p p' pos pos':Pos}(hc:X.calm=true)(hg:Gl X "list") (hm:X.mg "list"=none) (hg':Gl X "reversed") (hm':X.mg "reversed"=none) (ha:PA X [a] ta) (hs:E1_ [a]=true:=by rfl):
  PE X (.Call (.Name "list" p) [.Call (.Name "reversed" p') [a] [] pos'] [] pos) (Iz_ ta):=by
 have h':FD_ a=true:=by simpa[E1_]using hs
 intro pins s σ H Q I h;show CH_ (fF_ I hg hm c5_ ?_ d_ d_);show BE_ ?_ (az_ rfl) rfl;rw[az_ (e:=.Call (.Name "reversed" p') [a] [] pos') (es:=[]) rfl];change wpAny _ _ (spliced ((false,eval (.Call (.Name "reversed" p') [a] [] pos') X.env)::backTo pos (starEach [] X.env))) _ _ s;show Calls.spliced_cons ?_;show Call_ (fF_ I hg' hm' iE_ (BE_ (thn (ha pos' pins s σ H _ I h) λus s1 ⟨vs,H1,I1,r1,q1⟩=>?_) (az_ h') rfl));obtain⟨b,xs,rfl,hb,q⟩:=q1;obtain⟨u,rfl,e⟩:=FS_ r1;cases e;obtain⟨its,rv,pl,hz⟩:=I1.list (.inl (.inl hb));have hlen:=rv.length;show call_reversed_list pl.isList (Calls.spliced_nil ?_);obtain⟨ob,hob,_⟩:=id pl.isList;have bl:=Av_ hob;have e1:((its.toArray.size:Nat):Int)-1=((its.toArray.size:Nat):Int)-1:=rfl;have hit:(s1.heap.push (revObj b ((its.toArray.size:Int)-1))).IsRevIter s1.heap.objs.size b ((its.toArray.size:Int)-1):=⟨_,Az_ _ rfl,rfl,rfl⟩;show iD_ (s:={s1 with heap:=s1.heap.push (revObj b ((its.toArray.size:Int)-1))}) (I1.ok.hd hc) hit (pl.isList.at λo e=>Al_ _ e) (AL_ bl) (by rw[At_];lia) λh2 tk acc c kp hS hacc=>?_;have k1:∀b o,s1.heap.get? b=some o->h2.get? b=some o:=λb o e=>kp b o (AL_ (Av_ e)) (Al_ _ e);have sz:s1.heap.objs.size<=(s1.heap.push (revObj b ((its.toArray.size:Int)-1))).objs.size:=by rw[size_push'];show CT_ _
 show⟨.ref _,_,I1.laid (t':=tk) k1 sz (show Fg_ X.prog X.w _ h2 _ (.lst xs.reverse)from⟨by rw[BH_];show hz,acc.toList,c,jn_ ?_ ?_,by simpa using hS⟩),rfl,q _ (I1.hok.fresh sz)⟩
 .have z:acc.size=its.length:=by have:=hacc.1;simpa using this
  have z2:acc.toList.length=acc.size:=Cg_;rw[BH_];lia
 .intro j x u hx hu;have hj:j<xs.length:=by have:=(Ad_.mp hx).1;simpa using this
  rw[CZ_ hj]at hx;have z:=hacc.2 j u (by simpa using hu);obtain⟨u',hu',ru⟩:=rv.get hx;have z':its[its.length-1-j]?=some u:=by simpa using z
  rw[<-hlen,hu']at z';cases z';show ru
def GS_:V->List V->Hp->VK->Prop:=λx vs H Q=>∃(l:Addr)(xs:List V)(i:Int)(y:V),x=.ref l/\vs=[.int i,y]/\H l=some (.lst xs)/\0<=i/\i.toNat<=xs.length/\xs.length<1000/\Q .non (upd H l (.lst (xs.take i.toNat++y::xs.drop i.toNat)))
theorem kP_:MtM X "list.insert" GS_:=by
 intro pins s σ H x vs v us Q I rx rv h;obtain⟨l,xs,i,y,rfl,rfl,hH,h0,h1,h2,q⟩:=h;cases rx;obtain⟨u,w,rfl,ru,rw'⟩:=rv.two;obtain⟨t,rfl⟩:=ru;obtain⟨z,its,n,r,hl,e⟩:=I.lstM hH;show CA_ F.slot_list_insert ⟨_,e,rfl⟩ F.entry_list_insert (F.args_list_insert_3 _ _ _) (AutoSeq1.list_insert_list_int_val_1 l its.toArray n i t w (by rw[fitsIndex_both (k:=i) o_ o_];decide) (by rw[At_];lia)) ⟨e,?_⟩;show⟨.non,_,I.lset (its':=its.take i.toNat++w::its.drop i.toNat) hH e ?_ ((r.take _).append (.cons rw' (r.drop _))) ?_,rfl,q⟩
 .dsimp only
  rw[if_neg o_,At_,DZ_ o_];simp;show Bl_ s_
 .have:=EN_ h2;simp;lia
def Ite(K:PySem.W.Frag)(a:Addr):It :=
  ⟨λi H=>∃xs x,SqL K H a xs/\xs[i]?=some x,
   λi H v H'=>∃T x,v=.ref T/\H T=none/\H'=upd H T (.tup [.int i,x])/\(∀xs,SqL K H a xs->xs[i]?=some x),
   λi H=>∃xs,SqL K H a xs/\xs.length<=i⟩
def Je_(e it l:Addr)(i:Nat)(h:Heap):Prop:=(∃old,IsEnum h e it i old)/\h.IsListIter it l i
variable{K:PySem.W.Frag}{elts:List Expr}{kt:Nat}{tpos:Pos}{it:Addr}
theorem kQ_{e l:Addr}(hei:e≠it):
  I8_ P w K (.Tuple elts kt tpos) (Ite K l) [e,it] e (Je_ e it l) where
 mem:=s_
 obj:=λi h st b hb=>by
  obtain⟨⟨old,s1⟩,⟨o4,s4,c4,d4⟩⟩:=st;simp only[As_,AR_,CC_]at hb
  rcases hb with rfl|rfl
  .show⟨_,s1,λv e=>by cases(show Data.fields _=Data.cell v from e)⟩
  .show⟨o4,s4,λv e=>by rw[d4]at e;cases e⟩
 keep:=λi h h' st k=>by obtain⟨⟨old,s1⟩,s4⟩:=st;show⟨⟨old,k e s_ _ s1⟩,s4.at λo q=>k it s_ o q⟩
 item:=by
  intro X hP hw hK hc i pins s σ H E I hf st hg;subst hP hw hK;obtain⟨xs,x,hq,hx⟩:=hg;obtain⟨its,rv,p1,z1⟩:=I.list hq;obtain⟨u,hu,ru⟩:=rv.get hx;obtain⟨⟨old,s1⟩,s4⟩:=id st;show wpAny_pyNext_enum_item s1 s4 p1.isList (x:=u) (by simpa using hu) hei λh' g1 g2 g3 g4 g5=>?_;show⟨_,rfl,wpAny_letOwnedTupleGo_enum g1 λh'' k1 k2=>?_⟩
  have lt:∀b∈[e,it],b<s.heap.objs.size:=λb hb=>by
   simp only[As_,AR_,CC_]at hb
   rcases hb with rfl|rfl
   .show Av_ s1
   .obtain⟨o,e,_⟩:=s4;show Av_ e
  have hT:H s.heap.objs.size=none:=I.hok.fresh (Aj_ _)
  have I1:Inv X pins σ (upd H s.heap.objs.size (.tup [.int i,x])) {s with heap:=s.heap.push {cls:=.type "tuple",data:=.seq #[.int i s.toks,u]}} :=
   I.laid (t':=s.toks) (λb u e=>Al_ _ e) (Aj_ _) ⟨by change 2<=sizeLine;decide,[.int i s.toks,u],.cons ⟨_,rfl⟩ (.cons ru .nil),⟨_,Az_ _ rfl,rfl,_,rfl⟩⟩
  have f1:∀b∈[e,it],GI_ X pins (upd H s.heap.objs.size (.tup [.int i,x])) b:=λb hb=>⟨by rw[ae_ (AL_ (lt b hb))];show(hf b hb).1,(hf b hb).2⟩
  have I2:Inv X pins σ (upd H s.heap.objs.size (.tup [.int i,x])) {s with heap:=h'',toks:=s.toks+1}:=by
   show Inv.turnedL (s:={s with heap:=s.heap.push {cls:=.type "tuple",data:=.seq #[.int i s.toks,u]}}) (ch:=[e,it]) (t':=s.toks+1) I1 (λb o hb q=>?_) f1;simp only[As_,AR_,CC_,not_or]at hb;show(k2.2 b hb.1).trans ?_;by_cases hbT:b=s.heap.objs.size
   .subst hbT;have e':(s.heap.push {cls:=.type "tuple",data:=.seq #[.int i s.toks,u]}).get? s.heap.objs.size=some o:=q;rw[Az_ _ rfl]at e';cases e';show g3
   .have hb2:s.heap.get? b=some o:=by have e':(s.heap.push {cls:=.type "tuple",data:=.seq #[.int i s.toks,u]}).get? b=some o:=q;show(Heap.get?_push_ne _ _ _ hbT).symm.trans e'
    show g5 b o hb.1 hb.2 hb2
  show⟨.ref s.heap.objs.size,_,I2,rfl,⟨_,x,rfl,hT,rfl,λxs' h'=>by rw[I.list_inj h' hq];show hx⟩,?_,λb hb=>(f1 b hb).1⟩;show⟨⟨u,k1⟩,g2.at λo q=>(k2.2 it hei.symm).trans q⟩
 done:=by intro X hP hw hK hc i pins s σ H E I hf st hg;subst hP hw hK;obtain⟨xs,hq,he⟩:=hg;obtain⟨its,rv,p1,z1⟩:=I.list hq;obtain⟨⟨old,s1⟩,s4⟩:=id st;have l1:=rv.length;show wpAny_pyNext_enum_end (I.ok.hd hc) s1 s4 p1.isList (by simp;lia) λh' k=>⟨rfl,?_⟩;show Inv.turnedL (ch:=[e,it]) (t':=s.toks) I (λb o hb q=>?_) hf;simp only[As_,AR_,CC_,not_or]at hb;show k b o hb.2 q
 self:=λ_ _ _ _ _ st h=>by obtain⟨⟨old,s1⟩,_⟩:=st;show wpAny_pyIter_enum s1 h
def IH_(K:PySem.W.Frag)(ta:TA):TI:=λσ H R=>ta σ H λvs H1=>∃a,vs=[.ref a]/\(∃xs,SqL K H1 a xs)/\R (Ite K a) H1
theorem iF_{a:Expr}{ta:TA}{p pos:Pos}(hK:X.K=K)(hg:Gl X "enumerate") (hm:X.mg "enumerate"=none) (ha:PA X [a] ta) (hs:E1_ [a]=true:=by rfl):PI X (.Tuple elts kt tpos) (.Call (.Name "enumerate" p) [a] [] pos) (IH_ K ta):=by
 subst hK;intro pins s σ H R I h;have h':FD_ a=true/\E1_ []=true:=by simpa[E1_]using hs
 show Call_ (fF_ I hg hm hF_ (BE_ (thn (ha pos pins s σ H _ I h) λus s1 ⟨vs,H1,I1,r1,q1⟩=>?_) (az_ h'.1) (bT_ h'.2)));obtain⟨l,e,⟨xs,hx⟩,q⟩:=q1;subst e;obtain⟨u1,rfl,e1⟩:=FS_ r1;cases e1;obtain⟨its1,rv1,p1,z1⟩:=I1.list hx;show call_enumerate_list p1.isList λh' g1 g2 g3 g4=>?_;have I2:Inv X pins σ H1 {s1 with heap:=h'}:=I1.kept (t':=s1.toks) g4;show wpAny_pyIter_enum g1 ⟨_,[s1.heap.objs.size+1,s1.heap.objs.size],_,Ite X.K l,H1,rfl,I2,kQ_ (Nat.succ_ne_self _),⟨⟨_,g1⟩,g2⟩,λb hb=>?_,q⟩
 have hb':s1.heap.objs.size<=b:=by
  simp only[As_,AR_,CC_]at hb
  rcases hb with rfl|rfl <;> first|show Bz_ _ _|show Aj_ _
 show I1.fpOk hb' (I1.hok.fresh hb')
variable {h₀:Heap}{L a:Addr}{m:Str->Option Value}{news:List (Addr×Obj)}{vs:List Value}
def KB_(T:String):V->Prop
 | .int _=>T = "int"
 | .str _=>T = "str"
 |_=>False
theorem hP_(T:String)(I:Inv X pins σ H s):∀{ys:List V}{its:List Value},E8_ ys its->(∀y∈ys,∃a x z,y=.ref a/\H a=some (.tup [x,z])/\KB_ T x) ->
  ∃fs,KatTups s.heap its fs/\fs.length=its.length/\∀v∈fs,Looks (model X.prog X.w) s.heap (typeOf v) (.type T)
 |[],_,.nil,_=>⟨[],.nil,rfl,λv hv=>nomatch hv⟩
 |y::ys,_,.cons r1 r2,h=>by
  obtain⟨fs,t,hl,hf⟩:=hP_ T I r2 λy hy=>h y (Am_ _ hy);obtain⟨a,x,z,rfl,ha,fx⟩:=h _ Au_;cases r1;obtain⟨zs,rz,⟨ob,ho,hcl,n,hd⟩,_⟩:=I.tuple (.inl (.inl ha));obtain⟨u,w',rfl,ru,rw'⟩:=Go_ rz;show⟨u::fs,.cons ho hcl hd rfl t,by simp[hl],λv hv=>?_⟩
  rcases As_.mp hv with rfl|hv
  .cases x with
   |int i=>obtain⟨t,rfl⟩:=ru;cases fx;show .now
   |str i=>obtain⟨t,rfl⟩:=ru;cases fx;show .now
   |_=>show absurd fx (by simp[KB_])
  .show hf v hv
theorem kR_(I:Inv X pins σ H s){a b:Addr}{x1 x2 y1 y2:V}{d1 d2 e1 e2:Dt}{b1 b2:Bool}{C:Bool->Shared->Prop}{A:Around}{E:Value->Shared->Prop}(hu:A.units+60<cLine)
  (ha:H a=some (.tup [x1,x2])) (hb:H b=some (.tup [y1,y2])) (r1:Rep H x1 d1) (r2:Rep H x2 d2) (q1:Rep H y1 e1) (q2:Rep H y2 e2) (h1:deq d1 e1=some b1) (h2:deq d2 e2=some b2) (z1:dep d1<=50) (z2:dep d2<=50)
  (c1:b1=false->∀u v,Fb_ x1 u->Fb_ y1 v->wpAny (model X.prog X.w) A (oneLt' true u v) C (λ_ _=>False) s)
  (c2:b1=true->b2=false->∀u v,Fb_ x2 u->Fb_ y2 v->wpAny (model X.prog X.w) A (oneLt' false u v) C (λ_ _=>False) s)
  (c3:b1=true->b2=true->C false s):wpAny (model X.prog X.w) A (keyLt' (tuples' true) (.ref a) (.ref b)) C E s:=by
 obtain⟨zs,rz,⟨ob,ho,hcl,n,hd⟩,_⟩:=I.tuple (.inl (.inl ha));obtain⟨u1,u2,rfl,ru1,ru2⟩:=Go_ rz;obtain⟨ws,rw,⟨ob',ho',hcl',n',hd'⟩,_⟩:=I.tuple (.inl (.inl hb));obtain⟨v1,v2,rfl,rv1,rv2⟩:=Go_ rw;show kat_lt ho hd ho' hd' ?_;show kat_cons (ja_ I Vw.refl d1 e1 r1 q1 ru1 rv1 h1 o_ _ _ _ _ ?_);cases b1 with
 |false=>show kat_no (c1 rfl _ _ ru1 rv1)
 |true =>
  show kat_yes (kat_cons (ja_ I Vw.refl d2 e2 r2 q2 ru2 rv2 h2 o_ _ _ _ _ ?_));cases b2 with
  |false=>show kat_no (c2 rfl rfl _ _ ru2 rv2)
  |true=>show kat_yes (kat_nil (c3 rfl rfl))
def Hb_(ta:TA):TE:=λσ H Q=>ta σ H λvs H1=>∃(p x y:Addr)(c d:Int×Int),vs=[.ref p]/\H1 p=some (.lst [.ref x,.ref y])/\H1 x=some (.tup [.int c.1,.int c.2])/\H1 y=some (.tup [.int d.1,.int d.2])/\∀l zs,H1 l=none->(zs=[V.ref x,V.ref y]\/zs=[V.ref y,V.ref x])->Q (.ref l) (upd H1 l (.lst zs))
def Il_:List V->Hp->VK->Prop:=λvs H Q=>∃(p:Addr)(ys:List V)(nm:Nat->Str),vs=[.ref p]/\H p=some (.lst ys)/\ys.length<64 /\
 (∀i,i<ys.length->∃(a w:Addr)(e:Int×Int),ys[i]?=some (.ref a)/\H a=some (.tup [.str (nm i),.ref w])/\H w=some (.tup [.int e.1,.int e.2]))/\(∀i j,i<ys.length->j<ys.length->nm i=nm j->i=j) /\
 ∀l zs,H l=none->zs.Perm ys->Q (.ref l) (upd H l (.lst zs))
def Iw_:R2:=λx y H Q=>∃i n,x=.str i/\y=.int n/\MulOk i n/\Q (.str (Txt.mul i n)) H
theorem jK_:OpR X (binaryOp .Mult) Iw_:=by intro pins s σ H x y v u Q I rx ry h;obtain⟨i,n,rfl,rfl,ok,q⟩:=h;obtain⟨t,rfl⟩:=rx;obtain⟨t',rfl⟩:=ry;show SB.mul ok λt' k=>⟨.str (Txt.mul i n),H,I.tok _,⟨_,rfl⟩,q⟩
def GK_:V->List V->Hp->VK->Prop:=λx vs H Q=>∃(a:Addr)(kvs:List (Key×V))(k:Key)(z:V),x=.ref a/\vs=[kV k,z]/\H a=some (.dK kvs)/\kvs.length<1000/\(∀v,Fl_ kvs k=some v->Q v H)/\(Fl_ kvs k=none->Q z (upd H a (.dK (Fn_ kvs k z))))
theorem eA_:MtR X "dict.setdefault" GK_:=by
 intro pins s σ H x xs v us Q I rx r h;obtain⟨a,kvs,k,z,rfl,rfl,e,hz,h1,h2⟩:=h;cases rx;obtain⟨u,w',rfl,ru,rw'⟩:=Go_ r;obtain⟨_,hd,vs,rel,dd⟩:=Hn_ I.hok e;have hl:vs.length<=sizeLine:=by rw[<-rel.length];show AV_ (EN_ (AV_ hz))
 show EI_ Cx_ dd.typeIs PySem.F.entry_dict_setdefault (PySem.F.args_dict_setdefault_3 _ _ _) (kt_meets_setdefault (EV_ X.prog X.w) a (GU_ ru) hd w') ⟨vs,dd,hl,λv hv=>?_,λhn h' dd' hs=>?_⟩
 .have rv:=rel.val k;rw[hv]at rv;cases e2:Fl_ kvs k with
  |none=>rw[e2]at rv;cases rv
  |some y =>rw[e2]at rv;show⟨y,H,I.tok _,rv,h1 y e2⟩
 .have rv:=rel.val k;rw[hn]at rv;cases e2:Fl_ kvs k with
  |some y=>rw[e2]at rv;cases rv
  |none =>
   have he:∃q,h'.get? a=some q:=let⟨q,_,_,hq,_⟩:=dd';⟨q,hq⟩;have pl:(Fn_ kvs k z).length<=sizeLine:=by have:=aL_ kvs k z;have:=EN_ (n:=1000) (Aj_ _);lia
   show⟨z,_,fa_ (t':=s.toks+1) I (by rw[e];show True.intro) hs he (kH_ pl hd (rel.put k rw') dd'),rw',h2 e2⟩
def Idv(d:Addr)(ob:Obj)(kvs:List (Key×V)):It :=
 ⟨λi H=>H d=some (.frz ob (.dK kvs))/\i<kvs.length,λi H x H'=>H'=H/\∃k,kvs[i]?=some (k,x),λi H=>H d=some (.frz ob (.dK kvs))/\kvs.length<=i⟩
def Idk(d:Addr)(ob:Obj)(kvs:List (Key×V)):It :=
 ⟨λi H=>H d=some (.frz ob (.dK kvs))/\i<kvs.length,λi H x H'=>H'=H/\∃k v,kvs[i]?=some (k,v)/\x=kV k,λi H=>H d=some (.frz ob (.dK kvs))/\kvs.length<=i⟩
theorem cT_{α β:Type}{F:α->β->Prop}:∀{l:List α}{m:List β}{i:Nat}{a:α}{b:β},Paired F l m->l[i]?=some a->m[i]?=some b->F a b
 |_,_,_,_,_,.nil,h,_=>by cases h
 |_,_,0,_,_,.cons x _,h1,h2=>by cases h1;cases h2;show x
 |_,_,i+1,_,_,.cons _ r,h1,h2=>cT_ (i:=i) r h1 h2
variable{ob:Obj}{kvs:List (Key×V)}{es0:Array DictEntry}{ep:Nat}
theorem kS_(ok:HOk P w H h)(e:H d=some (.frz ob (.dK kvs)))(hd:ob.data=.dict es0 ep):∃vs,KV kvs vs/\h.DictAt (EV_ P w) d vs ep:=by obtain⟨g,_,_,vs,rel,o,es,ep',ho,r1,r2,r3⟩:=(show Fg_ P w H h d (.frz ob (.dK kvs))from ok d _ e);rw[g]at ho;cases ho;rw[hd]at r2;cases r2;show⟨vs,rel,ob,es0,g,r1,hd,r3⟩
theorem kT_{tg:Expr}(hob:ob.data=.dict es0 ep):
  I8_ P w K tg (Idv d ob kvs) [it] it (λi h=>h.IsValIter it d i kvs.length ep) where
 mem:=s_
 obj:=λi h st b hb=>by
  have e:b=it:=by simpa using hb
  subst e;obtain⟨o,e,c,dd⟩:=st;show⟨o,e,λv z=>by rw[dd]at z;cases z⟩
 keep:=λi h h' st k=>let⟨o,e,r⟩:=st;⟨o,k it s_ o e,r⟩
 item:=by intro X hP hw hK hc i pins s σ H E I hf st hg;subst hP hw hK;obtain⟨e,hi⟩:=hg;obtain⟨vs,rel,da⟩:=kS_ I.hok e hob;have hl:kvs.length=vs.length:=rel.length;obtain⟨f0,f1,f2,f3,f4,f5⟩:=hf it s_;have hx:vs[i]?=some (vs[i]'o_):=Aa_ _;have hk:kvs[i]?=some (kvs[i]):=Aa_ _;obtain⟨e1,e2⟩:=cT_ rel hk hx;rw[hl]at st;show wpAny_pyNext_values_item st da (k:=(vs[i]'o_).1) (v:=(vs[i]'o_).2) hx λh' st' sb=>?_;have I1:Inv X pins σ H {s with heap:=h'}:=I.turned (t':=s.toks) (λb o hb e=>(sb.2 b hb).trans e) f0 f1 f3 f4 f5;rw[<-hl]at st';obtain⟨o,e,c,dd⟩:=id st';show⟨_,rfl,I1_ (s:={s with heap:=h'}) e c dd d_ ⟨(kvs[i]).2,H,I1,e2,⟨rfl,(kvs[i]).1,hk⟩,st',λb hb=>(hf b hb).1⟩⟩
 done:=by intro X hP hw hK hc i pins s σ H E I hf st hg;subst hP hw hK;obtain⟨e,hi⟩:=hg;obtain⟨vs,rel,da⟩:=kS_ I.hok e hob;have hl:kvs.length=vs.length:=rel.length;obtain⟨f0,f1,f2,f3,f4,f5⟩:=hf it s_;rw[hl]at st;show wpAny_pyNext_values_end (I.ok.hd hc) st da (Bx_ o_) λh' eb=>⟨rfl,I.turned (t':=s.toks) (λb o hb e=>eb b o hb e) f0 f1 f3 f4 f5⟩
 self:=λ_ _ _ _ _ st h=>wpAny_pyIter_valiter st h
theorem Inv.freeze(I:Inv X pins σ H s)(e:H d=some (.dK kvs)):∃ob es0 ep,ob.data=.dict es0 ep/\s.heap.get? d=some ob/\Inv X pins σ (upd H d (.frz ob (.dK kvs))) s:=by obtain⟨z,hd,vs,rel,dd⟩:=Hn_ I.hok e;obtain⟨ob,es,ep,ho,r1,r2,r3⟩:=id dd;show⟨ob,es,ep,r2,ho,?_⟩;have:=fa_ (h':=s.heap) (t':=s.toks) (ob:=.frz ob (.dK kvs)) I (by rw[e];show True.intro) ⟨rfl,λ_ _=>rfl⟩ ⟨ob,ho⟩ ⟨ho,z,hd,vs,rel,dd⟩;show this
def iDK(td:TE):TI:=λσ H R=>td σ H λx H1=>∃(d:Addr)(kvs:List (Key×V)),x=.ref d/\H1 d=some (.dK kvs)/\∀ob,R (Idk d ob kvs) (upd H1 d (.frz ob (.dK kvs)))
def iDV(td:TE):TI:=λσ H R=>td σ H λx H1=>∃(d:Addr)(kvs:List (Key×V)),x=.ref d/\H1 d=some (.dK kvs)/\∀ob,R (Idv d ob kvs) (upd H1 d (.frz ob (.dK kvs)))
theorem l0_{tg o:Expr}{td:TE}{apos cpos:Pos}(ho:PE X o td)(hbase:attributeBase o "values" X.env (eval o X.env)=eval o X.env:=by rfl) (hline:(apos.endLine == cpos.line)=true:=by rfl):PI X tg (.Call (.Attribute o "values" apos) [] [] cpos) (iDV td):=by
 intro pins s σ H R I h;show CO_ hbase hline (thn (ho pins s σ H _ I h) λv s1 ⟨x,H1,I1,r1,d,kvs,e,hd,q⟩=>?_);subst e;cases r1;obtain⟨ob,es0,ep,hob,hoo,I2⟩:=I1.freeze hd;obtain⟨_,hsys,vs0,_,dd⟩:=Hn_ I1.hok hd;show⟨"dict","dict.values",BC_,DN_,PySem.F.type_dict_values,dd.typeIs,λb q=>?_,Cp_ rfl (De_ ?_)⟩
 .cases q;obtain⟨o2,_,_,h1,h2,_⟩:=id dd;show⟨o2,h1,h2.2.1⟩
 show EI_ DN_ dd.typeIs PySem.F.entry_dict_values (PySem.F.args_dict_values_1 _) (meets_dict_values (EV_ X.prog X.w) d hsys) ⟨⟨vs0,dd⟩,?_⟩;have I3:Inv X pins σ (upd H1 d (.frz ob (.dK kvs))) {s1 with heap:=s1.heap.push {cls:=.type "dict_values",data:=.fields #[.ref d]}}:=I2.kept (t':=s1.toks) λb o e=>Al_ _ e;obtain⟨vs,rel,da⟩:=kS_ (kvs:=kvs) I3.hok aa_ hob;show wpAny_pyIter_values (s:={s1 with heap:=s1.heap.push {cls:=.type "dict_values",data:=.fields #[.ref d]}}) ⟨_,Az_ _ rfl,rfl,rfl⟩ da ?_;rw[<-show kvs.length=vs.length from rel.length];show⟨(s1.heap.push {cls:=.type "dict_values",data:=.fields #[.ref d]}).objs.size,[_],_,_,upd H1 d (.frz ob (.dK kvs)),rfl,I3.kept (t':=s1.toks) λb o e=>Al_ _ e,kT_ hob,⟨_,Az_ _ rfl,rfl,rfl⟩,λb hb=>?_,q ob⟩;have e:b=_:=Ak_.mp hb;subst e;show I3.fpOk (Aj_ _) (I3.hok.fresh (Aj_ _))
theorem Ko_{d:Addr}{ob:Obj}{kvs:List (Key×V)}{g:TG}{tb:TS}{D:GL_}{σ:St}{H:Hp}(Pv:Nat->St->Hp->Prop)(h0:Pv 0 σ H)(hl:∀i σ H,i<=kvs.length->Pv i σ H->H d=some (.frz ob (.dK kvs)))
  (hs:∀i k x σ H,kvs[i]?=some (k,x)->Pv i σ H->g x σ H λσ2 H2=>tb {D with nx:=Pv (i+1),ct:=Pv (i+1),bk:=D.nx} σ2 H2) (hd:∀σ H,Pv kvs.length σ H->D.nx σ H):Gn_ (Idv d ob kvs) g tb D σ H:=by
 show⟨λi m σ H=>m=kvs.length-i/\i<=kvs.length/\Pv i σ H,⟨kvs.length,s_,AB_ _,h0⟩,?_⟩;rintro i m σ H ⟨rfl,hi,p⟩;have q:=hl i σ H hi p;by_cases hlt:i<kvs.length
 .show .inr ⟨⟨q,hlt⟩,Pv (i+1),λσ' H' p'=>⟨kvs.length-(i+1),o_,rfl,hlt,p'⟩,λx H' y=>?_⟩;obtain⟨rfl,k,hk⟩:=y;show hs i k x σ H' hk p
 .have e:i=kvs.length:=o_
  subst e;show .inl ⟨⟨q,Aj_ _⟩,hd σ H p⟩
theorem kU_{K:PySem.W.Frag}{a:Addr}{xs:List V}{g:TG}{tb:TS}{D:GL_}{σ:St}{H:Hp}(Pv:Nat->St->Hp->Prop)(h0:Pv 0 σ H)(hl:∀i σ H,i<=xs.length->Pv i σ H->SqL K H a xs)
  (hs:∀i x T σ H,xs[i]?=some x->Pv i σ H->H T=none->g (.ref T) σ (upd H T (.tup [.int i,x])) λσ2 H2=>tb {D with nx:=Pv (i+1),ct:=Pv (i+1),bk:=D.nx} σ2 H2) (hd:∀σ H,Pv xs.length σ H->D.nx σ H):Gn_ (Ite K a) g tb D σ H:=by
 show⟨λi m σ H=>m=xs.length-i/\i<=xs.length/\Pv i σ H,⟨xs.length,s_,AB_ _,h0⟩,?_⟩;rintro i m σ H ⟨rfl,hi,p⟩;have q:=hl i σ H hi p;by_cases hlt:i<xs.length
 .show .inr ⟨⟨xs,xs[i],q,by simp[hlt]⟩,Pv (i+1),λσ' H' p'=>⟨xs.length-(i+1),o_,rfl,hlt,p'⟩,λx H' y=>?_⟩;obtain⟨T,y,rfl,hT,rfl,hy⟩:=y;show hs i y T σ H (hy xs q) p hT
 .have e:i=xs.length:=o_
  subst e;show .inl ⟨⟨xs,q,Aj_ _⟩,hd σ H p⟩
def Jl_(t u:TS):TS:=λD σ H=>∀kk:St->Hp->Prop,(∀σ' H',u D σ' H'->kk σ' H')->t {D with nx:=kk} σ H
theorem aj_{st:Stmt}{rest:List Stmt}{t u:TS}(h1:PS X st t)(h2:PSs X rest u):PSs X (st::rest) (Jl_ t u):=λpins s σ H D I h=>ac_ h1 h2 pins s σ H D I (h (u D) λ_ _ q=>q)
theorem na_{t u:TS}{D:GL_}(h:∀kk:St->Hp->Prop,(∀σ' H',u D σ' H'->kk σ' H')->t {D with nx:=kk} σ H):Jl_ t u D σ H:=h
theorem n1_{kk u:St->Hp->Prop}(h:∀σ' H',u σ' H'->kk σ' H')(q:u σ H):kk σ H:=h _ _ q
theorem Ku_{A G:Prop}(h:A->G)(a:A):G:=h a
abbrev SHP:=St->Hp->Prop
theorem hQ_{lo:Int}{n:Nat}{g:TG}{tb:TS}{nx bk ct:SHP}{rt:VK}{σ:St}{H:Hp}(Pv:Nat->St->Hp->Prop)(h0:Pv 0 σ H)
  (hs:∀(i:Nat) σ H,i<n->∀(kk kb:SHP),(∀σ' H',Pv (i+1) σ' H'->kk σ' H')->(∀σ' H',nx σ' H'->kb σ' H')->∀G:Prop,((g (.int (lo+i)) σ H λσ2 H2=>tb ⟨kk,rt,kb,kk⟩ σ2 H2)->G)->Pv i σ H->G) (hd:∀σ H,Pv n σ H->nx σ H):Gn_ (Itr lo n) g tb ⟨nx,rt,bk,ct⟩ σ H :=
 er_ Pv h0 (λi σ H hi p=>hs i σ H hi _ _ (λ_ _ q=>q) (λ_ _ q=>q) _ id p) hd
theorem eB_{K:PySem.W.Frag}{a:Addr}{xs:List V}{g:TG}{tb:TS}{nx bk ct:SHP}{rt:VK}{σ:St}{H:Hp}(Pv:Nat->St->Hp->Prop)(h0:Pv 0 σ H)(hl:∀i σ H,i<=xs.length->Pv i σ H->SqL K H a xs)
  (hs:∀(i:Nat) x σ H,xs[i]?=some x->∀(kk kb:SHP),(∀σ' H',Pv (i+1) σ' H'->kk σ' H')->(∀σ' H',nx σ' H'->kb σ' H')->∀G:Prop,((g x σ H λσ2 H2=>tb ⟨kk,rt,kb,kk⟩ σ2 H2)->G)->Pv i σ H->G) (hd:∀σ H,Pv xs.length σ H->nx σ H):Gn_ (Itl K a) g tb ⟨nx,rt,bk,ct⟩ σ H :=
 fK_ Pv h0 hl (λi x σ H hx p=>hs i x σ H hx _ _ (λ_ _ q=>q) (λ_ _ q=>q) _ id p) hd
theorem jo_{K:PySem.W.Frag}{a:Addr}{xs:List V}{g:TG}{tb:TS}{nx bk ct:SHP}{rt:VK}{σ:St}{H:Hp}(Pv:Nat->St->Hp->Prop)(h0:Pv 0 σ H)(hl:∀i σ H,i<=xs.length->Pv i σ H->SqL K H a xs)
  (hs:∀(i:Nat) x T σ H,xs[i]?=some x->∀(kk kb:SHP),(∀σ' H',Pv (i+1) σ' H'->kk σ' H')->(∀σ' H',nx σ' H'->kb σ' H')->∀G:Prop,((g (.ref T) σ (upd H T (.tup [.int i,x])) λσ2 H2=>tb ⟨kk,rt,kb,kk⟩ σ2 H2)->G)->Pv i σ H->H T=none->G) (hd:∀σ H,Pv xs.length σ H->nx σ H):Gn_ (Ite K a) g tb ⟨nx,rt,bk,ct⟩ σ H :=
 kU_ Pv h0 hl (λi x T σ H hx p hT=>hs i x T σ H hx _ _ (λ_ _ q=>q) (λ_ _ q=>q) _ id p hT) hd
theorem l1_{c:TT}{tb:TS}{nx bk ct:SHP}{rt:VK}{σ:St}{H:Hp}(Pv:St->Hp->Prop)(μ:St->Hp->Nat)(h0:Pv σ H)
  (hs:∀σ H,∀kb:SHP,(∀σ' H',nx σ' H'->kb σ' H')->∀G:Prop,((c σ H λb H1=>if b=true then ∃N:St->Hp->Prop,(∀σ' H',N σ' H'->∃m',m'<μ σ H/\m'=μ σ' H'/\Pv σ' H')/\tb ⟨N,rt,kb,N⟩ σ H1 else kb σ H1)->G)->Pv σ H->G):Hw_ c tb ⟨nx,rt,bk,ct⟩ σ H :=
 fJ_ Pv μ h0 λσ H p=>hs σ H nx (λ_ _ q=>q) _ id p
theorem boxN{tb:TS}{N kb:SHP}{rt:VK}(h:∀kk:SHP,(∀σ' H',N σ' H'->kk σ' H')->tb ⟨kk,rt,kb,kk⟩ σ H):tb ⟨N,rt,kb,N⟩ σ H:=h N λ_ _ q=>q
def IA_(P:Program)(w:World)(a:Addr)(xs:List (Sk×Addr×Value))(h:Heap):Prop :=
 (a == sysModules)=false/\∃o es ep,h.get? a=some o/\o.ExactDict/\o.data=.dict es ep/\es.toList=xs.map (entryOfKey (FV_ P w))/\(xs.map (·.1)).Nodup
def FE_(H:Hp)(b:Addr)(k:Sk):Prop:=∃p,H b=some (.tup [.ref p,.bl k.2])/\H p=some (.tup (k.1.map kV))
def KP(H:Hp):List (Sk×V)->List (Sk×Addr×Value)->Prop:=Paired λ(p:Sk×V)(q:Sk×Addr×Value)=>p.1=q.1/\FE_ H q.2.1 p.1/\Fb_ p.2 q.2.2
def DP(P:Program)(w:World)(H:Hp)(a:Addr)(kvs:List (Sk×V)):Prop:=kvs.length<=sizeLine/\∃xs,H a=some (.ext (IA_ P w a xs))/\KP H kvs xs
variable{H':Hp}{b:Addr}
theorem FE_.mono{k:Sk}(h:FE_ H b k)(s:EL_ H H'):FE_ H' b k:=let⟨p,h1,h2⟩:=h;⟨p,s _ _ h1,s _ _ h2⟩
variable{xs:List (Sk×Addr×Value)}
theorem KP.mono{kvs:List (Sk×V)}(h:KP H kvs xs)(s:∀b k,FE_ H b k->FE_ H' b k):KP H' kvs xs:=Paired.mapP h λ_ _ z=>⟨z.1,s _ _ z.2.1,z.2.2⟩
theorem DP.mono{kvs:List (Sk×V)}(h:DP P w H a kvs)(s:EL_ H H'):DP P w H' a kvs:=let⟨h0,xs,h1,h2⟩:=h;⟨h0,xs,s _ _ h1,h2.mono λ_ _ z=>z.mono s⟩
theorem KP.val{kvs:List (Sk×V)}(r:KP H kvs xs)(k:Sk):G7_ (Fl_ kvs k) ((atKey xs k).map (·.2)):=by
 induction r with
 |nil=>show True.intro
 | @cons p q ps qs h t ih =>
  by_cases e:p.1=k
  .rw[aU_ e];have:atKey (q::qs) k=some q.2:=by simp[atKey,BN_,show q.1=k from h.1▸e]
   rw[this];show h.2.2
  .rw[aP_ e];have:atKey (q::qs) k=atKey qs k:=by simp[atKey,BN_,show ¬ q.1=k from h.1▸e]
   rw[this];show ih
theorem KP.repl{kvs:List (Sk×V)}(r:KP H kvs xs)(k:Sk){y:V}{u:Value}(ry:Fb_ y u):KP H (kvs.map λkv=>if kv.1=k then(kv.1,y)else kv) (xs.map (putAt k u)):=by
 induction r with
 |nil=>show .nil
 | @cons p q ps qs h t ih =>
  show .cons ?_ ih;change(if p.1=k then(p.1,y)else p).1=(putAt k u q).1/\FE_ H (putAt k u q).2.1 (if p.1=k then(p.1,y)else p).1/\Fb_ (if p.1=k then(p.1,y)else p).2 (putAt k u q).2.2;unfold putAt;by_cases e:p.1=k
  .rw[if_pos e,if_pos (h.1▸e)];show⟨h.1,h.2.1,ry⟩
  .rw[if_neg e,if_neg (h.1▸e)];show h
theorem KP.put{kvs:List (Sk×V)}(r:KP H kvs xs)(k:Sk){y:V}{u:Value}(hb:FE_ H b k)(ry:Fb_ y u):KP H (Fn_ kvs k y) (storedH xs k b u):=by
 have e:(kvs.any λkv=>decide (kv.1=k))=(atKey xs k).isSome:=by rw[cn_,(r.val k).isSome_eq,Ct_]
 unfold Fn_ storedH;rw[e];split
 .show r.repl k ry
 .show Ea_ r ⟨rfl,hb,ry⟩
variable {h:Heap}
theorem g9_{k:Sk}(ok:HOk P w H h)(e:FE_ H a k):(FV_ P w).is h k a:=by
 obtain⟨p,h1,h2⟩:=e;obtain⟨_,its,r,o,g1,g2,n,g3⟩:=(show Fg_ P w H h a (.tup [.ref p,.bl k.2])from ok a _ h1);cases r with
 |cons r1 r =>
  cases r with
  |cons r2 r =>
   cases r;cases(show _=Value.ref p from r1);cases(show _=Value.bool k.2 from r2);show⟨o,n,p,g1,g2,g3,f2_ ok h2⟩
theorem IZ_{kvs:List (Sk×V)}(ok:HOk P w H h)(e:DP P w H a kvs):(a == sysModules)=false/\∃xs,H a=some (.ext (IA_ P w a xs))/\KP H kvs xs/\h.DictOfH (FV_ P w) a xs:=by
 obtain⟨z,xs,h1,h2⟩:=e;obtain⟨⟨hs,o,es,ep,g1,g2,g3,g4,g5⟩,_⟩:=(show Fg_ P w H h a (.ext (IA_ P w a xs))from ok a _ h1);show⟨hs,xs,h1,h2,o,es,ep,g1,g2,g3,g4,λx hx=>?_,g5⟩
 have all:∀{l:List (Sk×V)}{m:List (Sk×Addr×Value)},KP H l m->∀x∈m,(FV_ P w).is h x.1 x.2.1:=by
  intro l m q
  induction q with
  |nil=>intro x hx;show nomatch hx
  | @cons p q ps qs hq t ih =>
   intro x hx
   rcases As_.mp hx with e|hx
   .subst e;show g9_ ok (by rw[<-hq.1];show hq.2.1)
   .show ih x hx
 show all h2 x hx
theorem mG_(hs:(a == sysModules)=false)(d:h.DictOfH (FV_ P w) a xs):Fg_ P w H' h a (.ext (IA_ P w a xs)):=by obtain⟨o,es,ep,g1,g2,g3,g4,_,g5⟩:=d;show⟨⟨hs,o,es,ep,g1,g2,g3,g4,g5⟩,⟨o,g1⟩,λh1 h2 ⟨z0,o',es',ep',z1,z2⟩ k=>⟨z0,o',es',ep',k _ z1,z2⟩⟩
def IB_(P:Program)(w:World):TE:=λ_ H Q=>∀p,H p=none->∀H',EL_ H H'->DP P w H' p []->(∀b,b≠p->H' b=H b)->Q (.ref p) H'
def It_(P:Program)(w:World)(td ty:TE):TE:=λσ H Q=>td σ H λx H1=>ty σ H1 λy H2=>∃a b kvs k v,x=.ref a/\y=.ref b/\DP P w H2 a kvs/\FE_ H2 b k/\Fl_ kvs k=some v/\Q v H2
def J8_(P:Program)(w:World)(ty td:TE):TE:=λσ H Q=>ty σ H λy H1=>td σ H1 λx H2=>∃a b kvs k,x=.ref a/\y=.ref b/\DP P w H2 a kvs/\FE_ H2 b k/\Q (.bl (Fl_ kvs k).isSome) H2
def IX_(P:Program)(w:World)(td ty tv:TE):TS:=λD σ H=>tv σ H λv H1=>td σ H1 λx H2=>ty σ H2 λy H3=>∃a b kvs k,x=.ref a/\y=.ref b/\DP P w H3 a kvs/\FE_ H3 b k/\kvs.length<sizeLine /\
 ∀H4,(∀c,c≠a->H4 c=H3 c)->DP P w H4 a (Fn_ kvs k v)->D.nx σ H4
section
variable {o i value:Expr}{pos pos':Pos}{td ty tv:TE}
theorem nb_(hP:X.prog=P)(hw:X.w=w):PE X (.Dict [] [] pos) (IB_ P w):=by
 subst hP hw;intro pins s σ H Q I h;have hd:(s.heap.objs.size == sysModules)=false:=by have:=I.big;show Cf_.mpr (DD_ this)
 have ob:∀H',Fg_ X.prog X.w H' (s.heap.push {cls:=.type "dict",data:=.dict #[]}) s.heap.objs.size (.ext (IA_ X.prog X.w s.heap.objs.size [])):=λH'=>mG_ hd ⟨_,#[],0,Az_ _ rfl,⟨rfl,rfl,rfl⟩,rfl,rfl,λx hx=>(by cases hx),AY_⟩;have nn:=I.hok.fresh (Aj_ s.heap.objs.size);show DM_ ⟨.ref s.heap.objs.size,_,I.laid (a:=s.heap.objs.size) (o:=.ext (IA_ X.prog X.w s.heap.objs.size [])) (t':=s.toks) (λ_ _ q=>Al_ _ q) (Aj_ _) (ob _),rfl,h _ nn _ (EL_.new nn) ⟨AB_ _,[],aa_,.nil⟩ λb hb=>ae_ hb⟩
theorem kV_(hP:X.prog=P)(hw:X.w=w)(hu:X.A.units+2<cLine)(ho:PE X o td)(hi:PE X i ty)(hs:Ki_ i:=by intro _ _;rfl):PE X (.Subscript o i pos) (It_ P w td ty):=by subst hP hw;intro pins s σ H Q I h;show kJ_ PySem.F.slot_dict_getitem.lookup hs (thn (ho pins s σ H _ I h) λu s1 ⟨x,H1,I1,rx,q1⟩=>thn (hi pins s1 σ H1 _ I1 q1) λiv s2 ⟨y,H2,I2,ry,a,b,kvs,k,v,ex,ey,g,kb,hv,q2⟩=>?_);subst ex ey;obtain rfl:u=Value.ref a:=rx;obtain rfl:iv=Value.ref b:=ry;obtain⟨hd,xs,e,rel,dd⟩:=IZ_ I2.hok g;obtain⟨w',hw,rw'⟩:=G7_.some_of (v:=v) (o:=(atKey xs k).map (·.2)) (by rw[<-hv];show rel.val k);obtain⟨p,hp,hp2⟩:=AK_.mp hw;show⟨dd.typeIs,wpAny_getItem_heap (show X.A.in1.units+1<cLine from hu) (g9_ I2.hok kb) dd hp ?_⟩;rw[hp2];show⟨v,H2,I2.tok _,rw',q2⟩
theorem n2_(hP:X.prog=P)(hw:X.w=w)(hu:X.A.units+2<cLine)(hi:PE X i ty)(ho:PE X o td):PC X .In i o (J8_ P w ty td):=by subst hP hw;intro pins s σ H Q I h;show thn (hi pins s σ H _ I h) λiv s1 ⟨y,H1,I1,ry,q1⟩=>thn (ho pins s1 σ H1 _ I1 q1) λu s2 ⟨x,H2,I2,rx,a,b,kvs,k,ex,ey,g,kb,q2⟩=>?_;subst ex ey;obtain rfl:u=Value.ref a:=rx;obtain rfl:iv=Value.ref b:=ry;obtain⟨hd,xs,e,rel,dd⟩:=IZ_ I2.hok g;show wpAny_in_heap (show X.A.in1.units+1<cLine from hu) (g9_ I2.hok kb) hd dd ?_;have q:=(rel.val k).isSome_eq;rw[Ct_]at q;rw[<-q];show⟨.bl _,H2,I2.tok _,rfl,q2⟩
theorem kW_(hP:X.prog=P)(hw:X.w=w)(hu:X.A.units+2<cLine)(ho:PE X o td)(hi:PE X i ty)(hv:PE X value tv)(hs:swapsWith value (some (.Subscript o i pos')) pos.line X.env=pure false):PS X (.Assign [.Subscript o i pos'] value pos) (IX_ P w td ty tv):=by
 subst hP hw;intro pins s σ H D I h;show Eb_ (thn (hv pins s σ H _ I h) λr s1 ⟨v,H1,I1,rv,q1⟩=>thn (ho pins s1 σ H1 _ I1 q1) λu s2 ⟨x,H2,I2,rx,q2⟩=>thn (hi pins s2 σ H2 _ I2 q2) λiv s3 ⟨y,H3,I3,ry,a,b,kvs,k,ex,ey,g,kb,hl,q3⟩=>?_) hs;subst ex ey;obtain rfl:u=Value.ref a:=rx;obtain rfl:iv=Value.ref b:=ry;obtain⟨hd,xs,e,rel,dd⟩:=IZ_ I3.hok g;have hz:xs.length<=sizeLine:=by rw[<-Br_ rel];show g.1
 have hl':(Fn_ kvs k v).length<=sizeLine:=by have:=aL_ kvs k v;lia
 show wpAny_setItem_heap (hsz:=hz) (show X.A.in1.units+1<cLine from hu) (g9_ I3.hok kb) dd λh' dd' hs'=>?_;have he:∃q,h'.get? a=some q:=let⟨q,_,_,hq,_⟩:=dd';⟨q,hq⟩;have kk:∀c k',FE_ H3 c k'->FE_ (upd H3 a (.ext (IA_ X.prog X.w a (storedH xs k b r)))) c k':=λc k' ⟨p,z1,z2⟩=>⟨p,by rw[ae_ (GB_ z1 e (λz=>nomatch z))];show z1,by rw[ae_ (GB_ z2 e (λz=>nomatch z))];show z2⟩;show⟨σ,_,fa_ I3 (by rw[e];show True.intro) hs' he (mG_ hd dd'),q3 _ (λc hc=>ae_ hc) ⟨hl',_,aa_,(rel.put k kb rv).mono kk⟩⟩
end
abbrev KG_:=St->Hp->Prop
theorem ha_:entryFor table "proto.unchain"=some Builtin.«proto.unchain»:=entryFor_of_fast (by kernel_rfl)
def QuA(A:Around)(h:Heap):Prop:=A.handled=none\/∃ea,A.handled=some (.ref ea)/\Pl2 h ea
theorem nc_{α:Type}{Q:α->Shared->Prop}{x:Addr}{o:Obj}{vs:Array Value}(hq:QuA A s.heap)(hx:s.heap.get? x=some o)(hd:o.data=.fields vs)(sz:2<vs.size)(hne:∀ea,A.handled=some (.ref ea)->ea≠x)
  (k:∀g,(∀b,b≠x->g.get? b=s.heap.get? b)->(∃u,g.get? x=some u/\u.cls=o.cls)->E (.ref x) {s with heap:=g}):wpAny (model prog w) A (raiseNew (.ref x):Sem α) Q E s:=by
 unfold raiseNew;show Ac_ (wpAny_handled ?_)
 rcases hq with hq|⟨ea,hq,oe,us,he,de,h2⟩
 .rw[hq];show Ac_ (Ah_ (wpAny_throw (k _ (λ_ _=>rfl) ⟨o,hx,rfl⟩)))
 .rw[hq];have ne:=hne ea hq
  dsimp only
  rw[if_pos (show(Value.ref ea != Value.ref x)=true by simp[ne])];show Ac_ (Be_ (runValue_entry ha_ ?_));unfold Builtin.«proto.unchain»
  dsimp only
  show Ac_ (Dl_ he de h2 ?_);rw[if_pos (show(Value.none == Value.none)=true by rfl)];show Ah_ ⟨_,rfl,Ac_ (wpAny_setField hx hd sz (wpAny_throw (k _ (λb hb=>AW_ _ _ (Ne.symm hb)) ⟨_,Cv_ _ hx (Obj.isFreed_of_fields (Obj.data_mapFields hd _)),Obj.cls_mapFields _ _⟩)))⟩
theorem n3_{α:Type}{Q:α->Shared->Prop}(hq:QuA A s.heap)(k:∀g x,(∀b o,s.heap.get? b=some o->g.get? b=some o)->(∃u,g.get? x=some u/\u.cls=.type "StopIteration")->E (.ref x) {s with heap:=g}):
  wpAny (model prog w) A (newExc (.type "StopIteration") [] >>= λe=>(raiseNew e:Sem α)) Q E s:=by
 show Ac_ ?_;simp only[newExc,newTuple];show Ac_ (BP_ ?_ (by size_fits));show Ac_ (m:=firstArgMember _ _) (wpAny_of_eq (a:=Value.none) (by first|rfl|(simp only[firstArgMember];rfl)) ?_);show BP_ ?_ (by size_fits);have kp:∀{o1 o2:Obj}(b:Addr)(o:Obj),s.heap.get? b=some o->((s.heap.push o1).push o2).get? b=some o:=λb o e=>Al_ _ (Al_ _ e);show nc_ (hq.imp id λ⟨ea,z,oe,us,he,z2⟩=>⟨ea,z,oe,us,kp ea oe he,z2⟩) (Az_ _ rfl) rfl (by rw[Array.size_append];show AH_ (show 2<6 by decide) (Bz_ 6 _)) (λea z=>?_) λg g1 g2=>k g _ (λb o e=>(g1 b ?_).trans (kp b o e)) g2
 .rcases hq with q|⟨ea',q,oe,us,he,_⟩
  .rw[q]at z;cases z
  .rw[q]at z;cases z;show AL_ (AH_ (Av_ he) s_)
 .show AL_ (AH_ (Av_ e) s_)
def Iq_(h:Heap)(d:Addr)(es:Array DictEntry)(ep:Nat):Prop:=∃o,h.get? d=some o/\o.ExactDict/\o.data=.dict es ep
theorem Iq_.ty{es:Array DictEntry}(x:Iq_ s.heap d es ep):s.TypeIs (.ref d) "dict" := let⟨o,h,c,_⟩:=x;⟨o,h,c.1⟩
theorem kX_(d:Addr)(hd:(d == sysModules)=false):MeetsIn prog w (Builtin.«dict.items» ⟨[.ref d],[]⟩) (λ_ R s=>(∃es ep,Iq_ s.heap d es ep)/\R (.ok (.ret (.ref s.heap.objs.size))) {s with heap:=s.heap.push {cls:=.type "dict_items",data:=.fields #[.ref d]}}):=
 .of_wp λA R s ⟨⟨es,ep,x⟩,h⟩=>by unfold Builtin.«dict.items»;show Ac_ ?_;unfold Builtin.Dict.noArgs;show Ac_ (C1_ x.ty ?_);show(show wpAny _ _ (pure d) _ _ s from Ah_ ?_);show(show wpAny _ _ (Builtin.Dict.showsAll d >>= _) _ _ s from ?_);unfold Builtin.Dict.showsAll;rw[hd,if_neg d_];show Ac_ (Ah_ (Ac_ (BP_ (Ah_ ⟨_,rfl,h⟩))))
theorem l2_{v d:Addr}{es:Array DictEntry}{ep:Nat}{Q:Value->Shared->Prop}(hv:s.heap.IsItemsView v d)(x:Iq_ s.heap d es ep)
  (k:Q (.ref s.heap.objs.size) {s with heap:=s.heap.push {cls:=.type "dict_itemiterator",data:=.fields #[.none,.bool false,.ref d,.int 0 0,.int es.size 0,.int ep 0,.none,.none]}}):wpAny (model prog w) A (pyIter (.ref v)) Q E s:=by
 obtain⟨ov,g1,g2,g3⟩:=id hv;obtain⟨o,h1,h2,h3⟩:=x;show wpAny_pyIter_slot hv.typeIs Ec_ (BV_ Ec_ hv.typeIs F.entry_dict_items_iter ?_ (F.args_dict_items_iter_1 _));unfold Builtin.«dict_items.__iter__»;show Ac_ (Ah_ (Ac_ ?_));unfold Builtin.Dict_items.dictOf;show Ac_ (Dl_ g1 g3 (x:=.ref d) rfl (Ah_ (Ac_ ?_)));unfold Builtin.Dict_items.newIterator;show Ac_ (Dx_ h1 h3 (Ac_ (D3_ h1 h3 ?_)));simp only[show Builtin.Dict_items.ownsTuple "dict_itemiterator"=true by decide,if_true];show BP_ (Ah_ ⟨_,rfl,"dict_itemiterator",_,⟨_,Az_ _ rfl,rfl⟩,F.slot_dict_itemiterator_next.lookup,?_⟩) (by simp only[sizeOk,Builtin.Dict_items.ownedTupleFields,At_,Af_,A1_,D1_,BL_];lia);simpa[rawInt,Builtin.Dict_items.ownedTupleFields]using k
theorem nd_{it d:Addr}{i ep:Nat}{es:Array DictEntry}{ok ov:Value}{Q:Option Value->Shared->Prop}(hh:A.handled=none)(st:IsItemIter s.heap it d i es.size ep ok ov)(x:Iq_ s.heap d es ep)(hi:es.size<=i)
  (k:∀g,Heap.ExtBut it s.heap g->Q none {s with heap:=g}):wpAny (model prog w) A (pyNext (.ref it)) Q E s:=by
 obtain⟨o,h1,h2,h3⟩:=x;have ty:s.TypeIs (.ref it) "dict_itemiterator" := ⟨_,st,rfl⟩;unfold pyNext;show Ac_ (wpAny_attempt (DU_ (name:=Str.ofString "__next__") ty BR_ (BV_ BR_ ty Da_ ?_ (C3_ _))));show Ac_ (Ah_ (Ac_ (Ac_ ?_)))
 first|show Ac_ (BO_ ty (Ah_ ?_))|show Ac_ (B7_ ty (Ah_ ?_))
 show Ac_ (wpAny_fieldsOf st rfl ?_);simp only[show Builtin.Dict_items.ownsTuple "dict_itemiterator"=true by decide,if_true];show(show wpAny _ _ (if(Value.ref d == Value.none)=true then _ else _) _ _ s from ?_);rw[if_neg s_];show Ac_ (Ah_ (Ac_ (Dx_ h1 h3 ?_)));rw[if_neg s_];show Ac_ (Ah_ (Ac_ (D3_ h1 h3 ?_)));rw[if_neg s_];show Ah_ ?_;simp only[show ¬ ((i:Int)<0)from by lia,Co_,A5_,CV_ hi];show Ac_ ?_
 first|show Ac_ (BO_ ty (Ah_ ?_))|show Ac_ (B7_ ty (Ah_ ?_))
 show(show wpAny _ _ (setField (.ref it) 2 .none >>= _) _ _ s from Ac_ (wpAny_setField st rfl s_ ?_));show n3_ (A:=A.in1) (.inl hh) λg y g1 ⟨u,hu,cu⟩=>?_;show Ac_ (CD_ (T := "StopIteration") (b:=true) ⟨u,hu,cu⟩ isSubtype_stop (Ah_ (k g λb o hb e=>g1 b o ((AW_ _ _ (Ne.symm hb)).trans e))))
theorem l3_{it d:Addr}{i ep:Nat}{es:Array DictEntry}{ok ov:Value}{Q:Option Value->Shared->Prop}(st:IsItemIter s.heap it d i es.size ep ok ov)(x:Iq_ s.heap d es ep)(hi:i<es.size)
  (k:∀g,IsItemIterOut g it d (i+1) es.size ep es[i].key es[i].val s.heap.objs.size->g.get? s.heap.objs.size=some {cls:=.type "tuple",data:=.seq #[es[i].key,es[i].val]}->(∀b o,b≠it->s.heap.get? b=some o->g.get? b=some o)->Q (some (.ref s.heap.objs.size)) {s with heap:=g}):
  wpAny (model prog w) A (pyNext (.ref it)) Q E s:=by
 obtain⟨o,h1,h2,h3⟩:=x;have ty:s.TypeIs (.ref it) "dict_itemiterator" := ⟨_,st,rfl⟩;have il:it<s.heap.objs.size:=Av_ st;unfold pyNext;show Ac_ (wpAny_attempt (DU_ (name:=Str.ofString "__next__") ty BR_ (BV_ BR_ ty Da_ ?_ (C3_ _))));show Ac_ (Ah_ (Ac_ (Ac_ ?_)))
 first|show Ac_ (BO_ ty (Ah_ ?_))|show Ac_ (B7_ ty (Ah_ ?_))
 show Ac_ (wpAny_fieldsOf st rfl ?_);simp only[show Builtin.Dict_items.ownsTuple "dict_itemiterator"=true by decide,if_true];show(show wpAny _ _ (if(Value.ref d == Value.none)=true then _ else _) _ _ s from ?_);rw[if_neg s_];show Ac_ (Ah_ (Ac_ (Dx_ h1 h3 ?_)));rw[if_neg s_];show Ac_ (Ah_ (Ac_ (D3_ h1 h3 ?_)));rw[if_neg s_];show Ah_ ?_;simp only[show ¬ ((i:Int)<0)from by lia,Co_,A5_,DC_ hi];show Ac_ ?_
 first|show Ac_ (BO_ ty (Ah_ ?_))|show Ac_ (B7_ ty (Ah_ ?_))
 show Ac_ (CW_ ty ?_);show(show wpAny _ _ (setField (.ref it) 3 (rawInt ((i:Int)+1)) >>= _) _ _ s from ?_);show Ac_ (Cl_ st s_ λg1 e1 s1=>?_);have e1':IsItemIter g1 it d (i+1) es.size ep ok ov:=by unfold IsItemIter;rw[show((i+1:Nat):Int)=(i:Int)+1 by lia];simpa[rawInt]using e1
 have ty1:Shared.TypeIs {s with heap:=g1} (.ref it) "dict_itemiterator" := ⟨_,e1',rfl⟩;show Ac_ (Be_ (Ac_ (CW_ (s:={s with heap:=g1}) ty1 (Ac_ (CW_ (s:={s with heap:=g1}) ty1 ?_)))));show(show wpAny _ _ (Builtin.Dict_items.pairFromOwner (.ref it) 6 es[i].key es[i].val) _ _ {s with heap:=g1}from ?_);unfold Builtin.Dict_items.pairFromOwner;show Ac_ (wpAny_newTuple ?_);generalize hob:({cls:=.type "tuple",data:=.seq #[es[i].key,es[i].val]}:Obj)=ob at k⊢;have fo:ob.isFreed=false:=by rw[<-hob];rfl
 have z1:g1.objs.size=s.heap.objs.size:=s1.1;have e2:IsItemIter (g1.push ob) it d (i+1) es.size ep ok ov:=Al_ _ e1';have t2:(g1.push ob).get? s.heap.objs.size=some ob:=by rw[<-z1];show Az_ _ fo
 have k2:∀b o,b≠it->s.heap.get? b=some o->(g1.push ob).get? b=some o:=λb o hb e=>Al_ _ (s1.extBut b o hb e);show(show wpAny _ _ (Builtin.Dict_items.ownedTupleIsFree (.ref it) >>= _) _ _ {s with heap:=g1.push ob}from ?_);have ge:({s with heap:=g1}:Shared).heap.objs.size=s.heap.objs.size:=z1;rw[ge];show Ac_ ?_;unfold Builtin.Dict_items.ownedTupleIsFree;show Ac_ (Dl_ e2 rfl (x:=.none) rfl (Ah_ ?_));simp only[if_true];show Ac_ (Dl_ e2 rfl (x:=ok) rfl (Ac_ (Dl_ e2 rfl (x:=ov) rfl ?_)));show Ac_ (Cl_ e2 s_ λg3 e3 s3=>?_);have e3':IsItemIter g3 it d (i+1) es.size ep es[i].key ov:=e3;show Ac_ (Cl_ e3' s_ λg4 e4 s4=>?_);have e4':IsItemIter g4 it d (i+1) es.size ep es[i].key es[i].val:=e4;show Ac_ (Cl_ e4' s_ λg5 e5 s5=>?_);have e5':IsItemIterOut g5 it d (i+1) es.size ep es[i].key es[i].val s.heap.objs.size:=e5;show Ac_ (Cl_ e5' s_ λg6 e6 s6=>?_);have e6':IsItemIterOut g6 it d (i+1) es.size ep es[i].key es[i].val s.heap.objs.size:=e6;have all:∀b o,b≠it->(g1.push ob).get? b=some o->g6.get? b=some o:=λb o hb e=>s6.extBut b o hb (s5.extBut b o hb (s4.extBut b o hb (s3.extBut b o hb e)));show Ac_ (CU_ (Ah_ (Ah_ ⟨_,rfl,Ah_ (k g6 e6' (all _ _ (DD_ il) t2) λb o hb e=>all b o hb (k2 b o hb e))⟩)))
theorem Inv.freezeT{kvs:List (List Key×V)}(I:Inv X pins σ H s)(e:H d=some (.dT kvs)):∃ob es0 ep,ob.data=.dict es0 ep/\s.heap.get? d=some ob/\Inv X pins σ (upd H d (.frz ob (.dT kvs))) s:=by obtain⟨z,hd,xs,r,o,es,ep,g1,g2,g3,g4,g5⟩:=(show Fg_ X.prog X.w H s.heap d (.dT kvs)from I.hok d _ e);show⟨o,es,ep,g3,g1,?_⟩;have r':Paired (λ(p:List Key×V)(q:List Key×Addr×Value)=>p.1=q.1/\upd H d (.frz o (.dT kvs)) q.2.1=some (.tup (p.1.map kV))/\Fb_ p.2 q.2.2) kvs xs:=Paired.mapP r λp q z=>⟨z.1,by rw[ae_ (GB_ z.2.1 e (λz=>nomatch z))];show z.2.1,z.2.2⟩;show fa_ (h':=s.heap) (t':=s.toks) (ob:=.frz o (.dT kvs)) I (by rw[e];show True.intro) ⟨rfl,λ_ _=>rfl⟩ ⟨o,g1⟩ ⟨g1,z,hd,xs,r',o,es,ep,g1,g2,g3,g4,g5⟩
theorem iG_{kvs:List (List Key×V)}(ok:HOk P w H h)(e:H d=some (.frz ob (.dT kvs)))(hd:ob.data=.dict es0 ep):
  ∃xs,KT H kvs xs/\Iq_ h d es0 ep/\es0.toList=xs.map (entryOfKey (tupleKind (EV_ P w))):=by
 obtain⟨g,_,_,xs,rel,o,es,ep',ho,r1,r2,r3,_⟩:=(show Fg_ P w H h d (.frz ob (.dT kvs))from ok d _ e);rw[g]at ho;cases ho;rw[hd]at r2;cases r2;show⟨xs,rel,⟨ob,g,r1,hd⟩,r3⟩
def Idt(d:Addr)(ob:Obj)(kvs:List (List Key×V)):It :=
 ⟨λi H=>H d=some (.frz ob (.dT kvs))/\i<kvs.length,λi H x H'=>∃T k v q,x=.ref T/\H T=none/\kvs[i]?=some (k,v)/\H q=some (.tup (k.map kV))/\H'=upd H T (.tup [.ref q,v]),λi H=>H d=some (.frz ob (.dT kvs))/\kvs.length<=i⟩
theorem iH_{kvs:List (List Key×V)}(hob:ob.data=.dict es0 ep):
  I8_ P w K (.Tuple elts kt tpos) (Idt d ob kvs) [it] it (λi h=>∃ok ov,IsItemIter h it d i es0.size ep ok ov) where
 mem:=s_
 obj:=λi h st b hb=>by
  cases Ak_.mp hb;obtain⟨ok,ov,e⟩:=st;show⟨_,e,λv z=>by cases(show Data.fields _=Data.cell v from z)⟩
 keep:=λi h h' st k=>let⟨ok,ov,e⟩:=st;⟨ok,ov,k it s_ _ e⟩
 item:=by
  intro X hP hw hK hc i pins s σ H E I hf st ⟨e,hi⟩;subst hP hw hK;obtain⟨xs,rel,da,he⟩:=iG_ I.hok e hob;have hl:kvs.length=xs.length:=Br_ rel;have hz:es0.size=xs.length:=by rw[<-Cg_,he,Ab_]
  have hx:xs[i]?=some (xs[i]'o_):=Aa_ _;have hk:kvs[i]?=some (kvs[i]):=Aa_ _;obtain⟨e1,e2,e3⟩:=cT_ rel hk hx;obtain⟨ok,ov,st⟩:=st
  have ee:es0[i]'o_=entryOfKey (tupleKind (EV_ X.prog X.w)) (xs[i]'o_):=by
   have:es0.toList[i]?=some (entryOfKey (tupleKind (EV_ X.prog X.w)) (xs[i]'o_)):=by rw[he,Ae_,hx];rfl
   rw[Eh_,DC_ o_]at this;show Ar_ this
  show l3_ st da o_ λh' g1 g3 g5=>⟨_,rfl,wpAny_letOwnedTupleGo_items (s:={s with heap:=h'}) g1 λh'' k1 k2=>?_⟩;rw[ee]at g3;generalize hq:(xs[i]'o_)=y at e1 e2 e3 g3;have lt:it<s.heap.objs.size:=Av_ st;have hT:H s.heap.objs.size=none:=I.hok.fresh (Aj_ _)
  have I1:Inv X pins σ (upd H s.heap.objs.size (.tup [.ref y.2.1,(kvs[i]).2])) {s with heap:=s.heap.push {cls:=.type "tuple",data:=.seq #[.ref y.2.1,y.2.2]}} :=
   I.laid (t':=s.toks) (λb u e=>Al_ _ e) (Aj_ _) ⟨by change 2<=sizeLine;decide,[.ref y.2.1,y.2.2],.cons rfl (.cons e3 .nil),⟨_,Az_ _ rfl,rfl,_,rfl⟩⟩
  have f1:∀b∈[it],GI_ X pins (upd H s.heap.objs.size (.tup [.ref y.2.1,(kvs[i]).2])) b:=λb hb=>by
   cases Ak_.mp hb;show⟨by rw[ae_ (AL_ lt)];show(hf it hb).1,(hf it hb).2⟩
  have I2:Inv X pins σ (upd H s.heap.objs.size (.tup [.ref y.2.1,(kvs[i]).2])) {s with heap:=h''}:=by
   show Inv.turnedL (s:={s with heap:=s.heap.push {cls:=.type "tuple",data:=.seq #[.ref y.2.1,y.2.2]}}) (ch:=[it]) (t':=s.toks) I1 (λb o hb q=>?_) f1;simp only[Ak_]at hb;show(k2.2 b hb).trans ?_;by_cases hbT:b=s.heap.objs.size
   .subst hbT;have e':(s.heap.push {cls:=.type "tuple",data:=.seq #[.ref y.2.1,y.2.2]}).get? s.heap.objs.size=some o:=q;rw[Az_ _ rfl]at e';cases e';show g3
   .show g5 b o hb ((Heap.get?_push_ne _ _ _ hbT).symm.trans (show(s.heap.push {cls:=.type "tuple",data:=.seq #[.ref y.2.1,y.2.2]}).get? b=some o from q))
  show⟨.ref s.heap.objs.size,_,I2,rfl,⟨_,_,_,y.2.1,rfl,hT,hk,e2,rfl⟩,⟨_,_,k1⟩,λb hb=>(f1 b hb).1⟩
 done:=by
  intro X hP hw hK hc i pins s σ H E I hf st ⟨e,hi⟩;subst hP hw hK;obtain⟨xs,rel,da,he⟩:=iG_ I.hok e hob;have hl:kvs.length=xs.length:=Br_ rel;have hz:es0.size=xs.length:=by rw[<-Cg_,he,Ab_]
  obtain⟨f0,f1,f2,f3,f4,f5⟩:=hf it s_;obtain⟨ok,ov,st⟩:=st;show nd_ (I.ok.hd hc) st da o_ λh' eb=>⟨rfl,I.turned (t':=s.toks) (λb o hb e=>eb b o hb e) f0 f1 f3 f4 f5⟩
 self:=λ_ _ _ _ _ st h=>let⟨_,_,e⟩:=st;kcp_self e h
def iDT(td:TE):TI:=λσ H R=>td σ H λx H1=>∃(d:Addr)(kvs:List (List Key×V)),x=.ref d/\H1 d=some (.dT kvs)/\∀ob,R (Idt d ob kvs) (upd H1 d (.frz ob (.dT kvs)))
theorem jL_{o:Expr}{td:TE}{apos cpos:Pos}(ho:PE X o td)(hbase:attributeBase o "items" X.env (eval o X.env)=eval o X.env:=by rfl) (hline:(apos.endLine == cpos.line)=true:=by rfl):PI X (.Tuple elts kt tpos) (.Call (.Attribute o "items" apos) [] [] cpos) (iDT td):=by
 intro pins s σ H R I h;show CO_ hbase hline (thn (ho pins s σ H _ I h) λv s1 ⟨x,H1,I1,r1,d,kvs,e,hd,q⟩=>?_);subst e;cases r1;obtain⟨ob,es0,ep,hob,hoo,I2⟩:=I1.freezeT hd;obtain⟨_,hsys,xs0,_,dd⟩:=I0_ I1.hok hd;have raw:Iq_ s1.heap d es0 ep:=by obtain⟨o,es,ep',z1,z2,_⟩:=id dd;rw[hoo]at z1;cases z1;show⟨ob,hoo,z2,hob⟩
 show⟨"dict","dict.items",BC_,DV_,PySem.F.type_dict_items,dd.typeIs,λb q=>?_,Cp_ rfl (De_ ?_)⟩
 .cases q;obtain⟨o2,h1,h2,_⟩:=id raw;show⟨o2,h1,h2.2.1⟩
 show EI_ DV_ dd.typeIs PySem.F.entry_dict_items (PySem.F.args_dict_items_1 _) (kX_ d hsys) ⟨⟨es0,ep,raw⟩,?_⟩;have I3:Inv X pins σ (upd H1 d (.frz ob (.dT kvs))) {s1 with heap:=s1.heap.push {cls:=.type "dict_items",data:=.fields #[.ref d]}}:=I2.kept (t':=s1.toks) λb o e=>Al_ _ e;obtain⟨xs,rel,da,_⟩:=iG_ (kvs:=kvs) I3.hok aa_ hob;show l2_ (s:={s1 with heap:=s1.heap.push {cls:=.type "dict_items",data:=.fields #[.ref d]}}) ⟨_,Az_ _ rfl,rfl,rfl⟩ da ?_;show⟨(s1.heap.push {cls:=.type "dict_items",data:=.fields #[.ref d]}).objs.size,[_],_,_,upd H1 d (.frz ob (.dT kvs)),rfl,I3.kept (t':=s1.toks) λb o e=>Al_ _ e,iH_ hob,⟨_,_,Az_ _ rfl⟩,λb hb=>?_,q ob⟩;cases Ak_.mp hb;show I3.fpOk (Aj_ _) (I3.hok.fresh (Aj_ _))
theorem ne_{d:Addr}{ob:Obj}{kvs:List (List Key×V)}{g:TG}{tb:TS}{nx bk ct:KG_}{rt:VK}{σ:St}{H:Hp}(Pv:Nat->St->Hp->Prop)(h0:Pv 0 σ H)(hl:∀i σ H,i<=kvs.length->Pv i σ H->H d=some (.frz ob (.dT kvs)))
  (hs:∀(i:Nat) k x T q σ H,kvs[i]?=some (k,x)->H T=none->H q=some (.tup (k.map kV))->∀(kk kb:KG_),(∀σ' H',Pv (i+1) σ' H'->kk σ' H')->(∀σ' H',nx σ' H'->kb σ' H')->∀G:Prop,((g (.ref T) σ (upd H T (.tup [.ref q,x])) λσ2 H2=>tb ⟨kk,rt,kb,kk⟩ σ2 H2)->G)->Pv i σ H->G) (hd:∀σ H,Pv kvs.length σ H->nx σ H):Gn_ (Idt d ob kvs) g tb ⟨nx,rt,bk,ct⟩ σ H:=by
 show⟨λi m σ H=>m=kvs.length-i/\i<=kvs.length/\Pv i σ H,⟨kvs.length,s_,AB_ _,h0⟩,?_⟩;rintro i m σ H ⟨rfl,hi,p⟩;have q:=hl i σ H hi p;by_cases hlt:i<kvs.length
 .show .inr ⟨⟨q,hlt⟩,Pv (i+1),λσ' H' p'=>⟨kvs.length-(i+1),o_,rfl,hlt,p'⟩,λx H' y=>?_⟩;obtain⟨T,k,v,qa,rfl,hT,hk,hqa,rfl⟩:=y;show hs i k v T qa σ H hk hT hqa _ _ (λ_ _ q=>q) (λ_ _ q=>q) _ id p
 .have e:i=kvs.length:=o_
  subst e;show .inl ⟨⟨q,Aj_ _⟩,hd σ H p⟩
structure Lto(lt:Nat->Nat->Bool)(N:Nat):Prop where
 as:∀x y,lt x y=true->lt y x=false
 tr:∀x y z,lt y x=false->lt z y=false->lt z x=false
def So(lt:Nat->Nat->Bool)(p:Array Nat)(b:Nat):Prop:=∀i j,i<j->j<b->lt (p.getD j 0) (p.getD i 0)=false
def Fa(lt:Nat->Nat->Bool)(p:Array Nat)(b:Nat):Prop:=∀i j,i<j->j<b->lt (p.getD i 0) (p.getD j 0)=false
section
variable {lt:Nat->Nat->Bool}{N:Nat}
variable{p:Array Nat}
theorem Pm.size(h:Pm N p):p.size=N:=by have:=(Bt_.mp h).length_eq;simpa using this
variable{n:Nat}
theorem So.more(O:Lto lt N)(h:So lt p n)(h1:1<=n)(e:lt (p.getD n 0) (p.getD (n-1) 0)=false):So lt p (n+1):=λi j hij hj=>by
 by_cases c:j<n
 .show h i j hij c
 .have:j=n:=o_
  subst this;by_cases d:i=j-1
  .subst d;show e
  .show O.tr _ _ _ (h i (j-1) o_ o_) e
theorem Fa.more(O:Lto lt N)(h:Fa lt p n)(h1:1<=n)(e:lt (p.getD (n-1) 0) (p.getD n 0)=false):Fa lt p (n+1):=λi j hij hj=>by
 by_cases c:j<n
 .show h i j hij c
 .have:j=n:=o_
  subst this;by_cases d:i=j-1
  .subst d;show e
  .show O.tr _ _ _ e (h i (j-1) o_ o_)
theorem kY_(O:Lto lt N){p:Array Nat}(h:Pm N p)(h0:0<N):∀(f n:Nat),1<=n->So lt p n->∃m,Gc_ lt N (kas_asc p f n)=some m/\So lt p m/\n<=m/\m<=n+f/\(m<n+f->lt (p.getD m 0) (p.getD (m-1) 0)=true)
 |0,n,h1,hs=>⟨n,rfl,hs,Aj_ _,Aj_ _,λx=>absurd x o_⟩
 |f+1,n,h1,hs=>by
  unfold kas_asc Gc_;rw[if_pos ⟨h.below h0 _,h.below h0 _⟩];cases e:lt (p.getD n 0) (p.getD (n-1) 0)with
  |true=>show⟨n,rfl,hs,Aj_ _,o_,λ_=>e⟩
  |false =>obtain⟨m,a,b,c,d,g⟩:=kY_ O h h0 f (n+1) o_ (hs.more O h1 e);show⟨m,a,b,o_,o_,λx=>g o_⟩
def Es(lt:Nat->Nat->Bool)(p:Array Nat)(a b:Nat):Prop:=∀i j,a<=i->i<b->a<=j->j<b->lt (p.getD i 0) (p.getD j 0)=false
theorem Lto.rf(O:Lto lt N)(x:Nat):lt x x=false:=by
 cases e:lt x x with
 |false=>rfl
 |true=>show e.symm.trans (O.as x x e)
theorem Es.one(O:Lto lt N):Es lt p n (n+1):=λi j a b c d=>by rw[show i=j by lia];show O.rf _
theorem fb_{a:Nat}(hn:n<=p.size)(k:Nat):(kas_rev p a n).getD k 0=if a<=k/\k<n then p.getD (a+n-1-k) 0 else p.getD k 0:=by have q:=ED_ (xs:=p) (i:=a) (j:=n) hn k;change(mirror p a n ((n-a)/2)).getD k 0=_;rw[A8_,q];split <;> rw[A8_]
theorem Fa.seg{a:Nat}(hn:n<=p.size)(h:Fa lt p n)(e:Es lt p a n):Fa lt (kas_rev p a n) n:=λi j hij hj=>by
 rw[fb_ hn,fb_ hn];by_cases ci:a<=i/\i<n
 .rw[if_pos ci,if_pos ⟨o_,hj⟩];show e _ _ o_ o_ o_ o_
 .rw[if_neg ci];split <;> show h _ _ o_ o_
theorem hb_(O:Lto lt N)(h0:0<N):∀(f:Nat)(p:Array Nat)(n q:Nat),Pm N p->q+1<=n->n+f<=N->Fa lt p n->Es lt p (n-(q+1)) n->∃z,Gc_ lt N (kas_desc f p n q)=some z/\Pm N z.1/\Fa lt z.1 z.2.1/\Es lt z.1 (z.2.1-(z.2.2+1)) z.2.1/\n<=z.2.1/\z.2.1<=n+f
 |0,p,n,q,h,h1,_,hs,he=>⟨(p,n,q),rfl,h,hs,he,Aj_ _,Aj_ _⟩
 |f+1,p,n,q,h,h1,hN,hs,he=>by
  have sz:=h.size;unfold kas_desc Gc_;rw[if_pos ⟨h.below h0 _,h.below h0 _⟩];cases e:lt (p.getD n 0) (p.getD (n-1) 0)with
  |true =>
   simp only[if_true];split
   .have er:∀k,¬ (n-(q+1)<=k/\k<n)->(kas_rev p (n-(q+1)) n).getD k 0=p.getD k 0:=λk hk=>by rw[fb_ o_,if_neg hk]
    obtain⟨z,a,b,c,d,g⟩:=hb_ O h0 f (kas_rev p (n-(q+1)) n) (n+1) 0 (h.rev _ _) o_ o_ ((hs.seg o_ he).more O o_ (by rw[er n o_,fb_ o_,if_pos ⟨o_,o_⟩];show O.tr _ _ _ (O.as _ _ e) (he _ _ o_ o_ o_ o_))) (Es.one O);show⟨z,a,b,c,d,o_,o_⟩
   .obtain⟨z,a,b,c,d,g⟩:=hb_ O h0 f p (n+1) 0 h o_ o_ (hs.more O o_ (O.as _ _ e)) (Es.one O);show⟨z,a,b,c,d,o_,o_⟩
  |false =>
   simp only[BZ_,Co_];unfold Gc_;rw[if_pos ⟨h.below h0 _,h.below h0 _⟩];cases e2:lt (p.getD (n-1) 0) (p.getD n 0)with
   |true=>show⟨(p,n,q),rfl,h,hs,he,Nat.le_refl _,by dsimp only;lia⟩
   |false =>
    simp only[BZ_,Co_]
    obtain⟨z,a,b,c,d,g⟩:=hb_ O h0 f p (n+1) (q+1) h o_ o_ (hs.more O o_ e2) (λi j hi hi' hj hj'=>by
     have le:∀k,n+1-(q+1+1)<=k->k<n+1->lt (p.getD k 0) (p.getD (n-1) 0)=false/\lt (p.getD (n-1) 0) (p.getD k 0)=false:=λk k1 k2=>by
      by_cases kn:k=n
      .rw[kn];show⟨e,e2⟩
      .show⟨he _ _ o_ o_ o_ o_,he _ _ o_ o_ o_ o_⟩
     show O.tr _ _ _ (le j hj hj').2 (le i hi hi').1)
    show⟨z,a,b,c,d,o_,o_⟩
theorem mH_(hn:n<=p.size){k:Nat}(hk:k<n):(kas_rev p 0 n).getD k 0=p.getD (n-1-k) 0:=by have q:=ED_ (xs:=p) (i:=0) (j:=n) hn k;rw[if_pos ⟨AB_ _,hk⟩]at q;change(mirror p 0 n ((n-0)/2)).getD k 0=_;rw[A8_,A8_,q];congr 2;lia
theorem Fa.rev(hn:n<=p.size)(h:Fa lt p n):So lt (kas_rev p 0 n) n:=λi j hij hj=>by rw[mH_ hn hj,mH_ hn o_];show h _ _ o_ o_
theorem f5_(O:Lto lt N)(h0:0<N)(h:Pm N p)(h1:1<=n)(hN:n<N)(hf:Fa lt p (n+1)):∃z,Gc_ lt N (kas_descPart n N p)=some z/\Pm N z.2/\So lt z.2 z.1/\1<=z.1/\z.1<=N:=by
 obtain⟨z,hz,b,c,d,g1,g2⟩:=hb_ O h0 (N-(n+1)) p (n+1) 0 h o_ o_ hf (Es.one O);have sz:=b.size;have tl:∀{p:Array Nat},Pm N p->Fa lt p z.2.1->∃y,Gc_ lt N (kas_tail3 z.2.1 N p)=some y/\Pm N y.2/\So lt y.2 y.1/\1<=y.1/\y.1<=N:=λ{p} hp fp=>by obtain⟨m',hm',hs',h1',hN',_⟩:=kY_ O (hp.rev 0 z.2.1) h0 (N-z.2.1) z.2.1 o_ (fp.rev (by rw[hp.size];lia));show⟨(m',kas_rev p 0 z.2.1),?_,hp.rev 0 _,hs',by dsimp only;lia,by dsimp only;lia⟩;unfold kas_tail3;rw[cS_ _ hm'];rfl
 unfold kas_descPart;rw[cS_ _ hz];split
 .show tl (b.rev _ _) (c.seg o_ d)
 .show tl b c
theorem l4_(O:Lto lt N)(h0:0<N)(h:Pm N p):∃z,Gc_ lt N (kas_count N p)=some z/\Pm N z.2/\So lt z.2 z.1/\1<=z.1/\z.1<=N:=by
 obtain⟨m,hm,hs,h1,hN,hx⟩:=kY_ O h h0 (N-1) 1 (Aj_ _) λi j a b=>absurd a o_;have sz:=h.size;unfold kas_count;rw[cS_ _ hm];split
 .show⟨_,rfl,h,hs,h1,by dsimp only;lia⟩
 .rename_i c;have cm:m≠N:=λe=>c (by rw[e];show DJ_ N);have e:=hx o_;split
  .unfold Gc_;rw[if_pos ⟨h.below h0 _,h.below h0 _⟩];cases t:lt (p.getD 0 0) (p.getD (m-1) 0)with
   |true=>show⟨_,rfl,h,hs,h1,by dsimp only;lia⟩
   |false =>
    have ff:Fa lt p m:=λi j hij hj=>by
     have a1:lt (p.getD (m-1) 0) (p.getD j 0)=false:=by
      by_cases c:j=m-1
      .rw[c];show O.rf _
      .show hs _ _ o_ o_
     have a2:lt (p.getD i 0) (p.getD 0 0)=false:=by
      by_cases c:i=0
      .rw[c];show O.rf _
      .show hs _ _ o_ o_
     show O.tr _ _ _ (O.tr _ _ _ a1 t) a2
    have es:Es lt p 0 m:=λi j _ hi _ hj=>by
     rcases Nat.lt_trichotomy i j with c|c|c
     .show ff i j c hj
     .rw[c];show O.rf _
     .show hs j i c hi
    show f5_ O h0 (h.rev 0 m) h1 o_ ((ff.seg o_ es).more O h1 ?_);rw[fb_ o_,fb_ o_,if_pos ⟨o_,o_⟩,if_neg o_,show 0+m-1-(m-1)=0 by lia];show O.tr _ _ _ (O.as _ _ e) t
  .have m1:m=1:=o_
   subst m1;show f5_ O h0 h (Aj_ _) o_ (Fa.more O (n:=1) (λi j a b=>absurd a o_) (Aj_ _) (O.as _ _ e))
theorem hc_(O:Lto lt N)(h0:0<N){p:Array Nat}(h:Pm N p){k:Nat}(hs:So lt p k):∀(f l r:Nat),l<=r->r<=k->r<=l+f->(∀i,i<l->lt (p.getD k 0) (p.getD i 0)=false)->(∀i,r<=i->i<k->lt (p.getD i 0) (p.getD k 0)=false) ->
  ∃m,Gc_ lt N (kas_place p k f l r)=some m/\m<=k/\(∀i,i<m->lt (p.getD k 0) (p.getD i 0)=false)/\∀i,m<=i->i<k->lt (p.getD i 0) (p.getD k 0)=false
 |0,l,r,a,b,c,u,v=>⟨l,rfl,o_,u,λi hi hk=>v i o_ hk⟩
 |f+1,l,r,a,b,c,u,v=>by
  unfold kas_place;split
  .show⟨l,rfl,o_,u,λi hi hk=>v i o_ hk⟩
  .unfold Gc_;rw[if_pos ⟨h.below h0 _,h.below h0 _⟩];cases e:lt (p.getD k 0) (p.getD ((l+r)/2) 0)with
   |true =>
    show hc_ O h0 h hs f l _ o_ o_ o_ u λi hi hk=>?_;by_cases q:i=(l+r)/2
    .subst q;show O.as _ _ e
    .show O.tr _ _ _ (O.as _ _ e) (hs _ _ o_ hk)
   |false =>
    show hc_ O h0 h hs f _ r o_ b o_ (λi hi=>?_) v;by_cases q:i=(l+r)/2
    .subst q;show e
    .show O.tr _ _ _ (hs _ _ o_ o_) e
theorem mI_{k l:Nat}(hk:k<p.size)(hl:l<=k)(i:Nat):(bubble p k (k-l)).getD i 0=if i=l then p.getD k 0 else if l<i/\i<=k then p.getD (i-1) 0 else p.getD i 0:=by
 have q:=getElem?_bubble (xs:=p) hk (k-l) o_ i;rw[show k-(k-l)=l by lia]at q;rw[A8_,q];by_cases a:i=l
 .rw[if_pos a,if_pos a,A8_]
 .rw[if_neg a,if_neg a];by_cases b:l<i/\i<=k
  .rw[if_pos b,if_pos b,A8_]
  .rw[if_neg b,if_neg b,A8_]
theorem mJ_(O:Lto lt N)(h0:0<N):∀(f:Nat)(p:Array Nat)(k:Nat),Pm N p->So lt p k->k+f=N->∃z,Gc_ lt N (kas_bin f p k)=some z/\Pm N z/\So lt z N
 |0,p,k,h,hs,e=>by
  have q:k=N:=o_
  rw[q]at hs;show⟨p,rfl,h,hs⟩
 |f+1,p,k,h,hs,e=>by
  obtain⟨l,hl,hk,u,v⟩:=hc_ O h0 h hs k 0 k o_ o_ o_ (λi hi=>absurd hi o_) λi hi hk=>absurd hi o_;unfold kas_bin;rw[cS_ _ hl];show mJ_ O h0 f _ _ ((bubble_perm _ _ _).trans h) (λi j hij hj=>?_) o_;have sz:=h.size;rw[mI_ o_ hk,mI_ o_ hk];by_cases a:j=l
  .rw[if_pos a,if_neg o_,if_neg o_];show u i o_
  .rw[if_neg a];by_cases b:i=l
   .rw[if_pos b,if_pos ⟨o_,o_⟩];show v _ o_ o_
   .rw[if_neg b];by_cases c:l<j
    .rw[if_pos ⟨c,o_⟩];by_cases d:l<i
     .rw[if_pos ⟨d,o_⟩];show hs _ _ o_ o_
     .rw[if_neg o_];show hs _ _ o_ o_
    .rw[if_neg o_,if_neg o_];show hs _ _ o_ o_
theorem kZ_(O:Lto lt N)(h0:0<N):∃z,Gc_ lt N (kas_sort N)=some z/\Pm N z/\So lt z N:=by
 obtain⟨r,hr,hp,hs,h1,hN⟩:=l4_ O h0 (p:=List.toArray (List.range N)) (Array.Perm.refl _);unfold kas_sort;rw[cS_ _ hr];split
 .rename_i c;rw[show max r.1 1=r.1 by lia];show mJ_ O h0 _ _ _ hp hs o_
 .have e:r.1=N:=o_
  rw[e]at hs;show⟨_,rfl,hp,hs⟩
theorem So.list{z:Array Nat}(hp:Pm N z)(hs:So lt z N):z.toList.Pairwise λi j=>lt j i=false:=by
 rw[Bv_];intro i j hi hj hij;have sz:=hp.size;have hi':i<z.size:=by simpa using hi
 have hj':j<z.size:=by simpa using hj
 have q:=hs i j hij o_;have ei:z.getD i 0=z.toList[i]:=by simp[Array.getD,hi']
 have ej:z.getD j 0=z.toList[j]:=by simp[Array.getD,hj']
 rw[ei,ej]at q;show q
end
def sLe(a b:Str):Prop:=¬ b.cps.toList<a.cps.toList
theorem sLe.trans{a b c:Str}(h:sLe a b)(h2:sLe b c):sLe a c:=Dm_.mpr (List.le_trans (Dm_.mp h) (Dm_.mp h2))
theorem k0_{a b:Str}(h:a.cps.toList=b.cps.toList):a=b:=by
 cases a;cases b;simpa using h
theorem sLe.antisymm{a b:Str}(h:sLe a b)(h2:sLe b a):a=b:=k0_ (List.le_antisymm (Dm_.mp h) (Dm_.mp h2))
theorem hR_:∀(p:Str)(l:List Str),risingS p l=true->(p::l).Pairwise sLe
 |p,[],_=>CP_ _ _
 |p,x::r,h=>by
  have h':(!ltCps x.cps.toList p.cps.toList && risingS x r)=true:=h;rw[Cd_]at h';have ih:=hR_ x r h'.2;have px:sLe p x:=by have:=h'.1;rw[ltCps_eq]at this;simpa[sLe]using this
  show List.pairwise_cons.mpr ⟨λy hy=>?_,ih⟩
  rcases As_.mp hy with rfl|hy
  .show px
  .show px.trans ((List.pairwise_cons.mp ih).1 y hy)
theorem hS_:∀{l:List Str},sortedS l=true->l.Pairwise sLe
 |[],_=>.nil
 |x::r,h=>hR_ x r h
theorem dy_:∀{us:List Value}{ns:List Str},StrsAre us ns->E8_ (ns.map V.str) us
 |_,_,.nil=>.nil
 |_,_,.cons n t h=>.cons ⟨t,rfl⟩ (dy_ h)
def IT_:List V->Hp->VK->Prop:=λvs H Q=>∃(d:Addr)(kvs:List (Key×V))(ns:List Str),vs=[.ref d]/\H d=some (.dK kvs)/\kvs.map (λq=>q.1)=ns.map (λn=>(Sum.inr n:Key))/\ns.length<64 /\
 ∀l (zs:List Str),H l=none->zs.Perm ns->zs.Pairwise sLe->Q (.ref l) (upd H l (.lst (zs.map V.str)))
theorem ea_:∀{us:List Value}{ns:List Str},us.length=ns.length->(∀(j:Nat)(v:Value)(n:Str),us[j]?=some v->ns[j]?=some n->∃t,v=.str n t)->StrsAre us ns
 |[],[],_,_=>.nil
 |[],_::_,e,_=>nomatch e
 |_::_,[],e,_=>nomatch e
 |u::us,n::ns,e,h=>by obtain⟨t,rfl⟩:=h 0 u n rfl rfl;show .cons n t (ea_ (by simpa using e) λj v x hv hx=>h (j+1) v x hv hx)
theorem iI_(hc:X.calm=true):FB_ X (.builtin "sorted") IT_:=by
 intro pins s σ H xs us Q I r h;obtain⟨d,kvs,ns,rfl,hd,hk,h64,q⟩:=h;obtain⟨u,rfl,e⟩:=FS_ r;cases e;obtain⟨hsz,hsys,vs,rel,dd⟩:=Hn_ I.hok hd;obtain⟨m,hn,F0⟩:=I.frm;obtain⟨ep,hat⟩:=dd.dictAt;have hl:kvs.length=vs.length:=rel.length;have hl2:kvs.length=ns.length:=by simpa using congrArg List.length hk
 show kdu_sorted (kdl_dict (knd:=EV_ X.prog X.w) (kvs:=vs) (ep:=ep) hsys) (I.ok.hd hc) F0 eo_ hat o_ λD h' tk us F N l1 hlu hv=>?_
 have hS:StrsAre us ns:=ea_ o_ λj v n ev en=>by
  obtain⟨k,x,ekx,kis⟩:=hv j v ev;have hj:j<ns.length:=(Ad_.mp en).1;obtain⟨e1,_⟩:=cT_ rel (Aa_ (show j<kvs.length by lia)) ekx;have e2:(kvs.map (λq=>q.1))[j]?=(ns.map (λn=>(Sum.inr n:Key)))[j]?:=by rw[hk]
  rw[Ae_,Ae_,en,Aa_ (show j<kvs.length by lia)]at e2;have e3:k=Sum.inr n:=e1.symm.trans (Ar_ e2);subst e3;have kis':Gu_ (Sum.inr n) v=true:=kis
  rcases aK_ kis' with⟨i,t,ek,ev⟩|⟨y,t,ek,ev⟩
  .cases ek
  .cases ek;show⟨t,ev⟩
 have hL:=N (D,_) Au_;have hoL:h'.get? D=some (seqObj "list" us.toArray 0):=hL.1;show BV_ slot_list_sort ⟨_,hoL,rfl⟩ entry_list_sort (list_sort_treeK strKind_oneLt hoL hS.keysOf (λv₁ v₂ rest e=>keyKind_strs (by rw[<-e];show hS)) o_ λst' hp hs=>⟨_,rfl,?_⟩) (args_list_sort _);obtain⟨zs,hz,hpm,hss⟩:=sorted_out_str hS hp hs;obtain⟨c,hD⟩:=sortedHeap_at (out:=(arrOf st').map (·.2)) hoL;have old:∀b o,b≠D->h'.get? b=some o->(sortedHeap h' D us ((arrOf st').map (·.2))).get? b=some o:=λb o hb e=>(sortedHeap_old hb (Av_ e)).trans e
 have F2:Fr X.base X.env.locals (sortedHeap h' D us ((arrOf st').map (·.2))) m:=by
  show⟨?_,λb x e=>old b x (λw=>?_) (F.keep b x e),F.above⟩
  .obtain⟨o,es,ep',ho,r1,r2,r3⟩:=F.ns;show⟨o,es,ep',old _ _ (Ne.symm hL.2.1) ho,r1,r2,r3⟩
  .rw[w,hL.2.2]at e;cases e
 have N2:News X.base X.env.locals (sortedHeap h' D us ((arrOf st').map (·.2))) ((D,seqObj "list" ((arrOf st').map (·.2)) c)::Fx_ X.base s.heap X.env.locals):=λz hz'=>by
  rcases As_.mp hz' with rfl|hz'
  .show⟨hD,hL.2⟩
  .have:=N z (Am_ _ hz');show⟨old _ _ (AL_ (l1 z hz')) this.1,this.2⟩
 have hlz:=hpm.length_eq;obtain⟨HD,I2⟩:=I.led_new (t':=tk) (o:=.lst (zs.map V.str)) hn F2 N2 l1 ⟨AV_ (EN_ (by rw[Ab_];lia)),_,c,dy_ hz,hD⟩;show⟨.ref D,_,I2,rfl,q D zs HD hpm (hS_ hss)⟩
def IE_:List V->Hp->VK->Prop:=λvs H Q=>∃(p:Addr)(ys:List V)(nm:Nat->Str),vs=[.ref p]/\H p=some (.lst ys)/\ys.length<64 /\
 (∀i,i<ys.length->∃(a w:Addr)(e:Int×Int),ys[i]?=some (.ref a)/\H a=some (.tup [.str (nm i),.ref w])/\H w=some (.tup [.int e.1,.int e.2]))/\(∀i j,i<ys.length->j<ys.length->nm i=nm j->i=j) /\
 ∀l (is:List Nat),H l=none->is.Perm (List.range ys.length)->is.Pairwise (λi j=>sLe (nm i) (nm j))->Q (.ref l) (upd H l (.lst (is.map λi=>ys.getD i .non)))
theorem iJ_(hu:X.A.units+64<cLine):FB_ X (.builtin "sorted") IE_:=by
 intro pins s σ H xs us Q I r h;obtain⟨p,ys,nm,rfl,hp,h64,it,inj,q⟩:=h;by_cases h0:ys.length=0
 .have e0:ys=[]:=Bb_ h0;subst e0;show gG_ pins s σ H _ us Q I r ⟨p,[],rfl,hp,d_,λl zs nl pm _=>by rw[pm.eq_nil];show q l [] nl (.refl _) .nil⟩
 by_cases h1:ys.length=1
 .obtain⟨y,rfl⟩:=Cq_.mp h1;show gH_ pins s σ H _ us Q I r ⟨p,y,rfl,hp,λl nl=>q l [0] nl (.refl _) (CP_ _ _)⟩
 obtain⟨u,rfl,e⟩:=FS_ r;cases e
 let lt:Nat->Nat->Bool:=λi j=>if nm i=nm j then false else decide ((nm i).cps.toList<(nm j).cps.toList)
 have O:Lto lt ys.length:=by
  have key:∀i j,lt i j=decide ((nm i).cps.toList<(nm j).cps.toList):=λi j=>by
   change(if nm i=nm j then false else decide ((nm i).cps.toList<(nm j).cps.toList))=_;split
   .rename_i e;rw[e];show(AE_ (List.lt_irrefl _)).symm
   .rfl
  show⟨λx y h=>?_,λx y z h1 h2=>?_⟩
  .rw[key]at h⊢;show AE_ (List.lt_asymm (A6_ h))
  .rw[key]at h1 h2⊢;show AE_ (sLe.trans (BK_ h1) (BK_ h2))
 have lle:∀i j,lt j i=false->sLe (nm i) (nm j):=λi j h=>by
  by_cases e:nm j=nm i
  .rw[e];show List.lt_irrefl _
  .have h':(if nm j=nm i then false else decide ((nm j).cps.toList<(nm i).cps.toList))=false:=h;rw[if_neg e]at h';show BK_ h'
 obtain⟨pm,hr,hpm,hso⟩:=kZ_ O o_;have pz:pm.size=ys.length:=by simpa using(Bt_.mp hpm).length_eq
 show hO_ (lt:=lt) (κ:=tuples' true) (pm:=pm) I (.inl (.inl hp)) o_ h64 ?kind ?less hr o_ λl nl=>q l pm.toList nl (by simpa using Bt_.mp hpm) ((So.list hpm hso).imp λh=>lle _ _ h)
 case kind =>
  intro its s' rv I' C hC;obtain⟨fs,t,hf,lk⟩:=hP_ "str" I' rv λz hz=>by obtain⟨i,hi,rfl⟩:=Ax_.mp hz;obtain⟨a,w,e,ea,ha,_⟩:=it i hi;rw[Aa_ hi]at ea;show⟨a,_,_,Ar_ ea,ha,rfl⟩
  have hl:=rv.length;show kat_kind t o_ lk d_ hC
 case less =>
  intro its s' i j rv I' hi hj C hC;have u2:X.A.in1.in1.units+60<cLine:=by rw[A7_,A7_];lia
  have pick:∀i,i<ys.length->∃(a w:Addr)(e:Int×Int),its.getD i Value.none=.ref a/\H a=some (.tup [.str (nm i),.ref w])/\H w=some (.tup [.int e.1,.int e.2]):=λi hi=>by obtain⟨a,w,e,ea,ha,hw⟩:=it i hi;obtain⟨u,hu',ru⟩:=rv.get ea;cases ru;show⟨a,w,e,by rw[Ag_,hu'];rfl,ha,hw⟩
  obtain⟨a,w1,e,ea,ha,hw1⟩:=pick i hi;obtain⟨b,w2,f,eb,hb,hw2⟩:=pick j hj;have rw1:Rep H (.ref w1) (.tup [.int e.1,.int e.2]):=⟨w1,_,rfl,hw1,_,_,rfl,rfl,_,_,rfl,rfl,rfl⟩;have rw2:Rep H (.ref w2) (.tup [.int f.1,.int f.2]):=⟨w2,_,rfl,hw2,_,_,rfl,rfl,_,_,rfl,rfl,rfl⟩;rw[ea,eb];have hlt:lt i j=if nm i=nm j then false else decide ((nm i).cps.toList<(nm j).cps.toList):=rfl;rw[hlt]at hC;have same:nm i=nm j->e=f:=λhn=>by have hij:=inj i j hi hj hn;subst hij;rw[ea]at eb;cases eb;rw[ha]at hb;cases hb;rw[hw1]at hw2;have h3:=HO.tup.inj (Ar_ hw2);have h4:=Ez_ h3;have h5:=Ez_ h4.2;show BD_ (V.int.inj h4.1) (V.int.inj h5.1)
  show kR_ I' u2 ha hb (d1:=.str (nm i)) (d2:=.tup [.int e.1,.int e.2]) (e1:=.str (nm j)) (e2:=.tup [.int f.1,.int f.2]) (b1:=decide (nm i=nm j)) (b2:=decide (e.1=f.1) && decide (e.2=f.2)) rfl rw1 rfl rw2 (by rw[deq];rfl) ?eq2 (by simp[dep]) (by simp[dep,deps]) (λh u v ru rv=>?_) (λh1 h2 u v ru rv=>?_) (λh1 h2=>?_)
  case eq2=>simp[deq,deqs];rfl
  .obtain⟨t,rfl⟩:=ru;obtain⟨t',rfl⟩:=rv;rw[if_neg (BK_ h)]at hC;show oneLt_str hC
  .have:=same (A6_ h1);subst this;simp at h2
  .rw[if_pos (A6_ h1)]at hC;show hC
end L2
namespace PySem
open Sem (wp)
theorem f6_:typeLookup (.type "list") "keys"=pure none:=am_miss_of_fast r_
theorem eC_{prog:Program}{w:World}{A:Around}{E:Value->Shared->Prop}{s:Shared}{a:Addr}{o:Obj}{xs:Array Value}{k:Nat}{name:Str}{Q:Option Value->Shared->Prop}
  (hx:s.heap.get? a=some o) (hc:o.cls=.type "list") (hdat:o.data=.seq xs k) (hd:o.dict=none) (hmiss:typeLookup (.type "list") name=pure none) (hname:(["__module__","__name__","__qualname__","__doc__","__annotations__"]:List Str).contains name=false) (hA:A.handled=none)
  (h:∀h' tk,(∀b ob,s.heap.get? b=some ob->h'.get? b=some ob)->Q none {s with heap:=h',toks:=tk}) (hsz:name.length+100<=sizeLine:=by size_fits):
  wpAny (model prog w) A (getAttr? (.ref a) name) Q E s:=by
 obtain⟨c,dct,dat,sl⟩:=o;simp only at hc hdat hd;subst hc hdat hd;obtain⟨hp,g,d,tk,os⟩:=s;have hT:∀tk',(⟨hp,g,d,tk',os⟩:Shared).TypeIs (.ref a) "list" := λ_=>⟨_,hx,rfl⟩;have f1:=sub_AttributeError;have f3:=F.slot_list_getattribute.lookup;have f4:=F.slot_list_getattribute.bind (.ref a);have f5:=am_list_getattr_none;unfold getAttr? getAttrBy? getAttrBy
 repeat (any_goals (first|assumption|show hT _|((with_reducible change wpAny _ _ (call (Value.builtin "list.__getattribute__") _ _) _ _ _);show CA_ F.slot_list_getattribute (hT _) am_entry_list_getattribute (F.args_list_getattribute_2 _ _) (meets_getattribute_miss_list a xs k sl name _ hmiss hname hsz) ⟨hx,hA,λh' tk' e hx'=>?_⟩)|wp_step))
 obtain⟨t',u',he⟩:=hx'.there;change wpAny _ _ (getattributeRaised _ _ _ _ _ _ _) _ _ _;unfold getattributeRaised
 repeat (any_goals (first|assumption|wp_step))
 show h _ _ hx'.keeps
namespace F
theorem rim_entry_dict_update_loop:entryFor table "dict.update.loop"=some Builtin.«dict.update.loop»:=entryFor_of_tree (by kernel_rfl)
theorem rim_plain_dict_update_loop:plainId "dict.update.loop"=true:=r_
end F
section
variable {prog:Program}{w:World}{K:Type}[DecidableEq K]{knd:KeyKind prog w K}{A:Around}{R:Result->Shared->Prop}
theorem dz_{d it p:Addr}{its:Array Value}{h0:Heap}(hh:A.handled=none)(hdi:d≠it)(hp:h0.IsList p its)(hpi:p≠it)(hpd:p≠d):
  ∀(ps:List (K×Value))(i:Nat)(j:Int)(D:List (K×Value))(s:Shared),its.size=i+ps.length->D.length+ps.length<=1000->s.heap.IsListIter it p i->s.heap.DictOf knd d D ->
   (∀b o,b≠it->b≠d->h0.get? b=some o->s.heap.get? b=some o) ->
   (∀m q,ps[m]?=some q->∃(a:Addr)(kv:Value)(o:Obj)(n:Nat),its[i+m]?=some (.ref a)/\a≠it/\a≠d/\h0.get? a=some o/\o.cls=.type "tuple" /\ o.data=.seq #[kv,q.2] n/\knd.is q.1 kv=true) ->
   (∀h' tk,(∀b o,b≠it->b≠d->h0.get? b=some o->h'.get? b=some o)->h'.DictOf knd d (merged D ps)->R (.ok (.ret .none)) {s with heap:=h',toks:=tk}) ->
   codeAny (model prog w) A (.builtin "dict.update.loop" ⟨[.ref d,.ref it,rawInt j,.none],[]⟩) R s
 |[],i,j,D,s,hz,hl,hi,hD,hk,hit,hR=>by
  obtain⟨op,hop,hpr⟩:=id hp;have hp':s.heap.IsList p its:=⟨op,hk p op hpi hpd hop,hpr⟩;show BF_ F.rim_entry_dict_update_loop ?_;rw[Bj_ F.rim_plain_dict_update_loop _];change wpAny _ A.in1 (pyNext (.ref it) >>= _) _ _ s;show Ac_ (CX_ hh hi hp' (CV_ (by simp at hz;lia)) λh' eb=>?_);change wpAny _ A.in1 (Builtin.Dict.addKeywords d [] >>= _) _ _ _;show Ac_ (Ah_ (Ah_ (hR h' s.toks (λb o h1 h2 e=>eb b o h1 (hk b o h1 h2 e)) (hD.extBut eb hdi))))
 |q::ps,i,j,D,s,hz,hl,hi,hD,hk,hit,hR=>by
  obtain⟨op,hop,hpr⟩:=id hp;have hp':s.heap.IsList p its:=⟨op,hk p op hpi hpd hop,hpr⟩;obtain⟨a,kv,o,n,e1,a1,a2,ho,hc,hd,kis⟩:=hit 0 q rfl;show BF_ F.rim_entry_dict_update_loop ?_;rw[Bj_ F.rim_plain_dict_update_loop _];change wpAny _ A.in1 (pyNext (.ref it) >>= _) _ _ s;show Ac_ (CS_ hi hp' e1 λh1 hi1 sb=>?_);have ho1:h1.get? a=some o:=(sb.2 a a1).trans (hk a o a1 a2 ho);have hT:({s with heap:=h1}:Shared).TypeIs (.ref a) "tuple" := ⟨_,ho1,hc⟩;change wpAny _ A.in1 (holding [Value.ref a] _ >>= _) _ _ _;show Ac_ (Be_ ?_);show Ac_ ?_;show Cy_ ?_;unfold Builtin.Dict.pairItems;show Ac_ (C9_ hT ?_);rw[if_pos d_];show Ac_ (Cc_ ho1 hd ?_);show Ah_ ?_;change wpAny _ A.in1 (holding [kv,q.2] (dictSet d kv q.2)) _ _ _;show Be_ ?_;have hD1:({s with heap:=h1}:Shared).heap.DictOf knd d D:=hD.sameBut sb hdi;show wpAny_dictSet_pairs kis hD1 (λh2 hD2 sb2=>?_) (by simp at hl;rw[BL_];lia);show Ah_ ⟨BA_ F.rim_plain_dict_update_loop _,?_⟩;have sl:=stored_length_le D q.1 q.2;show dz_ hh hdi hp hpi hpd ps (i+1) (j+1) (stored D q.1 q.2) {s with heap:=h2,toks:=s.toks+1} (by simp at hz;lia) (by simp at hl;lia) ?_ hD2 (λb o h1' h2' e=>?_) (λm r e=>?_) λh' tk k3 hD3=>?_
  .obtain⟨oi,hoi,hir⟩:=hi1;show⟨oi,(sb2.2 it (Ne.symm hdi)).trans hoi,hir⟩
  .show(sb2.2 b h2').trans ((sb.2 b h1').trans (hk b o h1' h2' e))
  .obtain⟨a',kv',o',n',z1,z2⟩:=hit (m+1) r e;show⟨a',kv',o',n',by rw[show i+1+m=i+(m+1) by lia];show z1,z2⟩
  .show hR h' tk k3 hD3
end
end PySem
namespace L2
open PySem PySem.Spec PyProof.Rows PySem.W
variable {X:Cx}{pins:List (Addr×Obj)}{σ:St}{H:Hp}{s:Shared}
theorem jp_(I:Inv X pins σ H s):∀{kvs:List (Key×V)}{ys:List V}{its:List Value},E8_ ys its->ys.length=kvs.length->(∀(i:Nat)(q:Key×V),kvs[i]?=some q->∃a,ys[i]?=some (.ref a)/\H a=some (.tup [kV q.1,q.2])) ->
  ∃ps:List (Key×Value),KV kvs ps/\ps.length=its.length/\∀(m:Nat)(q:Key×Value),ps[m]?=some q->∃(a:Addr)(kv:Value)(o:Obj)(n:Nat),its[m]?=some (.ref a)/\H a≠none/\s.heap.get? a=some o/\o.cls=.type "tuple" /\ o.data=.seq #[kv,q.2] n/\(EV_ X.prog X.w).is q.1 kv=true
 |[],[],_,.nil,_,_=>⟨[],.nil,rfl,λm q e=>by simp at e⟩
 |[],_::_,_,_,e,_=>nomatch e
 |_::_,[],_,_,e,_=>nomatch e
 |kv::kvs,y::ys,_,.cons r1 r2,e,h=>by
  obtain⟨ps,rel,hl,hp⟩:=jp_ I r2 (by simpa using e) λi q hq=>h (i+1) q hq;obtain⟨a,ea,ha⟩:=h 0 kv rfl;cases ea;cases r1;obtain⟨zs,rz,⟨ob,ho,hcl,n,hd⟩,_⟩:=I.tuple (.inl (.inl ha));obtain⟨u1,u2,rfl,ru1,ru2⟩:=Go_ rz;show⟨(kv.1,u2)::ps,.cons ⟨rfl,ru2⟩ rel,by simp[hl],λm q hq=>?_⟩;cases m with
  |zero =>
   cases hq;show⟨a,u1,ob,n,rfl,(by rw[ha];show Option.some_ne_none _),ho,hcl,hd,GU_ ru1⟩
  |succ m=>show hp m q hq
def HH_:List V->Hp->VK->Prop:=λvs H Q=>∃(p:Addr)(ys:List V)(kvs:List (Key×V)),vs=[.ref p]/\H p=some (.lst ys)/\ys.length=kvs.length/\kvs.length<=900/\(∀(i:Nat)(q:Key×V),kvs[i]?=some q->∃a,ys[i]?=some (.ref a)/\H a=some (.tup [kV q.1,q.2])) /\
 ∀l,H l=none->Q (.ref l) (upd H l (.dK (F4_ [] kvs)))
theorem hT_{K:Type}[DecidableEq K]:∀(ps D:List (K×Value)),(merged D ps).length<=D.length+ps.length
 |[],D=>Aj_ _
 |q::ps,D=>by have a:=hT_ ps (stored D q.1 q.2);have b:=stored_length_le D q.1 q.2;change(merged (stored D q.1 q.2) ps).length<=_;rw[A1_];lia
theorem gI_(hc:X.calm=true):FB_ X (.type "dict") HH_:=by
 intro pins s σ H xs us Q I r h;obtain⟨p,ys,kvs,rfl,hp,hl,hz,hk,q⟩:=h;obtain⟨u,rfl,e⟩:=FS_ r;cases e;obtain⟨_,its,c,rv,hop⟩:=(show Fg_ X.prog X.w H s.heap p (.lst ys)from I.hok p _ hp);obtain⟨ps,rel,pl,hit⟩:=jp_ I rv hl hk;have hh:=I.ok.hd hc;have hlt:∀{b:Addr}{o:Obj},s.heap.get? b=some o->b<s.heap.objs.size:=λe=>Av_ e;show callType_codes (Q₁:=λobj s₁=>obj=.ref s.heap.objs.size/\s₁={s with heap:=s.heap.push {cls:=.type "dict",data:=.dict #[]}}) F.kt_called_dict (F.kt_typeCall_dict_1 _) F.entry_dict_init (kt_code_dict_new _ ⟨rfl,rfl⟩) ?_;rintro obj s₁ ⟨rfl,rfl⟩;have hnew:(s.heap.push {cls:=.type "dict",data:=.dict #[]}).DictOf (EV_ X.prog X.w) s.heap.objs.size []:=Heap.DictOf.new s.heap;show⟨hnew.typeIs,F.args_dict_init_2 _ _,?_⟩;unfold Builtin.«dict.__init__»;show Ac_ ?_;unfold Builtin.Dict.selfAndRest;show Ac_ (C1_ hnew.typeIs ?_);change wpAny _ _ (pure (s.heap.objs.size,[Value.ref p])) _ _ _;show Ah_ ?_;change wpAny _ _ (Builtin.Dict.updateFrom "dict.__init__" s.heap.objs.size (.ref p) [] .none) _ _ _;unfold Builtin.Dict.updateFrom;have hop1:(s.heap.push {cls:=.type "dict",data:=.dict #[]}).get? p=some (seqObj "list" its.toArray c):=Al_ _ hop;have hT:({s with heap:=s.heap.push {cls:=.type "dict",data:=.dict #[]}}:Shared).TypeIs (.ref p) "list" := ⟨_,hop1,rfl⟩;show Ac_ (C9_ hT ?_);rw[if_pos d_];show Ac_ (eC_ hop1 rfl rfl rfl f6_ r_ hh λh1 tk k1=>?_);rw[if_pos Option.isNone_none];show Ac_ (DA_ ?_);have hop2:=k1 _ _ hop1;have dsz:s.heap.objs.size<h1.objs.size:=by obtain⟨od,_,_,hod,_⟩:=hnew;show Av_ (k1 _ _ hod)
 show Ac_ (CQ_ (items:=its.toArray) ⟨_,hop2,rfl,c,rfl⟩ ?_);show Ah_ ⟨BA_ F.rim_plain_dict_update_loop _,?_⟩;have below:∀{b:Addr}{o:Obj},s.heap.get? b=some o->b≠h1.objs.size/\b≠s.heap.objs.size:=λe=>⟨AL_ (Nat.lt_trans (hlt e) dsz),AL_ (hlt e)⟩;have rl:kvs.length=ps.length:=rel.length;show dz_ (A:=X.A.in1) (knd:=EV_ X.prog X.w) (its:=its.toArray) (h0:=s.heap) (p:=p) hh (AL_ dsz) ⟨_,hop,rfl,c,rfl⟩ (below hop).1 (below hop).2 ps 0 0 [] _ (by simp;lia) (by simp;lia) ?_ ?_ (λb o b1 b2 e=>?_) (λm q hq=>?_) λh' tk' k3 hD3=>?_
 .show⟨_,Az_ h1 rfl,rfl,rfl⟩
 .obtain⟨od,es,ep,hod,dr⟩:=hnew;show⟨od,es,ep,Al_ _ (k1 _ _ hod),dr⟩
 .show Al_ _ (k1 _ _ (Al_ _ e))
 .obtain⟨a,kv,o,n,e1,_,ho,z⟩:=hit m q hq;show⟨a,kv,o,n,by simpa using e1,(below ho).1,(below ho).2,ho,z⟩
 .have rm:KV (F4_ [] kvs) (merged [] ps):=KV.merge rel .nil;have ml:=hT_ ps [];have mz:(F4_ [] kvs).length<=sizeLine:=by rw[show(F4_ [] kvs).length=(merged [] ps).length from rm.length];show AV_ (EN_ (by simp at ml;lia))
  show⟨rfl,.ref _,_,I.laid (a:=s.heap.objs.size) (o:=.dK (F4_ [] kvs)) (t':=tk') (λb o e=>k3 b o (below e).1 (below e).2 e) (Aj_ _) (kH_ mz (Cf_.mpr (Ne.symm (AL_ I.big))) rm hD3),rfl,q _ (I.hok.fresh (Aj_ _))⟩
abbrev TK(P:Program)(w:World):=tupleKind (EV_ P w)
def Ju_(P:Program)(w:World)(h:Heap)(d:Addr)(xs:List (List Key×Addr×Value)):Prop :=
 ∃o es ep,h.get? d=some o/\o.ExactDict/\o.data=.dict es ep/\es.toList=xs.map (entryOfKey (TK P w))/\(xs.map (·.1)).Nodup
def GR_(D ps:List (List Key×Addr×Value)):List (List Key×Addr×Value):=ps.foldl (λacc q=>storedH acc q.1 q.2.1 q.2.2) D
theorem iK_{D:List (List Key×Addr×Value)}{k:List Key}{b:Addr}{v:Value}{x:List Key×Addr×Value}(h:x∈storedH D k b v):(∃y∈D,y.1=x.1/\y.2.1=x.2.1)\/(x.1=k/\x.2.1=b):=by
 cases e:atKey D k with
 |none =>
  rw[storedH_new e]at h
  rcases Ap_.mp h with h|h
  .show .inl ⟨x,h,rfl,rfl⟩
  .rw[Ak_.mp h];show .inr ⟨rfl,rfl⟩
 |some p =>rw[storedH_old e]at h;obtain⟨y,hy,rfl⟩:=An_.mp h;show .inl ⟨y,hy,?_⟩;unfold putAt;split <;> show⟨rfl,rfl⟩
theorem jM_(D:List (List Key×Addr×Value))(k:List Key)(b:Addr)(v:Value):(storedH D k b v).length<=D.length+1:=by
 cases e:atKey D k with
 |none=>rw[storedH_new e,Af_];show Aj_ _
 |some p=>rw[storedH_old e,Ab_];show CT_ _
variable {prog:Program}{w:World}{A:Around}{R:Result->Shared->Prop}
theorem jq_{h h':Heap}{k:List Key}{b:Addr}(e:(TK prog w).is h k b)(m:∀o,h.get? b=some o->h'.get? b=some o):(TK prog w).is h' k b:=by obtain⟨o,its,n,h1,h2⟩:=e;show⟨o,its,n,m _ h1,h2⟩
theorem dn_{d it p:Addr}{its:Array Value}{h0:Heap}(hu:A.units+1<cLine)(hh:A.handled=none)(hdi:d≠it)(hp:h0.IsList p its)(hpi:p≠it)(hpd:p≠d):
  ∀(ps:List (List Key×Addr×Value))(i:Nat)(j:Int)(D:List (List Key×Addr×Value))(s:Shared),its.size=i+ps.length->D.length+ps.length<=1000->s.heap.IsListIter it p i->Ju_ prog w s.heap d D ->
   (∀x∈D,x.2.1≠it/\x.2.1≠d/\(TK prog w).is h0 x.1 x.2.1) ->
   (∀b o,b≠it->b≠d->h0.get? b=some o->s.heap.get? b=some o) ->
   (∀m q,ps[m]?=some q->∃(a:Addr)(o:Obj)(n:Nat),its[i+m]?=some (.ref a)/\a≠it/\a≠d/\h0.get? a=some o/\o.cls=.type "tuple" /\ o.data=.seq #[.ref q.2.1,q.2.2] n/\q.2.1≠it/\q.2.1≠d/\(TK prog w).is h0 q.1 q.2.1) ->
   (∀h' tk,(∀b o,b≠it->b≠d->h0.get? b=some o->h'.get? b=some o)->Ju_ prog w h' d (GR_ D ps)->R (.ok (.ret .none)) {s with heap:=h',toks:=tk}) ->
   codeAny (model prog w) A (.builtin "dict.update.loop" ⟨[.ref d,.ref it,rawInt j,.none],[]⟩) R s
 |[],i,j,D,s,hz,hl,hi,hD,hDk,hk,hit,hR=>by
  obtain⟨op,hop,hpr⟩:=id hp;have hp':s.heap.IsList p its:=⟨op,hk p op hpi hpd hop,hpr⟩;show BF_ F.rim_entry_dict_update_loop ?_;rw[Bj_ F.rim_plain_dict_update_loop _];change wpAny _ A.in1 (pyNext (.ref it) >>= _) _ _ s;show Ac_ (CX_ hh hi hp' (CV_ (by simp at hz;lia)) λh' eb=>?_);change wpAny _ A.in1 (Builtin.Dict.addKeywords d [] >>= _) _ _ _;obtain⟨od,es,ep,g1,g2⟩:=hD;show Ac_ (Ah_ (Ah_ (hR h' s.toks (λb o h1 h2 e=>eb b o h1 (hk b o h1 h2 e)) ⟨od,es,ep,eb d od hdi g1,g2⟩)))
 |q::ps,i,j,D,s,hz,hl,hi,hD,hDk,hk,hit,hR=>by
  obtain⟨op,hop,hpr⟩:=id hp;have hp':s.heap.IsList p its:=⟨op,hk p op hpi hpd hop,hpr⟩;obtain⟨a,o,n,e1,a1,a2,ho,hc,hd,b1,b2,kis⟩:=hit 0 q rfl;show BF_ F.rim_entry_dict_update_loop ?_;rw[Bj_ F.rim_plain_dict_update_loop _];change wpAny _ A.in1 (pyNext (.ref it) >>= _) _ _ s;show Ac_ (CS_ hi hp' e1 λh1 hi1 sb=>?_);have ho1:h1.get? a=some o:=(sb.2 a a1).trans (hk a o a1 a2 ho);have hT:({s with heap:=h1}:Shared).TypeIs (.ref a) "tuple" := ⟨_,ho1,hc⟩;change wpAny _ A.in1 (holding [Value.ref a] _ >>= _) _ _ _;show Ac_ (Be_ ?_);show Ac_ ?_;show Cy_ ?_;unfold Builtin.Dict.pairItems;show Ac_ (C9_ hT ?_);rw[if_pos d_];show Ac_ (Cc_ ho1 hd ?_);show Ah_ ?_;change wpAny _ A.in1 (holding [Value.ref q.2.1,q.2.2] (dictSet d (.ref q.2.1) q.2.2)) _ _ _;show Be_ ?_;have mv:∀b,b≠it->b≠d->∀o,h0.get? b=some o->h1.get? b=some o:=λb h1' h2' o e=>(sb.2 b h1').trans (hk b o h1' h2' e);have hD1:({s with heap:=h1}:Shared).heap.DictOfH (TK prog w) d D:=by obtain⟨od,es,ep,g1,g2,g3,g4,g5⟩:=hD;show⟨od,es,ep,(sb.2 d hdi).trans g1,g2,g3,g4,λx hx=>jq_ (hDk x hx).2.2 (mv _ (hDk x hx).1 (hDk x hx).2.1),g5⟩
  show wpAny_dictSet_heap (knd:=TK prog w) (show A.in1.units<cLine from hu) (jq_ kis (mv _ b1 b2)) hD1 (λh2 hD2 sb2=>?_) (by simp at hl;rw[BL_];lia);show Ah_ ⟨BA_ F.rim_plain_dict_update_loop _,?_⟩;have sl:=jM_ D q.1 q.2.1 q.2.2;show dn_ hu hh hdi hp hpi hpd ps (i+1) (j+1) (storedH D q.1 q.2.1 q.2.2) {s with heap:=h2,toks:=s.toks+(TK prog w).draws q.1} (by simp at hz;lia) (by simp at hl;lia) ?_ ?_ (λx hx=>?_) (λb o h1' h2' e=>?_) (λm r e=>?_) λh' tk k3 hD3=>?_
  .obtain⟨oi,hoi,hir⟩:=hi1;show⟨oi,(sb2.2 it (Ne.symm hdi)).trans hoi,hir⟩
  .obtain⟨od,es,ep,g1,g2,g3,g4,_,g5⟩:=hD2;show⟨od,es,ep,g1,g2,g3,g4,g5⟩
  .rcases iK_ hx with⟨y,hy,y1,y2⟩|⟨y1,y2⟩
   .rw[<-y1,<-y2];show hDk y hy
   .rw[y1,y2];show⟨b1,b2,kis⟩
  .show(sb2.2 b h2').trans (mv b h1' h2' o e)
  .obtain⟨a',o',n',z1,z2⟩:=hit (m+1) r e;show⟨a',o',n',by rw[show i+1+m=i+(m+1) by lia];show z1,z2⟩
  .show hR h' tk k3 hD3
def Fp_(kvs more:List (List Key×V)):List (List Key×V):=more.foldl (λacc kv=>Fn_ acc kv.1 kv.2) kvs
theorem KT.merge:∀{more:List (List Key×V)}{rs:List (List Key×Addr×Value)}{kvs:List (List Key×V)}{xs:List (List Key×Addr×Value)},KT H more rs->KT H kvs xs->KT H (Fp_ kvs more) (GR_ xs rs):=by
 intro more rs kvs xs r;unfold KT at r
 induction r generalizing kvs xs with
 |nil=>intro q;show q
 | @cons p q ps qs h t ih =>intro r0;have e:=KT.put r0 p.1 h.2.1 h.2.2;show ih (kvs:=Fn_ kvs p.1 p.2) (xs:=storedH xs q.1 q.2.1 q.2.2) ?_;rw[<-h.1];show e
theorem hU_:∀(more kvs:List (List Key×V)),(Fp_ kvs more).length<=kvs.length+more.length
 |[],kvs=>Aj_ _
 |p::r,kvs=>by have h1:=hU_ r (Fn_ kvs p.1 p.2);have h2:=aL_ kvs p.1 p.2;change(Fp_ (Fn_ kvs p.1 p.2) r).length<=_;rw[A1_];lia
theorem hV_(I:Inv X pins σ H s):∀{kvs:List (List Key×V)}{ys:List V}{its:List Value},E8_ ys its->ys.length=kvs.length->(∀(i:Nat)(q:List Key×V),kvs[i]?=some q->∃a b,ys[i]?=some (.ref a)/\H a=some (.tup [.ref b,q.2])/\H b=some (.tup (q.1.map kV))) ->
  ∃ps:List (List Key×Addr×Value),KT H kvs ps/\ps.length=its.length/\∀(m:Nat)(q:List Key×Addr×Value),ps[m]?=some q->∃(a:Addr)(o:Obj)(n:Nat),its[m]?=some (.ref a)/\s.heap.get? a=some o/\o.cls=.type "tuple" /\ o.data=.seq #[.ref q.2.1,q.2.2] n/\(TK X.prog X.w).is s.heap q.1 q.2.1
 |[],[],_,.nil,_,_=>⟨[],.nil,rfl,λm q e=>by simp at e⟩
 |[],_::_,_,_,e,_=>nomatch e
 |_::_,[],_,_,e,_=>nomatch e
 |kv::kvs,y::ys,_,.cons r1 r2,e,h=>by
  obtain⟨ps,rel,hl,hp⟩:=hV_ I r2 (by simpa using e) λi q hq=>h (i+1) q hq;obtain⟨a,b,ea,ha,hb⟩:=h 0 kv rfl;cases ea;cases r1;obtain⟨zs,rz,⟨ob,ho,hcl,n,hd⟩,_⟩:=I.tuple (.inl (.inl ha));obtain⟨u1,u2,rfl,ru1,ru2⟩:=Go_ rz;cases ru1;show⟨(kv.1,b,u2)::ps,.cons ⟨rfl,hb,ru2⟩ rel,by simp[hl],λm q hq=>?_⟩;cases m with
  |zero =>
   cases hq;show⟨a,ob,n,rfl,ho,hcl,hd,f2_ I.hok hb⟩
  |succ m=>show hp m q hq
def HA_(H:Hp)(p:Addr)(kvs:List (List Key×V)):Prop:=∃ys,H p=some (.lst ys)/\ys.length=kvs.length/\∀(i:Nat)(q:List Key×V),kvs[i]?=some q->∃a b,ys[i]?=some (.ref a)/\H a=some (.tup [.ref b,q.2])/\H b=some (.tup (q.1.map kV))
def IF_:V->List V->Hp->VK->Prop:=λx vs H Q=>∃(a p:Addr)(kvs0 kvs:List (List Key×V)),x=.ref a/\vs=[.ref p]/\H a=some (.dT kvs0)/\HA_ H p kvs/\kvs0.length+kvs.length<=900/\Q .non (upd H a (.dT (Fp_ kvs0 kvs)))
theorem gJ_(hu:X.A.units+64<cLine)(hc:X.calm=true):MtR X "dict.update" IF_:=by
 intro pins s σ H x xs v us Q I rx r h;obtain⟨a,p,kvs0,kvs,rfl,rfl,ha,⟨ys,hp,hl,hk⟩,hz,q⟩:=h;cases rx;obtain⟨u,rfl,e⟩:=FS_ r;cases e;obtain⟨_,its,c,rv,hop⟩:=(show Fg_ X.prog X.w H s.heap p (.lst ys)from I.hok p _ hp);obtain⟨ps,rel,pl,hit⟩:=hV_ I rv hl hk;obtain⟨z0,hsys,xs0,rel0,dd⟩:=I0_ I.hok ha;have hh:=I.ok.hd hc;have hlt:∀{b:Addr}{o:Obj},s.heap.get? b=some o->b<s.heap.objs.size:=λe=>Av_ e;have hTn:s.TypeIs (.ref a) "dict" := Heap.DictOfH.typeIs dd;have apne:∀b ys,H b=some (.tup ys)->b≠a:=λb ys e z=>by rw[z,ha]at e;cases e
 have ppa:p≠a:=λz=>by rw[z,ha]at hp;cases hp
 show wpAny_call (codeAny_call_builtin F.slot_dict_update.plain F.entry_dict_update (F.slot_dict_update.check _ _ _ _ _ _ _ _ hTn (F.args_dict_update_2 _ _) ?_));unfold Builtin.«dict.update»;show Ac_ ?_;unfold Builtin.Dict.selfAndRest;show Ac_ (C1_ hTn ?_);change wpAny _ _ (pure (a,[Value.ref p])) _ _ _;show Ah_ ?_;change wpAny _ _ (Builtin.Dict.updateFrom "dict.update" a (.ref p) [] .none) _ _ _;unfold Builtin.Dict.updateFrom;have hT:s.TypeIs (.ref p) "list" := ⟨_,hop,rfl⟩;show Ac_ (C9_ hT ?_);rw[if_pos d_];show Ac_ (eC_ hop rfl rfl rfl f6_ r_ hh λh1 tk k1=>?_);rw[if_pos Option.isNone_none];show Ac_ (DA_ ?_);have hop2:=k1 _ _ hop;show Ac_ (CQ_ (items:=its.toArray) ⟨_,hop2,rfl,c,rfl⟩ ?_);show Ah_ ⟨BA_ F.rim_plain_dict_update_loop _,?_⟩;have below:∀{b:Addr}{o:Obj},s.heap.get? b=some o->b≠h1.objs.size:=λe=>AL_ (Av_ (k1 _ _ e));have rl:kvs.length=ps.length:=Br_ rel;have rl0:kvs0.length=xs0.length:=Br_ rel0;obtain⟨od,es,ep,hod,g2,g3,g4,g6,g5⟩:=id dd;have nseq:∀{k:List Key}{b:Addr},(TK X.prog X.w).is s.heap k b->b≠a:=λ{k b} e z=>by obtain⟨ob,its',n,g,_,dat,_⟩:=e;rw[z,hod]at g;cases g;rw[g3]at dat;cases dat
 show dn_ (A:=X.A) (its:=its.toArray) (h0:=s.heap) (p:=p) (show X.A.units+1<cLine by lia) hh (below hod) ⟨_,hop,rfl,c,rfl⟩ (below hop) ppa ps 0 0 xs0 _ (by simp;lia) o_ ?_ ?_ (λx hx=>?_) (λb o b1 b2 e=>?_) (λm q hq=>?_) λh' tk' k3 hD3=>?_
 .show⟨_,Az_ h1 rfl,rfl,rfl⟩
 .show⟨od,es,ep,Al_ _ (k1 _ _ hod),g2,g3,g4,g5⟩
 .have kx:=g6 x hx;obtain⟨ob,_,_,g,_⟩:=id kx;show⟨below g,nseq kx,kx⟩
 .show Al_ _ (k1 _ _ e)
 .obtain⟨a',o,n,e1,ho,z1,z2,z3⟩:=hit m q hq;obtain⟨ob,_,_,g,_⟩:=id z3;show⟨a',o,n,by simpa using e1,below ho,(λz=>by rw[z,hod]at ho;cases ho;rw[g3]at z2;cases z2),ho,z1,z2,below g,nseq z3,z3⟩
 .have ml:=hU_ kvs kvs0;have mz:(Fp_ kvs0 kvs).length<=sizeLine:=AV_ (EN_ o_);obtain⟨od',es',ep',f1,f2,f3,f4,f5⟩:=hD3;show⟨.non,_,I.write (x:=a) (e:=a) (o:=.dT (Fp_ kvs0 kvs)) (t':=tk') (by rw[ha];show True.intro) (.inl rfl) (λb o hb e=>k3 b o (below e) hb e) ⟨od',f1⟩ ⟨mz,hsys,GR_ xs0 ps,(KT.merge rel rel0).keeps λb ys e=>?_,od',es',ep',f1,f2,f3,f4,f5⟩,rfl,q⟩;rw[ae_ (apne b ys e)];show e
def GT_:V->List V->Hp->VK->Prop:=λx vs H Q=>∃(l:Addr)(xs:List V)(ds:List Dt)(v:V)(d:Dt)(bs:Nat->Bool)(j:Nat),x=.ref l/\vs=[v]/\H l=some (.lst xs)/\Fk_ H xs ds/\Rep H v d/\xs.length<=1000/\(∀y∈xs,∃q,y=.ref q) /\
 (∀m dm,ds[m]?=some dm->deq dm d=some (bs m)/\dep dm<=60)/\j<ds.length/\bs j=true/\(∀m,m<j->bs m=false)/\Q (.int j) H
theorem k1_(hu:X.A.units+64<cLine):MtM X "list.index" GT_:=by
 intro pins s σ H x vs v us Q I rx rv h;obtain⟨l,xs,ds,v0,d,bs,j,rfl,rfl,hH,hr,hv,hz,refs,hd,jl,hj,hno,q⟩:=h;cases rx;obtain⟨u,rfl,ru⟩:=rv.one;obtain⟨z,its,n,r,hl,e⟩:=I.lstM hH;have xl:xs.length=ds.length:=hr.length;have ji:j<its.toArray.size:=by rw[At_];lia
 have at_:∀m (hm:m<its.length),∃a dm,its[m]=.ref a/\xs[m]?=some (.ref a)/\ds[m]?=some dm/\Rep H (.ref a) dm:=λm hm=>by have hx:xs[m]?=some (xs[m]'o_):=Aa_ _;obtain⟨a,ea⟩:=refs (xs[m]'o_) (Bn_ _);obtain⟨w',hw,rw'⟩:=r.get hx;rw[Aa_ hm]at hw;obtain⟨dm,hdm,rep⟩:=hr.of_get hx;rw[ea]at rw' rep hx;cases rw';show⟨a,dm,Ar_ hw,hx,hdm,rep⟩
 let f:Value->Bool:=λy=>its.zipIdx.any λp=>decide (p.1=y) && bs p.2
 have f_at:∀m (hm:m<its.length),f its[m]=bs m:=λm hm=>by
  obtain⟨a,dm,e1,e2,e3,e4⟩:=at_ m hm;rw[Ci_];change(its.zipIdx.any _)=true↔_;rw[Ce_];constructor
  .rintro⟨⟨y,i⟩,hy,hb⟩;rw[Cd_]at hb;have ey:y=its[m]:=A6_ hb.1;have hi:=Di_.mp hy;obtain⟨hi1,hi2⟩:=Ad_.mp hi;obtain⟨a',dm',g1,g2,g3,g4⟩:=at_ i hi1
   have ea:a'=a:=by
    have:Value.ref a'=Value.ref a:=by rw[<-g1,<-e1,<-ey];show hi2
    injection this
   subst ea;have:=Rep.inj _ _ e4 g4;subst this;have h1:=(hd m dm e3).1;have h2:=(hd i dm g3).1;rw[h1]at h2;rw[Ar_ h2];show hb.2
  .intro hb;show⟨(its[m],m),Di_.mpr (Aa_ hm),by rw[A3_ rfl,Bool.true_and];show hb⟩
 show CA_ F.slot_list_index ⟨_,e,rfl⟩ F.entry_list_index (F.args_list_index_2 _ _)
  (SeqAt.list_indexAt l its.toArray n none #[] u f j ji o_ (by rw[Es_,f_at j o_];show hj) λm hm hlt=>by rw[Es_,f_at m (by rw[At_]at hm;show hm)];show hno m hlt) ⟨e,λy hy=>?_,?_⟩
 .have hy':y∈its:=by simpa using hy
  obtain⟨m,hm,rfl⟩:=Ax_.mp hy';obtain⟨a,dm,e1,e2,e3,e4⟩:=at_ m hm;rw[f_at m hm];show ja_ I Vw.refl dm d e4 hv (by rw[e1];rfl) ru (hd m dm e3).1 ?_;have:=(hd m dm e3).2;simp only[Around.in1_units];lia
 show⟨.int j,H,I.tok _,⟨_,rfl⟩,q⟩
def sLt(a b:Str):Bool:=decide (a.cps.toList<b.cps.toList)
section
variable {E:Value->Shared->Prop}{l:Addr}{a b:Str}{t u:Tok}{Q:Value->Shared->Prop}
theorem n4_{I:Addr}{h h':Heap}{o':Obj}(e1:I=h.objs.size)(hk:∀b o,b∉[I]->(h.push o').get? b=some o->h'.get? b=some o):∀b o,h.get? b=some o->h'.get? b=some o:=λb o e=>by show hk b o (λhm=>?_) (Al_ _ e);have:=Ak_.mp hm;rw[this,e1]at e;show absurd (Av_ e) (Bc_ _)
end
open HT
def FQ_:List Str->List Str->Bool
 |[],[]=>false
 |[],_::_=>true
 |_::_,[]=>false
 |x::xs,y::ys=>if x=y then FQ_ xs ys else sLt x y
theorem eD_(x y:Str)(xs ys:List Str):FQ_ (x::xs) (y::ys)=if x=y then FQ_ xs ys else sLt x y:=rfl
theorem hW_:FQ_ [] []=false:=rfl
theorem hd_(y:Str)(ys:List Str):FQ_ [] (y::ys)=true:=rfl
theorem he_(x:Str)(xs:List Str):FQ_ (x::xs) []=false:=rfl
theorem k2_(A:Around)(s:Shared)(a:Str)(t:Tok)(c:Str)(u:Tok):∃e,SeqAt.EqAt A s (.str a t) (.str c u) e/\(e=true↔a=c):=⟨(a == c),Do_ a t c u,s_⟩
theorem k3_(A:Around)(s:Shared)(a:Str)(t:Tok)(c:Str)(u:Tok)(prog:Program)(w:World)(E:Value->Shared->Prop)(Q:Value->Shared->Prop)(h:Q (.bool (sLt a c)) s):wpAny (model prog w) A (richCompare .Lt (.str a t) (.str c u)) Q E s :=
 richCompare_gives (op:=.Lt) (Ep_ s _ t) (Ep_ s _ u) PySem.F.slot_str_lt PySem.F.entry_str_lt (PySem.F.args_str_lt_2 _ _) (gives_str_lt _ _ t u) (λx=>nomatch x) h
open PySem.SeqAt
open PySem.AutoSeq1 (wpAny_loadPart')
open PySem.MeetsSeq PySem.MeetsSeq2 PySem.MeetsSeq3
theorem l5_(l b:Addr)(its us:Array Value)(n n2:Nat)(dd dd2:Option Addr)(sl sl2:Array (Option Value))(ns ms:List Str)(hi:StrsAre its.toList ns)(hj:StrsAre us.toList ms)(k:Nat):
  ∀i:Nat,its.size-i=k->i<=its.size->i<=us.size->Meets (Builtin.«list.__eq__.loop» ⟨[.ref l,.ref b,rawInt i,rawInt 0],[]⟩)
   (λ_ R s=>s.heap.get? l=some {cls:=.type "list",dict:=dd,data:=.seq its n,slots:=sl}/\s.heap.get? b=some {cls:=.type "list",dict:=dd2,data:=.seq us n2,slots:=sl2} /\
    R (.ok (.ret (.bool (FQ_ (ns.drop i) (ms.drop i))))) s):=by
 have z1:its.size=ns.length:=by rw[<-hi.length];simp
 have z2:us.size=ms.length:=by rw[<-hj.length];simp
 induction k with
 |zero =>
  intro i hk h1 h2 prog w A R s h;obtain⟨hp,g,d,tk,os⟩:=s;obtain⟨hl,hb,h⟩:=h
  wp_walk using Bk_ hl,Bk_ hb
  have e1:its[((i:Nat):Int).toNat]?=none:=by simp;lia
  have e3:FQ_ (ns.drop i) (ms.drop i)=decide (its.size<us.size):=by
   rw[Ed_ (show ns.length<=i by lia)];cases e:ms.drop i with
   |nil =>
    have:=List.drop_eq_nil_iff.mp e;rw[hW_];show(AE_ o_).symm
   |cons c cs =>
    have:(ms.drop i).length=cs.length+1:=by rw[e];rfl
    rw[By_]at this;rw[hd_];show(A3_ o_).symm
  rw[e3]at h;rw[e1]
  wp_walk using Bk_ hl,Bk_ hb
  show h
 |succ k ih =>
  intro i hk h1 h2 prog w A R s h;obtain⟨hp,g,d,tk,os⟩:=s;obtain⟨hl,hb,h⟩:=h
  wp_walk using Bk_ hl,Bk_ hb
  have lt1:i<its.size:=o_
  have e1:its[((i:Nat):Int).toNat]?=some its[i]:=by simp[lt1]
  rw[e1];by_cases lt2:i<us.size
  .have e2:us[((i:Nat):Int).toNat]?=some us[i]:=by simp[lt2]
   have l1:i<ns.length:=o_
   have l2:i<ms.length:=o_
   obtain⟨t,ht⟩:=hi.get i ns[i] (Aa_ l1);obtain⟨u,hu⟩:=hj.get i ms[i] (Aa_ l2);have f1:its[i]=.str ns[i] t:=by rw[Aa_ (by simpa using lt1)]at ht;show Ar_ ht
   have f2:us[i]=.str ms[i] u:=by rw[Aa_ (by simpa using lt2)]at hu;show Ar_ hu
   rw[f1]at e1;rw[f2]at e2;rw[f1,e2];rw[B8_ l1,B8_ l2,eD_]at h;have hc:((i:Int)+1)=((i+1:Nat):Int):=o_
   obtain⟨e,he,hiff⟩:=k2_ A.in1 ⟨hp,g,d,tk,os⟩ ns[i] t ms[i] u;show Ac_ (he prog w _ _ ?_);cases e with
   |true =>
    rw[if_pos (hiff.mp rfl)]at h
    wp_walk
    rw[hc];have go:=ih (i+1) o_ o_ o_ prog w A R _ ⟨hl,hb,h⟩;show⟨BA_ plain_eq_loop _,BF_ entry_eq_loop (by rw[Bj_ plain_eq_loop _];show go)⟩
   |false =>
    rw[if_neg λq=>absurd (hiff.mpr q) AF_]at h;have hri:=k3_ A.in1 ⟨hp,g,d,tk,os⟩ ns[i] t ms[i] u prog w
    wp_walk using Bk_ hl,Bk_ hb
    rw[e1,e2]
    wp_walk using hri
    show h
  .have e2:us[((i:Nat):Int).toNat]?=none:=by simp;lia
   rw[e2]
   wp_walk using Bk_ hl,Bk_ hb
   have e4:FQ_ (ns.drop i) (ms.drop i)=decide (its.size<us.size):=by rw[Ed_ (show ms.length<=i by lia),B8_ (show i<ns.length by lia),he_];show(AE_ o_).symm
   rw[e4]at h;show h
theorem jr_(l b:Addr)(its us:Array Value)(n n2:Nat)(dd dd2:Option Addr)(sl sl2:Array (Option Value))(ns ms:List Str)(hi:StrsAre its.toList ns)(hj:StrsAre us.toList ms):
  Meets (Builtin.«list.__lt__» ⟨[.ref l,.ref b],[]⟩)
   (λ_ R s=>s.heap.get? l=some {cls:=.type "list",dict:=dd,data:=.seq its n,slots:=sl}/\s.heap.get? b=some {cls:=.type "list",dict:=dd2,data:=.seq us n2,slots:=sl2} /\
    R (.ok (.ret (.bool (FQ_ ns ms)))) s):=by
 intro prog w A R s h;obtain⟨hp,g,d,tk,os⟩:=s;obtain⟨hl,hb,h⟩:=h;have f3:=AutoSeq1.sub_list_list
 wp_walk using Bk_ hl,Bk_ hb
 have go:=l5_ l b its us n n2 dd dd2 sl sl2 ns ms hi hj _ 0 rfl (AB_ _) (AB_ _) prog w A R _ ⟨hl,hb,h⟩;show⟨BA_ plain_eq_loop _,BF_ entry_eq_loop (by rw[Bj_ plain_eq_loop _];show go)⟩
variable {E:Value->Shared->Prop}
theorem f7_{l b:Addr}{its us:Array Value}{ns ms:List Str}{Q:Value->Shared->Prop}(hl:s.heap.IsList l its)(hb:s.heap.IsList b us)(hi:StrsAre its.toList ns)(hj:StrsAre us.toList ms)
  (hu:A.units<cLine) (h:Q (.bool (FQ_ ns ms)) s):wpAny (model prog w) A (compareOp .Lt (.ref l) (.ref b)) Q E s:=by
 obtain⟨⟨c1,dd,da,sl⟩,ho,hc,n,hd⟩:=id hl;obtain⟨⟨c2,dd2,da2,sl2⟩,ho2,hc2,n2,hd2⟩:=id hb;simp only at hc hd hc2 hd2;subst hc hd hc2 hd2
 show richCompare_meets_room (op:=.Lt) ⟨_,ho,rfl⟩ ⟨_,ho2,rfl⟩ Db_ Em_ (Ee_ _ _) (jr_ l b its us n n2 dd dd2 sl sl2 ns ms hi hj)
  ⟨ho,ho2,show Value.bool (FQ_ ns ms)≠Value.notImplemented/\Q (.bool (FQ_ ns ms)) s from⟨(λx=>nomatch x),h⟩⟩ hu
theorem hX_{l b:Addr}{its us:Array Value}{ns ms:List Str}{Q:Bool->Shared->Prop}(one:Bool)(hl:s.heap.IsList l its)(hb:s.heap.IsList b us)(hi:StrsAre its.toList ns)(hj:StrsAre us.toList ms)
  (hu:A.units<cLine) (h:Q (FQ_ ns ms) s):wpAny (model prog w) A (oneLt' one (.ref l) (.ref b)) Q E s:=by
 cases one with
 |false=>show kat_one _ _ (f7_ hl hb hi hj hu h)
 |true =>rw[oneLt'_eq];simp only[if_true];show Ac_ (wpAny_cRoomFor hu ?_);obtain⟨⟨c1,dd,da,sl⟩,ho,hc,n,hd⟩:=id hl;obtain⟨⟨c2,dd2,da2,sl2⟩,ho2,hc2,n2,hd2⟩:=id hb;simp only at hc hd hc2 hd2;subst hc hd hc2 hd2;show Ac_ (wpAny_callSpecialIfBound?_slot ⟨_,ho,rfl⟩ Db_ (CA_ Db_ ⟨_,ho,rfl⟩ Em_ (Ee_ _ _) (jr_ l b its us n n2 dd dd2 sl sl2 ns ms hi hj) ⟨ho,ho2,?_⟩));show Bh_ h
end L2
namespace RimT
def Rt{α:Type}(a b:List α):Prop:=∃x y,a=x++y/\b=y++x
theorem Rt.symm{α:Type}{a b:List α}(h:Rt a b):Rt b a:=let⟨x,y,h1,h2⟩:=h;⟨y,x,h2,h1⟩
theorem Rt.refl{α:Type}(a:List α):Rt a a:=⟨[],a,rfl,s_⟩
theorem Rt.trans{α:Type}{a b c:List α}(h:Rt a b)(k:Rt b c):Rt a c:=by
 obtain⟨x,y,rfl,rfl⟩:=h;obtain⟨z,w,h1,rfl⟩:=k
 rcases List.append_eq_append_iff.mp h1 with⟨t,rfl,rfl⟩|⟨t,rfl,rfl⟩
 .show⟨t,w++y,s_,s_⟩
 .show⟨x++z,t,s_,s_⟩
theorem Rt.rev{α:Type}{a b:List α}(h:Rt a b):Rt a.reverse b.reverse:=by obtain⟨x,y,rfl,rfl⟩:=h;show⟨y.reverse,x.reverse,s_,s_⟩
def Rd{α:Type}(a b:List α):Prop:=Rt a b\/Rt a.reverse b
theorem Rd.symm{α:Type}{a b:List α}(h:Rd a b):Rd b a:=by
 rcases h with h|h
 .show .inl h.symm
 .have:=h.symm.rev;rw[Et_]at this;show .inr this
theorem Rd.trans{α:Type}{a b c:List α}(h:Rd a b)(k:Rd b c):Rd a c:=by
 rcases h with h|h <;> rcases k with k|k
 .show .inl (h.trans k)
 .show .inr (h.rev.trans k)
 .show .inr (h.trans k)
 .have:=h.rev.trans k;rw[Et_]at this;show .inl this
section
variable {α:Type}[DecidableEq α]{T:List (List α)}{P:Nat}
theorem nf_{G:Sd->Sd->Prop}{a:Sd}{l:List Sd}(h:Pa G (a::l)):Pa G l:=λi x y hx hy=>h (i+1) x y hx hy
theorem ng_{G:Sd->Sd->Prop}{l:List Sd}{x b:Sd}(h:Pa G l)(hx:l.getLast?=some x)(g:G x b):Pa G (l++[b]):=λi a c ha hc=>by
 have hl:i+1<(l++[b]).length:=(Ad_.mp hc).1;rw[Af_,A9_]at hl;rw[Ao_ o_]at ha;by_cases c1:i+1<l.length
 .rw[Ao_ c1]at hc;show h i a c ha hc
 .rw[Ay_ o_,show i+1-l.length=0 by lia]at hc;cases hc;rw[Bw_,show l.length-1=i by lia,ha]at hx;cases hx;show g
end
end RimT
namespace L2
open PySem PySem.Spec PyProof.Rows PySem.W
theorem f8_{a b:Str}:sLt a b=false↔sLe b a:=⟨λh=>BK_ h,λh=>AE_ h⟩
theorem k4_:∀{a b:List Str},FQ_ a b=true->FQ_ b a=false
 |[],[],_=>rfl
 |[],_::_,_=>rfl
 |_::_,[],h=>by cases h
 |x::xs,y::ys,h=>by
  rw[eD_]at h⊢;by_cases e:x=y
  .rw[if_pos e]at h;rw[if_pos e.symm];show k4_ h
  .rw[if_neg e]at h;rw[if_neg λz=>e z.symm];show AE_ (List.lt_asymm (A6_ h))
theorem k5_:∀{a b:List Str},FQ_ a b=false->FQ_ b a=false->a=b
 |[],[],_,_=>rfl
 |[],_::_,h,_=>by cases h
 |_::_,[],_,h=>by cases h
 |x::xs,y::ys,h,k=>by
  rw[eD_]at h k;by_cases e:x=y
  .rw[if_pos e]at h;rw[if_pos e.symm]at k;rw[e,k5_ h k]
  .rw[if_neg e]at h;rw[if_neg λz=>e z.symm]at k;show absurd ((f8_.mp k).antisymm (f8_.mp h)) e
theorem k6_:∀{a b c:List Str},FQ_ b a=false->FQ_ c b=false->FQ_ c a=false
 |_,_,[],h,k=>by
  rename_i a b;cases b with
  |nil=>show h
  |cons y ys=>cases k
 |[],_,_::_,_,_=>rfl
 |x::xs,[],z::zs,h,_=>by cases h
 |x::xs,y::ys,z::zs,h,k=>by
  rw[eD_]at h k⊢;by_cases e:y=x
  .subst e;rw[if_pos rfl]at h;by_cases e2:z=y
   .rw[if_pos e2]at k⊢;show k6_ h k
   .rw[if_neg e2]at k⊢;show k
  .rw[if_neg e]at h;by_cases e2:z=y
   .subst e2;rw[if_neg e];show h
   .rw[if_neg e2]at k;have t:=(f8_.mp h).trans (f8_.mp k);by_cases e3:z=x
    .subst e3;show absurd ((f8_.mp k).antisymm (f8_.mp h)) λz=>e z
    .rw[if_neg e3];show f8_.mpr t
theorem lexO(tss:List (List Str))(N:Nat):Lto (λi j=>FQ_ (tss.getD i []) (tss.getD j [])) N:=⟨λ_ _ h=>k4_ h,λ_ _ _ h k=>k6_ h k⟩
theorem fc_{bt:Nat->Nat->Bool}{N:Nat}(O:Lto bt N):∀(j i:Nat),i<=j->bt i (argBest bt j)=false
 |0,i,h=>by
  rw[show i=0 by lia];show O.rf 0
 |j+1,i,h=>by
  unfold argBest;cases e:bt (j+1) (argBest bt j)with
  |true =>
   simp only[if_true];by_cases c:i=j+1
   .rw[c];show O.rf _
   .show O.tr _ _ _ (O.as _ _ e) (fc_ O j i o_)
  |false =>
   simp only[BZ_,Co_];by_cases c:i=j+1
   .rw[c];show e
   .show fc_ O j i o_
end L2
namespace RimT
open PySem L2
def Lst(ws u:List Str):Prop:=Rd ws u/\∀v,Rd ws v->FQ_ v u=false
theorem Lst.one{a b u v:List Str}(h:Lst a u)(k:Lst b v)(r:Rd a b):u=v:=k5_ (k.2 u (r.symm.trans h.1)) (h.2 v (r.trans k.1))
noncomputable def lw(ws:List Str):List Str:=@dite _ (∃u,Lst ws u) (Classical.propDecidable _) (λh=>h.choose) λ_=>[]
theorem JK_{ws u:List Str}(h:Lst ws u):lw ws=u:=by have e:∃u,Lst ws u:=⟨u,h⟩;unfold lw;rw[dif_pos e];show e.choose_spec.one h (.inl (.refl _))
theorem JI_{α:Type}(ws:List α)(i:Nat):Rt ws (ws.drop i++ws.take i):=⟨ws.take i,ws.drop i,(Bo_ i ws).symm,rfl⟩
theorem JG_{α:Type}{ws v:List α}(h:Rt ws v)(ne:ws≠[]):∃i,i<ws.length/\v=ws.drop i++ws.take i:=by
 obtain⟨x,y,rfl,rfl⟩:=h;cases y with
 |nil=>show⟨0,Bg_.mpr ne,s_⟩
 |cons b y=>show⟨x.length,s_,s_⟩
theorem n5_{ws u:List Str}{tss:List (List Str)}(ne:ws≠[])(hu:u∈tss)(h1:∀t∈tss,Rd ws t)(h2:∀i,i<ws.length->ws.drop i++ws.take i∈tss/\ws.reverse.drop i++ws.reverse.take i∈tss)(h3:∀t∈tss,FQ_ t u=false):Lst ws u:=by
 show⟨h1 u hu,λv hv=>h3 v ?_⟩
 rcases hv with hv|hv
 .obtain⟨i,hi,rfl⟩:=JG_ hv ne;show(h2 i hi).1
 .obtain⟨i,hi,rfl⟩:=JG_ hv (by simpa using ne);rw[BH_]at hi;show(h2 i hi).2
end RimT
namespace L2
open PySem PySem.Spec PyProof.Rows PySem.W
section
variable {prog:Program}{w:World}{A:Around}{R:Result->Shared->Prop}{I:Addr}{fp wr:List Addr}{G:Array GenState->Array GenState->Prop}{n:Nat}{P:Nat->Value->Prop}{St:Nat->Shared->Prop}
theorem jN_(W:WalksS prog w A I fp wr G n P St)(ad:List Addr)(hd:∀b∈ad,b∉wr)(J:Heap->Prop)(hJ:∀h h':Heap,J h->(∀b∈ad,∀o,h.get? b=some o->h'.get? b=some o)->J h'):WalksS prog w A I (fp++ad) wr G n P (λi s=>St i s/\J s.heap) where
 sub:=λb hb=>Ap_.mpr (.inl (W.sub b hb))
 grefl:=W.grefl
 gtrans:=W.gtrans
 frame:=λi s h' tk st ht hk=>⟨W.frame i s h' tk st.1 ht λb hb=>hk b (Ap_.mpr (.inl hb)),hJ _ _ st.2 λb hb=>hk b (Ap_.mpr (.inr hb))⟩
 item:=λi s Q E hi st hQ=>W.item i s Q E hi st.1 λv s' hP st' hm=>hQ v s' hP ⟨st',hJ _ _ st.2 λb hb o e=>hm.heap b o (hd b hb) e⟩ hm
 done:=λs Q E st hQ=>W.done s Q E st.1 hQ
 self:=λi s Q E st hQ=>W.self i s Q E st.1 hQ
def II_(prog:Program)(w:World)(A:Around)(P:Nat->Value->Prop)(St:Nat->Shared->Prop)(bt:Nat->Nat->Bool):Prop:=∀k i j vi vj (s:Shared) (Q:Value->Shared->Prop) (E:Value->Shared->Prop),St k s->P i vi->P j vj->Q (.bool (bt i j)) s->wpAny (model prog w) A (richCompare .Lt vi vj) Q E s
theorem l6_(W:WalksS prog w A.in1 I fp wr G n P St)(bt:Nat->Nat->Bool)(hcmp:II_ prog w A.in1 P St bt)(S:Addr)(hSf:S∉fp):
  ∀(k j:Nat)(s:Shared)(vb:Value)(c:Nat),n-(j+1)=k->j+1<=n->St (j+1) s->P (argBest bt j) vb->s.heap.get? S=some {cls:=.type "list",dict:=none,data:=.seq #[vb,vb] c,slots:=#[]} ->
  (∀v s',P (argBest bt (n-1)) v->Moved (S::wr) G s s'->R (.ok (.ret v)) s')->codeAny (model prog w) A (.builtin "min.loop" ⟨[.ref I,.none,.ref S],[]⟩) R s:=by
 have hSw:S∉wr:=λh=>hSf (W.sub _ h);have hsub:∀b∈wr,b∈S::wr:=λb hb=>Am_ _ hb;have hname:(toString "min" ++ toString ".loop" : String)="min.loop" := by decide
 have other:∀{b:Addr},b∉S::wr->S≠b:=λhb h=>hb (by rw[h];show Au_);intro k
 induction k with
 |zero =>
  intro j s vb c hk hj hst hPb hS hR;have hin:j+1=n:=o_
  show BF_ DO_ ?_;rw[Bj_ BW_ _];change wpAny _ A.in1 (seqItems? (.ref S) >>= _) _ _ s;show Ac_ (Cc_ hS rfl ?_);change wpAny _ A.in1 (tryCatch (pyNext (.ref I)) _ >>= _) _ _ s;show Ac_ (Cy_ (W.done s _ _ (hin▸hst) λs' hm=>?_));have hS':=hm.heap S _ hSw hS;change wpAny _ A.in1 (updateSeq S (λ_=>#[]) >>= _) _ _ _;show Ac_ ?_;show D4_ hS' rfl (Ac_ (CU_ (Ah_ ?_)));show hR vb _ (by rw[<-hin];show hPb) ((hm.mono hsub).then_heap (tk:=s'.toks) (Aj_ _) λb o hb e=>(AW_ _ _ (other hb)).trans e)
 |succ k ih =>
  intro j s vb c hk hj hst hPb hS hR;have hlt:j+1<n:=o_
  show BF_ DO_ ?_;rw[Bj_ BW_ _];change wpAny _ A.in1 (seqItems? (.ref S) >>= _) _ _ s;show Ac_ (Cc_ hS rfl ?_);change wpAny _ A.in1 (tryCatch (pyNext (.ref I)) _ >>= _) _ _ s;show Ac_ (Cy_ (W.item (j+1) s _ _ hlt hst λv s' hP hst' hm=>?_));have hS':=hm.heap S _ hSw hS;change wpAny _ A.in1 (tryCatch (holding [v,v] (richCompare .Lt v vb >>= _)) _ >>= _) _ _ _;show Ac_ (Cy_ (Be_ (Ac_ (hcmp _ (j+1) (argBest bt j) v vb _ _ _ hst' hP hPb ?_))));show Ac_ (Be_ (Bh_ ?_));show Ac_ (CU_ (Ah_ ?_));cases hb:bt (j+1) (argBest bt j)with
  |true =>
   simp only[if_true];show Ac_ ?_;show D4_ hS' rfl (Ac_ (CU_ ?_));rw[hname];show Ah_ ⟨BA_ BW_ _,ih (j+1) _ v _ o_ hlt (W.frame _ s' _ s'.toks hst' (Aj_ _) λb hbf o e=>?_) (by simp only[argBest,hb,if_true];show hP) (Cv_ _ hS' rfl) λv' s'' hP' hm''=>?_⟩
   .show(AW_ _ _ (λh:S=b=>hSf (by rw[h];show hbf))).trans e
   .show hR v' s'' hP' (Moved.trans W.gtrans ((hm.mono hsub).then_heap (Aj_ _) λb o hb e=>(AW_ _ _ (other hb)).trans e) hm'')
  |false =>simp only[BZ_,Co_];show Ac_ (CU_ ?_);rw[hname];show Ah_ ⟨BA_ BW_ _,ih (j+1) _ vb c o_ hlt hst' (by simp only[argBest,hb,BZ_,Co_];show hPb) hS' λv' s'' hP' hm''=>?_⟩;show hR v' s'' hP' (Moved.trans W.gtrans (hm.mono hsub) hm'')
theorem k7_(W:WalksS prog w A.in1 I fp wr G n P St)(bt:Nat->Nat->Bool)(hcmp:II_ prog w A.in1 P St bt)(S:Addr)(hSf:S∉fp)(hn:0<n){s:Shared}{c:Nat}(hst:St 0 s)
  (hS:s.heap.get? S=some {cls:=.type "list",dict:=none,data:=.seq #[] c,slots:=#[]})
  (hR:∀v s',P (argBest bt (n-1)) v->Moved (S::wr) G s s'->R (.ok (.ret v)) s'):codeAny (model prog w) A (.builtin "min.loop" ⟨[.ref I,.none,.ref S],[]⟩) R s:=by
 have hSw:S∉wr:=λh=>hSf (W.sub _ h);have hsub:∀b∈wr,b∈S::wr:=λb hb=>Am_ _ hb;have hname:(toString "min" ++ toString ".loop" : String)="min.loop" := by decide
 have other:∀{b:Addr},b∉S::wr->S≠b:=λhb h=>hb (by rw[h];show Au_);show BF_ DO_ ?_;rw[Bj_ BW_ _];change wpAny _ A.in1 (seqItems? (.ref S) >>= _) _ _ s;show Ac_ (Cc_ hS rfl ?_);change wpAny _ A.in1 (tryCatch (pyNext (.ref I)) _ >>= _) _ _ s;show Ac_ (Cy_ (W.item 0 s _ _ hn hst λv s' hP hst' hm=>?_));have hS':=hm.heap S _ hSw hS;change wpAny _ A.in1 (updateSeq S (λ_=>#[v,v]) >>= _) _ _ _;show Ac_ ?_;show D4_ hS' rfl ?_;rw[hname];show Ah_ ⟨BA_ BW_ _,l6_ W bt hcmp S hSf _ 0 _ v _ rfl hn (W.frame _ s' _ s'.toks hst' (Aj_ _) λb hbf o e=>?_) hP (Cv_ _ hS' rfl) λv' s'' hP' hm''=>?_⟩
 .show(AW_ _ _ (λh:S=b=>hSf (by rw[h];show hbf))).trans e
 .show hR v' s'' hP' (Moved.trans W.gtrans ((hm.mono hsub).then_heap (Aj_ _) λb o hb e=>(AW_ _ _ (other hb)).trans e) hm'')
end
variable {prog:Program}{w:World}{A:Around}{E:Value->Shared->Prop}{s:Shared}
theorem jO_{x:Value}{Q:Value->Shared->Prop}
  (h:wpAny (model prog w) A.in1 (pyIter x) (λit s₂=>∃I fp wr G n P St bt,it=.ref I/\WalksS prog w A.in1 I fp wr G n P St/\St 0 s₂/\(∀b∈fp,b<s₂.heap.objs.size)/\0<n/\II_ prog w A.in1 P St bt /\
   ∀v s',P (argBest bt (n-1)) v->Moved wr G s₂ s'->Q v s') E s):wpAny (model prog w) A (call (.builtin "min") [x]) Q E s:=by
 have hname:(toString "min" ++ toString ".loop" : String)="min.loop" := by decide
 show call_function_tree F.kind_min F.plain_min F.entry_min (F.args_min1 _) ?_;change wpAny _ A.in1 (Builtin.Builtins.bindParams "min" ["key","default"] 0 ⟨[],[]⟩ >>= _) _ _ s;show Ac_ (wpAny_of_eq (show Builtin.Builtins.bindParams "min" ["key","default"] 0 ⟨[],[]⟩=pure [none,none]from rfl) ?_);show Ac_ (Ah_ ?_);show Ac_ (BB_ h (λit s₂ h₂=>?_) λ_ _ e=>e);obtain⟨I,fp,wr,G,n,P,St,bt,rfl,W,hst,hfp,hn,hcmp,hQ⟩:=h₂;show Ac_ (BP_ ?_);have hSf:s₂.heap.objs.size∉fp:=λhm=>Bc_ _ (hfp _ hm);rw[hname];show Ah_ ⟨BA_ BW_ _,k7_ W bt hcmp s₂.heap.objs.size hSf hn (W.frame 0 s₂ _ s₂.toks hst (Aj_ _) λb _ o e=>Al_ _ e) (Az_ _ rfl) λv s' hP hm=>?_⟩;show hQ v s' hP (Moved.drop_new (tk:=s₂.toks) hm (Aj_ _))
variable {X:Cx}
def I9_(H:Hp)(ls:List Addr)(tss:List (List Str)):Prop:=∀(i:Nat) l,ls[i]?=some l->H l=some (.lst ((tss.getD i []).map V.str))
def HT_:List V->Hp->VK->Prop:=λvs H Q=>∃(p:Addr)(ls:List Addr)(tss:List (List Str)),vs=[.ref p]/\H p=some (.lst (ls.map V.ref))/\ls≠[]/\I9_ H ls tss/\∀(i:Nat) l,ls[i]?=some l->(∀j,j<ls.length->FQ_ (tss.getD j []) (tss.getD i [])=false)->Q (.ref l) H
theorem dL_:∀{ls:List Addr}{us:List Value},E8_ (ls.map V.ref) us->us=ls.map Value.ref
 |[],_,.nil=>rfl
 |l::ls,_,.cons h t=>by rw[dL_ t];cases h;rfl
theorem hY_:∀{ts:List Str}{us:List Value},E8_ (ts.map V.str) us->StrsAre us ts
 |[],_,.nil=>.nil
 |x::ts,_,.cons h t=>by obtain⟨k,rfl⟩:=h;show .cons _ _ (hY_ t)
def JLs(ls:List Addr)(tss:List (List Str))(h:Heap):Prop:=∀(i:Nat) l,ls[i]?=some l->∃its:Array Value,h.IsList l its/\StrsAre its.toList (tss.getD i [])
theorem JLs.keep{ls:List Addr}{tss:List (List Str)}(h h':Heap)(J:JLs ls tss h)(k:∀b∈ls,∀o,h.get? b=some o->h'.get? b=some o):JLs ls tss h':=λi l hl=>by obtain⟨its,z1,z2⟩:=J i l hl;show⟨its,z1.at λo e=>k l (Ai_ hl) o e,z2⟩
theorem Inv.lists{pins:List (Addr×Obj)}{σ:St}{H:Hp}{ls:List Addr}{tss:List (List Str)}(I:Inv X pins σ H s)(h:I9_ H ls tss):JLs ls tss s.heap:=λi l hl=>by obtain⟨its,rv,pl,_⟩:=I.list (.inl (.inl (h i l hl)));show⟨_,pl.isList,hY_ rv⟩
theorem jP_(hc:X.calm=true)(hu:X.A.units+64<cLine):FB_ X (.builtin "min") HT_:=by
 intro pins s σ H xs us Q I r h;obtain⟨p,ls,tss,rfl,hp,ne,hls,q⟩:=h;obtain⟨u,rfl,e⟩:=FS_ r;cases e;obtain⟨its,rv,pl,_⟩:=I.list (.inl (.inl hp));have ei:=dL_ rv;subst ei;have hl:=pl.isList;have hlt:p<s.heap.objs.size:=by obtain⟨_,e,_⟩:=hl;show Av_ e
 have J:=I.lists hls;have lt:∀b∈ls,b<s.heap.objs.size:=λb hb=>by obtain⟨i,hi⟩:=Ba_.mp hb;obtain⟨_,⟨_,e,_⟩,_⟩:=J i b hi;show Av_ e
 show jO_ (CQ_ hl ?_);show⟨_,[_,p]++ls,[_],_,_,_,_,λi j=>FQ_ (tss.getD i []) (tss.getD j []),rfl,jN_ (Walks.toS (Walks.list (A:=X.A.in1) (I.ok.hd hc) _ p (AL_ hlt) (ls.map Value.ref).toArray)) ls (λb hb z=>?_) (JLs ls tss) JLs.keep,⟨⟨⟨_,Az_ _ rfl,rfl,rfl⟩,hl.push _⟩,?_⟩,λc hc=>?_,?_,?_,λv s' hP hm=>?_⟩
 .rw[Ak_.mp z]at hb;show absurd (lt _ hb) (Bc_ _)
 .show JLs.keep _ _ J λb _ o e=>Al_ _ e
 .change c<(s.heap.push _).objs.size;rw[Cb_]
  rcases Ap_.mp hc with hc|hc
  .rcases As_.mp hc with rfl|hc
   .show DH_ _
   .rw[Ak_.mp hc];show Cr_ hlt
  .show Cr_ (lt _ hc)
 .rw[At_,Ab_];show Bg_.mpr ne
 .intro k i j vi vj s' Q' E' st hi hj h';have at_:∀{i:Nat}{v:Value},(ls.map Value.ref).toArray[i]?=some v->∃l,ls[i]?=some l/\v=.ref l:=λ{i v} h=>by rw[En_,Ae_]at h;obtain⟨l,h1,h2⟩:=AK_.mp h;show⟨l,h1,h2.symm⟩
  obtain⟨l1,z1,rfl⟩:=at_ hi;obtain⟨l2,z2,rfl⟩:=at_ hj;obtain⟨i1,y1,y2⟩:=st.2 i l1 z1;obtain⟨i2,y3,y4⟩:=st.2 j l2 z2;have hu':X.A.in1.units<cLine:=by simp only[Around.in1_units];lia
  show(f7_ y1 y3 y2 y4 hu' h':wpAny (model X.prog X.w) X.A.in1 (compareOp .Lt (.ref l1) (.ref l2)) Q' E' s')
 .have e:=hm.eq_with;rw[e];rw[En_,Ae_]at hP;obtain⟨l,h1,h2⟩:=AK_.mp hP;subst h2;obtain⟨m,hn,F0⟩:=I.frm;have hk:=n4_ rfl hm.heap;show⟨.ref l,H,I.led (t':=s'.toks) hn (F0.grownK hk) ((eo_).grown hk) (λ_ _ _ n=>n) (λ_ _ w=>w) (λb o w n=>by rw[w]at n;cases n),rfl,q _ l h1 λj hj=>fc_ (lexO tss 0) _ j (by rw[At_,Ab_];lia)⟩
theorem jQ_{α:Type}(d:α){l:List α}{n:Nat}(hn:l.length=n){p:List Nat}(h:p.Perm (List.range n)):(p.map λi=>l.getD i d).Perm l:=by
 have e2:(List.range n).map (λi=>l.getD i d)=l:=by
  apply CB_
  .simp[hn]
  .intro i h1 h2;simp[h2]
 have e3:=h.map λi=>l.getD i d;rw[e2]at e3;show e3
def HR_:List V->Hp->VK->Prop:=λvs H Q=>∃(p:Addr)(ls:List Addr)(tss:List (List Str)),vs=[.ref p]/\H p=some (.lst (ls.map V.ref))/\ls.length=tss.length/\ls.length<64/\I9_ H ls tss /\
 ∀(l:Addr)(zs:List Addr)(uss:List (List Str)),H l=none->zs.length=uss.length->(∀z∈zs,z∈ls)->I9_ H zs uss->uss.Perm tss->uss.Pairwise (λx y=>FQ_ y x=false)->Q (.ref l) (upd H l (.lst (zs.map V.ref)))
theorem jR_(hu:X.A.units+64<cLine):FB_ X (.builtin "sorted") HR_:=by
 intro pins s σ H xs us Q I r h;obtain⟨p,ls,tss,rfl,hp,hl,h64,la,q⟩:=h;by_cases h0:ls.length=0
 .have e0:ls=[]:=Bb_ h0;subst e0;have e1:tss=[]:=Bb_ hl.symm;subst e1;show gG_ pins s σ H _ us Q I r ⟨p,[],rfl,hp,d_,λl zs nl pm _=>by rw[pm.eq_nil];show q l [] [] nl rfl (λ_ h=>h) (λi l h=>by cases h) (.refl _) .nil⟩
 by_cases h1:ls.length=1
 .obtain⟨y,rfl⟩:=Cq_.mp h1;show gH_ pins s σ H _ us Q I r ⟨p,.ref y,rfl,hp,λl nl=>q l [y] tss nl hl (λ_ h=>h) la (.refl _) (by obtain⟨t,rfl⟩:=Cq_.mp hl.symm;show CP_ _ _)⟩
 obtain⟨u,rfl,e⟩:=FS_ r;cases e
 let lt:Nat->Nat->Bool:=λi j=>FQ_ (tss.getD i []) (tss.getD j [])
 have yl:(ls.map V.ref).length=ls.length:=Ab_ _;obtain⟨pm,hr,hpm,hso⟩:=kZ_ (lexO tss (ls.map V.ref).length) o_;have pz:pm.size=(ls.map V.ref).length:=by simpa using(Bt_.mp hpm).length_eq
 have pl:pm.toList.Perm (List.range ls.length):=by rw[<-yl];simpa using Bt_.mp hpm
 have pi:∀i∈pm.toList,i<ls.length:=λi hi=>AU_.mp (pl.mem_iff.mp hi);have at_:∀{i:Nat},i<ls.length->ls[i]?=some (ls.getD i p):=λ{i} hi=>by rw[Ag_,Aa_ hi];rfl
 have eq:(pm.toList.map λi=>(ls.map V.ref).getD i .non)=(pm.toList.map λi=>ls.getD i p).map V.ref:=by rw[AP_];show A0_ λi hi=>?_;change(ls.map V.ref).getD i .non=V.ref (ls.getD i p);rw[Ag_,Ae_,at_ (pi i hi)];rfl
 show hO_ (lt:=lt) (κ:=oneType') (pm:=pm) I (.inl (.inl hp)) o_ o_ ?kind ?less hr o_ λl nl=>?_
 case kind =>intro its s' rv I' C hC;have ei:=dL_ rv;subst ei;show kas_kind (T:=.type "list") (by rw[Ab_];lia) (λv hv=>?_) d_ d_ hC;obtain⟨b,hb,rfl⟩:=An_.mp hv;obtain⟨i,hi⟩:=Ba_.mp hb;obtain⟨its,⟨o,ho,hc,_⟩,_⟩:=I'.lists la i b hi;show hc▸(Looks.ld ho).andThen .now
 case less =>
  intro its s' i j rv I' hi hj C hC;have ei:=dL_ rv;subst ei;rw[yl]at hi hj;have g:∀{i:Nat},i<ls.length->(ls.map Value.ref).getD i Value.none=.ref (ls.getD i p):=λ{i} hi=>by rw[Ag_,Ae_,at_ hi];rfl
  rw[g hi,g hj,keyLt'_oneType];obtain⟨i1,y1,y2⟩:=I'.lists la i _ (at_ hi);obtain⟨i2,y3,y4⟩:=I'.lists la j _ (at_ hj);show hX_ _ y1 y3 y2 y4 (by rw[A7_,A7_];lia) hC
 .rw[eq];show q l _ (pm.toList.map λi=>tss.getD i []) nl (by rw[Ab_,Ab_]) (λz hz=>by obtain⟨i,hi,rfl⟩:=An_.mp hz;show Ai_ (at_ (pi i hi))) (λi b hb=>?_) (jQ_ [] hl.symm pl) (BQ_.mpr ((So.list hpm hso).imp λ{i j} h=>h));rw[Ae_]at hb;obtain⟨k,hk,rfl⟩:=AK_.mp hb;have e:(pm.toList.map λi=>tss.getD i []).getD i []=tss.getD k []:=by rw[Ag_,Ae_,hk];rfl
  rw[e];show la k _ (at_ (pi k (Ai_ hk)))
end L2
namespace RimD
def su:Nat->(Nat->Int)->Int
 |0,_=>0
 |n+1,f=>su n f+f n
def sg(k:Nat):Int:=if k%2=0 then 1 else -1
def sk(k j:Nat):Nat:=if j<k then j else j+1
abbrev Mat:=Nat->Nat->Int
def mi(A:Mat)(k:Nat):Mat:=λi j=>A (i+1) (sk k j)
def D:Nat->Mat->Int
 |0,_=>1
 |n+1,A=>su (n+1) λk=>sg k*A 0 k*D n (mi A k)
def gi(r:List Int)(j:Nat):Int:=r.getD j 0
def ma(rows:List (List Int)):Mat:=λi j=>gi (rows.getD i []) j
end RimD
namespace RimM
def nf(t b:Int):Int×Int:=if b<0 then(t / -(Int.gcd t b:Int),b / -(Int.gcd t b:Int))else(t/(Int.gcd t b:Int),b/(Int.gcd t b:Int))
theorem gpos{t b:Int}(hb:b≠0):0<(Int.gcd t b:Int):=by have:=Int.gcd_pos_of_ne_zero_right t hb;lia
theorem n6_{t b:Int}(h:0<b):nf t b=(t/(Int.gcd t b:Int),b/(Int.gcd t b:Int)):=by unfold nf;rw[if_neg o_]
end RimM
namespace RimD
open RimM
end RimD
namespace L2
open PySem PySem.Spec PyProof.Rows PySem.W
def KE_:V->Option Int->Option Int->Hp->VK->Prop:=λx lo hi H Q=>∃z:Str,x=.str z/\z.length<=sizeLine/\∀y:Str,y.length<=z.length->(∀c∈y.cps.toList,c∈z.cps.toList)->Q (.str y) H
variable {prog:Program}{w:World}{A:Around}{E:Value->Shared->Prop}{s:Shared}
def Jq_(t:TGs):TG:=λv σ H Q=>∃(a:Addr)(x y:V),v=.ref a/\H a=some (.lst [x,y])/\t [x,y] σ H Q
variable {P:Program}{K:PySem.W.Frag}{mg:Str->Option Value}{base:Heap}
variable {X:Cx}{pins:List (Addr×Obj)}{σ:St}{H:Hp}
variable {h₀:Heap}{L a kS l:Addr}{m:Str->Option Value}{f:Value}{vs:List Value}{e1:Nat}
def KM_(H:Hp)(ts:List Addr)(tss:List (List Str)):Prop:=∀(i:Nat) t,ts[i]?=some t->∃W,H t=some (.tup [.non,.non,.ref W])/\H W=some (.lst ((tss.getD i []).map V.str))
def CdO(q:Str)(c':Addr):HO:=.ext λh=>h.CodeRec (.ref c') q
def Tb(q:Str)(lp:Pos)(P:Addr)(H:Hp):Prop:=H P=some (.tbl #[])\/∃c',H P=some (.tbl #[rawInt lp.line,rawInt lp.col,.ref c'])/\H c'=some (CdO q c')
def HX_(q:Str)(lp:Pos)(P:Addr)(ta:TA):TE:=λσ H Q=>ta σ H λvs H1=>∃(p:Addr)(ts:List Addr)(tss:List (List Str)),vs=[.ref p]/\Tb q lp P H1/\H1 p=some (.lst (ts.map V.ref))/\ts.length=tss.length/\ts.length<64/\KM_ H1 ts tss /\
 ∀(H2:Hp)(D:Addr)(zs:List Addr)(uss:List (List Str)),(∀b o,b≠P->H1 b=some o->H2 b=some o)->Tb q lp P H2->H1 D=none->H2 D=none->zs.length=uss.length->KM_ H2 zs uss->uss.Perm tss->uss.Pairwise (λx y=>FQ_ y x=false)->Q (.ref D) (upd H2 D (.lst (zs.map V.ref)))
open PyProof.V
variable {R:Result->Shared->Prop}
end L2
namespace RimL
structure Fs_{α:Type}(n m:Nat)(row:Nat->List α)(ws:List α):Prop where
 le:m<=n
 nd:∀k,k<n->(row k).Nodup
 only:∀k,k<n->∀x∈row k,x∈ws
 two:∀x∈ws,∃i j,i<n/\j<n/\i≠j/\x∈row i/\x∈row j/\∀k,k<n->x∈row k->k=i\/k=j
 inner:∀k,m<=k->k<n->row k≠[]
 last:ws≠[]->∃x∈ws,(∃p q,p<m/\q<m/\p≠q/\x∈row p/\x∈row q)\/∃p k,p<m/\m<=k/\k<n/\row p=[x]/\x∈row k
section
variable {α:Type}{n m:Nat}{row:Nat->List α}{ws:List α}
theorem Fs_.start(h:m<=n)(e:n=m):Fs_ (α:=α) n m (λ_=>[]) [] :=
 ⟨h,λ_ _=>AY_,λ_ _ _ hx=>(nomatch hx),λ_ hx=>(nomatch hx),λk h1 h2=>absurd h1 o_,λh=>absurd rfl h⟩
def edge(row:Nat->List α)(p q:Nat)(w:α):Nat->List α:=λk=>if k=p then w::row p else if k=q then row q++[w]else row k
def spike(n:Nat)(row:Nat->List α)(p:Nat)(w:α):Nat->List α:=λk=>if k=p then[w]else if k=n then w::row p else row k
theorem b6_{p q:Nat}{w x:α}{k:Nat}:x∈edge row p q w k↔x∈row k\/(x=w/\(k=p\/k=q)):=by
 unfold edge;by_cases h1:k=p
 .subst h1;rw[if_pos rfl,As_];constructor
  .rintro(rfl|h)
   .show .inr ⟨rfl,.inl rfl⟩
   .show .inl h
  .rintro(h|⟨h,_⟩)
   .show .inr h
   .show .inl h
 .rw[if_neg h1];by_cases h2:k=q
  .subst h2;rw[if_pos rfl,Ap_,Ak_];constructor
   .rintro(h|rfl)
    .show .inl h
    .show .inr ⟨rfl,.inr rfl⟩
   .rintro(h|⟨h,_⟩)
    .show .inl h
    .show .inr h
  .rw[if_neg h2];constructor
   .show .inl
   .rintro(h|⟨_,h|h⟩)
    .show h
    .show absurd h h1
    .show absurd h h2
theorem Fs_.edge(I:Fs_ n m row ws){p q:Nat}{w:α}(hp:p<m)(hq:q<m)(hpq:p≠q)(hw:w∉ws):Fs_ n m (RimL.edge row p q w) (ws++[w]):=by
 have le:=I.le;have nw:∀k,k<n->w∉row k:=λk hk hx=>hw (I.only k hk w hx);show⟨I.le,λk hk=>?_,λk hk x hx=>?_,λx hx=>?_,λk h1 h2=>?_,λ_=>⟨w,s_,.inl ⟨p,q,hp,hq,hpq,b6_.mpr (.inr ⟨rfl,.inl rfl⟩),b6_.mpr (.inr ⟨rfl,.inr rfl⟩)⟩⟩⟩
 .unfold RimL.edge;split
  .show AG_.mpr ⟨nw p o_,I.nd p o_⟩
  .split
   .show AS_.mpr ⟨I.nd q o_,s_,λa ha b hb e=>nw q o_ (by simp at hb;rw[<-hb,<-e];show ha)⟩
   .show I.nd k hk
 .rcases b6_.mp hx with h|⟨h,_⟩
  .show AN_ _ (I.only k hk x h)
  .rw[h];simp
 .rcases Ap_.mp hx with h|h
  .obtain⟨i,j,a1,a2,a3,a4,a5,a6⟩:=I.two x h;have xw:x≠w:=λe=>hw (e▸h);show⟨i,j,a1,a2,a3,b6_.mpr (.inl a4),b6_.mpr (.inl a5),λk hk hx=>?_⟩
   rcases b6_.mp hx with h|⟨h,_⟩
   .show a6 k hk h
   .show absurd h xw
  .have e:=Ak_.mp h;subst e;show⟨p,q,o_,o_,hpq,b6_.mpr (.inr ⟨rfl,.inl rfl⟩),b6_.mpr (.inr ⟨rfl,.inr rfl⟩),λk hk hx=>?_⟩
   rcases b6_.mp hx with h|⟨_,h⟩
   .show absurd h (nw k hk)
   .show h
 .change RimL.edge row p q w k≠[];unfold RimL.edge;rw[if_neg o_,if_neg o_];show I.inner k h1 h2
theorem cU_{p:Nat}{w x:α}{k:Nat}(hk:k<n+1)(hp:p<n):x∈spike n row p w k↔(x=w/\(k=p\/k=n))\/(k=n/\x∈row p)\/(k≠p/\k<n/\x∈row k):=by
 unfold spike;by_cases h1:k=p
 .subst h1;rw[if_pos rfl,Ak_];constructor
  .intro h;show .inl ⟨h,.inl rfl⟩
  .rintro(⟨h,_⟩|⟨h,_⟩|⟨h,_⟩)
   .show h
   .lia
   .show absurd rfl h
 .rw[if_neg h1];by_cases h2:k=n
  .rw[if_pos h2,As_];constructor
   .rintro(h|h)
    .show .inl ⟨h,.inr h2⟩
    .show .inr (.inl ⟨h2,h⟩)
   .rintro(⟨h,_⟩|⟨_,h⟩|⟨_,h,_⟩)
    .show .inl h
    .show .inr h
    .lia
  .rw[if_neg h2];constructor
   .intro h;show .inr (.inr ⟨h1,o_,h⟩)
   .rintro(⟨_,h|h⟩|⟨h,_⟩|⟨_,_,h⟩)
    .show absurd h h1
    .show absurd h h2
    .show absurd h h2
    .show h
theorem Fs_.spike(I:Fs_ n m row ws){p:Nat}{w:α}(hp:p<m)(hw:w∉ws):Fs_ (n+1) m (RimL.spike n row p w) (ws++[w]):=by
 have le:=I.le;have nw:∀k,k<n->w∉row k:=λk hk hx=>hw (I.only k hk w hx);have pn:p<n:=o_
 have rp:RimL.spike n row p w p=[w]:=by unfold RimL.spike;rw[if_pos rfl]
 have mn:w∈RimL.spike n row p w n:=(cU_ o_ pn).mpr (.inl ⟨rfl,.inr rfl⟩);show⟨o_,λk hk=>?_,λk hk x hx=>?_,λx hx=>?_,λk h1 h2=>?_,λ_=>⟨w,s_,.inr ⟨p,n,hp,le,o_,rp,mn⟩⟩⟩
 .unfold RimL.spike;split
  .simp
  .split
   .show AG_.mpr ⟨nw p pn,I.nd p pn⟩
   .show I.nd k o_
 .rcases(cU_ hk pn).mp hx with⟨h,_⟩|⟨_,h⟩|⟨_,h1,h⟩
  .rw[h];simp
  .show AN_ _ (I.only p pn x h)
  .show AN_ _ (I.only k h1 x h)
 .rcases Ap_.mp hx with h|h
  .obtain⟨i,j,a1,a2,a3,a4,a5,a6⟩:=I.two x h;have xw:x≠w:=λe=>hw (e▸h)
   have new:∀i,i<n->x∈row i->x∈RimL.spike n row p w (if i=p then n else i):=λi hi hx=>by
    by_cases e:i=p
    .rw[if_pos e];show(cU_ o_ pn).mpr (.inr (.inl ⟨rfl,e▸hx⟩))
    .rw[if_neg e];show(cU_ o_ pn).mpr (.inr (.inr ⟨e,hi,hx⟩))
   show⟨if i=p then n else i,if j=p then n else j,by split <;> lia,by split <;> lia,by split <;> split <;> lia,new i a1 a4,new j a2 a5,λk hk hx=>?_⟩
   rcases(cU_ hk pn).mp hx with⟨h,_⟩|⟨h0,h⟩|⟨h0,h1,h⟩
   .show absurd h xw
   .rcases a6 p pn h with e|e
    .left;rw[if_pos e.symm];show h0
    .right;rw[if_pos e.symm];show h0
   .rcases a6 k h1 h with e|e
    .left;rw[if_neg o_];show e
    .right;rw[if_neg o_];show e
  .have e:=Ak_.mp h;subst e;show⟨p,n,o_,o_,o_,by rw[rp];simp,mn,λk hk hx=>?_⟩
   rcases(cU_ hk pn).mp hx with⟨_,h⟩|⟨h,_⟩|⟨_,h1,h⟩
   .show h
   .show .inr h
   .show absurd h (nw k h1)
 .unfold RimL.spike;rw[if_neg o_];split
  .simp
  .show I.inner k h1 o_
end
end RimL
namespace L2
open PySem PySem.Spec PyProof.Rows PySem.W
def Ix_:List V->Hp->VK->Prop:=λvs H Q=>∃(d:Addr)(kvs:List (Key×V))(ns:List Str),vs=[.ref d]/\H d=some (.dK kvs)/\kvs.map (λq=>q.1)=ns.map (λn=>(Sum.inr n:Key))/\ns.length<900 /\
 ∀l,H l=none->Q (.ref l) (upd H l (.lst (ns.map V.str)))
theorem iL_{X:Cx}(hc:X.calm=true):FB_ X (.type "list") Ix_:=by
 intro pins s σ H xs us Q I r h;obtain⟨d,kvs,ns,rfl,hd,hk,h64,q⟩:=h;obtain⟨u,rfl,e⟩:=FS_ r;cases e;obtain⟨hsz,hsys,vs,rel,dd⟩:=Hn_ I.hok hd;obtain⟨m,hn,F0⟩:=I.frm;obtain⟨ep,hat⟩:=dd.dictAt;have hl:kvs.length=vs.length:=rel.length;have hl2:kvs.length=ns.length:=by simpa using congrArg List.length hk
 show kdl_N (kdl_dict (knd:=EV_ X.prog X.w) (kvs:=vs) (ep:=ep) hsys) (I.ok.hd hc) F0 eo_ hat o_ ?_;intro D c h' tk us F N l1 hlu hv
 have hS:StrsAre us ns:=ea_ o_ λj v n ev en=>by
  obtain⟨k,x,ekx,kis⟩:=hv j v ev;have hj:j<ns.length:=(Ad_.mp en).1;obtain⟨e1,_⟩:=cT_ rel (Aa_ (show j<kvs.length by lia)) ekx;have e2:(kvs.map (λq=>q.1))[j]?=(ns.map (λn=>(Sum.inr n:Key)))[j]?:=by rw[hk]
  rw[Ae_,Ae_,en,Aa_ (show j<kvs.length by lia)]at e2;have e3:k=Sum.inr n:=e1.symm.trans (Ar_ e2);subst e3;have kis':Gu_ (Sum.inr n) v=true:=kis
  rcases aK_ kis' with⟨i,t,ek,ev⟩|⟨y,t,ek,ev⟩
  .cases ek
  .cases ek;show⟨t,ev⟩
 have hD:=(N (D,_) Au_).1;obtain⟨HD,I2⟩:=I.led_new (t':=tk) (o:=.lst (ns.map V.str)) hn F N l1 ⟨AV_ (EN_ (by rw[Ab_];lia)),us,c,dy_ hS,hD⟩;show⟨.ref D,_,I2,rfl,q D HD⟩
end L2
namespace RimL
open RimT
variable {S:Type}[DecidableEq S]
end RimL
namespace RimT
section
variable {α:Type}[DecidableEq α]{T:List (List α)}{P:Nat}
theorem OpL.covers(tw:Tw T){O:List (Nat×Nat×List Sd)}(h:OpL T P (2*P) O){p:Nat}(hp:p<2*P):∃l j,LnP T P p l j/\cs l ⊆ csO O/\((p,j,l)∈O\/(j,p,l.reverse.map tn)∈O):=by
 obtain⟨l,j,h1,h2⟩:=h.all p hp;have ne:=h1.ne tw;by_cases c:p<j
 .show⟨l,j,h1,λx hx=>f1_.mpr ⟨_,h2 c,hx⟩,.inl (h2 c)⟩
 .have b:=h1.back tw hp;obtain⟨l',j',h3,h4⟩:=h.all j h1.jl;obtain⟨e1,e2⟩:=h3.one tw b;subst e1 e2;have hm:=h4 o_;show⟨l,j,h1,λx hx=>f1_.mpr ⟨_,hm,?_⟩,.inr hm⟩;obtain⟨u,hu,rfl⟩:=bU_.mp hx;show bU_.mpr ⟨tn u,An_.mpr ⟨u,List.mem_reverse.mpr hu,rfl⟩,rfl⟩
end
variable {S:Type}[DecidableEq S]
def FF_(z:S):Nat->List (List S)->List (S×End S)
 |_,[]=>[]
 |n,l::ls=>l.map (λw=>(w,(z,n)))++FF_ z (n+1) ls
theorem eE_(z:S):∀(ls:List (List S))(n:Nat),(FF_ z n ls).map (·.1)=ls.flatten
 |[],_=>rfl
 |l::ls,n=>by rw[FF_,Aq_,eE_ z ls,AP_,AJ_];congr 1;show(A0_ λ_ _=>rfl).trans (Ef_ _)
theorem f9_(z:S){l:List S}:∀{ls:List (List S)}{i n:Nat},ls[i]?=some l->FF_ z n (ls.take (i+1))=FF_ z n (ls.take i)++l.map (λw=>(w,(z,n+i)))
 |[],i,n,h=>by cases h
 |l'::ls,0,n,h=>by
  cases h;simp[FF_]
 |l'::ls,i+1,n,h=>by rw[Dg_,Dg_,FF_,FF_,f9_ z (ls:=ls) (i:=i) (n:=n+1) h,A4_];congr 3;funext w;rw[show n+1+i=n+(i+1) by lia]
theorem js_(z:S):∀(ls:List (List S))(i n:Nat),FF_ z n ls=FF_ z n (ls.take i)++FF_ z (n+i) (ls.drop i)
 |ls,0,n=>by simp[FF_]
 |[],i+1,n=>by simp[FF_]
 |l::ls,i+1,n=>by rw[Dg_,List.drop_succ_cons,FF_,FF_,js_ z ls i (n+1),A4_,show n+1+i=n+(i+1) by lia]
def nums(n:Nat)(ls:List (List S))(w:S):List Nat:=((FF_ w n ls).filter λx=>x.1=w).map λx=>x.2.2
theorem l7_{n:Nat}{w:S}:nums n [] w=[]:=rfl
theorem dA_{n:Nat}{l:List S}{ls:List (List S)}{w:S}:nums n (l::ls) w=List.replicate (l.count w) n++nums (n+1) ls w:=by
 unfold nums;rw[FF_,CI_,Aq_];congr 1
 induction l with
 |nil=>rfl
 |cons x l ih =>
  rw[Aw_];by_cases h:x=w
  .rw[List.filter_cons_of_pos (by simpa using h),Aw_,ih,h,List.count_cons_self,List.replicate_succ]
  .rw[List.filter_cons_of_neg (by simpa using h),ih,List.count_cons_of_ne h]
theorem k8_{z:S}:∀{ls:List (List S)}{n:Nat}{w:S},((FF_ z n ls).filter λx=>x.1=w).map (λx=>x.2.2)=nums n ls w
 |[],n,w=>rfl
 |l::ls,n,w=>by unfold nums;rw[FF_,FF_,CI_,Aq_,CI_,Aq_,k8_ (ls:=ls),k8_ (z:=w) (ls:=ls)];congr 1;rw[List.filter_map,List.filter_map,AP_,AP_];rfl
theorem ga_:∀{ls:List (List S)}{n:Nat}{w:S},(nums n ls w).length=ls.flatten.count w
 |[],_,_=>rfl
 |l::ls,n,w=>by rw[dA_,Af_,Cu_,ga_,AJ_,B6_]
theorem iM_:∀{ls:List (List S)}{n m:Nat}{w:S},m∈nums n ls w->n<=m
 |[],_,_,_,h=>by cases h
 |l::ls,n,m,w,h=>by
  rw[dA_]at h
  rcases Ap_.mp h with h|h
  .rw[(Dt_.mp h).2];show Aj_ _
  .have:=iM_ h;lia
theorem gb_:∀{ls:List (List S)}{n:Nat}{w:S},(nums n ls w).Pairwise (· <= ·)
 |[],_,_=>List.Pairwise.nil
 |l::ls,n,w=>by rw[dA_,List.pairwise_append];show⟨List.pairwise_replicate.mpr (.inr (Aj_ _)),gb_,λa ha b hb=>?_⟩;rw[(Dt_.mp ha).2];have:=iM_ hb;lia
theorem gK_:∀{ls:List (List S)}{n m:Nat}{w:S},(nums n ls w).count (n+m)=(ls.getD m []).count w
 |[],n,m,w=>by simp[l7_]
 |l::ls,n,0,w=>by
  have e:(nums (n+1) ls w).count n=0:=Cm_.mpr λh=>by have:=iM_ h;lia
  rw[dA_,B6_,Nat.add_zero,List.count_replicate_self,e];rfl
 |l::ls,n,m+1,w=>by
  have e:(List.replicate (l.count w) n).count (n+(m+1))=0:=Cm_.mpr λh=>by have:=(Dt_.mp h).2;lia
  rw[dA_,B6_,e,CK_,show n+(m+1)=n+1+m by lia,gK_ (ls:=ls)];rfl
theorem bH_{ls:List (List S)}{m:Nat}{w:S}:(nums 0 ls w).count m=(ls.getD m []).count w:=by
 have:=gK_ (ls:=ls) (n:=0) (m:=m) (w:=w)
 rwa[CK_]at this
theorem hf_{ls:List (List S)}{w:S}(h:ls.flatten.count w=2):∃a b,nums 0 ls w=[a,b]/\a<=b/\b<ls.length:=by
 have hl:=ga_ (ls:=ls) (n:=0) (w:=w);have hs:=gb_ (ls:=ls) (n:=0) (w:=w);have hc:=λm=>bH_ (ls:=ls) (m:=m) (w:=w);rw[h]at hl
 match hn:nums 0 ls w,hl with
 |[a,b],_ =>rw[hn]at hs hc;show⟨a,b,rfl,by simpa using hs,?_⟩;have:=hc b;show B5_.mp λz=>?_;rw[Ag_,Bx_ o_]at this;have h0:(0:Nat)<List.count b [a,b]:=AM_.mpr s_;have h1:List.count b [a,b]=0:=this;lia
def IV_(ls:List (List S)):Prop:=(∃(k:Nat)(l:List S),ls[k]?=some l/\¬ l.Nodup)\/∃(i j:Nat)(a b:List S),i<j/\ls[i]?=some a/\ls[j]?=some b/\1<(a.filter (· ∈ b)).length
theorem da_{ls:List (List S)}{i:Nat}{l:List S}(h:ls[i]?=some l):ls.getD i []=l:=by rw[Ag_,h];rfl
theorem nh_{ls:List (List S)}{w:S}{a:Nat}(h:nums 0 ls w=[a,a])(hl:a<ls.length):IV_ ls/\(ls.getD a []).count w=2:=by
 have hc:=bH_ (ls:=ls) (m:=a) (w:=w);rw[h]at hc;have h2:(ls.getD a []).count w=2:=by rw[<-hc];simp
 show⟨.inl ⟨a,_,Aa_ hl,λnd=>?_⟩,h2⟩;rw[da_ (Aa_ hl)]at h2;have:=B9_.mp nd w;lia
theorem hg_{ls:List (List S)}{w:S}{a b:Nat}(h:nums 0 ls w=[a,b])(ne:a≠b):w∈ls.getD a []/\w∈ls.getD b []:=by
 have h1:=bH_ (ls:=ls) (m:=a) (w:=w);have h2:=bH_ (ls:=ls) (m:=b) (w:=w);rw[h]at h1 h2;show⟨AM_.mp ?_,AM_.mp ?_⟩
 .rw[<-h1];show AM_.mpr s_
 .rw[<-h2];show AM_.mpr s_
theorem n7_{l:List S}{v w:S}(ne:v≠w)(hv:v∈l)(hw:w∈l):1<l.length:=by
 match l with
 |[]=>cases hv
 |[x]=>show absurd ((Ak_.mp hv).trans (Ak_.mp hw).symm) ne
 |_::_::_=>simp
theorem ni_{ls:List (List S)}{v w:S}{a b:Nat}(hv:nums 0 ls v=[a,b])(hw:nums 0 ls w=[a,b])(ne:v≠w)(lt:a<b)(hb:b<ls.length):IV_ ls:=by have h1:=hg_ hv o_;have h2:=hg_ hw o_;have ga:=da_ (ls:=ls) (i:=a) (Aa_ o_);have gb:=da_ (ls:=ls) (i:=b) (Aa_ hb);rw[ga,gb]at h1 h2;show .inr ⟨a,b,_,_,lt,Aa_ o_,Aa_ hb,n7_ ne (Bd_.mpr ⟨h1.1,by simpa using h1.2⟩) (Bd_.mpr ⟨h2.1,by simpa using h2.2⟩)⟩
theorem n8_{l:List S}(nd:l.Nodup)(h:1<l.length):∃v w,v∈l/\w∈l/\v≠w:=by
 match l,nd,h with
 |x::y::l,nd,_=>show⟨x,y,Au_,Am_ _ Au_,λe=>(AG_.mp nd).1 (e▸Au_)⟩
theorem k9_{ls:List (List S)}(h2:∀w∈ls.flatten,ls.flatten.count w=2)(h:∀v∈ls.flatten,∀w∈ls.flatten,∀a b,nums 0 ls v=[a,b]->a≠b/\(nums 0 ls w=[a,b]->v=w)):¬ IV_ ls:=by
 have mem:∀{i:Nat}{l:List S}{w:S},ls[i]?=some l->w∈l->w∈ls.flatten:=λhi hw=>Bm_.mpr ⟨_,Ai_ hi,hw⟩;have no:∀{k:Nat}{l:List S},ls[k]?=some l->l.Nodup:=λ{k l} hk=>B9_.mpr λw=>by show B5_.mp λz=>?_;have hw:w∈l:=AM_.mp o_;obtain⟨a,b,hn,_,_⟩:=hf_ (h2 w (mem hk hw));have hc:=bH_ (ls:=ls) (m:=k) (w:=w);rw[hn,da_ hk]at hc;have:=(h w (mem hk hw) w (mem hk hw) a b hn).1;simp only[C8_,List.count_nil,beq_iff_eq]at hc;split at hc <;> split at hc <;> lia
 rintro(⟨k,l,hk,nd⟩|⟨i,j,a,b,lt,hi,hj,h1⟩)
 .show nd (no hk)
 .obtain⟨v,w,hv,hw,ne⟩:=n8_ ((no hi).sublist EB_) h1
  have key:∀{v:S},v∈a.filter (· ∈ b)->nums 0 ls v=[i,j]:=λ{v} hv=>by
   obtain⟨va,vb⟩:=Bd_.mp hv;have vb:=A6_ vb;obtain⟨x,y,hn,xy,_⟩:=hf_ (h2 v (mem hi va));have c1:=bH_ (ls:=ls) (m:=i) (w:=v);have c2:=bH_ (ls:=ls) (m:=j) (w:=v);rw[hn,da_ hi]at c1;rw[hn,da_ hj]at c2;have p1:=AM_.mpr va;have p2:=AM_.mpr vb;rw[<-c1]at p1;rw[<-c2]at p2;have m1:=AM_.mp p1;have m2:=AM_.mp p2;simp at m1 m2;rw[hn];have:i=x/\j=y:=o_
   rw[this.1,this.2]
  show ne ((h v (mem hi (Bd_.mp hv).1) w (mem hi (Bd_.mp hw).1) i j (key hv)).2 (key hw))
section
variable {α:Type}[DecidableEq α]{T T':List (List α)}{P:Nat}{φ:Sd->Sd}
structure Sim(T T':List (List α))(P:Nat)(φ:Sd->Sd):Prop where
 tu:∀s,φ (tn s)=tn (φ s)
 go:∀{a b},Gg T P a b->Gg T' P (φ a) (φ b)
 wv:∀{a b v},Gg T P a b->wr T P a=some v->wr T' P (φ a)=some v
theorem la_{c:Nat×Nat->Nat×Nat}(inj:∀e f,e.2<rl T e.1->f.2<rl T f.1->c e=c f->e=f)(hw:∀e v,wi T e=some v->wi T' (c e)=some v)(hb:∀e,e.2<rl T e.1->beh T' P (c e)=c (beh T P e)):Sim T T' P λs=>(c s.1,s.2):=by
 have mt:∀{e f},Gf_ T e f->Gf_ T' (c e) (c f):=λ{e f} m=>by obtain⟨ne,v,h1,h2⟩:=m;show⟨λz=>ne (inj e f (Fo_ h1).1 (Fo_ h2).1 z),v,hw e v h1,hw f v h2⟩
 show⟨λs=>rfl,?_,?_⟩
 .rintro a b ⟨e,f,m,h⟩
  rcases h with⟨rfl,rfl⟩|⟨rfl,rfl⟩
  .show⟨c e,c f,mt m,.inl ⟨rfl,rfl⟩⟩
  .show⟨c e,c f,mt m,.inr ⟨by rw[hb e m.lt.1],by rw[hb f m.lt.2]⟩⟩
 .rintro a b v ⟨e,f,m,h⟩ hv;obtain⟨ne,u,h1,h2⟩:=id m
  rcases h with⟨rfl,rfl⟩|⟨rfl,rfl⟩
  .show hw e v hv
  .rw[ex_ m.lt.1]at hv;change wr T' P (c (beh T P e),false)=some v;rw[<-hb e m.lt.1,ex_ (Fo_ (hw e v hv)).1];show hw e v hv
variable{l:List Sd}
theorem Sim.pa(h:Sim T T' P φ)(p:Pa (Gg T P) l):Pa (Gg T' P) (l.map φ):=λi a b ha hb=>by rw[Ae_]at ha hb;obtain⟨x,hx,rfl⟩:=AK_.mp ha;obtain⟨y,hy,rfl⟩:=AK_.mp hb;show h.go (p i x y hx hy)
theorem Sim.wi(h:Sim T T' P φ):∀(l:List Sd)(x:Sd),Pa (Gg T P) (l++[x])->wr T P x=none->wiL T' P (l.map φ)=wiL T P (l++[x])
 |[],x,_,hx=>by
  unfold wiL;simp[hx]
 |a::l,x,p,hx=>by
  have ih:=Sim.wi h l x (nf_ p) hx;obtain⟨b,hb⟩:∃b,(l++[x])[0]?=some b:=by cases l <;> show⟨_,rfl⟩
  have g:=p 0 a b rfl (by rw[DL_,BS_];show hb);obtain⟨v,hv,_⟩:=GV_ g;unfold wiL at ih⊢;rw[Aw_,DL_,BG_,BG_,hv,h.wv g hv,ih]
theorem gL_{x:Sd}(h:l.getLast?=some x):∃m,l=m++[x]:=by obtain⟨m,e⟩:=List.getLast?_eq_some_iff.mp h;show⟨m,e⟩
theorem Sim.line(h:Sim T T' P φ){x y:Nat}(k:LnP T P x l y)(hx:stt T' x=φ (stt T x))(hy:stt T' y=φ (stt T y)):∃l',LnP T' P x l' y/\wiL T' P l'=wiL T P l:=by
 obtain⟨z,hz,ez⟩:=k.ed;have ez':tn (φ z)=stt T' y:=by rw[<-h.tu,ez,hy]
 have wz:wr T' P (φ z)=none:=by have:=be_ (T:=T') k.jl;rw[<-ez',GC_]at this;show this
 obtain⟨m,rfl⟩:=gL_ hz;show⟨(m++[z]).map φ,⟨⟨h.pa k.ln.pa,by rw[Ae_,k.ln.hd,hx];rfl,λu hu=>?_⟩,k.jl,φ z,by rw[Cs_,hz];rfl,ez'⟩,?_⟩
 .rw[Cs_,hz]at hu;cases hu;show wz
 .rw[<-h.wi m z k.ln.pa (k.ln.ed z hz)];unfold wiL;rw[Aq_,BJ_];simp[wz]
theorem Sim.more(h:Sim T T' P φ){x y z:Nat}{w:α}(k:LnP T P x l y)(hx:stt T' x=φ (stt T x))(hz:z<2*P)(g:Gg T' P (φ (tn (stt T y))) (tn (stt T' z)))(hw:wr T' P (φ (tn (stt T y)))=some w):∃l',LnP T' P x l' z/\wiL T' P l'=wiL T P l++[w]:=by
 obtain⟨u,hu,eu⟩:=k.ed;have eu':u=tn (stt T y):=by rw[<-eu,GC_]
 have wz:wr T' P (tn (stt T' z))=none:=be_ hz;obtain⟨m,rfl⟩:=gL_ hu;rw[<-eu']at g hw;have pl:=h.pa k.ln.pa;show⟨(m++[u]).map φ++[tn (stt T' z)],⟨⟨ng_ pl (by rw[Cs_,hu];rfl) g,?_,λv hv=>?_⟩,hz,_,by rw[Eu_],GC_ _⟩,?_⟩
 .rw[Ao_ s_,Ae_,k.ln.hd,hx];rfl
 .rw[Eu_]at hv;cases hv;show wz
 .rw[<-h.wi m u k.ln.pa (k.ln.ed u hu)];unfold wiL;rw[Aq_,BJ_,BJ_];simp[wz,hw]
def swp(a b x:Nat):Nat:=if x=a then b else if x=b then a else x
theorem fd_(a b x:Nat):swp a b (swp a b x)=x:=by unfold swp;split <;> (try split) <;> (try split) <;> lia
theorem eF_{a b x n:Nat}(ha:a<n)(hb:b<n)(hx:x<n):swp a b x<n:=by unfold swp;split <;> (try split) <;> lia
theorem lb_{a b x:Nat}(h1:x≠a)(h2:x≠b):swp a b x=x:=by unfold swp;rw[if_neg h1,if_neg h2]
structure Gw(T T':List (List α))(P a b:Nat)(w:α)(φ:Sd->Sd):Prop where
 sim:Sim T T' P φ
 al:a<2*P
 bl:b<2*P
 ab:a≠b
 tw:Tw T
 tw':Tw T'
 st:∀x,x<2*P->x≠a->x≠b->stt T' x=φ (stt T x)
 ga:Gg T' P (stt T' a) (φ (stt T b))
 gb:Gg T' P (stt T' b) (φ (stt T a))
 wa:wr T' P (stt T' a)=some w
 wb:wr T' P (stt T' b)=some w
 fl:∀v,v∈T'.flatten↔v=w\/v∈T.flatten
 nw:w∉T.flatten
theorem Gw.step(h:Gw T T' P a b w φ){u y:Nat}(hu:u<2*P)(k:LnP T P u l y)(no:¬ ((u=a\/u=b)/\(y=a\/y=b))):∃l',LnP T' P (swp a b u) l' (swp a b y)/\(wiL T' P l').Perm (wiL T P l++if(u=a\/u=b)\/(y=a\/y=b)then[w]else[]):=by
 have key:∀{u y:Nat}{l:List Sd},u<2*P->LnP T P u l y->¬ (u=a\/u=b)->(y=a\/y=b)->∃l',LnP T' P u l' (swp a b y)/\wiL T' P l'=wiL T P l++[w]:=λ{u y l} hu k nu hy=>by
  have sx:=h.st u hu (λz=>nu (.inl z)) (λz=>nu (.inr z));have wt:∀{s t:Sd},Gg T' P s t->wr T' P s=some w->wr T' P (tn t)=some w:=λg e=>by obtain⟨v,h1,h2⟩:=GV_ g;rw[e]at h1;cases h1;show h2
  rcases hy with rfl|rfl
  .rw[show swp y b y=b by unfold swp;rw[if_pos rfl]];show h.sim.more k sx h.bl ?_ ?_
   .rw[h.sim.tu];show(FG_ h.tw').rev h.gb
   .rw[h.sim.tu];show wt h.gb h.wb
  .rw[show swp a y y=a by unfold swp;rw[if_neg (λz=>h.ab z.symm),if_pos rfl]];show h.sim.more k sx h.al ?_ ?_
   .rw[h.sim.tu];show(FG_ h.tw').rev h.ga
   .rw[h.sim.tu];show wt h.ga h.wa
 by_cases cu:u=a\/u=b
 .have cy:¬ (y=a\/y=b):=λz=>no ⟨cu,z⟩;obtain⟨l',k',e'⟩:=key k.jl (k.back h.tw hu) cy cu;rw[if_pos (.inl cu),lb_ (λz=>cy (.inl z)) (λz=>cy (.inr z))];have yl:y<2*P:=k.jl;show⟨_,k'.back h.tw' yl,?_⟩
  have r1:(wiL T' P (l'.reverse.map tn)).Perm (wiL T' P l'):=by
   cases l' with
   |nil=>show absurd rfl k'.ln.ne
   |cons s l' =>
    have es:s=stt T' y:=by have:=k'.ln.hd;simpa using this
    rw[jl_ k'.ln.pa (by rw[es];show be_ yl) k'.ln.ed];show Dy_ _
  have r2:(wiL T P (l.reverse.map tn)).Perm (wiL T P l):=by
   cases l with
   |nil=>show absurd rfl k.ln.ne
   |cons s l =>
    have es:s=stt T u:=by have:=k.ln.hd;simpa using this
    rw[jl_ k.ln.pa (by rw[es];show be_ hu) k.ln.ed];show Dy_ _
  rw[e']at r1;show r1.trans (r2.append_right _)
 .rw[lb_ (λz=>cu (.inl z)) (λz=>cu (.inr z))];by_cases cy:y=a\/y=b
  .obtain⟨l',k',e'⟩:=key hu k cu cy;rw[if_pos (.inr cy)];show⟨l',k',.of_eq e'⟩
  .rw[if_neg (λz=>z.elim cu cy),lb_ (λz=>cy (.inl z)) (λz=>cy (.inr z)),Bp_];obtain⟨l',k',e'⟩:=h.sim.line k (h.st u hu (λz=>cu (.inl z)) (λz=>cu (.inr z))) (h.st y k.jl (λz=>cy (.inl z)) (λz=>cy (.inr z)));show⟨l',k',.of_eq e'⟩
structure LI(T:List (List α))(P:Nat)(at_:Nat->Int)(mt:α->Int×Int):Prop where
 tw:Tw T
 ln:∀x,x<2*P->∃l y,LnP T P x l y/\at_ x=at_ y/\(wiL T P l).Nodup/\∀w,w∈wiL T P l↔(w∈T.flatten/\(at_ x=(mt w).1\/at_ x=(mt w).2))
 one:∀x y l z,x<2*P->y<2*P->LnP T P x l z->at_ x=at_ y->y=x\/y=z
 lt:∀w∈T.flatten,(mt w).1<(mt w).2
 ex:∀w∈T.flatten,∃x y,x<2*P/\y<2*P/\at_ x=(mt w).1/\at_ y=(mt w).2
 inj:∀v∈T.flatten,∀w∈T.flatten,mt v=mt w->v=w
theorem LI.grow{a b:Nat}{w:α}{at_ at':Nat->Int}{mt mt':α->Int×Int}(h:LI T P at_ mt)(g:Gw T T' P a b w φ)(ne:at_ a≠at_ b)(fresh:∀v∈T.flatten,mt v≠mt' w)(hm:∀v∈T.flatten,mt' v=mt v)(hw:(mt' w).1<(mt' w).2)(hab:(at_ a=(mt' w).1/\at_ b=(mt' w).2)\/(at_ a=(mt' w).2/\at_ b=(mt' w).1))(hat:∀x,at' x=at_ (swp a b x)):LI T' P at' mt':=by
 have both:∀{u y:Nat}{l:List Sd},u<2*P->LnP T P u l y->¬ ((u=a\/u=b)/\(y=a\/y=b)):=λ{u y l} hu k z=>by
  obtain⟨l',y',k',e,_⟩:=h.ln u hu;obtain⟨_,rfl⟩:=k'.one g.tw k;have:=k.ne g.tw
  rcases z with⟨rfl|rfl,rfl|rfl⟩
  .show this rfl
  .show ne e
  .show ne e.symm
  .show this rfl
 have inv:∀x,at' (swp a b x)=at_ x:=λx=>by rw[hat,fd_]
 have wnw:∀v∈T.flatten,v≠w:=λv hv e=>g.nw (e▸hv);show⟨g.tw',λx hx=>?_,λx y l z hx hy k e=>?_,λv hv=>?_,λv hv=>?_,λv hv u hu e=>?_⟩
 .have hs:=eF_ g.al g.bl hx;obtain⟨l,y,k,e1,nd,iff⟩:=h.ln (swp a b x) hs;obtain⟨l',k',pm⟩:=g.step hs k (both hs k);rw[fd_]at k';have nwl:w∉wiL T P l:=λz=>g.nw ((iff w).mp z).1;show⟨l',_,k',by rw[inv,hat];show e1,pm.nodup_iff.mpr ?_,λv=>?_⟩
  .split
   .show AS_.mpr ⟨nd,s_,λp hp q hq z=>nwl (by rw[Ak_]at hq;rw[<-hq,<-z];show hp)⟩
   .rw[Bp_];show nd
  .rw[pm.mem_iff,Ap_,iff,hat,g.fl]
   have wcase:(at_ (swp a b x)=(mt' w).1\/at_ (swp a b x)=(mt' w).2)↔((swp a b x=a\/swp a b x=b)\/(y=a\/y=b)):=by
    have aeq:∀{c},c<2*P->(at_ (swp a b x)=at_ c↔(c=swp a b x\/c=y)):=λ{c} hc=>by
     show⟨λz=>h.one _ c l y hs hc k z,?_⟩;rintro(rfl|rfl)
     .rfl
     .show e1
    have h1:=aeq g.al;have h2:=aeq g.bl
    rcases hab with⟨p1,p2⟩|⟨p1,p2⟩
    .rw[<-p1,<-p2,h1,h2];constructor
     .rintro((z|z)|(z|z))
      .show .inl (.inl z.symm)
      .show .inr (.inl z.symm)
      .show .inl (.inr z.symm)
      .show .inr (.inr z.symm)
     .rintro((z|z)|(z|z))
      .show .inl (.inl z.symm)
      .show .inr (.inl z.symm)
      .show .inl (.inr z.symm)
      .show .inr (.inr z.symm)
    .rw[<-p1,<-p2,h1,h2];constructor
     .rintro((z|z)|(z|z))
      .show .inl (.inr z.symm)
      .show .inr (.inr z.symm)
      .show .inl (.inl z.symm)
      .show .inr (.inl z.symm)
     .rintro((z|z)|(z|z))
      .show .inr (.inl z.symm)
      .show .inl (.inl z.symm)
      .show .inr (.inr z.symm)
      .show .inl (.inr z.symm)
   by_cases ev:v=w
   .subst ev;constructor
    .rintro(z|z)
     .show absurd z.1 g.nw
     .show⟨.inl rfl,wcase.mpr ?_⟩;split at z
      .assumption
      .cases z
    .rintro⟨_,z⟩;right;rw[if_pos (wcase.mp z)];show Ak_.mpr rfl
   .constructor
    .rintro(z|z)
     .rw[hm v z.1];show⟨.inr z.1,z.2⟩
     .split at z
      .show absurd (Ak_.mp z) ev
      .cases z
    .rintro⟨z1|z1,z2⟩
     .show absurd z1 ev
     .rw[hm v z1]at z2;show .inl ⟨z1,z2⟩
 .have hs:=eF_ g.al g.bl hx;obtain⟨l0,y0,k0,_⟩:=h.ln (swp a b x) hs;obtain⟨l',k',_⟩:=g.step hs k0 (both hs k0);rw[fd_]at k';obtain⟨_,ez⟩:=k.one g.tw' k';rw[hat,hat]at e
  rcases h.one _ _ _ _ hs (eF_ g.al g.bl hy) k0 e with z1|z1
  .left;have:=congrArg (swp a b) z1
   rwa[fd_,fd_]at this
  .right;rw[ez,<-z1,fd_]
 .rcases(g.fl v).mp hv with rfl|hv
  .show hw
  .rw[hm v hv];show h.lt v hv
 .rcases(g.fl v).mp hv with rfl|hv
  .rcases hab with⟨p1,p2⟩|⟨p1,p2⟩
   .show⟨swp a b a,swp a b b,eF_ g.al g.bl g.al,eF_ g.al g.bl g.bl,by rw[inv];show p1,by rw[inv];show p2⟩
   .show⟨swp a b b,swp a b a,eF_ g.al g.bl g.bl,eF_ g.al g.bl g.al,by rw[inv];show p2,by rw[inv];show p1⟩
  .obtain⟨x,y,h1,h2,h3,h4⟩:=h.ex v hv;rw[hm v hv];show⟨swp a b x,swp a b y,eF_ g.al g.bl h1,eF_ g.al g.bl h2,by rw[inv];show h3,by rw[inv];show h4⟩
 .rcases(g.fl v).mp hv with rfl|hv <;> rcases(g.fl u).mp hu with rfl|hu
  .rfl
  .rw[hm u hu]at e;show absurd e.symm (fresh u hu)
  .rw[hm v hv]at e;show absurd e (fresh v hv)
  .rw[hm v hv,hm u hu]at e;show h.inj v hv u hu e
theorem LI.turn{at_:Nat->Int}{mt:α->Int×Int}(h:LI T P at_ mt)(s:Sim T T' P φ)(tw':Tw T')(st:∀x,x<2*P->stt T' x=φ (stt T x))(fl:∀v,v∈T'.flatten↔v∈T.flatten):LI T' P at_ mt:=by
 have ln:∀x,x<2*P->∀l y,LnP T P x l y->∃l',LnP T' P x l' y/\wiL T' P l'=wiL T P l:=λx hx l y k=>s.line k (st x hx) (st y k.jl);show⟨tw',λx hx=>?_,λx y l z hx hy k e=>?_,λv hv=>h.lt v ((fl v).mp hv),λv hv=>h.ex v ((fl v).mp hv),λv hv u hu=>h.inj v ((fl v).mp hv) u ((fl u).mp hu)⟩
 .obtain⟨l,y,k,e1,nd,iff⟩:=h.ln x hx;obtain⟨l',k',e'⟩:=ln x hx l y k;show⟨l',y,k',e1,by rw[e'];show nd,λv=>by rw[e',iff,fl]⟩
 .obtain⟨l0,y0,k0,_⟩:=h.ln x hx;obtain⟨l',k',_⟩:=ln x hx l0 y0 k0;obtain⟨_,ez⟩:=k.one tw' k';rw[ez];show h.one x y l0 y0 hx hy k0 e
theorem LI.at{T:List (List α)}{at_ at':Nat->Int}{mt:α->Int×Int}(h:LI T P at_ mt)(e:∀x,x<2*P->at' x=at_ x):LI T P at' mt:=by
 show⟨h.tw,λx hx=>?_,λx y l z hx hy k e1=>h.one x y l z hx hy k (by rw[<-e x hx,<-e y hy];show e1),h.lt,λw hw=>?_,h.inj⟩
 .obtain⟨l,y,k,e1,nd,iff⟩:=h.ln x hx;show⟨l,y,k,by rw[e x hx,e y k.jl];show e1,nd,λw=>by rw[e x hx];show iff w⟩
 .obtain⟨x,y,h1,h2,h3,h4⟩:=h.ex w hw;show⟨x,y,h1,h2,by rw[e x h1];show h3,by rw[e y h2];show h4⟩
end
open RimL
section
variable {α:Type}[DecidableEq α]{T T':List (List α)}{P:Nat}
theorem gM_{k:Nat}{r:List α}(h:T.getD k []=r):rl T k=r.length:=by unfold rl;rw[h]
theorem Fu_{k j:Nat}{r:List α}(h:T.getD k []=r):wi T (k,j)=r[j]?:=by unfold wi;rw[h]
theorem a6_{m:Nat}{ws:List α}(I:Fs_ T.length m (λk=>T.getD k []) ws)(v:α):v∈T.flatten↔v∈ws:=by
 rw[Bm_];constructor
 .rintro⟨r,hr,hv⟩;obtain⟨k,hk,rfl⟩:=Ax_.mp hr;show I.only k hk v ?_;change v∈T.getD k [];rw[Ag_,Aa_ hk];show hv
 .intro hv;obtain⟨i,j,hi,_,_,h1,_⟩:=I.two v hv;have h1':v∈T.getD i []:=h1;rw[Ag_,Aa_ hi]at h1';show⟨_,Bn_ hi,h1'⟩
theorem gc_{m:Nat}{ws:List α}(I:Fs_ T.length m (λk=>T.getD k []) ws):Tw T:=λv hv=>by
 obtain⟨i,j,hi,hj,ij,h1,h2,on⟩:=I.two v ((a6_ I v).mp hv)
 have e:T.flatten.count v=((List.range T.length).map λk=>(T.getD k []).count v).sum:=by
  rw[List.count_flatten];congr 1
  conv=>lhs;rw[<-gE_ [] T]
  rw[AP_];rfl
 have c1:∀{k},k<T.length->v∈T.getD k []->(T.getD k []).count v=1:=λ{k} hk hm=>by have:=B9_.mp (I.nd k hk) v;have h0:=AM_.mpr hm;have:(T.getD k []).count v<=1:=this;lia
 rw[e,g6_ (a:=i) (b:=j) CE_ ij (AU_.mpr hi) (AU_.mpr hj) λk hk n1 n2=>Cm_.mpr λz=>(on k (AU_.mp hk) z).elim n1 n2,c1 hi h1,c1 hj h2]
theorem nj_{p q:Nat}{w:α}{ws:List α}(PT:P<=T.length)(hp:p<P)(hq:q<P)(pq:p≠q)(len:T'.length=T.length)(row:∀k,T'.getD k []=edge (λk=>T.getD k []) p q w k)(I:Fs_ T.length P (λk=>T.getD k []) ws)(I':Fs_ T'.length P (λk=>T'.getD k []) (ws++[w]))(nw:w∉ws):∃φ,Gw T T' P (2*p+1) (2*q) w φ:=by
 have rp:T'.getD p []=w::T.getD p []:=by rw[row];unfold edge;rw[if_pos rfl]
 have rq:T'.getD q []=T.getD q []++[w]:=by rw[row];unfold edge;rw[if_neg (λz=>pq z.symm),if_pos rfl]
 have ro:∀k,k≠p->k≠q->T'.getD k []=T.getD k []:=λk h1 h2=>by rw[row];unfold edge;rw[if_neg h1,if_neg h2]
 have lp:rl T' p=rl T p+1:=by rw[gM_ rp];rfl
 have lq:rl T' q=rl T q+1:=by rw[gM_ rq,Af_];rfl
 have lo:∀k,k≠p->k≠q->rl T' k=rl T k:=λk h1 h2=>by unfold rl;rw[ro k h1 h2]
 have w1:wi T' (p,0)=some w:=by rw[Fu_ rp];rfl
 have w2:wi T' (q,rl T q)=some w:=by rw[Fu_ rq];unfold rl;rw[Ay_ (Aj_ _),C7_];rfl
 have tw:=gc_ I;have tw':=gc_ I';have b1:beh T' P (p,0)=(p,1):=by unfold beh;rw[if_neg (λz=>by have:=z.1;dsimp only at this;lia)]
 have b2:beh T' P (q,rl T q)=(q,rl T q+1):=by unfold beh;rw[if_neg (λz=>by have:=z.1;dsimp only at this;lia)]
 have sa:stt T' (2*p+1)=((p,0),true):=by unfold stt;rw[if_neg o_,show(2*p+1)/2=p by lia]
 have sb:stt T' (2*q)=((q,rl T q+1),false):=by unfold stt;rw[if_pos o_,show 2*q/2=q by lia,lq]
 have sa0:stt T (2*p+1)=((p,0),true):=by unfold stt;rw[if_neg o_,show(2*p+1)/2=p by lia]
 have sb0:stt T (2*q)=((q,rl T q),false):=by unfold stt;rw[if_pos o_,show 2*q/2=q by lia]
 have mt:Gf_ T' (p,0) (q,rl T q):=⟨λz=>pq (congrArg Prod.fst z),w,w1,w2⟩
 let c:Nat×Nat->Nat×Nat:=λe=>if e.1=p then(e.1,e.2+1)else e
 have cp:∀k,c (p,k)=(p,k+1):=λk=>if_pos rfl;have cn:∀i k,i≠p->c (i,k)=(i,k):=λi k h=>if_neg h;show⟨λs=>(c s.1,s.2),la_ ?_ ?_ ?_,o_,o_,o_,tw,tw',?_,?_,?_,?_,?_,λv=>?_,λz=>nw ((a6_ I w).mp z)⟩
 .rintro⟨i,k⟩ ⟨j,l⟩ _ _ h;by_cases h1:i=p <;> by_cases h2:j=p
  .subst h1;subst h2;rw[cp,cp]at h;injection h with _ h
   rw[EJ_ h]
  .subst h1;rw[cp,cn _ _ h2]at h;show absurd (congrArg Prod.fst h).symm h2
  .subst h2;rw[cp,cn _ _ h1]at h;show absurd (congrArg Prod.fst h) h1
  .rw[cn _ _ h1,cn _ _ h2]at h;show h
 .rintro⟨i,k⟩ v h;have h':(T.getD i [])[k]?=some v:=h;by_cases h1:i=p
  .subst h1;rw[cp,Fu_ rp,BS_];show h'
  .rw[cn _ _ h1];by_cases h2:i=q
   .subst h2;rw[Fu_ rq,Ao_ (Ad_.mp h').1];show h'
   .rw[Fu_ (ro i h1 h2)];show h'
 .rintro⟨i,k⟩ hk;by_cases h1:i=p
  .subst h1;rw[cp];unfold beh;rw[if_neg (λz=>by have:=z.1;dsimp only at this;lia),if_neg (λz=>by have:=z.1;dsimp only at this;lia),cp]
  .rw[cn _ _ h1];unfold beh
   dsimp only
   by_cases h2:i=q
   .subst h2;rw[if_neg (λz=>o_),if_neg (λz=>o_),cn _ _ h1]
   .rw[lo i h1 h2];split
    .rw[cn _ _ h1]
    .rw[cn _ _ h1]
 .intro x hx n1 n2;unfold stt;by_cases e:x%2=0
  .rw[if_pos e,if_pos e];have hq':x/2≠q:=λz=>n2 o_;by_cases h1:x/2=p
   .rw[h1,lp];change((p,rl T p+1),false)=(c (p,rl T p),false);rw[cp]
   .change((x/2,rl T' (x/2)),false)=(c (x/2,rl T (x/2)),false);rw[cn _ _ h1,lo _ h1 hq']
  .rw[if_neg e,if_neg e];have h1:x/2≠p:=λz=>n1 o_;change((x/2,0),true)=(c (x/2,0),true);rw[cn _ _ h1]
 .rw[sa,sb0];show⟨_,_,mt,.inl ⟨rfl,?_⟩⟩;change(c (q,rl T q),false)=_;rw[cn _ _ (λz=>pq z.symm)]
 .rw[sb,sa0];show⟨_,_,mt.symm,.inr ⟨by rw[b2],?_⟩⟩;change(c (p,0),true)=_;rw[cp,b1]
 .rw[sa];show w1
 .rw[sb,<-b2,ex_ (Fo_ w2).1];show w2
 .rw[a6_ I',a6_ I,Ap_,Ak_];show Or.comm
theorem l8_{p:Nat}{w:α}{ws:List α}(PT:P<=T.length)(hp:p<P)(len:T'.length=T.length+1)(row:∀k,T'.getD k []=spike T.length (λk=>T.getD k []) p w k)(I:Fs_ T.length P (λk=>T.getD k []) ws)(I':Fs_ T'.length P (λk=>T'.getD k []) (ws++[w]))(nw:w∉ws):∃φ,Gw T T' P (2*p+1) (2*p) w φ:=by
 have pn:p≠T.length:=o_
 have rp:T'.getD p []=[w]:=by rw[row];unfold spike;rw[if_pos rfl]
 have rn:T'.getD T.length []=w::T.getD p []:=by rw[row];unfold spike;rw[if_neg (λz=>pn z.symm),if_pos rfl]
 have ro:∀k,k≠p->k≠T.length->T'.getD k []=T.getD k []:=λk h1 h2=>by rw[row];unfold spike;rw[if_neg h1,if_neg h2]
 have lp:rl T' p=1:=by rw[gM_ rp];rfl
 have lnn:rl T' T.length=rl T p+1:=by rw[gM_ rn];rfl
 have lo:∀k,k≠p->k≠T.length->rl T' k=rl T k:=λk h1 h2=>by unfold rl;rw[ro k h1 h2]
 have w1:wi T' (p,0)=some w:=by rw[Fu_ rp];rfl
 have w2:wi T' (T.length,0)=some w:=by rw[Fu_ rn];rfl
 have tw:=gc_ I;have tw':=gc_ I';have b1:beh T' P (p,0)=(p,1):=by unfold beh;rw[if_neg (λz=>by have:=z.1;dsimp only at this;lia)]
 have sa:stt T' (2*p+1)=((p,0),true):=by unfold stt;rw[if_neg o_,show(2*p+1)/2=p by lia]
 have sb:stt T' (2*p)=((p,1),false):=by unfold stt;rw[if_pos o_,show 2*p/2=p by lia,lp]
 have sa0:stt T (2*p+1)=((p,0),true):=by unfold stt;rw[if_neg o_,show(2*p+1)/2=p by lia]
 have sb0:stt T (2*p)=((p,rl T p),false):=by unfold stt;rw[if_pos o_,show 2*p/2=p by lia]
 have mt:Gf_ T' (p,0) (T.length,0):=⟨λz=>pn (congrArg Prod.fst z),w,w1,w2⟩
 let c:Nat×Nat->Nat×Nat:=λe=>if e.1=p then(if e.2=rl T p then(T.length,0)else(T.length,e.2+1))else e
 have cp:∀k,c (p,k)=if k=rl T p then(T.length,0)else(T.length,k+1):=λk=>if_pos rfl;have cn:∀i k,i≠p->c (i,k)=(i,k):=λi k h=>if_neg h;have lt_of:∀{i k:Nat},k<rl T i->i<T.length:=λ{i k} h=>by obtain⟨v,hv⟩:=d7_ (T:=T) (e:=(i,k)) h;show(Fo_ hv).2
 show⟨λs=>(c s.1,s.2),la_ ?_ ?_ ?_,o_,o_,o_,tw,tw',?_,?_,?_,?_,?_,λv=>?_,λz=>nw ((a6_ I w).mp z)⟩
 .rintro⟨i,k⟩ ⟨j,l⟩ hk hl h
  dsimp only at hk hl
  have il:=lt_of hk;have jl:=lt_of hl;by_cases h1:i=p <;> by_cases h2:j=p
  .subst h1;subst h2;rw[cp,cp,if_neg o_,if_neg o_]at h;injection h with _ h
   rw[EJ_ h]
  .subst h1;rw[cp,if_neg o_,cn _ _ h2]at h;have:=congrArg Prod.fst h
   dsimp only at this
   lia
  .subst h2;rw[cp,if_neg o_,cn _ _ h1]at h;have:=congrArg Prod.fst h
   dsimp only at this
   lia
  .rw[cn _ _ h1,cn _ _ h2]at h;show h
 .rintro⟨i,k⟩ v h;have h':(T.getD i [])[k]?=some v:=h;have hk:k<rl T i:=(Ad_.mp h').1;have il:=lt_of hk;by_cases h1:i=p
  .subst h1;rw[cp,if_neg o_,Fu_ rn,BS_];show h'
  .rw[cn _ _ h1,Fu_ (ro i h1 o_)];show h'
 .rintro⟨i,k⟩ hk
  dsimp only at hk
  have il:=lt_of hk;by_cases h1:i=p
  .subst h1;have e1:beh T P (i,k)=(i,k+1):=by unfold beh;rw[if_neg (λz=>by have:=z.1;dsimp only at this;lia)]
   rw[e1,cp,cp,if_neg o_];unfold beh
   dsimp only
   rw[lnn];by_cases e:k+1=rl T i
   .rw[if_pos e,if_pos ⟨PT,o_⟩]
   .rw[if_neg e,if_neg (λz=>o_)]
  .rw[cn _ _ h1];unfold beh
   dsimp only
   rw[lo i h1 o_];split
   .rw[cn _ _ h1]
   .rw[cn _ _ h1]
 .intro x hx n1 n2;have h1:x/2≠p:=λz=>o_
  unfold stt;by_cases e:x%2=0
  .rw[if_pos e,if_pos e];change((x/2,rl T' (x/2)),false)=(c (x/2,rl T (x/2)),false);rw[cn _ _ h1,lo _ h1 o_]
  .rw[if_neg e,if_neg e];change((x/2,0),true)=(c (x/2,0),true);rw[cn _ _ h1]
 .rw[sa,sb0];show⟨_,_,mt,.inl ⟨rfl,?_⟩⟩;change(c (p,rl T p),false)=_;rw[cp,if_pos rfl]
 .rw[sb,sa0];show⟨_,_,mt,.inr ⟨by rw[b1],?_⟩⟩;change(c (p,0),true)=_;rw[cp];unfold beh
  dsimp only
  rw[lnn];by_cases e:0=rl T p
  .rw[if_pos e,if_pos ⟨PT,o_⟩]
  .rw[if_neg e,if_neg (λz=>o_)]
 .rw[sa];show w1
 .rw[sb,<-b1,ex_ (Fo_ w1).1];show w1
 .rw[a6_ I',a6_ I,Ap_,Ak_];show Or.comm
theorem LI.start(hT:∀k,T.getD k []=[])(PT:P<=T.length)(mt:α->Int×Int):LI T P (λx=>((x/2:Nat):Int)) mt:=by
 have fl:∀v,v∉T.flatten:=λv hv=>by obtain⟨r,hr,h⟩:=Bm_.mp hv;obtain⟨k,hk,rfl⟩:=Ax_.mp hr;have:=hT k;rw[Ag_,Aa_ hk]at this;have e:T[k]=[]:=this;rw[e]at h;cases h
 have rl0:∀k,rl T k=0:=λk=>gM_ (hT k);have tw:Tw T:=λv hv=>absurd hv (fl v)
 let o:Nat->Nat:=λx=>if x%2=0 then x+1 else x-1
 have lnp:∀x,x<2*P->LnP T P x [stt T x] (o x)/\wiL T P [stt T x]=[]:=λx hx=>by
  have wn:wr T P (stt T x)=none:=by
   unfold stt;split
   .unfold wr;rw[if_neg s_]
    dsimp only
    rw[rl0,if_pos rfl,if_neg o_]
   .change wi T (x/2,0)=none;rw[Fu_ (hT _)];rfl
  have ol:o x<2*P:=by change(if x%2=0 then x+1 else x-1)<2*P;split <;> lia
  have et:tn (stt T x)=stt T (o x):=by
   unfold stt;change tn _=if(if x%2=0 then x+1 else x-1)%2=0 then _ else _;by_cases e:x%2=0
   .rw[if_pos e,if_pos e,if_neg o_,rl0];change((x/2,0),true)=(((o x)/2,0),true);rw[show o x/2=x/2 by change(if x%2=0 then x+1 else x-1)/2=_;rw[if_pos e];lia]
   .rw[if_neg e,if_neg e,if_pos o_,rl0];change((x/2,0),false)=(((o x)/2,0),false);rw[show o x/2=x/2 by change(if x%2=0 then x+1 else x-1)/2=_;rw[if_neg e];lia]
  show⟨⟨⟨λi a b ha hb=>by simp at hb,rfl,λz hz=>?_⟩,ol,stt T x,rfl,et⟩,?_⟩
  .have:z=stt T x:=by simpa using hz.symm
   rw[this];show wn
  .unfold wiL;simp[wn]
 have oh:∀x,o x/2=x/2:=λx=>by change(if x%2=0 then x+1 else x-1)/2=_;split <;> lia
 show⟨tw,λx hx=>?_,λx y l z hx hy k e=>?_,λv hv=>absurd hv (fl v),λv hv=>absurd hv (fl v),λv hv=>absurd hv (fl v)⟩
 .obtain⟨h1,h2⟩:=lnp x hx;show⟨_,_,h1,by rw[oh],by rw[h2];show AY_,λv=>?_⟩;rw[h2];show⟨λz=>(by cases z),λz=>absurd z.1 (fl v)⟩
 .obtain⟨_,ez⟩:=k.one tw (lnp x hx).1;have e':x/2=y/2:=by exact_mod_cast e
  rw[ez];change y=x\/y=if x%2=0 then x+1 else x-1;split <;> lia
theorem n9_{r:List α}{t k:Nat}(ht:t<=r.length)(hk:k<r.length):(r.drop t++r.take t)[if t<=k then k-t else k+r.length-t]?=r[k]?:=by
 by_cases c:t<=k
 .rw[if_pos c,Ao_ (by rw[By_];lia),List.getElem?_drop,show t+(k-t)=k by lia]
 .rw[if_neg c,Ay_ (by rw[By_];lia),By_,show k+r.length-t-(r.length-t)=k by lia,DF_ o_]
theorem l9_{π tr:Nat->Nat}(hpo:∀i,i<P->T'.getD i []=T.getD i [])(hin:∀i,P<=i->i<T.length->P<=π i/\tr i<rl T i/\T'.getD (π i) []=(T.getD i []).drop (tr i)++(T.getD i []).take (tr i))(inj:∀i j,P<=i->i<T.length->P<=j->j<T.length->π i=π j->i=j):∃φ,Sim T T' P φ/\∀x,x<2*P->stt T' x=φ (stt T x):=by
 let ro:Nat->Nat->Nat:=λi k=>if tr i<=k then k-tr i else k+rl T i-tr i
 let c:Nat×Nat->Nat×Nat:=λe=>if e.1<P then e else(π e.1,ro e.1 e.2)
 have cp:∀i k,i<P->c (i,k)=(i,k):=λi k h=>if_pos h;have cn:∀i k,¬ i<P->c (i,k)=(π i,ro i k):=λi k h=>if_neg h;have lt_of:∀{i k:Nat},k<rl T i->i<T.length:=λ{i k} h=>by obtain⟨v,hv⟩:=d7_ (T:=T) (e:=(i,k)) h;show(Fo_ hv).2
 have lpo:∀i,i<P->rl T' i=rl T i:=λi h=>by unfold rl;rw[hpo i h]
 have lin:∀i,P<=i->i<T.length->rl T' (π i)=rl T i:=λi h1 h2=>by rw[gM_ (hin i h1 h2).2.2,Af_,By_,BI_];have:=(hin i h1 h2).2.1;unfold rl at this⊢;lia
 show⟨λs=>(c s.1,s.2),la_ ?_ ?_ ?_,λx hx=>?_⟩
 .rintro⟨i,k⟩ ⟨j,l⟩ hk hl h
  dsimp only at hk hl
  have il:=lt_of hk;have jl:=lt_of hl;by_cases h1:i<P <;> by_cases h2:j<P
  .rw[cp _ _ h1,cp _ _ h2]at h;show h
  .rw[cp _ _ h1,cn _ _ h2]at h;have:=congrArg Prod.fst h;have:=(hin j o_ jl).1
   dsimp only at*
   lia
  .rw[cn _ _ h1,cp _ _ h2]at h;have:=congrArg Prod.fst h;have:=(hin i o_ il).1
   dsimp only at*
   lia
  .rw[cn _ _ h1,cn _ _ h2]at h;have e:=inj i j o_ il o_ jl (congrArg Prod.fst h);subst e;have e2:ro i k=ro i l:=congrArg Prod.snd h;have t1:=(hin i o_ il).2.1;have:k=l:=by have e2':(if tr i<=k then k-tr i else k+rl T i-tr i)=(if tr i<=l then l-tr i else l+rl T i-tr i):=e2;split at e2' <;> split at e2' <;> lia
   rw[this]
 .rintro⟨i,k⟩ v h;have h':(T.getD i [])[k]?=some v:=h;have hk:k<rl T i:=(Ad_.mp h').1;have il:=lt_of hk;by_cases h1:i<P
  .rw[cp _ _ h1,Fu_ (hpo i h1)];show h'
  .rw[cn _ _ h1,Fu_ (hin i o_ il).2.2];have:=n9_ (r:=T.getD i []) (t:=tr i) (k:=k) (AV_ (hin i o_ il).2.1) hk;show this.trans h'
 .rintro⟨i,k⟩ hk
  dsimp only at hk
  have il:=lt_of hk;by_cases h1:i<P
  .rw[cp _ _ h1];unfold beh
   dsimp only
   rw[if_neg (λz=>o_),if_neg (λz=>o_),cp _ _ h1]
  .rw[cn _ _ h1];obtain⟨g1,g2,g3⟩:=hin i o_ il;have g4:=lin i o_ il;unfold beh
   dsimp only
   rw[g4];have rk:ro i k=if tr i<=k then k-tr i else k+rl T i-tr i:=rfl;by_cases e1:k+1=rl T i
   .rw[if_pos (show P<=i/\k+1=rl T i from⟨o_,e1⟩),cn _ _ h1];have r0:ro i 0=if tr i<=0 then 0-tr i else 0+rl T i-tr i:=rfl;by_cases e2:tr i=0
    .rw[if_pos ⟨g1,by rw[rk,if_pos o_];lia⟩,r0,if_pos o_,e2]
    .rw[if_neg (λz=>by have:=z.2;rw[rk,if_pos o_]at this;lia),r0,if_neg o_,rk,if_pos o_];congr 1;lia
   .rw[if_neg (show ¬ (P<=i/\k+1=rl T i)from λz=>e1 z.2),cn _ _ h1];have r1:ro i (k+1)=if tr i<=k+1 then k+1-tr i else k+1+rl T i-tr i:=rfl;by_cases e2:tr i<=k
    .rw[if_neg (λz=>by have:=z.2;rw[rk,if_pos e2]at this;lia),r1,if_pos o_,rk,if_pos e2];congr 1;lia
    .by_cases e3:tr i=k+1
     .rw[if_pos ⟨g1,by rw[rk,if_neg e2];lia⟩,r1,if_pos o_];congr 1;lia
     .rw[if_neg (λz=>by have:=z.2;rw[rk,if_neg e2]at this;lia),r1,if_neg o_,rk,if_neg e2];congr 1;lia
 .unfold stt;by_cases e:x%2=0
  .rw[if_pos e,if_pos e];change((x/2,rl T' (x/2)),false)=(c (x/2,rl T (x/2)),false);rw[cp _ _ o_,lpo _ o_]
  .rw[if_neg e,if_neg e];change((x/2,0),true)=(c (x/2,0),true);rw[cp _ _ o_]
end
section
variable {T:List (List S)}{m:Nat}{ws:List S}
theorem lc_(I:Fs_ T.length m (λk=>T.getD k []) ws)(nd:ws.Nodup):T.flatten.Perm (ws++ws):=by
 rw[List.perm_iff_count];intro v;rw[B6_];by_cases h:v∈ws
 .rw[gc_ I v ((a6_ I v).mpr h)];have h1:=B9_.mp nd v;have h2:=AM_.mpr h;lia
 .rw[Cm_.mpr λz=>h ((a6_ I v).mp z),Cm_.mpr h]
structure Jm_(T:List (List S))(m:Nat)(ps:List S)(nm:Nat->S)(dn:List Nat)(tr:Nat->List S):Prop where
 mn:m<=T.length
 m0:0<m
 ninj:∀a b,a<T.length->b<T.length->nm a=nm b->a=b
 pl:ps.length=m
 pat:∀j,j<m->ps[j]?=some (nm j)
 pm:dn.Perm (List.range T.length)
 rot:∀k,k<T.length->∃t,t<=(T.getD k []).length/\tr k=(T.getD k []).drop t++(T.getD k []).take t/\(k<m->t=0)/\(m<=k->t<(T.getD k []).length)
variable {ps:List S}{nm:Nat->S}{dn:List Nat}{tr:Nat->List S}{wl:List (S×(Int×Int))}
theorem Jm_.net(h:Jm_ T m ps nm dn tr)(I:Fs_ T.length m (λk=>T.getD k []) ws)(nd:ws.Nodup)(few:T.length<=22)(m6:m<=6)(w15:ws.length<=15)(wl15:wl.length<=15):E0_ ⟨ps,dn.map λk=>(nm k,tr k),wl⟩/\ES_ ⟨ps,dn.map λk=>(nm k,tr k),wl⟩:=by
 have dlt:∀k,k∈dn↔k<T.length:=λk=>h.pm.mem_iff.trans AU_;have dnd:dn.Nodup:=h.pm.nodup_iff.mpr CE_
 have pw:∀(l:List Nat),(∀k∈l,k<T.length)->((l.map tr).flatten).Perm ((l.map λk=>T.getD k []).flatten):=λl=>by
  induction l with
  |nil=>show λ_=>.refl _
  |cons k l ih =>intro hl;rw[Aw_,Aw_,AJ_,AJ_];obtain⟨t,_,e,_⟩:=h.rot k (hl k Au_);show List.Perm.append ?_ (ih λj hj=>hl j (Am_ _ hj));rw[e];show C2_.trans (by rw[Bo_])
 have al:(Net.all (⟨ps,dn.map λk=>(nm k,tr k),wl⟩:Net S)).Perm (ws++ws):=by unfold Net.all;change(((dn.map λk=>(nm k,tr k)).map (·.2)).flatten).Perm _;rw[AP_];show(pw dn λk hk=>(dlt k).mp hk).trans (List.Perm.trans ?_ (lc_ I nd));show(dw_ (h.pm.map λk=>T.getD k [])).trans ?_;rw[gE_]
 have names:(dn.map λk=>(nm k,tr k)).map (·.1)=dn.map nm:=by rw[AP_];rfl
 show⟨⟨?_,λx hx=>?_,?_,?_,by change ps.length<=6;rw[h.pl];show m6,wl15⟩,⟨?_,λp hp=>?_,by change 0<ps.length;rw[h.pl];show h.m0⟩⟩
 .change((dn.map λk=>(nm k,tr k)).map (·.1)).Nodup;rw[names];show BQ_.mpr (DP_ (λ{a b} ha hb ne e=>ne (h.ninj a b ((dlt a).mp ha) ((dlt b).mp hb) e)) dnd)
 .rw[al.count_eq,B6_];have hx':=al.mem_iff.mp hx;have h1:=B9_.mp nd x;have h2:=AM_.mpr (show x∈ws by rcases Ap_.mp hx' with z|z <;> show z);lia
 .change(dn.map _).length<=22;rw[Ab_,h.pm.length_eq,B4_];show few
 .rw[al.length_eq,Af_];lia
 .change ps.Nodup;have mn:=h.mn;rw[B3_,Bv_];intro i j hi hj hij e;have hpl:=h.pl;have e1:=h.pat i o_;have e2:=h.pat j o_;rw[Aa_ hi]at e1;rw[Aa_ hj]at e2;have:=h.ninj i j o_ o_ ((Ar_ e1).symm.trans (e.trans (Ar_ e2)));lia
 .obtain⟨j,hj,ej⟩:=Ax_.mp hp;have hj':j<m:=by rw[<-h.pl];show hj
  have e1:=h.pat j hj';rw[Aa_ hj,ej]at e1;have mn:=h.mn;change p∈(dn.map λk=>(nm k,tr k)).map (·.1);rw[names,Ar_ e1];show An_.mpr ⟨j,(dlt j).mpr o_,rfl⟩
theorem Jm_.lines(h:Jm_ T m ps nm dn tr)(ok:E0_ (⟨ps,dn.map λk=>(nm k,tr k),wl⟩:Net S))(po:ES_ (⟨ps,dn.map λk=>(nm k,tr k),wl⟩:Net S))(I:Fs_ T.length m (λk=>T.getD k []) ws){at_:Nat->Int}{mt:S->Int×Int}(li:LI T m at_ mt):LI (trn (⟨ps,dn.map λk=>(nm k,tr k),wl⟩:Net S)) m at_ mt:=by
 have mn:=h.mn;have dlt:∀k,k∈dn↔k<T.length:=λk=>h.pm.mem_iff.trans AU_;have row:∀k,k<T.length->F6_ (⟨ps,dn.map λk=>(nm k,tr k),wl⟩:Net S) (nm k)=tr k:=λk hk=>b4_ ok (r:=(nm k,tr k)) (An_.mpr ⟨k,(dlt k).mpr hk,rfl⟩);have inp:∀k,k<T.length->nm k∈pts (⟨ps,dn.map λk=>(nm k,tr k),wl⟩:Net S):=λk hk=>(c9_ po).mpr (by change nm k∈(dn.map λk=>(nm k,tr k)).map (·.1);rw[AP_];show An_.mpr ⟨k,(dlt k).mpr hk,rfl⟩);generalize hN:(⟨ps,dn.map λk=>(nm k,tr k),wl⟩:Net S)=N at*;have np:N.posts=ps:=by rw[<-hN]
 have tat:∀{p k:Nat},(pts N)[p]?=some (nm k)->k<T.length->(trn N).getD p []=tr k:=λhp hk=>by rw[e8_ hp,row _ hk]
 have ppo:∀i,i<m->(pts N)[i]?=some (nm i):=λi hi=>by unfold pts;rw[Ao_ (by rw[np,h.pl];show hi),np];show h.pat i hi
 obtain⟨φ,sim,st⟩:=l9_ (T:=T) (T':=trn N) (P:=m) (π:=λi=>pid N (nm i)) (tr:=λi=>if hi:i<T.length then(h.rot i hi).choose else 0) (λi hi=>by
  obtain⟨t,t1,t2,t3,_⟩:=h.rot i o_;rw[tat (ppo i hi) o_,t2,t3 hi];simp) (λi h1 h2=>by
  have sp:=(h.rot i h2).choose_spec;show⟨?_,?_,?_⟩
  .show Ck_.mp λz=>?_;have e1:=ppo _ z;have e2:=fs_ (inp i h2);rw[e1]at e2;have:=h.ninj _ i o_ h2 (Ar_ e2);lia
  .simp only[dif_pos h2];show sp.2.2.2 h1
  .simp only[dif_pos h2];rw[tat (fs_ (inp i h2)) h2];show sp.2.1) (λi j h1 h2 h3 h4 e=>by
  have e1:=fs_ (inp i h2);have e2:=fs_ (inp j h4);rw[show pid N (nm i)=pid N (nm j)from e,e2]at e1;show(h.ninj j i h4 h2 (Ar_ e1)).symm)
 show li.turn sim (fr_ ok po) st λv=>?_;rw[Bm_,Bm_];constructor
 .rintro⟨r,hr,hv⟩;obtain⟨x,hx,rfl⟩:=An_.mp hr;have hx':=(c9_ po).mp hx;rw[<-hN]at hx';obtain⟨q,hq,rfl⟩:=An_.mp hx';obtain⟨k,hk,rfl⟩:=An_.mp hq;have hk':=(dlt k).mp hk;have hv':v∈tr k:=by rw[<-row k hk'];show hv
  obtain⟨t,_,e,_⟩:=h.rot k hk';rw[e]at hv'
  have hv2:v∈T.getD k []:=by
   rcases Ap_.mp hv' with z|z
   .show List.drop_subset _ _ z
   .show List.take_subset _ _ z
  rw[Ag_,Aa_ hk']at hv2;show⟨_,Bn_ hk',hv2⟩
 .rintro⟨r,hr,hv⟩;obtain⟨k,hk,rfl⟩:=Ax_.mp hr;show⟨F6_ N (nm k),An_.mpr ⟨nm k,inp k hk,rfl⟩,?_⟩;rw[row k hk];obtain⟨t,_,e,_⟩:=h.rot k hk;rw[e];have hv2:v∈(T.getD k []).take t++(T.getD k []).drop t:=by rw[Bo_,Ag_,Aa_ hk];show hv
  rcases Ap_.mp hv2 with z|z
  .show AO_ _ z
  .show AN_ _ z
end
end RimT
namespace L2
open PySem PySem.Spec PyProof.Rows PySem.W
def IN_:R2:=λx y H Q=>∃b,x=.bl b/\y=.bl true/\Q (.bl (!b)) H
theorem ld_{X:Cx}:OpR X (compareOp .IsNot) IN_:=by intro pins s σ H x y v u Q I rx ry h;obtain⟨b,rfl,rfl,q⟩:=h;cases rx;cases ry;show wpAny_isNot_plain (by cases b <;> rfl) ⟨.bl (!b),H,I,?_,q⟩;cases b <;> rfl
end L2
namespace Rim41
open PySem PySem.Spec PyProof.Rows L2 RimM
variable{p:List Value->Prop}
theorem byL1(h:∀a,p [a])(us:List Value)(e:us.length=1):p us:=by obtain⟨a,rfl⟩:=Cq_.mp e;show h a
theorem byLc{n:Nat}(h:∀a,∀us:List Value,us.length=n->p (a::us))(us:List Value)(e:us.length=n+1):p us:=by
 cases us with
 |nil=>cases e
 |cons a us=>show h a us (EJ_ e)
theorem byL2(h:∀a b,p [a,b]):∀us:List Value,us.length=2->p us:=byLc λa=>byL1 (h a)
theorem byL3(h:∀a b c,p [a,b,c]):∀us:List Value,us.length=3->p us:=byLc λa=>byL2 (h a)
theorem byL4(h:∀a b c d,p [a,b,c,d]):∀us:List Value,us.length=4->p us:=byLc λa=>byL3 (h a)
theorem jS_:Gg_ "int"=True:=eq_true (.inl rfl)
theorem iN_:Gg_ "bool"=True:=eq_true (.inr (.inl rfl))
theorem hZ_:Gg_ "tuple"=True:=eq_true (.inr (.inr (.inl rfl)))
theorem iO_:Gg_ "list"=True:=eq_true (.inr (.inr (.inr (.inl rfl))))
theorem jT_:Gg_ "str"=True:=eq_true (.inr (.inr (.inr (.inr rfl))))
theorem ma_{x y:Int}(hx:0<=x)(hy:0<y):Int.gcd y (x%y)=Int.gcd x y:=by obtain⟨m,rfl⟩:=DW_ hx;obtain⟨n,rfl⟩:=DW_ (Int.le_of_lt hy);change Int.gcd (n:Int) ((m:Int)%(n:Int))=Int.gcd (m:Int) (n:Int);rw[<-Int.natCast_emod,DX_,DX_,Nat.gcd_comm n,<-Nat.gcd_rec,Nat.gcd_comm]
local macro_rules | `(tactic|walk_at "s2")=>`(tactic|simp only[Km_,Jc_,Gl_,JQ_,J2_,Hk_,JS_,Jb_,tC,tCB,tOp,rI,rI0,IG_,Kf_,IQ_,JZ_,H6_,tB,Kb_,tOr,J6_,IC_,IJ_,rU,tUn,tBM,HO_,L2.start,Iv_,ID_,IO_,rEq,scal,tyV,Jg_,Iy_,Kd_,List.map_cons,List.map_nil,List.length_cons,List.length_nil,List.replicate,List.cons_append,List.nil_append,List.append_nil,List.set_cons_zero,List.set_cons_succ,List.getElem?_cons_zero,List.getElem?_cons_succ,Option.some.injEq,List.cons.injEq,V.int.injEq,V.bl.injEq,V.str.injEq,V.ref.injEq,V.ty.injEq,HO.tup.injEq,HO.lst.injEq,exists_eq_left,exists_eq_left',exists_and_left,and_assoc,and_true,true_and,aa_,Fy_,FA_,Ho_,Nat.zero_add,Nat.reduceAdd,Nat.reduceSub,decide_eq_true_eq,Bool.not_eq_true',decide_eq_false_iff_not,reduceCtorEq,false_or,or_false,true_or,or_true,jS_,hZ_,iO_,Bool.false_eq_true,if_false,if_true,Bool.not_false,Bool.not_true,Bool.not_not,Kk_,IK_,JV_,IL_,Kj_,H7_,HG_,pick,Ja_,JT_,IR_,J5_,HJ_,List.map,Option.bind,Jw_,tSl,JY_,IS_,GN_,IW_,J3_,GJ_,IU_,IB_,It_,J8_,IX_,iDT,tIf,GT_,HT_,HR_,Iz_,HE_,Hz_,GM_,Kh_,Hb_,GS_,Iw_,J1_,KE_,HV_,HM_,GK_,IH_,iDV,rIn,GO_,IF_,Iu_,Kg_,KN_,Kc_,Ka_,J7_,HH_,Ke_,Il_,HX_,m1_,nO_,Jy_,KI_,Kl_,Jk_,Jt_,rNe,Jx_,Jn_,iN_,jT_,mP_,KK_,KH_,Jv_,Jd_,iDK,HS_,Hc_,Jq_])
local macro_rules | `(tactic|walk_at "s1")=>`(tactic|first|(dsimp only[Km_,Jc_,Gl_,JQ_,J2_,Hk_,JS_,Jb_,tC,tCB,tOp,rI,rI0,IG_,Kf_,IQ_,JZ_,H6_,tB,Kb_,tOr,J6_,IC_,IJ_,rU,tUn,tBM,HO_,L2.start,Iv_,ID_,IO_,rEq,Jg_,Iy_,Kd_,List.map_cons,List.map_nil,List.length_cons,List.length_nil,List.replicate,List.cons_append,List.nil_append,List.set_cons_zero,List.set_cons_succ,List.getElem?_cons_zero,List.getElem?_cons_succ,Kk_,IK_,JV_,IL_,Kj_,H7_,HG_,pick,Ja_,JT_,IR_,J5_,HJ_,List.map,Jw_,tSl,JY_,IS_,GN_,IW_,J3_,GJ_,IU_,IB_,It_,J8_,IX_,iDT,tIf,GT_,HT_,HR_,Iz_,HE_,Hz_,GM_,Kh_,Hb_,GS_,Iw_,J1_,KE_,HV_,HM_,GK_,IH_,iDV,rIn,GO_,IF_,Iu_,Kg_,KN_,Kc_,Ka_,J7_,HH_,Ke_,Il_,HX_,Jy_,KI_,Kl_,Jk_,Jt_,rNe,Jx_,Jn_,KK_,KH_,Jv_,Jd_,iDK,HS_,Hc_,Jq_];try walk_at "s2")|walk_at "s2")
local macro_rules | `(tactic|walk_at "bx")=>`(tactic|first|(show na_ ?_;intro _ _)|show n1_ (by assumption) ?_|show Ku_ (by assumption) ?_)
local macro_rules | `(tactic|walk_at "rd")=>`(tactic|((first|walk_at "s1" | (walk_at "bx";try walk_at "s1"));repeat (walk_at "bx";try walk_at "s1")))
local macro_rules | `(tactic|nofun)=>`(tactic|walk_at "rd")
structure Txt(K:PySem.W.Frag)(mg:Str->Option Value):Prop where
 n_abs:mg "abs"=none
 n_len:mg "len"=none
 n_range:mg "range"=none
 n_list:mg "list"=none
 n_isinstance:mg "isinstance"=none
 n_int:mg "int"=none
 n_bool:mg "bool"=none
 n_tuple:mg "tuple"=none
 n_str:mg "str"=none
 n_enumerate:mg "enumerate"=none
 n_sorted:mg "sorted"=none
 n_min:mg "min"=none
 n_max:mg "max"=none
 n_dict:mg "dict"=none
 n_ValueError:mg "ValueError"=none
 n_set:mg "set"=none
 n_reversed:mg "reversed"=none
variable {P:Program}{w:World}{K:PySem.W.Frag}{mg:Str->Option Value}{base:Heap}
theorem mb_{b:Int}(h:b≠0):Builtin.Int.intBits b=b.natAbs.log2+1:=by unfold Builtin.Int.intBits;simp[h]
theorem gN_{g b:Int}(h0:g≠0)(h1:g.natAbs<=b.natAbs)(hb:Builtin.Int.intBits b<=8000):g.natAbs.log2<9000:=by have h:=Dc_ (a:=g) (b:=b) (n:=8000) h1 hb;rw[mb_ h0]at h;lia
structure ZL(N P:List Str)(sc:Scope):Prop extends EY_ N P sc where
 loc:∀x∈N,sc.names.lookup x=some .local
structure ZM(N P:List Str)(sc:Scope):Prop extends EY_ N P sc where
 loc:∀x∈N,sc.names.lookup x=some .local\/sc.names.lookup x=some .cell
variable{X:Cx}{x:Str}{pos:Pos}{p0:List Str}
theorem zv(i:Nat)(h:ZL X.N p0 X.env.scope)(hN:X.N[i]?=some x:=by rfl)(hd:(x == ("__debug__" : Str))=false:=by decide)(hcd:(x == ("__classdict__" : Str))=false:=by decide):PE X (.Name x pos) (Jb_ i):=mr_ hN (.inl (h.loc x (List.mem_of_getElem? hN))) hd hcd
theorem zw(i:Nat)(h:ZM X.N p0 X.env.scope)(hN:X.N[i]?=some x:=by rfl)(hd:(x == ("__debug__" : Str))=false:=by decide)(hcd:(x == ("__classdict__" : Str))=false:=by decide):PE X (.Name x pos) (Jb_ i):=mr_ hN ((h.loc x (List.mem_of_getElem? hN)).elim .inl λz=>.inr (.inl z)) hd hcd
theorem zh(i:Nat)(h:ZL X.N p0 X.env.scope)(hi:X.N[i]?=some x:=by rfl):PG X (.Name x pos) (Gl_ i):=ai_ h.nd hi (h.loc x (List.mem_of_getElem? hi))
theorem zas{e:Expr}{te:TE}(i:Nat){pos':Pos}(h:ZL X.N p0 X.env.scope)(he:PE X e te)(hi:X.N[i]?=some x:=by rfl)(hs:Hx_ e=false:=by rfl):PS X (.Assign [.Name x pos'] e pos) (Jc_ te (Gl_ i)):=af_ h.nd hi (h.loc x (List.mem_of_getElem? hi)) he hs
theorem zL{N P:List Str}{sc:Scope}(a:sc.kind=.function:=by rfl)(b:sc.isCoroutine=false:=by rfl)(c:sc.isGenerator=false:=by rfl)(d:N.Nodup:=by rfl')(e:N.take P.length=P:=by rfl)(f:∀x∈P,sc.names.lookup x=some .local\/sc.names.lookup x=some .cell:=by rfl')(g:∀y∈sc.names,y.2≠.free:=by rfl')(l:∀x∈N,sc.names.lookup x=some .local:=by rfl'):ZL N P sc:=⟨⟨a,b,c,d,e,f,g⟩,l⟩
theorem zM{N P:List Str}{sc:Scope}(a:sc.kind=.function:=by rfl)(b:sc.isCoroutine=false:=by rfl)(c:sc.isGenerator=false:=by rfl)(d:N.Nodup:=by rfl')(e:N.take P.length=P:=by rfl)(f:∀x∈P,sc.names.lookup x=some .local\/sc.names.lookup x=some .cell:=by rfl')(g:∀y∈sc.names,y.2≠.free:=by rfl')(l:∀x∈N,sc.names.lookup x=some .local\/sc.names.lookup x=some .cell:=by rfl'):ZM N P sc:=⟨⟨a,b,c,d,e,f,g⟩,l⟩
abbrev LK(s:Stmt)(x:Str)(k:NameKind):Prop:=(EO_ s).names.lookup x=some k
abbrev stN(i:Nat):Stmt:=PySem.Challenge.pw_rimread_k41_lean_nets_stay.main.body.getD i (.Pass ⟨0,0,0,0⟩)
abbrev Fw_:Stmt:=stN 83
theorem iP_:ZL ["_law_script","_law_k"] ["_law_script","_law_k"] (EO_ Fw_):=zL
theorem gd_:LK Fw_ "len" .globalImplicit:=r_
def Hv_(K:PySem.W.Frag):Sp:=λvs H Q _=>∃(a:Addr)(ns:List Int)(i:Int),vs=[.ref a,.int i]/\SqL K H a (ns.map V.int)/\0<=i/\∀z,Q (.int z) H
theorem iQ_(T:Txt K mg)(F:Fn0 K mg "_law_cell_at" Fw_):Cal P w K mg base "_law_cell_at" ["_law_script","_law_k"] 1 (Hv_ K):=by
  show aY_ F iP_.1 λf cdv A outer s H vs Q E hr h=>?_;obtain⟨a,ns,i,rfl,hS,h0,k⟩:=h;refine'⟨_,?D,?R⟩
  case D =>
   refine' ac_ ?a (ah_ (aF_ ad_))
   case' a=>refine' FH_ (aG_ JD_ (zv 1 iP_) (as_ fo_ gd_ T.n_len cb_ (pa_c (zv 0 iP_) ab_)) (Fc_ _)) (ah_ (aF_ (EU_ (lS_ (K:=K) rfl) (zv 0 iP_) (zv 1 iP_)))) a4_
  case R =>
   nofun;show⟨_,.inl hS,?_⟩;rw[Ab_];show ite2 (λhl=>?_) (λhl=>?_)
   .show⟨a,_,i,V.int (ns.getD i.toNat 0),rfl,rfl,hS,fp_ h0 ?_,k _⟩;have:i.toNat<ns.length:=o_
    simp[Ae_,this,List.getD]
   .show k 0
abbrev FC_:Stmt:=stN 84
theorem dB_:ZL ["_law_script","_law_at","_law_by","_law_prime","_law_cell","_law_big_here","_law_k","_law_one"] ["_law_script","_law_at"] (EO_ FC_):=zL
theorem do_:LK FC_ "_law_cell_at" .globalImplicit:=r_
theorem hh_:LK FC_ "range" .globalImplicit:=r_
def Im_(K:PySem.W.Frag):Sp:=λvs H Q _=>∃(a:Addr)(ns:List Int)(j:Int),vs=[.ref a,.int j]/\0<=j/\SqL K H a (ns.map V.int)/\∀z H',EL_ H H'->Q (.int z) H'
theorem Jz_{a0 a1 a2 a3 a4 a5 a6 a7:Int}(i:Int)(h0:0<=i)(h1:i<8)(P:Int->Prop)(p0:P a0)(p1:P a1)(p2:P a2)(p3:P a3)(p4:P a4)(p5:P a5)(p6:P a6)(p7:P a7):
  ∃v,atI [V.int a0,.int a1,.int a2,.int a3,.int a4,.int a5,.int a6,.int a7] i=some (.int v)/\P v:=by
 have:i=0\/i=1\/i=2\/i=3\/i=4\/i=5\/i=6\/i=7:=o_
 rcases this with rfl|rfl|rfl|rfl|rfl|rfl|rfl|rfl
 .show⟨_,rfl,p0⟩
 .show⟨_,rfl,p1⟩
 .show⟨_,rfl,p2⟩
 .show⟨_,rfl,p3⟩
 .show⟨_,rfl,p4⟩
 .show⟨_,rfl,p5⟩
 .show⟨_,rfl,p6⟩
 .show⟨_,rfl,p7⟩
theorem nk_(T:Txt K mg)(F:Fn0 K mg "_law_big" FC_) (Gi_:Cal P w K mg base "_law_cell_at" ["_law_script","_law_k"] 1 (Hv_ K)):Cal P w K mg base "_law_big" ["_law_script","_law_at"] 2 (Im_ K):=by
  show aY_ F dB_.1 λf cdv A outer s H vs Q E hr h=>?_;obtain⟨a,ns,j,rfl,hj,hS,k⟩:=h;refine'⟨_,?D,?R⟩
  case D =>
   refine' ac_ (zas 2 dB_ (ap_ ?a)) ?b
   case' a=>refine' pa_c ad_ (pa_c ad_ (pa_c ad_ (pa_c ad_ (pa_c ad_ (pa_c ad_ (pa_c ad_ (pa_c ad_ ab_)))))))
   case' b=>refine' ac_ (zas 3 dB_ (ap_ ?c)) (ac_ (zas 4 dB_ (ao_ Gi_ (hr.mono d_) do_ (pa_c (zv 0 dB_) (pa_c (zv 1 dB_) ab_)))) ?d)
   case' c=>refine' pa_c ad_ (pa_c ad_ (pa_c ad_ (pa_c ad_ (pa_c ad_ (pa_c ad_ (pa_c ad_ (pa_c ad_ ab_)))))))
   case' d=>refine' ac_ (FH_ (aG_ Kx_ (zv 4 dB_) (EQ_ kc_ ad_ ad_) (Fc_ _)) (ah_ (aF_ (zv 4 dB_))) a4_) ?e
   case' e=>refine' ac_ (zas 5 dB_ ad_) (ac_ (bq_ AI_ rfl (bS_ hh_ T.n_range (pa_c ad_ ab_)) ?f ?g) (ah_ (aF_ (zv 5 dB_))))
   case f=>show zh 6 dB_
   case' g=>refine' ac_ (zas 7 dB_ (EQ_ a5_ ?h (EQ_ fn_ (zv 6 dB_) (zv 6 dB_)))) (ah_ (zas 5 dB_ (EQ_ a5_ (EQ_ fn_ (zv 5 dB_) ad_) ?i)))
   case' h=>refine' EQ_ a5_ (EQ_ aN_ (ao_ Gi_ (hr.mono d_) do_ (pa_c (zv 0 dB_) (pa_c (EQ_ a5_ (zv 1 dB_) (EQ_ aN_ (zv 6 dB_) ad_)) ab_))) (EQ_ kc_ ad_ ad_)) ad_
   case' i=>refine' EQ_ aN_ (EQ_ aN_ (EQ_ fn_ (zv 7 dB_) (EU_ ak_ (zv 2 dB_) (EQ_ aN_ (zv 6 dB_) ad_))) (EU_ ak_ (zv 3 dB_) (EQ_ aN_ (zv 6 dB_) ad_))) ad_
  case R =>
   nofun;show⟨d_,λp hp=>⟨d_,λq hq=>?_⟩⟩;generalize e1:upd H p (HO.tup _)=H1 at hq⊢;have s1:EL_ H H1:=e1▸EL_.new hp;have p1:H1 p=some (.tup _):=e1▸aa_;generalize e2:upd H1 q (HO.tup _)=H2;have s2:EL_ H1 H2:=e2▸EL_.new hq;have q2:H2 q=some (.tup _):=e2▸aa_;have p2:=s2 _ _ p1;have sS:EL_ H H2:=s1.trans s2;clear e1 e2;show⟨a,ns,j,rfl,sS.seq hS,hj,λz=>?_⟩;nofun;show⟨d_,d_,d_,?_⟩;show ite2 (λ_=>k _ _ sS) (λ_=>⟨d_,d_,?_⟩);show er_ (λi σ H'=>H'=H2/\∃(b:Int)(v6 v7:Option V),σ=[some (V.ref a),some (V.int j),some (V.ref p),some (V.ref q),some (V.int z),some (V.int b),v6,v7]) ⟨rfl,0,none,none,rfl⟩ ?_ ?_
   .rintro i σ H' hi ⟨rfl,b,v6,v7,rfl⟩;have hi':i<60:=hi;nofun;have m9:=A2_ (0+(i:Int)) (show(9:Int)≠0 by decide);show⟨d_,a,ns,_,rfl,sS.seq hS,o_,λy=>?_⟩;nofun;show⟨d_,d_,d_,d_,.inl ⟨o_,o_⟩,.inr ⟨d_,d_⟩,d_,?_⟩;have m8:=A2_ (0+(i:Int)) (show(8:Int)≠0 by decide);have l8:=AZ_ (0+(i:Int)) (show(0:Int)<8 by decide);obtain⟨v,hv,v0,v1⟩:=Jz_ (a0:=48271) (a1:=69621) (a2:=16807) (a3:=39373) (a4:=21401) (a5:=60493) (a6:=87721) (a7:=31337) ((0+(i:Int))%8) m8 l8 (λv=>0<v/\v<100000) d_ d_ d_ d_ d_ d_ d_ d_;obtain⟨u,hu,u0,u1⟩:=Jz_ (a0:=99991) (a1:=99989) (a2:=99971) (a3:=99961) (a4:=99929) (a5:=99923) (a6:=99907) (a7:=99901) ((0+(i:Int))%8) m8 l8 (λv=>0<v/\v<100000) d_ d_ d_ d_ d_ d_ d_ d_;simp only[p2,q2,Option.some.injEq,HO.tup.injEq,exists_eq_left'];simp only[hv,hu];nofun;show⟨.inr ⟨o_,o_⟩,d_,u0,d_,_,rfl⟩
   .rintro σ H' ⟨rfl,b,v6,v7,rfl⟩;nofun;show k _ _ sS
def dF(p:Int×Int):Dt:=.tup [.int p.1,.int p.2]
theorem oa_{H:Hp}{v:V}{p:Int×Int}(h:Rep H v (dF p)):∃q,v=.ref q/\H q=some (.tup [.int p.1,.int p.2]):=by obtain⟨q,xs,e,hq,x,r,e1,hx,y,r',e2,hy,e3⟩:=h;cases hx;cases hy;subst e1 e2 e3;show⟨q,e,hq⟩
abbrev F3_:Stmt:=stN 86
theorem iR_:ZL ["_law_top","_law_bottom","_law_one","_law_other"] ["_law_top","_law_bottom"] (EO_ F3_):=zL
theorem dC_:LK F3_ "_law_one" .local:=r_
theorem dD_:LK F3_ "_law_other" .local:=r_
theorem iS_:LK F3_ "abs" .globalImplicit:=r_
def Ip_:Sp:=λvs H Q _=>∃t b:Int,vs=[.int t,.int b]/\0<b/\Builtin.Int.intBits b<=8000/\∀p H',EL_ H H'->Rep (GA_ H H') (.ref p) (dF (nf t b))->Q (.ref p) H'
theorem nl_(T:Txt K mg)(F:Fn0 K mg "_law_low" F3_):Cal P w K mg base "_law_low" ["_law_top","_law_bottom"] 1 Ip_:=by
  show aY_ F iR_.1 λf cdv A outer s H vs Q E hr h=>?_;obtain⟨a,b,rfl,hb,lb,k⟩:=h;refine'⟨_,?D,?R⟩
  case D =>
   refine' ac_ (i6_ (i:=2) (j:=3) rfl iR_.nd rfl rfl d_ dC_ dD_ (pa_c (as_ lJ_ iS_ T.n_abs nP_ (pa_c (zv 0 iR_) ab_)) (pa_c (zv 1 iR_) ab_)) rfl) ?a
   case' a=>refine' ac_ (ep_ AI_ (aG_ JA_ (zv 3 iR_) ad_ (Fc_ _)) (ah_ (i6_ (i:=2) (j:=3) rfl iR_.nd rfl rfl d_ dC_ dD_ (pa_c (zv 3 iR_) (pa_c (EQ_ aN_ (zv 2 iR_) (zv 3 iR_)) ab_)) rfl))) ?b
   case' b=>refine' ah_ (aF_ (ap_ (pa_c (EQ_ aq_ (zv 0 iR_) (zv 2 iR_)) (pa_c (EQ_ aq_ (zv 1 iR_) (zv 2 iR_)) ab_))))
  case R =>
   nofun
   show fJ_ (λσ H1=>∃(x y:Int),σ=[some (.int a),some (.int b),some (.int x),some (.int y)]/\H1=H/\0<=x/\0<=y/\Int.gcd x y=Int.gcd a b)
    (λσ _=>match σ with | [_,_,_,some (.int y)]=>y.toNat|_=>0) ?_ ?_
   .show⟨_,_,rfl,rfl,?_,o_,?_⟩
    .split <;> lia
    .split
     .rw[Int.neg_gcd]
     .rfl
   .rintro σ H1 ⟨x,y,rfl,rfl,hx,hy,e⟩;nofun;show ite2 (λhne=>?_) (λhe=>?_)
    .show⟨_,N_ok,?_⟩;nofun;have h1:=A2_ x (show y≠0 by lia);have h2:=AZ_ x hne;show⟨hne,hy,h1,(ma_ hx hne).trans e,o_⟩
    .have hy0:y=0:=o_
     have hx':x=(Int.gcd a b:Nat):=by rw[<-e,hy0,Int.gcd_zero_right];lia
     have g0:=gpos (t:=a) (b:=b) o_;have hl:=gN_ (g:=(Int.gcd a b:Int)) (b:=b) o_ (Nat.le_of_dvd o_ (Int.natAbs_dvd_natAbs.mpr (Int.gcd_dvd_right ..))) lb;subst hx';show⟨g0,hl,g0,hl,d_,λp hp=>k p _ (EL_.new hp) ⟨p,_,rfl,?_,_,_,rfl,rfl,_,_,rfl,rfl,rfl⟩⟩;rw[e6_ hp,aa_,n6_ hb]
abbrev Fe_:Stmt:=stN 87
theorem bV_:ZL ["_law_big_here","_law_most","_law_top","_law_bottom"] ["_law_big_here"] (EO_ Fe_):=zL
theorem fe_:LK Fe_ "_law_low" .globalImplicit:=r_
def He_:Sp:=λvs H Q _=>∃z:Int,vs=[.int z]/\∀(p q:Addr) H' (t b y:Int),EL_ H H'->H p=none->H q=none->0<t->0<b->H' p=some (.tup [.ref q,.int y])->H' q=some (.tup [.int (nf t b).1,.int (nf t b).2])->Q (.ref p) H'
theorem h7_(T:Txt K mg)(F:Fn0 K mg "_law_worth_of" Fe_) (JL_:Cal P w K mg base "_law_low" ["_law_top","_law_bottom"] 1 Ip_):Cal P w K mg base "_law_worth_of" ["_law_big_here"] 2 He_:=by
  show aY_ F bV_.1 λf cdv A outer s H vs Q E hr h=>?_;obtain⟨z,rfl,k⟩:=h;refine'⟨_,?D,?R⟩
  case D =>
   refine' ac_ (zas 1 bV_ ad_) (ac_ ?a (ac_ (zas 2 bV_ (EQ_ a5_ ad_ (EQ_ aN_ (EQ_ aq_ (zv 0 bV_) ad_) (zv 1 bV_)))) ?b))
   case' a=>refine' es_ (FH_ (aG_ GD_ (EQ_ aN_ (zv 0 bV_) ad_) ad_ (Fc_ _)) (ah_ (zas 1 bV_ ad_)) a4_)
   case' b=>refine' ac_ ?c (ah_ (aF_ (ap_ ?d)))
   case' c=>refine' zas 3 bV_ (EQ_ a5_ ad_ (EQ_ aN_ (EQ_ aq_ (EQ_ aq_ (zv 0 bV_) ad_) (zv 1 bV_)) (zv 1 bV_)))
   case' d=>refine' pa_c (ao_ JL_ (hr.mono d_) fe_ (pa_c (zv 2 bV_) (pa_c (zv 3 bV_) ab_))) (pa_c (EQ_ aq_ (EQ_ aq_ (EQ_ aq_ (zv 0 bV_) ad_) (zv 1 bV_)) (zv 1 bV_)) ab_)
  case R =>
   nofun;show⟨λσ H1=>∃m:Int,σ=[some (.int z),some (.int m),none,none]/\H=H1/\0<m/\m<=1000,?_,?_⟩
   .nofun;show⟨d_,ite2 (λ_=>⟨d_,d_⟩) (λ_=>⟨d_,d_⟩)⟩
   rintro σ H1 ⟨m,rfl,rfl,m0,m1⟩;nofun;have ml:m.natAbs.log2<9000:=gN_ (g:=m) (b:=1000) o_ o_ d_;have t0:=A2_ (z/16) (show m≠0 by lia);have b0:=A2_ (z/16/m) (show m≠0 by lia);have b1:=AZ_ (z/16/m) m0;show⟨d_,d_,m0,d_,d_,m0,ml,m0,_,_,rfl,o_,Dc_ (b:=1000) o_ d_,λq H1 s1 r1=>?_⟩;obtain⟨q',eq,hq⟩:=oa_ r1;cases eq;obtain⟨q0,q1⟩:=bZ_ hq;show⟨d_,d_,m0,ml,m0,ml,d_,λp hp=>k p q _ _ _ _ (s1.trans (EL_.new hp)) (s1.free hp) q0 o_ o_ aa_ (EL_.new hp _ _ q1)⟩
open RimT
def sgs:List Nat:=(Str.ofString "abcdefghijklmnopqrstuvwxyz0123456789").cps.toList
theorem le_:sgs.length=36:=r_
theorem ob_:sgs.Nodup:=r_
def sg(i:Nat):Nat:=sgs.getD i 0
variable{i:Nat}
theorem I3_(h:i<36):sgs[i]?=some (sg i):=by unfold sg;rw[Ag_,Aa_ (by rw[le_];show h)];rfl
theorem oc_{j:Nat}(hi:i<36)(hj:j<36)(h:sg i=sg j):i=j:=(AQ_ (by rw[le_];show hi) ob_).mp (by rw[I3_ hi,I3_ hj,h])
theorem mK_{z:Int}(h0:0<=z)(h1:z<36):atI sgs z=some (sg z.toNat):=fp_ h0 (I3_ o_)
def one(c:Nat):Str:=⟨#[c]⟩
theorem mc_(a b:Str):(a++b).cps.toList=a.cps.toList++b.cps.toList:=by change(a.cps++b.cps).toList=_;simp
theorem md_{f:Nat->Str}{n:Nat}(h:∀a b,a<n->b<n->f a=f b->a=b):((List.range n).map f).Nodup:=by unfold List.Nodup;rw[BQ_];show DP_ (λ{a b} ha hb ne e=>ne (h a b (AU_.mp ha) (AU_.mp hb) e)) CE_
theorem mul_one{c:Nat}:∀m:Nat,1<=m->m<=8->MulOk (one c) (m:Int)/\Txt.mul (one c) (m:Int)=⟨(List.replicate m c).toArray⟩
 |0,h,_=>absurd h d_
 |1,_,_=>⟨⟨d_,λ_ h=>absurd h s_,λ_ h=>absurd h s_⟩,rfl⟩
 |2,_,_=>⟨⟨d_,λ_ _=>(by change ¬ ((1:Int) > _);decide),λ_ _=>(by change Builtin.Str.tooLong 2=false;decide +kernel)⟩,rfl⟩
 |3,_,_=>⟨⟨d_,λ_ _=>(by change ¬ ((1:Int) > _);decide),λ_ _=>(by change Builtin.Str.tooLong 3=false;decide +kernel)⟩,rfl⟩
 |4,_,_=>⟨⟨d_,λ_ _=>(by change ¬ ((1:Int) > _);decide),λ_ _=>(by change Builtin.Str.tooLong 4=false;decide +kernel)⟩,rfl⟩
 |5,_,_=>⟨⟨d_,λ_ _=>(by change ¬ ((1:Int) > _);decide),λ_ _=>(by change Builtin.Str.tooLong 5=false;decide +kernel)⟩,rfl⟩
 |6,_,_=>⟨⟨d_,λ_ _=>(by change ¬ ((1:Int) > _);decide),λ_ _=>(by change Builtin.Str.tooLong 6=false;decide +kernel)⟩,rfl⟩
 |7,_,_=>⟨⟨d_,λ_ _=>(by change ¬ ((1:Int) > _);decide),λ_ _=>(by change Builtin.Str.tooLong 7=false;decide +kernel)⟩,rfl⟩
 |8,_,_=>⟨⟨d_,λ_ _=>(by change ¬ ((1:Int) > _);decide),λ_ _=>(by change Builtin.Str.tooLong 8=false;decide +kernel)⟩,rfl⟩
 |m+9,_,h=>absurd h o_
theorem bf_{H:Hp}:∀(ts:List Str),Fk_ H (ts.map V.str) (ts.map Dt.str)
 |[]=>rfl
 |t::ts=>⟨_,_,rfl,rfl,bf_ ts⟩
theorem hi_{H:Hp}:∀{us:List V}{ts:List Str},Fk_ H us (ts.map Dt.str)->us=ts.map V.str
 |us,[],h=>h
 |us,n::ns,⟨x,r,e,hx,hr⟩=>by
  cases hx;rw[e,hi_ hr];rfl
variable{B H:Hp}
theorem me_{D:Addr}{ts:List Str}(hB:B D=none)(h:H D=some (.lst (ts.map V.str))):Rep (GA_ B H) (.ref D) (.lst (ts.map Dt.str)):=⟨D,_,rfl,by rw[e6_ hB];show h,bf_ ts⟩
def sgI(z:Int):Nat:=sg (z%36).toNat
theorem lf_{a b:Int}(h:sgI a=sgI b):a%36=b%36:=by have a0:=A2_ a (show(36:Int)≠0 by decide);have a1:=AZ_ a (show(0:Int)<36 by decide);have b0:=A2_ b (show(36:Int)≠0 by decide);have b1:=AZ_ b (show(0:Int)<36 by decide);have:=oc_ o_ o_ h;lia
def nm1(t c spot:Int)(k:Nat)(v:Int):Str:=⟨((List.range k).map λ(i:Nat)=>sgI (t+(i:Int)*c+if(i:Int)=spot then v else 0)).toArray⟩
theorem nm_{t c:Int}{spot k a b:Nat}(hs:spot<k)(ha:a<36)(hb:b<36)(h:nm1 t c spot k a=nm1 t c spot k b):a=b:=by have e:=congrArg (λs:Str=>s.cps.toList[spot]?) h;simp only[nm1,Ae_,CF_ hs,Ch_,if_true]at e;have:=lf_ (Ar_ e);lia
theorem nn_(t c spot:Int)(k:Nat)(v:Int):(nm1 t c spot k v).length=k:=by change((List.range k).map _).toArray.size=k;simp
theorem mf_(t c spot:Int)(k:Nat)(v:Int):nm1 t c spot k v++one (sgI (t+(k:Int)*c+if(k:Int)=spot then v else 0))=nm1 t c spot (k+1) v:=by apply k0_;rw[mc_];change((List.range k).map _).toArray.toList++_=((List.range (k+1)).map _).toArray.toList;rw[D0_,Aq_];rfl
def nm2(t:Int)(v:Nat):Str:=⟨(List.replicate (1+v%8) (sgI (t+((v/8:Nat):Int)))).toArray⟩
theorem no_{t:Int}{a b:Nat}(ha:a<200)(hb:b<200)(h:nm2 t a=nm2 t b):a=b:=by have e:=congrArg (λs:Str=>s.cps.toList) h;have e':List.replicate (1+a%8) (sgI (t+((a/8:Nat):Int)))=List.replicate (1+b%8) (sgI (t+((b/8:Nat):Int))):=e;have len:=congrArg List.length e';rw[Cu_,Cu_]at len;have hd:=congrArg (λl:List Nat=>l[0]?) e';simp only[DS_]at hd;rw[if_pos o_,if_pos o_]at hd;have:=lf_ (Ar_ hd);lia
abbrev Fd_:Stmt:=stN 85
theorem a0_:ZL ["_law_stem","_law_many","_law_signs","_law_size","_law_spot","_law_names_here","_law_v","_law_name","_law_k","_law_turn"] ["_law_stem","_law_many"] (EO_ Fd_):=zL
theorem dE_:LK Fd_ "range" .globalImplicit:=r_
def G8_:Sp:=λvs H Q _=>∃(z:Int)(n:Nat),vs=[.int z,.int n]/\n<=30/\∀D (nms:List Str) H',EL_ H H'->Rep (GA_ H H') (.ref D) (.lst (nms.map Dt.str))->nms.length=n->nms.Nodup->Q (.ref D) H'
theorem lg_(T:Txt K mg)(F:Fn0 K mg "_law_names" Fd_):Cal P w K mg base "_law_names" ["_law_stem","_law_many"] 1 G8_:=by
  show aY_ F a0_.1 λf cdv A outer s H vs Q E hr h=>?_;obtain⟨z,n,rfl,n30,k⟩:=h;refine'⟨_,?D,?R⟩
  case D =>
   refine' ac_ (zas 2 a0_ gB_) (ac_ (zas 3 a0_ (EQ_ a5_ ad_ (EQ_ aN_ (zv 0 a0_) ad_))) ?a)
   case' a=>refine' ac_ (zas 4 a0_ (EQ_ aN_ (EQ_ aq_ (zv 0 a0_) ad_) (zv 3 a0_))) (ac_ (zas 5 a0_ (bx_ ab_)) ?b)
   case' b=>refine' ac_ (bq_ AI_ rfl (bS_ dE_ T.n_range (pa_c (zv 1 a0_) ab_)) ?c ?d) (ah_ (aF_ (zv 5 a0_)))
   case c=>show zh 6 a0_
   case' d=>refine' ac_ (zas 7 a0_ gB_) (ac_ (bq_ AI_ rfl (bS_ dE_ T.n_range (pa_c (zv 3 a0_) ab_)) ?e ?f) ?g)
   case e=>show zh 8 a0_
   case' f=>refine' ac_ (zas 9 a0_ (EQ_ a5_ (EQ_ aq_ (zv 0 a0_) ad_) (EQ_ fn_ (zv 8 a0_) (EQ_ aN_ (EQ_ aq_ (zv 0 a0_) ad_) ad_)))) ?h
   case' h=>refine' ac_ ?i (ah_ (zas 7 a0_ (EQ_ jF_ (zv 7 a0_) (EU_ my_ (zv 2 a0_) (EQ_ aN_ (zv 9 a0_) ad_)))))
   case' i=>refine' es_ (FH_ (aG_ GD_ (zv 8 a0_) (zv 4 a0_) (Fc_ _)) (ah_ (zas 9 a0_ (EQ_ a5_ (zv 9 a0_) (zv 6 a0_)))) a4_)
   case' g=>refine' ac_ ?j (ah_ (au_ (Ft_ AA_ AC_ AD_ aw_ (zv 5 a0_) (pa_c (zv 7 a0_) ab_))))
   case' j=>refine' es_ (FH_ (aG_ GD_ (EQ_ aN_ (zv 0 a0_) ad_) ad_ (Fc_ _)) (ah_ (zas 7 a0_ ?k)) a4_)
   case' k=>refine' EQ_ jK_ (EU_ my_ (zv 2 a0_) (EQ_ aN_ (EQ_ a5_ (EQ_ aq_ (zv 0 a0_) ad_) (EQ_ aq_ (zv 6 a0_) ad_)) ad_)) (EQ_ a5_ ad_ (EQ_ aN_ (zv 6 a0_) ad_))
  case R =>
   nofun;have m8:=A2_ z (show(8:Int)≠0 by decide);have l8:=AZ_ z (show(0:Int)<8 by decide);show⟨d_,d_,r_,o_,AB_ _,λp np=>⟨o_,o_,?_⟩⟩;have sz:100000<=sizeLine:=by rw[BL_];decide
   have sl:(Str.ofString "abcdefghijklmnopqrstuvwxyz0123456789").length<=sizeLine:=AT_ r_ sz;have e1:∀c,(one c).length=1:=λ_=>rfl;have sp0:=A2_ (z/8) (show 1+z%8≠0 by lia);have sp1:=AZ_ (z/8) (show 0<1+z%8 by lia);obtain⟨size,hsize,s8⟩:∃m:Nat,1+z%8=m/\m<=8:=⟨(1+z%8).toNat,o_,o_⟩;rw[hsize]at sp0 sp1⊢;obtain⟨spot,hspot,spl⟩:∃m:Nat,z/8%(size:Int)=m/\m<size:=⟨(z/8%(size:Int)).toNat,o_,o_⟩;rw[hspot,show Int.toNat (n:Int)=n by lia];clear sp0 sp1 hspot;have H1s:EL_ H (upd H p (HO.lst [])):=EL_.new np;show er_ (λi σ H3=>∃(e6 e7 e8 e9:Option V),σ=[some (.int z),some (.int n),some (.str (Str.ofString "abcdefghijklmnopqrstuvwxyz0123456789")),some (.int size),some (.int spot),some (.ref p),e6,e7,e8,e9]/\EL_ H H3/\H3 p=some (.lst (((List.range i).map λv=>if z%3=2 then nm2 (z/64) v else nm1 (z/64) (z/7%5) spot size v).map V.str))) ⟨_,_,_,_,rfl,H1s,aa_⟩ ?_ ?_
   .rintro i σ H3 hi ⟨e6,e7,e8,e9,rfl,s3,hp3⟩;have hi':i<n:=hi;nofun;show⟨o_,o_,?_⟩;rw[show Int.toNat (size:Int)=size by lia];show er_ (λj σ H4=>∃(e8 e9:Option V),σ=[some (.int z),some (.int n),some (.str (Str.ofString "abcdefghijklmnopqrstuvwxyz0123456789")),some (.int size),some (.int spot),some (.ref p),some (.int (0+(i:Int))),some (.str (nm1 (z/64) (z/7%5) spot j i)),e8,e9]/\H3=H4) ⟨_,_,rfl,rfl⟩ ?_ ?_
    .rintro j σ H4 hj ⟨e8,e9,rfl,rfl⟩;have hj':j<size:=hj;nofun;show⟨d_,d_,d_,d_,d_,.inl ⟨o_,o_⟩,λσ H4=>σ=[some (.int z),some (.int n),some (.str (Str.ofString "abcdefghijklmnopqrstuvwxyz0123456789")),some (.int size),some (.int spot),some (.ref p),some (.int (0+(i:Int))),some (.str (nm1 (z/64) (z/7%5) spot j i)),some (.int (0+(j:Int))),some (.int (z/64+(j:Int)*(z/7%5)+if(j:Int)=spot then(i:Int)else 0))]/\H3=H4,?_,?_⟩
     .nofun;show ite2 (λh=>?_) (λh=>?_)
      .rw[if_pos (show(j:Int)=spot by lia),CM_,CM_]
      .rw[if_neg (show ¬ (j:Int)=spot by lia),CM_,Int.add_zero]
     .rintro σ H4 ⟨rfl,rfl⟩;nofun;generalize e36:(z/64+(j:Int)*(z/7%5)+if(j:Int)=spot then(i:Int)else 0)=y;have m36:=A2_ y (show(36:Int)≠0 by decide);have l36:=AZ_ y (show(0:Int)<36 by decide);show⟨d_,sl,_,mK_ m36 l36,?_⟩;have e2:(⟨#[sg (y%36).toNat]⟩:Str).length=1:=rfl;have e3:=nn_ (z/64) (z/7%5) spot j i;show⟨o_,?_,_,rfl⟩;rw[<-mf_,e36];rfl
    .rintro σ H4 ⟨e8,e9,rfl,rfl⟩;nofun;show⟨λσ H4=>∃e8 e9:Option V,σ=[some (.int z),some (.int n),some (.str (Str.ofString "abcdefghijklmnopqrstuvwxyz0123456789")),some (.int size),some (.int spot),some (.ref p),some (.int (0+(i:Int))),some (.str (if z%3=2 then nm2 (z/64) i else nm1 (z/64) (z/7%5) spot size i)),e8,e9]/\H3=H4,?_,?_⟩
     .nofun;show⟨d_,ite2 (λh=>?_) (λh=>?_)⟩
      .rw[if_pos h];have eq8:(0+(i:Int))/8=((i/8:Nat):Int):=o_
       have eM:(1:Int)+(0+(i:Int))%8=((1+i%8:Nat):Int):=o_
       rw[eq8,eM];have m36:=A2_ (z/64+((i/8:Nat):Int)) (show(36:Int)≠0 by decide);have l36:=AZ_ (z/64+((i/8:Nat):Int)) (show(0:Int)<36 by decide);obtain⟨mo,me⟩:=mul_one (c:=sgI (z/64+((i/8:Nat):Int))) (1+i%8) o_ o_;show⟨d_,d_,d_,d_,d_,sl,_,mK_ m36 l36,d_,mo,me,_,rfl⟩
      .rw[if_neg h];show⟨rfl,_,rfl⟩
     .rintro σ H4 ⟨e8,e9,rfl,rfl⟩;nofun;show⟨.inl ⟨_,.inl (.inl hp3)⟩,_,hp3,EN_ (by simp;lia),λb o hb=>?_,?_⟩
      .rw[ae_ (ag_ hb np)];show s3 _ _ hb
      .rw[D0_,Aq_,Aq_];rfl
   .rintro σ H3 ⟨e6,e7,e8,e9,rfl,s3,hp3⟩;nofun;show k p _ H3 s3 (me_ np hp3) s_ (md_ λa b ha hb e=>?_);by_cases c:z%3=2
    .rw[if_pos c,if_pos c]at e;show no_ o_ o_ e
    .rw[if_neg c,if_neg c]at e;show nm_ spl o_ o_ e
theorem un1{n c:Nat}(h:n+64<c):n+1<c:=o_
def FR_(acc:List (Str×List Str))(ls:List Addr):List (Key×V):=List.zipWith (λkv l=>(Sum.inr kv.1,V.ref l)) acc ls
structure DL(S H:Hp)(d:Addr)(ls:List Addr)(acc:List (Str×List Str)):Prop where
 dict:H d=some (.dK (FR_ acc ls))
 len:ls.length=acc.length
 nd:ls.Nodup
 dn:d∉ls
 lst:∀(i:Nat)(l:Addr)(kv:Str×List Str),ls[i]?=some l->acc[i]?=some kv->H l=some (.lst (kv.2.map V.str))
 keys:(acc.map Prod.fst).Nodup
 sH:EL_ S H
 fd:S d=none
 fl:∀l∈ls,S l=none
variable{S H':Hp}{d:Addr}{ls:List Addr}{acc:List (Str×List Str)}
theorem DL.mono(h:DL S H d ls acc)(s:EL_ H H'):DL S H' d ls acc :=
 ⟨s _ _ h.dict,h.len,h.nd,h.dn,λi l kv h1 h2=>s _ _ (h.lst i l kv h1 h2),h.keys,h.sH.trans s,h.fd,h.fl⟩
theorem hj_(h:ls.length=acc.length):(FR_ acc ls).length=acc.length:=by unfold FR_;rw[EE_];lia
theorem mL_:∀{acc:List (Str×List Str)}{ls:List Addr}{i:Nat}{kv:Str×List Str}{l:Addr},(acc.map Prod.fst).Nodup->acc[i]?=some kv->ls[i]?=some l->Fl_ (FR_ acc ls) (.inr kv.1)=some (.ref l)
 |[],_,_,_,_,_,h,_=>by cases h
 |a::acc,[],_,_,_,_,_,h=>by cases h
 |a::acc,b::ls,0,kv,l,_,h1,h2=>by
  cases h1;cases h2;show aU_ rfl
 |a::acc,b::ls,i+1,kv,l,nd,h1,h2=>by
  have nd':=AG_.mp nd;have ih:=mL_ (acc:=acc) (ls:=ls) (i:=i) nd'.2 h1 h2;change Fl_ ((Sum.inr a.1,V.ref b)::FR_ acc ls) (.inr kv.1)=_;rw[aP_ (λz=>nd'.1 ?_)]
  .show ih
  .have e:a.1=kv.1:=Cn_ z;rw[e];show Dh_ (Ai_ h1)
theorem DL.at(h:DL S H d ls acc){kv:Str×List Str}(e:acc[i]?=some kv):∃l,ls[i]?=some l/\Fl_ (FR_ acc ls) (.inr kv.1)=some (.ref l)/\H l=some (.lst (kv.2.map V.str)):=by
 have hi:i<ls.length:=by rw[h.len];show(Ad_.mp e).1
 show⟨ls[i],Aa_ hi,mL_ h.keys e (Aa_ hi),h.lst i _ kv (Aa_ hi) e⟩
theorem h8_:∀r:List Str,deps (r.map Dt.str)=0
 |[]=>rfl
 |x::r=>by change max 0 (deps (r.map Dt.str))=0;rw[h8_ r];rfl
theorem jt_(r:List Str):dep (Dt.lst (r.map Dt.str))<=60:=by change deps _+1<=60;rw[h8_];decide
abbrev FP_:Stmt:=stN 88
theorem ff_:ZL ["_law_big_here","_law_many","_law_lists","_law_posts","_law_p","_law_q","_law_hops"] ["_law_big_here","_law_many","_law_lists","_law_posts"] (EO_ FP_):=zL
def Io_:Sp:=λvs H Q _=>∃(S:Hp)(z:Int)(m:Nat)(d pl:Addr)(ls:List Addr)(acc:List (Str×List Str))(ps:List Str),vs=[.int z,.int m,.ref d,.ref pl]/\0<m/\m<=6/\ps.length=m/\H pl=some (.lst (ps.map V.str))/\DL S H d ls acc /\
 (∀(i:Nat)(p:Str),ps[i]?=some p->∃r,acc[i]?=some (p,r))/\∀t (p q:Nat) H',EL_ H H'->H t=none->p<m->q<m->H' t=some (.tup [.int p,.int q])->Q (.ref t) H'
theorem np_(T:Txt K mg)(F:Fn0 K mg "_law_two" FP_):Cal P w K mg base "_law_two" ["_law_big_here","_law_many","_law_lists","_law_posts"] 1 Io_:=by
  show aY_ F ff_.1 λf cdv A outer s H vs Q E hr h=>?_;obtain⟨S,z,m,d,pl,ls,acc,ps,rfl,m0,m6,hps,hpl,hD,hacc,k⟩:=h;refine'⟨_,?D,?R⟩
  case D =>
   refine' ac_ (zas 4 ff_ (EQ_ aN_ (zv 0 ff_) (zv 1 ff_))) (ac_ (FH_ (aG_ GD_ (EQ_ aN_ (EQ_ aq_ (zv 0 ff_) (zv 1 ff_)) ad_) ad_ (Fc_ _)) ?a a4_) ?b)
   case' a=>refine' ah_ (aF_ (ap_ (pa_c (zv 4 ff_) (pa_c (zv 4 ff_) ab_))))
   case' b=>refine' ac_ (zas 5 ff_ (EQ_ aN_ (EQ_ a5_ (zv 4 ff_) ad_) (zv 1 ff_))) ?c
   case' c=>refine' ac_ (zas 6 ff_ (EQ_ aN_ (EQ_ aq_ (EQ_ aq_ (zv 0 ff_) (zv 1 ff_)) ad_) (zv 1 ff_))) ?d
   case' d=>refine' ac_ ?e (ah_ (aF_ (ap_ (pa_c (zv 4 ff_) (pa_c (zv 5 ff_) ab_)))))
   case' e=>refine' ep_ AI_ ?f (ac_ (zas 5 ff_ (EQ_ aN_ (EQ_ a5_ (zv 5 ff_) ad_) (zv 1 ff_))) (ah_ (zas 6 ff_ (EQ_ nH_ (zv 6 ff_) ad_))))
   case' f=>refine' PW.pt (i5_ (aG_ JA_ (zv 6 ff_) ad_ (Fc_ _)) (i5_ (aG_ (jb_ (hr.units)) (b0_ (un1 hr.units) (zv 2 ff_) (EU_ ay_ (zv 3 ff_) (zv 5 ff_))) (bx_ ab_) (Fc_ _)) ?g))
   case' g=>refine' j4_ (aG_ I4_ (EQ_ aN_ (EQ_ a5_ (zv 5 ff_) ad_) (zv 1 ff_)) (zv 4 ff_) (Fc_ _))
  case R =>
   nofun;have ml:((m:Int)).natAbs.log2<9000:=gN_ (g:=(m:Int)) (b:=1000) o_ o_ d_;have modN:∀y:Int,∃p:Nat,y%(m:Int)=p/\p<m:=λy=>by have a:=A2_ y (show(m:Int)≠0 by lia);have b:=AZ_ y (show(0:Int)<m by lia);show⟨(y%(m:Int)).toNat,o_,o_⟩
   obtain⟨p,hp,pm⟩:=modN z;rw[hp];show⟨o_,o_,ml,d_,ite2 (λ_=>⟨d_,λt nt=>k t p p _ (EL_.new nt) nt pm pm aa_⟩) (λ_=>⟨o_,o_,ml,d_,d_,o_,?_⟩)⟩;obtain⟨q0,hq0,qm0⟩:=modN (p+1);obtain⟨h0,hh0,hm0⟩:=modN (z/m/3);rw[hq0,hh0]
   show fJ_ (λσ H1=>∃(q:Nat)(y:Int),σ=[some (.int z),some (.int m),some (.ref d),some (.ref pl),some (.int p),some (.int q),some (.int y)]/\EL_ H H1/\q<m)
    (λσ _=>match σ with | [_,_,_,_,_,_,some (.int y)]=>y.toNat|_=>0) ⟨_,_,rfl,EL_.refl _,qm0⟩ ?_
   rintro σ H1 ⟨q,y,rfl,s1,qm⟩;nofun;have fin:∀(H2:Hp),EL_ H H2->2<=sizeLine/\∀t,H2 t=none->Q (V.ref t) (upd H2 t (HO.tup [V.int p,V.int q])):=λH2 s2=>⟨d_,λt nt=>k t p q _ (s2.trans (EL_.new nt)) (s2.free nt) pm qm aa_⟩;show ite2 (λhy=>?_) (λ_=>fin H1 s1);have D1:=hD.mono s1;have hq:q<ps.length:=o_
   obtain⟨r,hr'⟩:=hacc q ps[q] (Aa_ hq);obtain⟨l,hl,hv,hrow⟩:=D1.at hr';show⟨_,s1 _ _ hpl,_,fp_ o_ (show(ps.map V.str)[(q:Int).toNat]?=some (.str ps[q]) by rw[A5_,Ae_,Aa_ hq];rfl),.ref l,hv▸FZ_.k (k:=.inr ps[q]) D1.dict,AB_ _,λt nt=>?_⟩;have s2:EL_ H1 (upd H1 t (HO.lst [])):=EL_.new nt;show⟨l,rfl,.lst (r.map Dt.str),⟨l,_,rfl,s2 _ _ hrow,bf_ r⟩,.lst [],⟨t,_,rfl,aa_,rfl⟩,decide (r=[]),?_,?_,?_⟩
   .cases r with
    |nil=>simp[deq,deqs]
    |cons x r=>simp[deq,deqs]
   .show jt_ r
   .show ite2 (λ_=>⟨o_,ite2 (λ_=>?_) (λ_=>fin _ (s1.trans s2))⟩) (λ_=>fin _ (s1.trans s2));obtain⟨q1,hq1,qm1⟩:=modN (q+1);rw[hq1];show⟨_,N_ok,o_,⟨q1,y-1,rfl,s1.trans s2,qm1⟩,show(y-1).toNat<y.toNat by lia⟩
theorem h9_{α:Type}{x:α}:∀{ls:List α}{i:Nat},ls.Nodup->x∉ls->(ls.set i x).Nodup
 |[],_,_,_=>AY_
 |a::ls,0,nd,h=>AG_.mpr ⟨λm=>h (Am_ _ m),(AG_.mp nd).2⟩
 |a::ls,i+1,nd,h=>by
  have nd2:=AG_.mp nd;show AG_.mpr ⟨λm=>?_,h9_ nd2.2 λm=>h (Am_ _ m)⟩
  rcases Ca_ m with m|m
  .show nd2.1 m
  .show h (by rw[m];show Au_)
def E3_(acc:List (Str×List Str))(i:Nat):Str:=(acc.getD i (Str.empty,[])).1
def E7_(acc:List (Str×List Str))(i:Nat):List Str:=(acc.getD i (Str.empty,[])).2
def Gj_(acc:List (Str×List Str))(i:Nat)(r:List Str):List (Str×List Str):=acc.set i (E3_ acc i,r)
theorem at_A(h:i<acc.length):acc[i]?=some (E3_ acc i,E7_ acc i):=by simp[E3_,E7_,List.getD,h]
theorem dM_(acc:List (Str×List Str))(i:Nat)(r:List Str):(Gj_ acc i r).length=acc.length:=by simp[Gj_]
theorem bF_(acc:List (Str×List Str))(i:Nat)(r:List Str):(Gj_ acc i r).map Prod.fst=acc.map Prod.fst:=by
 apply CB_
 .simp[Gj_]
 .intro j h1 h2;have hj:j<acc.length:=by simpa using h2
  by_cases e:i=j
  .subst e;simp[Gj_,E3_,List.getD,hj]
  .simp[Gj_,Df_ e]
theorem ia_(h:i<acc.length)(r:List Str):(Gj_ acc i r)[i]?=some (E3_ acc i,r):=by simp[Gj_,h]
theorem fg_{j:Nat}(h:i≠j)(r:List Str):(Gj_ acc i r)[j]?=acc[j]?:=by simp[Gj_,Bq_ h]
theorem fh_:∀{acc acc':List (Str×List Str)}(ls:List Addr),acc.map Prod.fst=acc'.map Prod.fst->FR_ acc ls=FR_ acc' ls
 |[],[],_,_=>rfl
 |[],_::_,_,h=>nomatch h
 |_::_,[],_,h=>nomatch h
 |a::acc,b::acc',[],_=>rfl
 |a::acc,b::acc',l::ls,h=>by have h':=Ez_ h;change(Sum.inr a.1,V.ref l)::FR_ acc ls=(Sum.inr b.1,V.ref l)::FR_ acc' ls;rw[show a.1=b.1 from h'.1,fh_ ls h'.2]
theorem fD_{n:Str}:∀{acc:List (Str×List Str)}{ls:List Addr},ls.length=acc.length->((FR_ acc ls).any λkv=>decide (kv.1=(Sum.inr n:Key)))=decide (n∈acc.map Prod.fst)
 |[],_,_=>by simp[FR_]
 |a::acc,[],h=>nomatch h
 |a::acc,l::ls,h=>by
  change((Sum.inr a.1,V.ref l)::FR_ acc ls).any _=_;rw[B2_,fD_ (acc:=acc) (ls:=ls) (by simpa using h)];simp only[Aw_,As_];by_cases e:n=a.1
  .subst e;simp
  .have e':¬ (a.1=n):=λz=>e z.symm;simp[e,e']
variable{r:List Str}
theorem nq_{n:Str}{x:Addr}(hl:ls.length=acc.length)(h:n∉acc.map Prod.fst):Fn_ (FR_ acc ls) (.inr n) (.ref x)=FR_ (acc++[(n,r)]) (ls++[x]):=by unfold Fn_;rw[fD_ hl,if_neg (by simpa using h)];unfold FR_;rw[EF_ hl.symm];rfl
theorem lj_{n:Str}{x:Addr}:∀{acc:List (Str×List Str)}{ls:List Addr}{i:Nat},ls.length=acc.length->i<acc.length->(acc.map Prod.fst).Nodup->n=E3_ acc i->(FR_ acc ls).map (λkv=>if kv.1=(Sum.inr n:Key)then(kv.1,V.ref x)else kv)=FR_ acc (ls.set i x)
 |[],_,_,_,h,_,_=>absurd h s_
 |a::acc,[],_,h,_,_,_=>nomatch h
 |a::acc,l::ls,0,hl,_,nd,e=>by
  have e0:n=a.1:=e;subst e0;have nd':=AG_.mp nd;change(if(Sum.inr a.1:Key)=Sum.inr a.1 then(Sum.inr a.1,V.ref x)else _)::(FR_ acc ls).map _=(Sum.inr a.1,V.ref x)::FR_ acc ls;rw[if_pos rfl];congr 1;show(A0_ λkv hkv=>?_).trans (Ef_ _);rw[if_neg]
  .rfl
  .intro z;have:((FR_ acc ls).any λkv=>decide (kv.1=(Sum.inr a.1:Key)))=true:=Ce_.mpr ⟨kv,hkv,A3_ z⟩;rw[fD_ (by simpa using hl)]at this;show nd'.1 (A6_ this)
 |a::acc,l::ls,i+1,hl,hi,nd,e=>by
  have nd':=AG_.mp nd;have hi':i<acc.length:=by simpa using hi
  have e':n=E3_ acc i:=e;have ne:¬ (Sum.inr a.1:Key)=Sum.inr n:=λz=>nd'.1 (by rw[Cn_ z,e'];have:=Dh_ (f:=Prod.fst) (Ai_ (at_A hi'));show this);change(if(Sum.inr a.1:Key)=Sum.inr n then _ else(Sum.inr a.1,V.ref l))::(FR_ acc ls).map _=(Sum.inr a.1,V.ref l)::FR_ acc (ls.set i x);rw[if_neg ne,lj_ (by simpa using hl) hi' nd'.2 e']
theorem nr_{x:Addr}(hl:ls.length=acc.length)(hi:i<acc.length)(nd:(acc.map Prod.fst).Nodup):Fn_ (FR_ acc ls) (.inr (E3_ acc i)) (.ref x)=FR_ acc (ls.set i x):=by unfold Fn_;rw[fD_ hl,if_pos (A3_ (Dh_ (f:=Prod.fst) (Ai_ (at_A hi)))),lj_ hl hi nd rfl]
theorem DL.mut(h:DL S H d ls acc){l:Addr}(hl:ls[i]?=some l)(r:List Str):DL S (upd H l (.lst (r.map V.str))) d ls (Gj_ acc i r):=by
 have hi:i<acc.length:=by rw[<-h.len];show(Ad_.mp hl).1
 have ml:=Ai_ hl;have ld:l≠d:=λe=>h.dn (e▸ml);show⟨by rw[ae_ ld.symm,h.dict,fh_ ls (bF_ acc i r).symm],by rw[dM_];show h.len,h.nd,h.dn,λj l' kv h1 h2=>?_,by rw[bF_];show h.keys,λb o hb=>?_,h.fd,h.fl⟩
 .by_cases e:i=j
  .subst e;rw[hl]at h1;cases h1;rw[ia_ hi]at h2;cases h2;show aa_
  .rw[fg_ e]at h2;have:l'≠l:=λz=>e (by subst z;show(AQ_ (Ad_.mp hl).1 h.nd).mp (by rw[hl,h1]));rw[ae_ this];show h.lst j l' kv h1 h2
 .rw[ae_ (λz=>by rw[z,h.fl l ml]at hb;cases hb)];show h.sH _ _ hb
theorem DL.putOld(h:DL S H d ls acc){x:Addr}(hi:i<acc.length)(hx:H x=some (.lst (r.map V.str)))(xl:x∉ls)(sx:S x=none):DL S (upd H d (.dK (Fn_ (FR_ acc ls) (.inr (E3_ acc i)) (.ref x)))) d (ls.set i x) (Gj_ acc i r):=by
 have xd:x≠d:=λe=>by rw[e,h.dict]at hx;cases hx
 have hi2:i<ls.length:=by rw[h.len];show hi
 show⟨by rw[aa_,nr_ h.len hi h.keys,fh_ _ (bF_ acc i r).symm],by rw[dM_,Cj_];show h.len,?_,?_,λj l' kv h1 h2=>?_,by rw[bF_];show h.keys,λb o hb=>?_,h.fd,λl hl=>?_⟩
 .show h9_ h.nd xl
 .intro m
  rcases Ca_ m with m|m
  .show h.dn m
  .show xd m.symm
 .have hj:j<ls.length:=by have:=(Ad_.mp h1).1;simpa using this
  by_cases e:i=j
  .subst e;rw[BX_ hj]at h1;cases h1;rw[ia_ hi]at h2;cases h2;rw[ae_ xd];show hx
  .rw[fg_ e]at h2;rw[Bq_ e]at h1;rw[ae_ (show l'≠d from λz=>h.dn (z▸Ai_ h1))];show h.lst j l' kv h1 h2
 .rw[ae_ (λz=>by rw[z,h.fd]at hb;cases hb)];show h.sH _ _ hb
 .rcases Ca_ hl with m|m
  .show h.fl l m
  .rw[m];show sx
theorem DL.putNew(h:DL S H d ls acc){n:Str}{x:Addr}(hn:n∉acc.map Prod.fst)(hx:H x=some (.lst (r.map V.str)))(xl:x∉ls)(sx:S x=none):DL S (upd H d (.dK (Fn_ (FR_ acc ls) (.inr n) (.ref x)))) d (ls++[x]) (acc++[(n,r)]):=by
 have xd:x≠d:=λe=>by rw[e,h.dict]at hx;cases hx
 show⟨by rw[aa_,nq_ h.len hn],by rw[Af_,Af_,h.len];rfl,?_,?_,λj l' kv h1 h2=>?_,?_,λb o hb=>?_,h.fd,λl hl=>?_⟩
 .show AS_.mpr ⟨h.nd,s_,λa ha b hb e=>xl (by rw[Ak_]at hb;rw[<-hb,<-e];show ha)⟩
 .intro m
  rcases Ap_.mp m with m|m
  .show h.dn m
  .show xd (Ak_.mp m).symm
 .by_cases e:j<ls.length
  .rw[Ao_ e]at h1;rw[Ao_ (by rw[<-h.len];show e)]at h2;rw[ae_ (show l'≠d from λz=>h.dn (z▸Ai_ h1))];show h.lst j l' kv h1 h2
  .rw[Ay_ o_]at h1;rw[Ay_ (by rw[<-h.len];lia),<-h.len]at h2;have j0:j-ls.length=0:=by have:=(Ad_.mp h1).1;simp at this;lia
   rw[j0]at h1 h2;cases h1;cases h2;rw[ae_ xd];show hx
 .rw[Aq_];show AS_.mpr ⟨h.keys,s_,λa ha b hb e=>hn (by simp at hb;rw[<-hb,<-e];show ha)⟩
 .rw[ae_ (λz=>by rw[z,h.fd]at hb;cases hb)];show h.sH _ _ hb
 .rcases Ap_.mp hl with m|m
  .show h.fl l m
  .rw[Ak_.mp m];show sx
theorem DL.notin(h:DL S H d ls acc){x:Addr}(nx:H x=none):x∉ls/\S x=none:=by show⟨λm=>?_,h.sH.free nx⟩;obtain⟨i,hi,ei⟩:=Ax_.mp m;have z:=h.lst i x (acc[i]'(by rw[<-h.len];show hi)) (by rw[Aa_ hi,ei]) (Aa_ _);rw[nx]at z;cases z
def grP(acc:List (Str×List Str))(p q:Nat)(w pt:Str):List (Str×List Str):=
 if p=q then Gj_ (acc++[(pt,w::E7_ acc p)]) p [w]else Gj_ (Gj_ acc p (w::E7_ acc p)) q (E7_ acc q++[w])
theorem byL5(h:∀a b c d e,p [a,b,c,d,e]):∀us:List Value,us.length=5->p us:=byLc λa=>byL4 (p:=λus=>p (a::us)) λb c d e=>h a b c d e
abbrev Fr_:Stmt:=stN 89
theorem gh_:ZL ["_law_lists","_law_posts","_law_pair","_law_wire","_law_point","_law_p","_law_q"] ["_law_lists","_law_posts","_law_pair","_law_wire","_law_point"] (EO_ Fr_):=zL
def Ha_:Sp:=λvs H Q _=>∃(S:Hp)(d pl t:Addr)(ls:List Addr)(acc:List (Str×List Str))(ps:List Str)(p q:Nat)(wr pt:Str),vs=[.ref d,.ref pl,.ref t,.str wr,.str pt]/\p<ps.length/\q<ps.length/\H pl=some (.lst (ps.map V.str))/\H t=some (.tup [.int p,.int q])/\S pl=some (.lst (ps.map V.str))/\DL S H d ls acc /\
 (∀(i:Nat)(x:Str),ps[i]?=some x->∃r,acc[i]?=some (x,r))/\pt∉acc.map Prod.fst/\acc.length<60/\(∀kv∈acc,kv.2.length<100)/\∀ls' H',DL S H' d ls' (grP acc p q wr pt)->(∀b o,b≠d->b∉ls->H b=some o->H' b=some o)->(∀l∈ls',l∈ls\/H l=none)->Q .non H'
theorem lk_(T:Txt K mg)(F:Fn0 K mg "_law_grown" Fr_):Cal P w K mg base "_law_grown" ["_law_lists","_law_posts","_law_pair","_law_wire","_law_point"] 1 Ha_:=by
  show aY_ F gh_.1 λf cdv A outer s H vs Q E hr h=>?_;obtain⟨S,d,pl,t,ls,acc,ps,p,q,wr,pt,rfl,pm,qm,hpl,ht,spl,hD,hacc,hpt,al,rl,k⟩:=h;refine'⟨_,?D,?R⟩
  case D =>
   refine' ac_ (j8_ (zv 2 gh_) (by_ (K:=K) (n:=2) rfl rfl (an_ ?a (an_ ?b bw_)))) (ah_ ?c)
   case a=>show zh 5 gh_
   case b=>show zh 6 gh_
   case' c=>refine' FH_ (aG_ GD_ (zv 5 gh_) (zv 6 gh_) (Fc_ _)) (ac_ ?d (ah_ (dx_ (un1 hr.units) (zv 0 gh_) (EU_ ay_ (zv 1 gh_) (zv 5 gh_)) (bx_ (pa_c (zv 3 gh_) ab_)) rfl))) ?e
   case' d=>refine' dx_ (un1 hr.units) (zv 0 gh_) (zv 4 gh_) (EQ_ hD_ (bx_ (pa_c (zv 3 gh_) ab_)) (b0_ (un1 hr.units) (zv 0 gh_) (EU_ ay_ (zv 1 gh_) (zv 5 gh_)))) rfl
   case' e=>refine' ac_ (au_ (Ft_ AA_ PySem.F.slot_list_insert PySem.F.type_list_insert kP_ (b0_ (un1 hr.units) (zv 0 gh_) (EU_ ay_ (zv 1 gh_) (zv 5 gh_))) (pa_c ad_ (pa_c (zv 3 gh_) ab_)))) ?f
   case' f=>refine' ah_ (au_ (Ft_ AA_ AC_ AD_ aw_ (b0_ (un1 hr.units) (zv 0 gh_) (EU_ ay_ (zv 1 gh_) (zv 6 gh_))) (pa_c (zv 3 gh_) ab_)))
  case R =>
   nofun;have at_:∀i (h:i<ps.length),i<acc.length/\E3_ acc i=ps[i]/\acc[i]?=some (ps[i],E7_ acc i):=λi h=>by obtain⟨r,hr'⟩:=hacc i ps[i] (Aa_ h);have hi:i<acc.length:=(Ad_.mp hr').1;have e:=at_A hi;rw[hr']at e;have e2:=Ar_ e;have e3:ps[i]=E3_ acc i:=congrArg Prod.fst e2;show⟨hi,e3.symm,by rw[e3];show at_A hi⟩
   have ps_at:∀i (h:i<ps.length),atI (ps.map V.str) (i:Int)=some (.str ps[i]):=λi h=>fp_ o_ (by rw[A5_,Ae_,Aa_ h];rfl);have rowl:∀i,i<acc.length->(E7_ acc i).length<100:=λi h=>rl _ (Ai_ (at_A h));obtain⟨pa,pn,pe⟩:=at_ p pm;obtain⟨qa,qn,qe⟩:=at_ q qm;obtain⟨l,hl,hv,hrow⟩:=hD.at pe;have hrow':H l=some (.lst ((E7_ acc p).map V.str)):=hrow;clear hrow;have rp:=rowl p pa;have rq:=rowl q qa;show⟨_,SqT.of ht,rfl,_,_,rfl,_,_,rfl,rfl,rfl,ite2 (λe=>?_) (λe=>?_)⟩
   .have pq:p=q:=by have:=V.int.inj e;lia
    show⟨d_,λx0 nx0=>?_⟩;have s0:EL_ H (upd H x0 (HO.lst [V.str wr])):=EL_.new nx0;have D0:=hD.mono s0;generalize upd H x0 (HO.lst [V.str wr])=H0 at*;show⟨_,_,rfl,s0 _ _ hpl,_,ps_at p pm,.ref l,hv▸FZ_.k (k:=.inr ps[p]) D0.dict,l,rfl,_,s0 _ _ hrow',by rw[Ab_,BL_];lia,λx1 nx1=>?_⟩;have s1:EL_ H0 (upd H0 x1 (HO.lst (V.str wr::(E7_ acc p).map V.str))):=EL_.new nx1;have D1:=D0.mono s1;have h1:(upd H0 x1 (HO.lst (V.str wr::(E7_ acc p).map V.str))) x1=some (.lst ((wr::E7_ acc p).map V.str)):=aa_;generalize upd H0 x1 (HO.lst (V.str wr::(E7_ acc p).map V.str))=H1 at*;have D2:=D1.putNew hpt h1 (D0.notin nx1).1 (D0.notin nx1).2;show⟨_,GP_.k (k:=.inr pt) D1.dict (by rw[hj_ hD.len,BL_];lia),d_,λx2 nx2=>?_⟩;have f2:∀b o,b≠d->b∉ls->H b=some o->(upd H1 d (HO.dK (Fn_ (FR_ acc ls) (.inr pt) (V.ref x1)))) b=some o:=λb o b1 b2 e=>by rw[ae_ b1];show s1 _ _ (s0 _ _ e)
    generalize upd H1 d (HO.dK (Fn_ (FR_ acc ls) (.inr pt) (V.ref x1)))=H2 at*;have s3:EL_ H2 (upd H2 x2 (HO.lst [V.str wr])):=EL_.new nx2;have D3:=D2.mono s3;have h3:(upd H2 x2 (HO.lst [V.str wr])) x2=some (.lst ([wr].map V.str)):=aa_;generalize upd H2 x2 (HO.lst [V.str wr])=H3 at*;have pa':p<(acc++[(pt,wr::E7_ acc p)]).length:=by simp;lia
    have pn':E3_ (acc++[(pt,wr::E7_ acc p)]) p=ps[p]:=by rw[<-pn];simp[E3_,List.getD,Ao_ pa]
    have D4:=D3.putOld pa' h3 (D2.notin nx2).1 (D2.notin nx2).2;rw[pn']at D4;show⟨_,_,rfl,D3.sH _ _ spl,_,ps_at p pm,_,GP_.k (k:=.inr ps[p]) D3.dict (by rw[hj_ D3.len,BL_];simp;lia),k ((ls++[x1]).set p x2) _ ?_ (λb o b1 b2 e=>?_) λl' hl'=>?_⟩
    .rw[grP,if_pos pq];show D4
    .rw[ae_ b1];show s3 _ _ (f2 b o b1 b2 e)
    .rcases Ca_ hl' with mm|mm
     .rcases Ap_.mp mm with mm|mm
      .show .inl mm
      .rw[Ak_.mp mm];show .inr (s0.free nx1)
     .rw[mm];right;cases hx:H x2 with
      |none=>rfl
      |some o =>have n1:=(D2.notin nx2).1;have:=f2 x2 o (λz=>by rw[z,D2.dict]at nx2;cases nx2) (λz=>n1 (AN_ _ z)) hx;rw[nx2]at this;cases this
   .have pq:p≠q:=λz=>e (by rw[z]);have D1:=hD.mut hl (wr::E7_ acc p);have f1:∀b o,b≠d->b∉ls->H b=some o->(upd H l (HO.lst ((wr::E7_ acc p).map V.str))) b=some o:=λb o b1 b2 e=>by rw[ae_ (λz=>b2 (by rw[z];show Ai_ hl))];show e
    show⟨_,_,rfl,hpl,_,ps_at p pm,.ref l,hv▸FZ_.k (k:=.inr ps[p]) hD.dict,.inl ⟨_,.inl (.inl hrow')⟩,l,rfl,_,hrow',d_,s_,by rw[Ab_];lia,?_⟩;rw[show(List.take (Int.toNat 0) ((E7_ acc p).map V.str)++V.str wr::List.drop (Int.toNat 0) ((E7_ acc p).map V.str))=(wr::E7_ acc p).map V.str from rfl];generalize upd H l (HO.lst ((wr::E7_ acc p).map V.str))=H1 at*;obtain⟨l2,hl2,hv2,hrow2⟩:=D1.at (show(Gj_ acc p (wr::E7_ acc p))[q]?=some (ps[q],E7_ acc q) by rw[fg_ pq];show qe);have hrow2':H1 l2=some (.lst ((E7_ acc q).map V.str)):=hrow2;have D2:=D1.mut hl2 (E7_ acc q++[wr]);show⟨_,_,rfl,D1.sH _ _ spl,_,ps_at q qm,.ref l2,hv2▸FZ_.k (k:=.inr ps[q]) D1.dict,.inl ⟨_,.inl (.inl hrow2')⟩,?_⟩;show⟨l2,rfl,_,hrow2',by rw[Ab_,BL_];lia,?_⟩;rw[show(E7_ acc q).map V.str++[V.str wr]=(E7_ acc q++[wr]).map V.str by simp];show k ls _ ?_ (λb o b1 b2 e=>?_) λl' hl'=>.inl hl'
    .rw[grP,if_neg pq];show D2
    .rw[ae_ (λz=>b2 (by rw[z];show Ai_ hl2))];show f1 b o b1 b2 e
open RimL
theorem gi_(h:i<acc.length)(r:List Str)(k:Nat):E7_ (Gj_ acc i r) k=if k=i then r else E7_ acc k:=by
 by_cases e:k=i
 .subst e;rw[if_pos rfl];simp[E7_,Gj_,List.getD,h]
 .rw[if_neg e];have:i≠k:=λz=>e z.symm;simp[E7_,Gj_,List.getD,Bq_ this]
theorem eK_{k:Nat}(h:acc.length<=k):E7_ acc k=[]:=by simp[E7_,List.getD,Bx_ h]
theorem mg_{pt:Str}(k:Nat):E7_ (acc++[(pt,r)]) k=if k=acc.length then r else E7_ acc k:=by
 by_cases e:k=acc.length
 .subst e;rw[if_pos rfl];simp[E7_,List.getD]
 .rw[if_neg e];by_cases h:k<acc.length
  .simp[E7_,List.getD,Ao_ h]
  .rw[eK_ (by simp;lia),eK_ o_]
theorem hk_{p q:Nat}{w pt:Str}(hp:p<acc.length)(hq:q<acc.length)(pq:p≠q):E7_ (grP acc p q w pt)=edge (E7_ acc) p q w/\(grP acc p q w pt).length=acc.length:=by
 rw[grP,if_neg pq];show⟨?_,by rw[dM_,dM_]⟩;funext k;rw[gi_ (by rw[dM_];show hq),gi_ hp];unfold edge;by_cases h1:k=p
 .subst h1;rw[if_neg pq,if_pos rfl,if_pos rfl]
 .by_cases h2:k=q
  .rw[if_pos h2,if_neg h1,if_pos h2]
  .rw[if_neg h2,if_neg h1,if_neg h1,if_neg h2]
theorem gj_{p:Nat}{w pt:Str}(hp:p<acc.length):E7_ (grP acc p p w pt)=spike acc.length (E7_ acc) p w/\(grP acc p p w pt).length=acc.length+1:=by rw[grP,if_pos rfl];show⟨?_,by rw[dM_];simp⟩;funext k;rw[gi_ (by simp;lia),mg_];rfl
variable{m:Nat}{ws:List Str}
theorem mh_{p q:Nat}{w pt:Str}(I:Fs_ acc.length m (E7_ acc) ws)(hp:p<m)(hq:q<m)(hw:w∉ws):Fs_ (grP acc p q w pt).length m (E7_ (grP acc p q w pt)) (ws++[w]):=by
 have le:=I.le;by_cases e:p=q
 .subst e;obtain⟨a,b⟩:=gj_ (w:=w) (pt:=pt) (show p<acc.length by lia);rw[a,b];show I.spike hp hw
 .obtain⟨a,b⟩:=hk_ (w:=w) (pt:=pt) (show p<acc.length by lia) (show q<acc.length by lia) e;rw[a,b];show I.edge hp hq e hw
theorem gk_{p q:Nat}{w pt:Str}:(grP acc p q w pt).map Prod.fst=if p=q then acc.map Prod.fst++[pt]else acc.map Prod.fst:=by
 unfold grP;by_cases e:p=q
 .rw[if_pos e,if_pos e,bF_,Aq_];rfl
 .rw[if_neg e,if_neg e,bF_,bF_]
theorem ll_:bootBuiltins "dict"=some (.type "dict"):=r_
theorem ib_(hK:X.K=K):OpR X (compareOp .NotIn) (rIn K true):=by subst hK;show hA_
theorem od_(hK:X.K=K):OpR X (compareOp .In) (rIn K false):=by subst hK;show km_
theorem ns_{D:Addr}{n:Nat}{f:Nat->Int}(h:Rep (GA_ B H') (.ref D) (.lst ((List.range n).map λk=>Dt.int (f k)))):B D=none/\H' D=some (.lst (((List.range n).map f).map V.int)):=by
 obtain⟨D',us,e,hD,hus⟩:=h;cases e;obtain⟨a,b⟩:=bZ_ hD;show⟨a,?_⟩;rw[b];congr 2
 have go:∀(ks:List Nat)(us:List V),Fk_ (GA_ B H') us (ks.map λk=>Dt.int (f k))->us=(ks.map f).map V.int:=by
  intro ks
  induction ks with
  |nil=>intro us h;show h
  |cons k ks ih =>intro us h;obtain⟨x,r,e,hx,hr⟩:=h;cases hx;rw[e,ih r hr];rfl
 show go _ _ hus
structure LE(H S:Hp)(pl il wl:Addr)(ps inn ws:List Str)(m:Nat):Prop where
 hs:EL_ H S
 fpl:H pl=none
 pl:S pl=some (.lst (ps.map V.str))
 il:S il=some (.lst (inn.map V.str))
 wl:S wl=some (.lst (ws.map V.str))
 pn:ps.length=m
 inl:inn.length=16
 wn:ws.length=16
 nd:(ps++inn).Nodup
 wd:ws.Nodup
theorem ju_{D:Addr}{nms:List Str}(h:Rep (GA_ H H') (.ref D) (.lst (nms.map Dt.str))):H D=none/\H' D=some (.lst (nms.map V.str)):=by obtain⟨D',us,e,hD,hus⟩:=h;cases e;obtain⟨a,b⟩:=bZ_ hD;show⟨a,by rw[b,hi_ hus]⟩
structure MI(S H:Hp)(d al mt wo:Addr)(ls:List Addr)(acc:List (Str×List Str))(ps inn ws:List Str)(m mo i c:Nat)(ns:List Int)(kv:List (List Key×V)):Prop where
 D:DL S H d ls acc
 I:Fs_ acc.length m (E7_ acc) (ws.take c)
 nm:∀x∈acc.map Prod.fst,x∈ps\/x∈inn.take c
 po:∀(j:Nat)(p:Str),ps[j]?=some p->∃r,acc[j]?=some (p,r)
 al_:acc.length<=m+c
 rl:∀kv∈acc,kv.2.length<=c
 at_:H al=some (.lst (ns.map V.int))/\ns.length=2*m
 met:H mt=some (.dT kv)/\kv.length<=i
 wor:∃ys:List V,H wo=some (.lst ys)/\ys.length=c/\∀(j:Nat)(x:Str),j<c->ws[j]?=some x->∃(a u:Addr)(e:Int×Int),ys[j]?=some (.ref a)/\H a=some (.tup [.str x,.ref u])/\H u=some (.tup [.int e.1,.int e.2])
 cm:c<=mo
 aw:al≠wo
 na:al∉ls
 nw:wo∉ls
 fa:S al=none
 fm:S mt=none
 fw:S wo=none
theorem DL.out(h:DL S H d ls acc){x:Addr}(o:HO)(xd:x≠d)(xl:x∉ls)(sx:S x=none):DL S (upd H x o) d ls acc :=
 ⟨by rw[ae_ xd.symm];show h.dict,h.len,h.nd,h.dn,λi l kv h1 h2=>by rw[ae_ (show l≠x from λz=>xl (z▸Ai_ h1))];show h.lst i l kv h1 h2,h.keys,λb q hb=>by rw[ae_ (show b≠x from λz=>by rw[z,sx]at hb;cases hb)];show h.sH _ _ hb,h.fd,h.fl⟩
theorem DL.isL(h:DL S H d ls acc){l:Addr}(m:l∈ls):∃r,H l=some (.lst r):=by obtain⟨i,hi,ei⟩:=Ax_.mp m;show⟨_,h.lst i l (acc[i]'(by rw[<-h.len];show hi)) (by rw[Aa_ hi,ei]) (Aa_ _)⟩
variable{ns:List Int}
theorem MI.setM{al mt wo:Addr}{ps inn:List Str}{mo c:Nat}{kv0:List (List Key×V)}(M:MI S H d al mt wo ls acc ps inn ws m mo i c ns kv0)(kv:List (List Key×V))(hk:kv.length<=i):MI S (upd H mt (.dT kv)) d al mt wo ls acc ps inn ws m mo i c ns kv:=by
 obtain⟨h1,h2⟩:=M.at_;obtain⟨h3,h4⟩:=M.met;obtain⟨ys,h5,h6,h7⟩:=M.wor;have ne:∀{b:Addr}{o:HO},H b=some o->(∀k,o≠.dT k)->b≠mt:=λhb ho z=>by rw[z,h3]at hb;show ho _ (Ar_ hb).symm
 show⟨M.D.out _ (ne M.D.dict (λ_ z=>nomatch z)).symm (λz=>?_) M.fm,M.I,M.nm,M.po,M.al_,M.rl,⟨by rw[ae_ (ne h1 λ_ z=>nomatch z)];show h1,h2⟩,⟨aa_,hk⟩,⟨ys,by rw[ae_ (ne h5 λ_ z=>nomatch z)];show h5,h6,λj x hj hx=>?_⟩,M.cm,M.aw,M.na,M.nw,M.fa,M.fm,M.fw⟩
 .obtain⟨r,hr⟩:=M.D.isL z;rw[h3]at hr;cases hr
 .obtain⟨a,u,e,q1,q2,q3⟩:=h7 j x hj hx;show⟨a,u,e,q1,by rw[ae_ (ne q2 λ_ z=>nomatch z)];show q2,by rw[ae_ (ne q3 λ_ z=>nomatch z)];show q3⟩
variable{kv:List (List Key×V)}
theorem MI.setA{al mt wo:Addr}{ps inn:List Str}{mo c:Nat}{ns0:List Int}(M:MI S H d al mt wo ls acc ps inn ws m mo i c ns0 kv)(ns:List Int)(hn:ns.length=2*m):MI S (upd H al (.lst (ns.map V.int))) d al mt wo ls acc ps inn ws m mo i c ns kv:=by
 obtain⟨h1,h2⟩:=M.at_;obtain⟨h3,h4⟩:=M.met;obtain⟨ys,h5,h6,h7⟩:=M.wor;have ne:∀{b:Addr}{o:HO},H b=some o->(∀k,o≠.lst k)->b≠al:=λhb ho z=>by rw[z,h1]at hb;show ho _ (Ar_ hb).symm
 show⟨M.D.out _ (ne M.D.dict (λ_ z=>nomatch z)).symm M.na M.fa,M.I,M.nm,M.po,M.al_,M.rl,⟨aa_,hn⟩,⟨by rw[ae_ (ne h3 λ_ z=>nomatch z)];show h3,h4⟩,⟨ys,by rw[ae_ M.aw.symm];show h5,h6,λj x hj hx=>?_⟩,M.cm,M.aw,M.na,M.nw,M.fa,M.fm,M.fw⟩;obtain⟨a,u,e,q1,q2,q3⟩:=h7 j x hj hx;show⟨a,u,e,q1,by rw[ae_ (ne q2 λ_ z=>nomatch z)];show q2,by rw[ae_ (ne q3 λ_ z=>nomatch z)];show q3⟩
theorem mM_{n j:Nat}{i:Int}(h:j<n)(e:i=j):ixN n i=some j:=by subst e;unfold ixN;rw[if_pos o_,if_pos o_,A5_]
theorem MI.same{al mt wo:Addr}{ps inn:List Str}{mo c:Nat}(M:MI S H d al mt wo ls acc ps inn ws m mo i c ns kv)(s:EL_ H H'):MI S H' d al mt wo ls acc ps inn ws m mo i c ns kv:=by
 obtain⟨h1,h2⟩:=M.at_;obtain⟨h3,h4⟩:=M.met;obtain⟨ys,h5,h6,h7⟩:=M.wor;show⟨M.D.mono s,M.I,M.nm,M.po,M.al_,M.rl,⟨s _ _ h1,h2⟩,⟨s _ _ h3,h4⟩,⟨ys,s _ _ h5,h6,λj x hj hx=>by obtain⟨a,u,e,q1,q2,q3⟩:=h7 j x hj hx;show⟨a,u,e,q1,s _ _ q2,s _ _ q3⟩⟩,M.cm,M.aw,M.na,M.nw,M.fa,M.fm,M.fw⟩
theorem MI.mono{al mt wo:Addr}{ps inn:List Str}{mo c:Nat}(M:MI S H d al mt wo ls acc ps inn ws m mo i c ns kv)(s:EL_ H H'):MI S H' d al mt wo ls acc ps inn ws m mo (i+1) c ns kv:=by
 obtain⟨h1,h2⟩:=M.at_;obtain⟨h3,h4⟩:=M.met;obtain⟨ys,h5,h6,h7⟩:=M.wor;show⟨M.D.mono s,M.I,M.nm,M.po,M.al_,M.rl,⟨s _ _ h1,h2⟩,⟨s _ _ h3,o_⟩,⟨ys,s _ _ h5,h6,λj x hj hx=>by obtain⟨a,u,e,q1,q2,q3⟩:=h7 j x hj hx;show⟨a,u,e,q1,s _ _ q2,s _ _ q3⟩⟩,M.cm,M.aw,M.na,M.nw,M.fa,M.fm,M.fw⟩
theorem lm_{c:Nat}(h:∀kv∈acc,kv.2.length<=c)(k:Nat):(E7_ acc k).length<=c:=by
 by_cases hk:k<acc.length
 .show h _ (Ai_ (at_A hk))
 .rw[eK_ o_];show AB_ _
theorem mi_{c p q:Nat}{pt:Str}(hp:p<acc.length)(hq:q<acc.length)(h:∀kv∈acc,kv.2.length<=c):∀kv∈grP acc p q x pt,kv.2.length<=c+1:=by
 intro kv hkv;obtain⟨k,hk,ek⟩:=Ax_.mp hkv;have e1:(grP acc p q x pt)[k]?=some kv:=by rw[Aa_ hk,ek]
 rw[at_A hk]at e1;rw[<-Ar_ e1];change(E7_ (grP acc p q x pt) k).length<=c+1;have r:=lm_ h;by_cases e:p=q
 .subst e;rw[(gj_ hp).1];unfold spike;split
  .simp
  .split
   .have:=r p;simp only[A1_];lia
   .have:=r k;lia
 .rw[(hk_ hp hq e).1];unfold edge;split
  .have:=r p;simp only[A1_];lia
  .split
   .have:=r q;simp only[Af_,A1_,D1_];lia
   .have:=r k;lia
theorem MI.grow{S H H':Hp}{d al mt wo u tp:Addr}{ls ls':List Addr}{acc:List (Str×List Str)}{ps inn ws:List Str}{m mo i c p q:Nat}{x pt:Str}{ys:List V}{e:Int×Int}{ns:List Int}{kv:List (List Key×V)}(M:MI S H d al mt wo ls acc ps inn ws m mo i c ns kv)
  (D:DL S H' d ls' (grP acc p q x pt)) (fr:∀b o,b≠d->b∉ls->H b=some o->H' b=some o) (new:∀l∈ls',l∈ls\/H l=none) (hp:p<m) (hq:q<m) (hx:ws[c]?=some x) (hi:inn[c]?=some pt) (cmo:c<mo) (wcn:x∉ws.take c) (hu:H u=some (.tup [.int e.1,.int e.2])) (ftp:H' tp=none) (hys:H wo=some (.lst ys)):
  MI S (upd (upd H' tp (.tup [.str x,.ref u])) wo (.lst (ys++[.ref tp]))) d al mt wo ls' (grP acc p q x pt) ps inn ws m mo i (c+1) ns kv:=by
 obtain⟨h1,h2⟩:=M.at_;obtain⟨h3,h4⟩:=M.met;obtain⟨ys',h5,h6,h7⟩:=M.wor;have ey:ys'=ys:=by rw[hys]at h5;cases h5;rfl
 subst ey;have acl:m<=acc.length:=M.I.le
 have nin:∀{b:Addr}{o:HO},H b=some o->b∉ls->b∉ls':=λhb nb mb=>by
  rcases new _ mb with h|h
  .show nb h
  .rw[hb]at h;cases h
 have nd:∀{b:Addr}{o:HO},H b=some o->(∀k,o≠.dK k)->b≠d:=λhb ho z=>by rw[z,M.D.dict]at hb;show ho _ (Ar_ hb).symm
 have nl:∀{b:Addr}{o:HO},H b=some o->(∀k,o≠.lst k)->b∉ls:=λhb ho z=>by obtain⟨r,hr⟩:=M.D.isL z;rw[hr]at hb;show ho _ (Ar_ hb).symm
 have ntp:∀{b:Addr}{o:HO},H' b=some o->b≠tp:=λhb z=>by rw[z,ftp]at hb;cases hb
 have out:∀{b:Addr}{o:HO},b≠wo->H' b=some o->(upd (upd H' tp (.tup [.str x,.ref u])) wo (.lst (ys'++[.ref tp]))) b=some o:=λbw hb=>by rw[ae_ bw,ae_ (ntp hb)];show hb
 have tupo:∀{b:Addr}{xs:List V},H b=some (.tup xs)->(upd (upd H' tp (.tup [.str x,.ref u])) wo (.lst (ys'++[.ref tp]))) b=some (.tup xs):=λhb =>out (λz=>by rw[z,hys]at hb;cases hb) (fr _ _ (nd hb λ_ z=>nomatch z) (nl hb λ_ z=>nomatch z) hb);have wd:wo≠d:=nd hys λ_ z=>nomatch z;have hwo':=fr _ _ wd M.nw hys;have hal':=fr _ _ (nd h1 λ_ z=>nomatch z) M.na h1;have tk:ws.take (c+1)=ws.take c++[x]:=by rw[Bu_,hx];rfl
 have ik:inn.take (c+1)=inn.take c++[pt]:=by rw[Bu_,hi];rfl
 show⟨(D.mono (EL_.new ftp)).out _ wd (nin hys M.nw) M.fw,by rw[tk];show mh_ M.I hp hq wcn,λy hy=>?_,λj y hy=>?_,?_,mi_ o_ o_ M.rl,⟨out M.aw hal',h2⟩,⟨out (λz=>by rw[z,hys]at h3;cases h3) (fr _ _ (nd h3 λ_ z=>nomatch z) (nl h3 λ_ z=>nomatch z) h3),h4⟩,⟨_,aa_,by simp[h6],λj y hj hy=>?_⟩,cmo,M.aw,nin h1 M.na,nin hys M.nw,M.fa,M.fm,M.fw⟩
 .rw[ik]
  have old:y∈acc.map Prod.fst->y∈ps\/y∈inn.take c++[pt]:=λh=>by
   rcases M.nm _ h with h|h
   .show .inl h
   .show .inr (AN_ _ h)
  rw[gk_]at hy;split at hy
  .rcases Ap_.mp hy with h|h
   .show old h
   .show .inr (AO_ _ h)
  .show old hy
 .obtain⟨r,hr⟩:=M.po j y hy;have e1:(acc.map Prod.fst)[j]?=some y:=by rw[Ae_,hr];rfl
  have e2:((grP acc p q x pt).map Prod.fst)[j]?=some y:=by
   rw[gk_];split
   .rw[Ao_ (Ad_.mp e1).1];show e1
   .show e1
  rw[Ae_]at e2;obtain⟨z,hz,ez⟩:=AK_.mp e2;show⟨z.2,by rw[hz,<-ez]⟩
 .have e1:(grP acc p q x pt).length<=acc.length+1:=by
   have:=congrArg List.length (gk_ (acc:=acc) (p:=p) (q:=q) (w:=x) (pt:=pt));rw[Ab_]at this;split at this
   .simp at this;lia
   .simp at this;lia
  have:=M.al_;lia
 .by_cases hj':j<c
  .obtain⟨a,v,f,q1,q2,q3⟩:=h7 j y hj' hy;show⟨a,v,f,by rw[Ao_ o_];show q1,tupo q2,tupo q3⟩
  .have ej:j=c:=o_
   subst ej;rw[hx]at hy;cases hy;show⟨tp,u,e,?_,?_,tupo hu⟩
   .rw[Ay_ o_,h6];simp
   .rw[ae_ (ntp hwo').symm];show aa_
def dS(x:Str):Dt:=.str x
def dRw(r:Str×List Str):Dt:=.tup [.str r.1,.lst (r.2.map dS)]
def dWo(r:Str×(Int×Int)):Dt:=.tup [.str r.1,.tup [.int r.2.1,.int r.2.2]]
def FT_(N:Net Str):Dt:=.tup [.lst (N.posts.map dS),.lst (N.rows.map dRw),.lst (N.worths.map dWo)]
theorem gl_{α β:Type}(f:α->β):∀(l:List α)(t:Nat),(l.map f).eraseIdx t=(l.eraseIdx t).map f
 |[],_=>rfl
 |_::_,0=>rfl
 |x::l,t+1=>by change f x::(l.map f).eraseIdx t=f x::(l.eraseIdx t).map f;rw[gl_ f l t]
theorem gO_:∀{l:List Nat}{t:Nat}(h:t<l.length),(l[t]::l.eraseIdx t).Perm l
 |x::l,0,_=>.refl _
 |x::l,t+1,h=>by have ih:=gO_ (l:=l) (t:=t) (by simpa using h);change(l[t]'(by simpa using h)::x::l.eraseIdx t).Perm (x::l);show(List.Perm.swap _ _ _).trans (ih.cons x)
theorem jv_(x:Str):∀(r:List Str),inV (.str x) (r.map V.str)=decide (x∈r)
 |[]=>rfl
 |y::r=>by
  have:=jv_ x r;simp only[inV,Aw_,B2_,eqV]at this⊢;rw[this];by_cases h:y=x
  .subst h;simp
  .have h':¬ x=y:=λz=>h z.symm;simp[h,h']
theorem ic_:∀{acc:List (Str×List Str)}{ls:List Addr},ls.length=acc.length->(FR_ acc ls).map (λq=>q.1)=(acc.map Prod.fst).map λn=>(Sum.inr n:Key)
 |[],_,_=>rfl
 |a::acc,[],h=>nomatch h
 |a::acc,l::ls,h=>by change Sum.inr a.1::(FR_ acc ls).map _=Sum.inr a.1::_;rw[ic_ (acc:=acc) (ls:=ls) (by simpa using h)]
theorem iW_(acc:List (Str×List Str)):acc.map Prod.fst=(List.range acc.length).map (E3_ acc):=by
 apply CB_
 .simp
 .intro i h1 h2;have hi:i<acc.length:=by simpa using h1
  simp[E3_,List.getD,hi]
def KC_(O:Addr)(H:Hp):Nat:=match H O with|some (.lst xs)=>xs.length|_=>0
theorem jw_{α:Type}{H:Hp}(g:α->V)(f:α->Dt):∀(is:List α),(∀i∈is,Rep H (g i) (f i))->Fk_ H (is.map g) (is.map f)
 |[],_=>rfl
 |i::is,h=>⟨_,_,rfl,h i s_,jw_ g f is λj hj=>h j (by simp[hj])⟩
abbrev EM_:Stmt:=stN 90
theorem am_:ZL ["_law_big_here","_law_many","_law_most","_law_stem","_law_names_here","_law_posts","_law_inner","_law_wires","_law_lists","_law_post","_law_at","_law_met","_law_worths","_law_k","_law_pair","_law_one","_law_other","_law_worth","_law_lines","_law_rows","_law_order","_law_point","_law_around","_law_turn"] ["_law_big_here","_law_many","_law_most","_law_stem"] (EO_ EM_):=zL
theorem bb_:LK EM_ "_law_posts" .local:=r_
theorem eN_:LK EM_ "_law_inner" .local:=r_
theorem aA_:LK EM_ "_law_at" .local:=r_
theorem bg_:LK EM_ "_law_one" .local:=r_
theorem bh_:LK EM_ "_law_other" .local:=r_
theorem eP_:LK EM_ "_law_grown" .globalImplicit:=r_
theorem co_:LK EM_ "_law_names" .globalImplicit:=r_
theorem fu_:LK EM_ "_law_two" .globalImplicit:=r_
theorem dF_:LK EM_ "_law_worth_of" .globalImplicit:=r_
theorem aC_:LK EM_ "len" .globalImplicit:=r_
theorem fv_:LK EM_ "list" .globalImplicit:=r_
theorem gm_:LK EM_ "max" .globalImplicit:=r_
theorem gn_:LK EM_ "min" .globalImplicit:=r_
theorem cY_:LK EM_ "range" .globalImplicit:=r_
theorem eQ_:LK EM_ "sorted" .globalImplicit:=r_
def LnN(N:Net Str):Prop:=∃at_ mf,LI (trn N) N.posts.length at_ mf
theorem go_(acc:List (Str×List Str))(k:Nat):(acc.map (·.2)).getD k []=E7_ acc k:=by unfold E7_;rw[Ag_,Ae_,Ag_];cases acc[k]? <;> rfl
theorem ln_(I:Fs_ acc.length m (E7_ acc) ws):Fs_ (acc.map (·.2)).length m (λk=>(acc.map (·.2)).getD k []) ws:=by rw[Ab_,show(λk=>(acc.map (·.2)).getD k [])=E7_ acc from funext (go_ acc)];show I
structure Jh_(acc:List (Str×List Str))(m:Nat)(ws:List Str)(ns:List Int)(kv:List (List Key×V))(mf:Str->Int×Int):Prop where
 li:LI (acc.map (·.2)) m (λx=>ns.getD x 0) mf
 ky:∀w∈ws,(Fl_ kv [.inl (mf w).1,.inl (mf w).2]).isSome=true
def MJ(S H:Hp)(d al mt wo:Addr)(ls:List Addr)(acc:List (Str×List Str))(ps inn ws:List Str)(m mo i c:Nat):Prop:=∃ns kv mf,MI S H d al mt wo ls acc ps inn ws m mo i c ns kv/\Jh_ acc m (ws.take c) ns kv mf
def Ro(m:Nat)(r:List Str)(k:Nat)(x:List Str):Prop:=∃t,t<=r.length/\x=r.drop t++r.take t/\(k<m->t=0)/\(m<=k->t<r.length)
theorem Jh_.grow{p q:Nat}{mf:Str->Int×Int}{pt:Str}{v1 v2 lo hi:Int}(M:Jh_ acc m ws ns kv mf)(I:Fs_ acc.length m (E7_ acc) ws)(I':Fs_ (grP acc p q x pt).length m (E7_ (grP acc p q x pt)) (ws++[x]))(nw:x∉ws)(hp:p<m)(hq:q<m)(nl:ns.length=2*m)(e1:v1=ns.getD (2*p+1) 0)(e2:v2=ns.getD (2*q) 0)(hlo:lo<hi)(hab:(v1=lo/\v2=hi)\/(v1=hi/\v2=lo))(hno:(Fl_ kv [.inl lo,.inl hi]).isSome=false):
  Jh_ (grP acc p q x pt) m (ws++[x]) ((ns.set (2*p+1) v2).set (2*q) v1) (Fn_ kv [Sum.inl lo,Sum.inl hi] (V.bl true)) (λv=>if v=x then(lo,hi)else mf v):=by
 have I0:=ln_ I;have I1:=ln_ I';have ml:=I.le;have ne:∀v∈ws,v≠x:=λv hv e=>nw (e▸hv)
 have gw:∃φ,Gw (acc.map (·.2)) ((grP acc p q x pt).map (·.2)) m (2*p+1) (2*q) x φ:=by
  by_cases pq:p=q
  .subst pq;obtain⟨r1,r2⟩:=gj_ (acc:=acc) (p:=p) (w:=x) (pt:=pt) o_;show l8_ (by rw[Ab_];show ml) hp (by rw[Ab_,Ab_,r2]) (λk=>by rw[go_,r1,Ab_,show(λk=>(acc.map (·.2)).getD k [])=E7_ acc from funext (go_ acc)]) I0 I1 nw
  .obtain⟨r1,r2⟩:=hk_ (acc:=acc) (p:=p) (q:=q) (w:=x) (pt:=pt) o_ o_ pq;show nj_ (by rw[Ab_];show ml) hp hq pq (by rw[Ab_,Ab_,r2]) (λk=>by rw[go_,r1,show(λk=>(acc.map (·.2)).getD k [])=E7_ acc from funext (go_ acc)]) I0 I1 nw
 obtain⟨φ,g⟩:=gw;show⟨M.li.grow g ?_ (λv hv e=>?_) (λv hv=>if_neg (ne v ((a6_ I0 v).mp hv))) (by change(if x=x then(lo,hi)else mf x).1<_;rw[if_pos rfl];show hlo) ?_ λy=>?_,λv hv=>?_⟩
 .change ns.getD (2*p+1) 0≠ns.getD (2*q) 0;rw[<-e1,<-e2]
  rcases hab with⟨rfl,rfl⟩|⟨rfl,rfl⟩ <;> lia
 .have:=M.ky v ((a6_ I0 v).mp hv);rw[e]at this;simp only[if_true]at this;rw[hno]at this;cases this
 .change(ns.getD (2*p+1) 0=(if x=x then(lo,hi)else mf x).1/\ns.getD (2*q) 0=(if x=x then(lo,hi)else mf x).2)\/(ns.getD (2*p+1) 0=(if x=x then(lo,hi)else mf x).2/\ns.getD (2*q) 0=(if x=x then(lo,hi)else mf x).1);rw[if_pos rfl,<-e1,<-e2];show hab
 .change((ns.set (2*p+1) v2).set (2*q) v1).getD y 0=ns.getD (swp (2*p+1) (2*q) y) 0;rw[Ag_];unfold swp;by_cases y1:y=2*p+1
  .rw[if_pos y1,Bq_ o_,y1,BX_ o_,e2];rfl
  .rw[if_neg y1];by_cases y2:y=2*q
   .rw[if_pos y2,y2,BX_ (by rw[Cj_];lia),e1];rfl
   .rw[if_neg y2,Bq_ o_,Bq_ o_,Ag_]
 .change(Fl_ (Fn_ kv [Sum.inl lo,Sum.inl hi] (V.bl true)) [Sum.inl (if v=x then(lo,hi)else mf v).1,Sum.inl (if v=x then(lo,hi)else mf v).2]).isSome=true;rw[av_]
  rcases Ap_.mp hv with h|h
  .rw[if_neg (ne v h)];split
   .rfl
   .show M.ky v h
  .rw[if_pos (Ak_.mp h),if_pos rfl];rfl
def HK_:Sp:=λvs H Q _=>∃(z st:Int)(m mo:Nat),vs=[.int z,.int m,.int mo,.int st]/\0<m/\m<=6/\mo<=15/\∀v (N:Net Str) H',EL_ H H'->Rep H' v (FT_ N)->E0_ N->ES_ N->LnN N->Q v H'
theorem iX_(T:Txt K mg)(F:Fn0 K mg "_law_lean_by" EM_) (Hj_:Cal P w K mg base "_law_names" ["_law_stem","_law_many"] 1 G8_) (JM_:Cal P w K mg base "_law_two" ["_law_big_here","_law_many","_law_lists","_law_posts"] 1 Io_) (GW_:Cal P w K mg base "_law_worth_of" ["_law_big_here"] 2 He_) (Ib_:Cal P w K mg base "_law_grown" ["_law_lists","_law_posts","_law_pair","_law_wire","_law_point"] 1 Ha_):Cal P w K mg base "_law_lean_by" ["_law_big_here","_law_many","_law_most","_law_stem"] 3 HK_:=by
  show aY_ F am_.1 λf cdv A outer s H vs Q E hr h=>?_;obtain⟨z,st,m,mo,rfl,m0,m6,mo16,k⟩:=h;refine'⟨_,?D,?R⟩
  case D =>
   refine' ac_ (zas 4 am_ (ao_ Hj_ (hr.mono d_) co_ (pa_c (zv 3 am_) (pa_c (EQ_ a5_ (zv 1 am_) ad_) ab_)))) ?a
   case' a=>refine' ac_ (i6_ (i:=5) (j:=6) rfl am_.nd rfl rfl d_ bb_ eN_ (pa_c (cj_ cm_ (zv 4 am_) ?b (dv_ (zv 1 am_))) (pa_c (cj_ cm_ (zv 4 am_) (dv_ (zv 1 am_)) ?c) ab_)) rfl) ?d
   case b=>show du_
   case c=>show du_
   case' d=>refine' ac_ (zas 7 am_ (ao_ Hj_ (hr.mono d_) co_ (pa_c (EQ_ a5_ (EQ_ aq_ (zv 3 am_) ad_) ad_) (pa_c ad_ ab_)))) ?e
   case' e=>refine' ac_ ?f (ac_ (es_ (bq_ AI_ rfl (aT_ (K:=K) rfl (zv 5 am_)) ?g (ah_ (dx_ (un1 hr.units) (zv 8 am_) (zv 9 am_) (bx_ ab_) rfl)))) ?h)
   case f=>show zas 8 am_ g8_
   case g=>show zh 9 am_
   case' h=>refine' ac_ (iy_ (i:=10) (N':=["_law_k"]) (ix:=[none]) rfl rfl am_.nd rfl aA_ rfl (eu_ ?i) (bS_ cY_ T.n_range (pa_c (EQ_ fn_ ad_ (zv 1 am_)) ab_)) (λ_ _ _=>?j) (λ_ _ _=>?k) (λ_ _ _=>(EQ_ aq_ (pv1 0 rfl rfl) ad_))) ?l
   case i=>show(by change HC_ (EO_ EM_) ["_law_big_here","_law_many","_law_most","_law_stem","_law_names_here","_law_posts","_law_inner","_law_wires","_law_lists","_law_post","_law_at","_law_met","_law_worths","_law_k","_law_pair","_law_one","_law_other","_law_worth","_law_lines","_law_rows","_law_order","_law_point","_law_around","_law_turn"] _ _ _=true;decide +kernel)
   case j=>show ai_ (i:=0) (by change List.Nodup (["_law_k"]:List Str);decide +kernel) rfl rfl
   case k=>show fP_
   case' l=>refine' ac_ ?m (ac_ (zas 12 am_ (bx_ ab_)) (ac_ ?n (ac_ (zas 19 am_ (bx_ ab_)) ?o)))
   case m=>show zas 11 am_ ez_
   case' n=>refine' es_ (bq_ AI_ rfl (bS_ cY_ T.n_range (pa_c (EQ_ fn_ ad_ (zv 2 am_)) ab_)) ?p ?q)
   case p=>show zh 13 am_
   case' q=>refine' ac_ (zas 14 am_ (ao_ JM_ (hr.mono d_) fu_ (pa_c (zv 0 am_) (pa_c (zv 1 am_) (pa_c (zv 8 am_) (pa_c (zv 5 am_) ab_)))))) ?r
   case' r=>refine' ac_ ?s (ac_ (j8_ ?t (by_ (K:=K) (n:=2) rfl rfl (an_ ?u (an_ ?v bw_)))) (ac_ ?w (ah_ ?x)))
   case' s=>refine' i6_ (i:=15) (j:=16) rfl am_.nd rfl rfl d_ bg_ bh_ (pa_c (EQ_ a5_ (EQ_ fn_ ad_ (EU_ ak_ (zv 14 am_) ad_)) ad_) (pa_c (EQ_ fn_ ad_ (EU_ ak_ (zv 14 am_) ad_)) ab_)) rfl
   case' t=>refine' ao_ GW_ (hr.mono d_) dF_ (pa_c (EQ_ aq_ (EQ_ aq_ (EQ_ aq_ (zv 0 am_) (zv 1 am_)) ad_) (zv 1 am_)) ab_)
   case u=>show zh 17 am_
   case v=>show zh 0 am_
   case' w=>refine' zas 18 am_ (ap_ (pa_c (as_ (kh_ rfl) gn_ T.n_min mC_ (pa_c (EU_ ay_ (zv 10 am_) (zv 15 am_)) (pa_c (EU_ ay_ (zv 10 am_) (zv 16 am_)) ab_))) ?y))
   case' y=>refine' pa_c (as_ (kg_ rfl) gm_ T.n_max nQ_ (pa_c (EU_ ay_ (zv 10 am_) (zv 15 am_)) (pa_c (EU_ ay_ (zv 10 am_) (zv 16 am_)) ab_))) ab_
   case' x=>refine' FH_ (PW.pt (i5_ (aG_ JD_ (as_ aO_ aC_ T.n_len cb_ (pa_c (zv 12 am_) ab_)) (zv 2 am_) (Fc_ _)) ?z)) (ac_ (dx_ (un1 hr.units) (zv 11 am_) (zv 18 am_) F2_ rfl) ?aa) a4_
   case' z=>refine' i5_ (aG_ I4_ (EU_ ak_ (zv 18 am_) ad_) (EU_ ak_ (zv 18 am_) ad_) (Fc_ _)) (j4_ (fG_ (f3_ (un1 hr.units) (zv 18 am_) (zv 11 am_))))
   case' aa=>refine' ac_ (j8_ (ap_ (pa_c (EU_ ay_ (zv 10 am_) (zv 16 am_)) (pa_c (EU_ ay_ (zv 10 am_) (zv 15 am_)) ab_))) ?ab) ?ac
   case' ab=>refine' by_ (K:=K) (n:=2) rfl rfl (an_ (mw_ (zv 10 am_) (zv 15 am_) i8_) (an_ (mw_ (zv 10 am_) (zv 16 am_) i8_) bw_))
   case' ac=>refine' ac_ (au_ (ao_ Ib_ (hr.mono d_) eP_ (pa_c (zv 8 am_) (pa_c (zv 5 am_) (pa_c (zv 14 am_) ?ad))))) (ah_ (au_ ?ae))
   case' ad=>refine' pa_c (EU_ ay_ (zv 7 am_) (as_ aO_ aC_ T.n_len cb_ (pa_c (zv 12 am_) ab_))) (pa_c (EU_ ay_ (zv 6 am_) (as_ aO_ aC_ T.n_len cb_ (pa_c (zv 12 am_) ab_))) ab_)
   case' ae=>refine' Ft_ AA_ AC_ AD_ aw_ (zv 12 am_) (pa_c (ap_ (pa_c (EU_ ay_ (zv 7 am_) (as_ aO_ aC_ T.n_len cb_ (pa_c (zv 12 am_) ab_))) (pa_c (zv 17 am_) ab_))) ab_)
   case' o=>refine' ac_ (zas 20 am_ (b3_ (iL_ rfl) fv_ T.n_list c5_ (pa_c (zv 8 am_) ab_))) (ac_ (es_ ?af) ?ag)
   case' af=>refine' ep_ AI_ (aG_ (jc_ (hr.units)) (zv 20 am_) (bx_ ab_) (Fc_ _)) (ac_ ?ah (ac_ ?ai (ac_ (zas 22 am_ (b0_ (un1 hr.units) (zv 8 am_) (zv 21 am_))) ?aj)))
   case' ah=>refine' zas 21 am_ (Ft_ AA_ PySem.F.slot_list_pop PySem.F.type_list_pop lL_ (zv 20 am_) (pa_c (EQ_ aN_ (zv 0 am_) (as_ aO_ aC_ T.n_len cb_ (pa_c (zv 20 am_) ab_))) ab_))
   case' ai=>refine' zas 0 am_ (EQ_ aq_ (zv 0 am_) (EQ_ a5_ (as_ aO_ aC_ T.n_len cb_ (pa_c (zv 20 am_) ab_)) ad_))
   case' aj=>refine' ac_ (zas 23 am_ ad_) (ac_ ?ak (ah_ (au_ (Ft_ AA_ AC_ AD_ aw_ (zv 19 am_) (pa_c ?al ab_)))))
   case' ak=>refine' es_ (FH_ (aG_ (ib_ (K:=K) rfl) (zv 21 am_) (zv 5 am_) (by with_unfolding_all rfl)) (ac_ (zas 23 am_ (EQ_ aN_ (zv 0 am_) (as_ aO_ aC_ T.n_len cb_ (pa_c (zv 22 am_) ab_)))) ?am) a4_)
   case' am=>refine' ah_ (zas 0 am_ (EQ_ aq_ (zv 0 am_) (as_ aO_ aC_ T.n_len cb_ (pa_c (zv 22 am_) ab_))))
   case' al=>refine' ap_ (pa_c (zv 21 am_) (pa_c (EQ_ hD_ (cj_ cm_ (zv 22 am_) (dv_ (zv 23 am_)) ?an) (cj_ cm_ (zv 22 am_) ?ao (dv_ (zv 23 am_)))) ab_))
   case an=>show du_
   case ao=>show du_
   case' ag=>refine' ah_ (aF_ (ap_ (pa_c (zv 5 am_) (pa_c (zv 19 am_) (pa_c (as_ (iJ_ hr.units) eQ_ T.n_sorted fM_ (pa_c (zv 12 am_) ab_)) ab_)))))
  case R =>
   nofun;show⟨st,m+16,by rw[show((m:Int)+16)=((m+16:Nat):Int) by lia],o_,λnl nms H1 s1 r1 nl1 nd1=>?_⟩;obtain⟨fnl,hnl⟩:=ju_ r1;show⟨nl,rfl,_,hnl,λpl npl=>?_⟩;rw[kr_ _ _ (by simp;lia),<-Dw_];have s2:EL_ H1 (upd H1 pl (HO.lst ((nms.take m).map V.str))):=EL_.new npl;have hpl2:(upd H1 pl (HO.lst ((nms.take m).map V.str))) pl=some (.lst ((nms.take m).map V.str)):=aa_;generalize upd H1 pl (HO.lst ((nms.take m).map V.str))=H2 at*;show⟨nl,rfl,_,s2 _ _ hnl,λil nil=>?_⟩;rw[gW_ _ _ (by simp;lia),<-EA_];have s3:EL_ H2 (upd H2 il (HO.lst ((nms.drop m).map V.str))):=EL_.new nil;have hil3:(upd H2 il (HO.lst ((nms.drop m).map V.str))) il=some (.lst ((nms.drop m).map V.str)):=aa_;generalize upd H2 il (HO.lst ((nms.drop m).map V.str))=H3 at*;show⟨d_,d_,_,16,rfl,d_,λwl ws S s4 r4 wn wd=>?_⟩;obtain⟨fwl,hwl⟩:=ju_ r4;have L:LE H S pl il wl (nms.take m) (nms.drop m) ws m:=⟨((s1.trans s2).trans s3).trans s4,s1.free npl,s4 _ _ (s3 _ _ hpl2),s4 _ _ hil3,hwl,by simp;lia,by simp;lia,wn,by rw[Bo_];show nd1,wd⟩;generalize nms.take m=ps at*;generalize nms.drop m=inn at*;clear hnl r1 r4 s1 s2 s3 s4 hpl2 hil3 hwl npl nil fwl fnl nl1 nd1 nms H1 H2 H3;intro d nd;have pnd:ps.Nodup:=(AS_.mp L.nd).1;show⟨λσ H1=>∃(ls:List Addr)(e9:Option V),σ=[some (.int z),some (.int m),some (.int mo),some (.int st),some (.ref nl),some (.ref pl),some (.ref il),some (.ref wl),some (.ref d),e9,none,none,none,none,none,none,none,none,none,none,none,none,none,none]/\DL S H1 d ls (ps.map λp=>(p,[])),?_,?_⟩
   .nofun;have S1:EL_ S (upd S d (HO.dK [])):=EL_.new nd;show⟨⟨_,.inl (.inl (S1 _ _ L.pl))⟩,fK_ (xs:=ps.map V.str) (λi σ H1=>∃(ls:List Addr)(e9:Option V),σ=[some (.int z),some (.int m),some (.int mo),some (.int st),some (.ref nl),some (.ref pl),some (.ref il),some (.ref wl),some (.ref d),e9,none,none,none,none,none,none,none,none,none,none,none,none,none,none]/\DL S H1 d ls ((ps.take i).map λp=>(p,[]))) ⟨[],none,rfl,aa_,rfl,AY_,AR_,λi l kv h1=>by simp at h1,AY_,S1,nd,λl hl=>by simp at hl⟩ ?_ ?_ ?_⟩
    .rintro i σ H1 hi ⟨ls,e9,rfl,D⟩;show .inl (.inl (D.sH _ _ L.pl))
    .rintro i x σ H1 hx ⟨ls,e9,rfl,D⟩;nofun;have hi:i<ps.length:=by have:=(Ad_.mp hx).1;simpa using this
     have ex:x=.str ps[i]:=by rw[Ae_,Aa_ hi]at hx;show(Ar_ hx).symm
     subst ex;show⟨AB_ _,λp np=>?_⟩;have D1:=D.mono (EL_.new np (o:=HO.lst []))
     have hn:ps[i]∉((ps.take i).map λp=>(p,([]:List Str))).map Prod.fst:=by
      rw[AP_];intro mm;obtain⟨y,hy,ey⟩:=An_.mp mm;have ey':y=ps[i]:=ey;obtain⟨j,hj,ej⟩:=Ax_.mp hy;have hj':j<i:=by simp at hj;lia
      rw[Dz_,ey']at ej;have:=(AQ_ (i:=j) (j:=i) o_ pnd).mp (by rw[Aa_ o_,Aa_ hi,ej]);lia
     have D2:=D1.putNew hn (r:=[]) (x:=p) aa_ (D.notin np).1 (D.notin np).2;show⟨_,GP_.k (k:=.inr ps[i]) D1.dict (by rw[hj_ D1.len,BL_];have:=L.pn;simp;lia),ls++[p],?_⟩;rw[Bu_,Aa_ hi,Aq_];show D2
    .rintro σ H1 ⟨ls,e9,rfl,D⟩;rw[Ab_,DK_]at D;show⟨ls,e9,rfl,D⟩
   rintro σ H1 ⟨ls,e9,rfl,D⟩;nofun;show⟨.inl ⟨d_,d_⟩,o_,o_,?_⟩;rw[show Int.toNat (2*(m:Int))=2*m by lia];show ev_ (n:=2*m) (B:=λ_=>none) (Pσ:=λσ=>∃e,σ=[e]) (ds:=(List.range (2*m)).map λk:Nat=>Dt.int ((k:Int)/2)) (λb o e=>by cases e) ⟨_,rfl⟩ s_ o_ (λj H2 hj s2=>hj) (λH2 s2=>Aj_ _) ?_ ?_
   .rintro D' i x dd σ' H2 H2' hD hDo hs2 hi hdi ⟨rfl,rfl⟩ ⟨e,rfl⟩ R kR;nofun;have hd2:dd=Dt.int ((i:Int)/2):=by rw[Ae_,CF_ hi]at hdi;show(Ar_ hdi).symm
    show⟨d_,d_,kR _ _ _ ⟨_,rfl⟩ (EL_.refl _) ?_⟩;rw[hd2,CM_];show rfl
   intro al H2 hal s2 rep2;obtain⟨fal,hal2⟩:=ns_ rep2;have hna:=D.notin hal
   replace D:=D.mono s2
   intro mt nmt;show⟨AB_ _,λwo nwo=>?_⟩;have s3:EL_ H2 (upd H2 mt (HO.dT [])):=EL_.new nmt;have hmt:(upd H2 mt (HO.dT [])) mt=some (.dT []):=aa_;generalize upd H2 mt (HO.dT [])=H3 at*;have s4:EL_ H3 (upd H3 wo (HO.lst [])):=EL_.new nwo;have hwo:(upd H3 wo (HO.lst [])) wo=some (.lst []):=aa_;generalize upd H3 wo (HO.lst [])=H4 at*;have D4:=(D.mono s3).mono s4;have hal4:=s4 _ _ (s3 _ _ hal2);have hmt4:=s4 _ _ hmt
   have M0:MI S H4 d al mt wo ls (ps.map λp=>(p,[])) ps inn ws m mo 0 0 ((List.range (2*m)).map λk:Nat=>(k:Int)/2) []:=by
    have hno:=(D.mono s3).notin nwo;show⟨D4,?_,λx hx=>?_,λj p hp=>⟨[],?_⟩,by simp[L.pn],λkv hkv=>?_,⟨hal4,s_⟩,⟨hmt4,Aj_ _⟩,⟨[],hwo,rfl,λj x hj=>absurd hj o_⟩,AB_ _,?_,?_,hno.1,?_,?_,hno.2⟩
    .have e0:E7_ (ps.map λp=>(p,([]:List Str)))=λ_=>[]:=by
      funext k;by_cases hk:k<ps.length
      .simp[E7_,List.getD,hk]
      .show eK_ (by simp;lia)
     rw[e0,Dj_];show Fs_.start (by simp[L.pn]) (by simp[L.pn])
    .left;rw[AP_]at hx;obtain⟨y,hy,ey⟩:=An_.mp hx;show(show y=x from ey)▸hy
    .rw[Ae_,hp];rfl
    .obtain⟨y,_,ey⟩:=An_.mp hkv;rw[<-ey];show Aj_ _
    .intro z;have:=s3 _ _ hal2;rw[z,nwo]at this;cases this
    .show hna.1
    .show hna.2
    .show(D.notin nmt).2
   have J0:MJ S H4 d al mt wo ls (ps.map λp=>(p,[])) ps inn ws m mo 0 0:=⟨_,_,λ_=>(0,0),M0,(LI.start (λk=>by
    rw[go_];by_cases hk:k<ps.length
    .simp[E7_,List.getD,hk]
    .show eK_ (by simp;lia)) (by simp[L.pn]) _).at λx hx=>by
    rw[Ag_,Ae_,CF_ hx];rfl,λw hw=>(by rw[Dj_]at hw;cases hw)⟩
   clear M0;clear hal4 hmt4 hwo hmt hal2 fal rep2 hal nmt nwo s2 s3 s4 D D4 hna H1 H2 H3;show⟨λσ H1=>∃(zz:Int)(e9 e13 e14 e15 e16 e17 e18:Option V)(ls:List Addr)(acc:List (Str×List Str))(c:Nat),σ=[some (.int zz),some (.int m),some (.int mo),some (.int st),some (.ref nl),some (.ref pl),some (.ref il),some (.ref wl),some (.ref d),e9,some (.ref al),some (.ref mt),some (.ref wo),e13,e14,e15,e16,e17,e18,none,none,none,none,none]/\MJ S H1 d al mt wo ls acc ps inn ws m mo 100 c,?_,?_⟩
   .nofun;show⟨.inl ⟨d_,d_⟩,o_,o_,?_⟩;rw[show Int.toNat (3*(mo:Int))=3*mo by lia];show er_ (λi σ H1=>∃(zz:Int)(e9 e13 e14 e15 e16 e17 e18:Option V)(ls:List Addr)(acc:List (Str×List Str))(c:Nat),σ=[some (.int zz),some (.int m),some (.int mo),some (.int st),some (.ref nl),some (.ref pl),some (.ref il),some (.ref wl),some (.ref d),e9,some (.ref al),some (.ref mt),some (.ref wo),e13,e14,e15,e16,e17,e18,none,none,none,none,none]/\MJ S H1 d al mt wo ls acc ps inn ws m mo i c) ⟨_,_,_,_,_,_,_,_,_,_,_,rfl,J0⟩ ?_ ?_
    .rintro i σ H1 hi ⟨zz,e9,e13,e14,e15,e16,e17,e18,ls,acc,c,rfl,ns,kv,mf,M,Mt⟩;have hi':i<3*mo:=hi;nofun;have ml:((m:Int)).natAbs.log2<9000:=gN_ (g:=(m:Int)) (b:=1000) o_ o_ d_;show⟨S,zz,m,d,pl,ls,acc,ps,rfl,m0,m6,L.pn,M.D.sH _ _ L.pl,M.D,M.po,λt p q H2 s2 ft pm qm ht=>?_⟩;show⟨t,rfl,_,ht,_,rfl,_,rfl,.inl ⟨d_,d_⟩,t,rfl,_,ht,_,rfl,_,rfl,.inl ⟨d_,d_⟩,o_,ml,d_,d_,o_,ml,_,rfl,λa u H3 tt bb y s3 fa fu t0 b0 ha hu=>?_⟩;obtain⟨hns,nsl⟩:=M.at_;have hns3:=s3 _ _ (s2 _ _ hns);have at3:∀j:Nat,j<2*m->atI (ns.map V.int) (j:Int)=some (.int (ns.getD j 0)):=λj hj=>fp_ o_ (by rw[A5_,Ae_,Aa_ o_,Ag_,Aa_ o_];rfl);have hv1:=at3 (2*p+1) o_;have hv2:=at3 (2*q) o_;obtain⟨v1,e1⟩:∃v,v=ns.getD (2*p+1) 0:=⟨_,rfl⟩;obtain⟨v2,e2⟩:∃v,v=ns.getD (2*q) 0:=⟨_,rfl⟩;rw[<-e1]at hv1;rw[<-e2]at hv2;rw[show((2*p+1:Nat):Int)=2*(p:Int)+1 by lia]at hv1;rw[show((2*q:Nat):Int)=2*(q:Int) by lia]at hv2;obtain⟨ys,hys,yl,yt⟩:=M.wor;show⟨a,rfl,_,SqT.of ha,rfl,_,_,rfl,_,_,rfl,rfl,_,hns3,_,hv1,_,hns3,_,hv2,_,rfl,_,rfl,_,hns3,_,hv1,_,hns3,_,hv2,_,rfl,_,rfl,d_,λln nln=>?_⟩;have s4:EL_ H3 (upd H3 ln (HO.tup [V.int (if v2<v1 then v2 else v1),V.int (if v2 > v1 then v2 else v1)])):=EL_.new nln;have hln:(upd H3 ln (HO.tup [V.int (if v2<v1 then v2 else v1),V.int (if v2 > v1 then v2 else v1)])) ln=some (.tup [V.int (if v2<v1 then v2 else v1),V.int (if v2 > v1 then v2 else v1)]):=aa_
     have hab:(v1=(if v2<v1 then v2 else v1)/\v2=(if v2 > v1 then v2 else v1))\/(v1=(if v2 > v1 then v2 else v1)/\v2=(if v2<v1 then v2 else v1)):=by
      by_cases h1:v2<v1
      .rw[if_pos h1,if_neg o_];show .inr ⟨rfl,rfl⟩
      .rw[if_neg h1];by_cases h2:v2 > v1
       .rw[if_pos h2];show .inl ⟨rfl,rfl⟩
       .rw[if_neg h2];show .inl ⟨rfl,o_⟩
     have hle:(if v2<v1 then v2 else v1)<=(if v2 > v1 then v2 else v1):=by split <;> split <;> lia
     generalize(if v2<v1 then v2 else v1)=lo at*;generalize(if v2 > v1 then v2 else v1)=hi2 at*;generalize upd H3 ln (HO.tup [V.int lo,V.int hi2])=H4 at*;have s14:EL_ H1 H4:=(s2.trans s3).trans s4;have M4:=M.mono s14;have J4:MJ S H4 d al mt wo ls acc ps inn ws m mo (i+1) c:=⟨ns,kv,mf,M4,Mt⟩;show⟨ys,.inl (s14 _ _ hys),ite2 (λhlt=>ite2 (λhne=>?_) (λ_=>⟨y,rfl,ls,acc,c,J4⟩)) (λ_=>⟨y,rfl,ls,acc,c,J4⟩)⟩;obtain⟨hmt4,kvl⟩:=M.met
     replace hmt4:=s14 _ _ hmt4
     show⟨_,FZ_.t (k:=[.inl lo,.inl hi2]) hmt4 hln,ite2 (λhno=>?_) (λ_=>⟨y,rfl,ls,acc,c,J4⟩)⟩;show⟨_,GP_.t (k:=[.inl lo,.inl hi2]) hmt4 hln (by rw[BL_];lia),?_⟩;have kl:=aL_ kv [Sum.inl lo,Sum.inl hi2] (V.bl true);have M5:=M4.setM (Fn_ kv [Sum.inl lo,Sum.inl hi2] (V.bl true)) o_;have ht4:=s14.trans (EL_.refl _);have mtn:∀{b:Addr}{xs:List V},H4 b=some (.tup xs)->(upd H4 mt (HO.dT (Fn_ kv [Sum.inl lo,Sum.inl hi2] (V.bl true)))) b=some (.tup xs):=λhb=>by rw[ae_ (λz=>by rw[z,hmt4]at hb;cases hb)];show hb
     have ht5:=mtn (s4 _ _ (s3 _ _ ht));have hu5:=mtn (s4 _ _ hu);generalize upd H4 mt (HO.dT (Fn_ kv [Sum.inl lo,Sum.inl hi2] (V.bl true)))=H5 at*;have cmo:c<mo:=o_
     have lohi:lo<hi2:=o_
     clear hlt mtn ht4 at3 hns3 hns yt yl hys ys M4 J4 hmt4 kvl hln hne s14 s4 nln s3 s2;obtain⟨hns,_⟩:=M5.at_;show⟨_,hns,_,hv2,_,hns,_,hv1,d_,λtp ntp=>?_⟩;have s6:EL_ H5 (upd H5 tp (HO.tup [V.int v2,V.int v1])):=EL_.new ntp;have htp:(upd H5 tp (HO.tup [V.int v2,V.int v1])) tp=some (.tup [V.int v2,V.int v1]):=aa_;generalize upd H5 tp (HO.tup [V.int v2,V.int v1])=H6 at*;have M6:=(M5.same s6).setA ((ns.set (2*p+1) v2).set (2*q) v1) (by simp[nsl]);show⟨_,SqT.of htp,rfl,_,_,rfl,_,s6 _ _ hns,2*p+1,?_,_,_,rfl,2*q,?_,rfl,?_⟩
     .show mM_ (by rw[Ab_];lia) o_
     .show mM_ (by rw[Cj_,Ab_];lia) o_
     rw[<-List.map_set,<-List.map_set];have H6n:∀{b:Addr}{xs:List V},H6 b=some (.tup xs)->(upd H6 al (HO.lst (((ns.set (2*p+1) v2).set (2*q) v1).map V.int))) b=some (.tup xs):=λhb=>by rw[ae_ (λz=>by rw[z,s6 _ _ hns]at hb;cases hb)];show hb
     have ht6:=H6n (s6 _ _ ht5);have hu6:=H6n (s6 _ _ hu5);generalize upd H6 al (HO.lst (((ns.set (2*p+1) v2).set (2*q) v1).map V.int))=H7 at*;obtain⟨ys,hys,yl,yt⟩:=M6.wor;have c16:c<ws.length:=by rw[L.wn];lia
     have i16:c<inn.length:=by rw[L.inl];lia
     show⟨ys,.inl hys,_,M6.D.sH _ _ L.wl,.str ws[c],fp_ o_ (by rw[A5_,yl,Ae_,Aa_ c16];rfl),ys,.inl hys,_,M6.D.sH _ _ L.il,.str inn[c],fp_ o_ (by rw[A5_,yl,Ae_,Aa_ i16];rfl),?_⟩
     have ptn:inn[c]∉acc.map Prod.fst:=λhx=>by
      have nd2:=AS_.mp L.nd
      rcases M6.nm _ hx with h|h
      .show nd2.2.2 _ h _ (Bn_ i16) rfl
      .obtain⟨j,hj,ej⟩:=Ax_.mp h;have hj':j<c:=by simp at hj;lia
       rw[Dz_]at ej;have:=(AQ_ (i:=j) (j:=c) o_ nd2.2.1).mp (by rw[Aa_ o_,Aa_ i16,ej]);lia
     have wcn:ws[c]∉ws.take c:=λh=>by
      obtain⟨j,hj,ej⟩:=Ax_.mp h;have hj':j<c:=by simp at hj;lia
      rw[Dz_]at ej;have:=(AQ_ (i:=j) (j:=c) o_ L.wd).mp (by rw[Aa_ o_,Aa_ c16,ej]);lia
     have al6:=M6.al_;have tkw:ws.take (c+1)=ws.take c++[ws[c]]:=by rw[Bu_,Aa_ c16];rfl
     have mj:∀(Hz:Hp){lz:List Addr},MI S Hz d al mt wo lz (grP acc p q ws[c] inn[c]) ps inn ws m mo (i+1) (c+1) ((ns.set (2*p+1) v2).set (2*q) v1) (Fn_ kv [Sum.inl lo,Sum.inl hi2] (V.bl true))->MJ S Hz d al mt wo lz (grP acc p q ws[c] inn[c]) ps inn ws m mo (i+1) (c+1):=λHz lz Mz=>⟨_,_,_,Mz,by
      have Iz:=Mz.I;rw[tkw]at Iz⊢;show Jh_.grow Mt M.I Iz wcn pm qm nsl e1 e2 lohi hab (by simpa using hno)⟩
     show⟨S,d,pl,t,ls,acc,ps,p,q,ws[c],inn[c],rfl,by rw[L.pn];show pm,by rw[L.pn];show qm,M6.D.sH _ _ L.pl,ht6,L.pl,M6.D,M6.po,ptn,o_,λkv hkv=>by have:=M6.rl kv hkv;lia,λls' H8 D8 fr8 new8=>?_⟩;have hys8:H8 wo=some (.lst ys):=fr8 _ _ (λz=>by have:=M6.D.dict;rw[<-z,hys]at this;cases this) M6.nw hys;show⟨.inl ⟨_,.inl (.inl hys8)⟩,_,.inl hys8,_,D8.sH _ _ L.wl,.str ws[c],fp_ o_ (by rw[A5_,yl,Ae_,Aa_ c16];rfl),d_,λtp ntp=>?_⟩;show⟨ys,by rw[ae_ (ag_ hys8 ntp)];show hys8,EN_ o_,y,rfl,ls',_,c+1,mj _ (M6.grow (e:=nf tt bb) D8 fr8 new8 pm qm (Aa_ c16) (Aa_ i16) cmo wcn hu6 ntp hys)⟩
    .rintro σ H1 ⟨zz,e9,e13,e14,e15,e16,e17,e18,ls,acc,c,rfl,ns,kv,mf,M,Mt⟩;show⟨_,_,_,_,_,_,_,_,rfl,ls,acc,c,ns,kv,mf,{M with met:=?_},Mt⟩;obtain⟨h1,h2⟩:=M.met;show⟨h1,o_⟩
   rintro σ H1 ⟨zz,e9,e13,e14,e15,e16,e17,e18,ls,acc,c,rfl,ns,kv,mf,M,Mt⟩;nofun;show⟨AB_ _,λR nR=>?_⟩;have sR:EL_ H1 (upd H1 R (HO.lst [])):=EL_.new nR;have hR:=aa_ (H:=H1) (a:=R) (o:=HO.lst []);generalize upd H1 R (HO.lst [])=H2 at*;have al6:=M.al_;have cm6:=M.cm;show⟨d,_,acc.map Prod.fst,rfl,sR _ _ M.D.dict,ic_ M.D.len,by rw[Ab_];lia,λO nO=>?_⟩;rw[iW_];have s12:EL_ H1 (upd H2 O (HO.lst (((List.range acc.length).map (E3_ acc)).map V.str))):=sR.trans (EL_.new nO);have hR3:(upd H2 O (HO.lst (((List.range acc.length).map (E3_ acc)).map V.str))) R=some (.lst []):=(EL_.new nO) _ _ hR;have hO3:=aa_ (H:=H2) (a:=O) (o:=HO.lst (((List.range acc.length).map (E3_ acc)).map V.str));have nO1:H1 O=none:=sR.free nO;generalize upd H2 O (HO.lst (((List.range acc.length).map (E3_ acc)).map V.str))=H3 at*;have RO:R≠O:=ag_ hR nO;clear hR nO sR;show⟨λσ H'=>∃(zz:Int)(e21 e22 e23:Option V)(dn:List Nat)(tr:Nat->List Str)(ys:List V),σ=[some (.int zz),some (.int m),some (.int mo),some (.int st),some (.ref nl),some (.ref pl),some (.ref il),some (.ref wl),some (.ref d),e9,some (.ref al),some (.ref mt),some (.ref wo),e13,e14,e15,e16,e17,e18,some (.ref R),some (.ref O),e21,e22,e23]/\EL_ H1 H'/\H' R=some (.lst ys)/\Fk_ H' ys ((dn.map λk=>(E3_ acc k,tr k)).map dRw)/\(∀k∈dn,Ro m (E7_ acc k) k (tr k))/\dn.Perm (List.range acc.length),?_,?_⟩
   .show fJ_ (λσ H'=>∃(zz:Int)(e21 e22 e23:Option V)(S1:Hp)(rem dn:List Nat)(tr:Nat->List Str)(ys:List V),σ=[some (.int zz),some (.int m),some (.int mo),some (.int st),some (.ref nl),some (.ref pl),some (.ref il),some (.ref wl),some (.ref d),e9,some (.ref al),some (.ref mt),some (.ref wo),e13,e14,e15,e16,e17,e18,some (.ref R),some (.ref O),e21,e22,e23]/\EL_ H1 S1/\EL_ S1 H'/\S1 O=none/\S1 R=none/\H' O=some (.lst ((rem.map (E3_ acc)).map V.str))/\H' R=some (.lst ys)/\Fk_ S1 ys ((dn.map λk=>(E3_ acc k,tr k)).map dRw)/\(∀k∈dn,Ro m (E7_ acc k) k (tr k))/\(dn++rem).Perm (List.range acc.length)) (λ_ H'=>KC_ O H') ⟨zz,none,none,none,H1,List.range acc.length,[],λ_=>[],[],rfl,EL_.refl _,s12,nO1,nR,hO3,hR3,rfl,λk hk=>(nomatch hk),.refl _⟩ ?_;rintro σ H' ⟨zz,e21,e22,e23,S1,rem,dn,tr,ys,rfl,sS,sH,SO,SR,hO',hR',repS,htr,pm⟩;nofun;show⟨AB_ _,λp np=>?_⟩;have Sp:EL_ H' (upd H' p (HO.lst [])):=EL_.new np;have repO:Rep (upd H' p (HO.lst [])) (.ref O) (.lst ((rem.map (E3_ acc)).map Dt.str)):=⟨O,_,rfl,Sp _ _ hO',bf_ _⟩;have repp:Rep (upd H' p (HO.lst [])) (.ref p) (.lst []):=⟨p,[],rfl,aa_,rfl⟩;have sH2:EL_ S1 (upd H' p (HO.lst [])):=sH.trans Sp;generalize upd H' p (HO.lst [])=Hq at*;have hOq:=Sp _ _ hO';have hRq:=Sp _ _ hR'
    show⟨_,repO,_,repp,decide (rem=[]),by
     cases rem with
     |nil=>rfl
     |cons x r=>simp[deq,deqs],jt_ _,ite2 (λhne=>?_) (λhemp=>?_)⟩
    .have rne:rem≠[]:=BK_ hne;have rl0:0<rem.length:=Bg_.mpr rne;show⟨_,N_ok,?_⟩;have pml:=pm.length_eq;rw[Af_,B4_]at pml;have xl:(((rem.map (E3_ acc)).map V.str).length:Int)=(rem.length:Int):=by rw[Ab_,Ab_]
     obtain⟨t,ht,tl⟩:∃t:Nat,zz%(((rem.map (E3_ acc)).map V.str).length:Int)=t/\t<rem.length:=by rw[xl];have a1:=A2_ zz (show(rem.length:Int)≠0 by lia);have a2:=AZ_ zz (show(0:Int)<(rem.length:Int) by lia);show⟨(zz%(rem.length:Int)).toNat,o_,o_⟩
     have er:(((rem.map (E3_ acc)).map V.str).eraseIdx t)=((rem.eraseIdx t).map (E3_ acc)).map V.str:=by rw[gl_,gl_]
     have el:(rem.eraseIdx t).length=rem.length-1:=List.length_eraseIdx_of_lt tl;have lg:((((rem.map (E3_ acc)).map V.str).eraseIdx t).length+1:Int).natAbs.log2<9000:=by rw[er,Ab_,Ab_];show gN_ (b:=1000) o_ o_ d_
     have hp0:rem[t]?=some (rem[t]):=Aa_ tl;have pn:rem[t]<acc.length:=AU_.mp (pm.mem_iff.mp (AO_ _ (Bn_ tl)));have pm2:(dn++[rem[t]]++rem.eraseIdx t).Perm (List.range acc.length):=by show List.Perm.trans ?_ pm;rw[A4_];show(gO_ tl).append_left dn
     generalize rem[t]=pt at*;show⟨.inl ⟨_,.inl (.inl hOq)⟩,_,.inl hOq,by rw[xl];lia,_,hOq,by rw[ht];lia,by rw[ht];lia,t,?_,.str (E3_ acc pt),by rw[Ae_,Ae_,hp0];rfl,?_⟩
     .rw[ht,D6_ o_ o_,A5_]
     rw[er];have sH3:EL_ S1 (upd Hq O (HO.lst (((rem.eraseIdx t).map (E3_ acc)).map V.str))):=b5_ sH2 SO;have hR3:upd Hq O (HO.lst (((rem.eraseIdx t).map (E3_ acc)).map V.str)) R=some (.lst ys):=by rw[ae_ RO];show hRq
     have hO3:=aa_ (H:=Hq) (a:=O) (o:=HO.lst (((rem.eraseIdx t).map (E3_ acc)).map V.str));generalize upd Hq O (HO.lst (((rem.eraseIdx t).map (E3_ acc)).map V.str))=H4 at*;have s14:EL_ H1 H4:=sS.trans sH3;have D4:=M.D.mono s14;obtain⟨l,hl,hv,hrow⟩:=D4.at (at_A pn);have hrow':H4 l=some (.lst ((E7_ acc pt).map V.str)):=hrow;clear hrow;have rlen:(E7_ acc pt).length<=16:=by have:=lm_ M.rl pt;lia
     rw[er]at lg;show⟨o_,lg,.ref l,hv▸FZ_.k (k:=.inr (E3_ acc pt)) D4.dict,?_⟩;show⟨λσ Hx=>∃(z':Int)(tn:Nat),σ=[some (.int z'),some (.int m),some (.int mo),some (.int st),some (.ref nl),some (.ref pl),some (.ref il),some (.ref wl),some (.ref d),e9,some (.ref al),some (.ref mt),some (.ref wo),e13,e14,e15,e16,e17,e18,some (.ref R),some (.ref O),some (.str (E3_ acc pt)),some (.ref l),some (.int tn)]/\Hx=H4/\tn<=(E7_ acc pt).length/\(pt<m->tn=0)/\(m<=pt->tn<(E7_ acc pt).length),?_,?_⟩
     .nofun;show⟨ps.map V.str,.inl (.inl (.inl (D4.sH _ _ L.pl))),rfl,by rw[List.all_map];show List.all_eq_true.mpr λ_ _=>rfl,?_⟩;rw[jv_];show ite2 (λh=>?_) (λ_=>⟨0,rfl,AB_ _,λ_=>rfl,λz=>Bg_.mpr (M.I.inner pt z pn)⟩);have h':=BK_ h;have ptm:m<=pt:=by show Nat.le_of_not_lt λhlt=>h' ?_;obtain⟨r,hr'⟩:=M.po pt (ps[pt]'(by rw[L.pn];show hlt)) (Aa_ (by rw[L.pn];show hlt));rw[at_A pn]at hr';rw[show E3_ acc pt=_ from congrArg Prod.fst (Ar_ hr')];show Bn_ _
      have rpos:=Bg_.mpr (M.I.inner pt ptm pn);generalize zz/(((((rem.eraseIdx t).map (E3_ acc)).map V.str).length:Int)+1)=yy;have a1:=A2_ yy (show(((E7_ acc pt).length:Nat):Int)≠0 by lia);have a2:=AZ_ yy (show 0<(((E7_ acc pt).length:Nat):Int) by lia);show⟨_,.inl hrow',by rw[Ab_];lia,_,.inl hrow',by rw[Ab_];lia,by rw[Ab_];show gN_ (b:=1000) o_ o_ d_,(yy%(((E7_ acc pt).length:Nat):Int)).toNat,by rw[Ab_];lia,o_,λz=>absurd ptm o_,λ_=>o_⟩
     .rintro σ Hx ⟨z',tn,rfl,rfl,tnl,tn0,tn1⟩;nofun;show⟨.inl ⟨_,.inl (.inl hR3)⟩,_,hrow',λp1 n1=>?_⟩;rw[gW_ _ _ (by rw[Ab_];show tnl),<-EA_];have q1:EL_ Hx (upd Hx p1 (HO.lst (((E7_ acc pt).drop tn).map V.str))):=EL_.new n1;have hp1:=aa_ (H:=Hx) (a:=p1) (o:=HO.lst (((E7_ acc pt).drop tn).map V.str));generalize upd Hx p1 (HO.lst (((E7_ acc pt).drop tn).map V.str))=H5 at*;show⟨_,q1 _ _ hrow',λp2 n2=>?_⟩;rw[kr_ _ _ (by rw[Ab_];show tnl),<-Dw_];have q2:EL_ H5 (upd H5 p2 (HO.lst (((E7_ acc pt).take tn).map V.str))):=EL_.new n2;generalize upd H5 p2 (HO.lst (((E7_ acc pt).take tn).map V.str))=H6 at*;show⟨_,q2 _ _ hp1,AV_ (EN_ (by simp only[Ab_,By_,BI_];lia)),λp3 n3=>⟨d_,λp4 n4=>?_⟩⟩;rw[<-Aq_]at n4⊢;have q3:EL_ H6 (upd H6 p3 (HO.lst (((E7_ acc pt).drop tn++(E7_ acc pt).take tn).map V.str))):=EL_.new n3;have hp3:=aa_ (H:=H6) (a:=p3) (o:=HO.lst (((E7_ acc pt).drop tn++(E7_ acc pt).take tn).map V.str));generalize upd H6 p3 (HO.lst (((E7_ acc pt).drop tn++(E7_ acc pt).take tn).map V.str))=H7 at*;have q4:EL_ H7 (upd H7 p4 (HO.tup [V.str (E3_ acc pt),V.ref p3])):=EL_.new n4;have hp4:=aa_ (H:=H7) (a:=p4) (o:=HO.tup [V.str (E3_ acc pt),V.ref p3]);generalize upd H7 p4 (HO.tup [V.str (E3_ acc pt),V.ref p3])=H8 at*;have f3:Hx p3=none:=(q1.trans q2).free n3;have f4:Hx p4=none:=((q1.trans q2).trans q3).free n4;have qx:EL_ Hx H8:=((q1.trans q2).trans q3).trans q4;have hp38:=q4 _ _ hp3;clear q1 q2 q3 q4 hp1 hp3 n1 n2 n3 n4 H5 H6 H7;have g1:EL_ S1 (grow S1 Hx H8):=kF_ sH3;have g2:EL_ (grow S1 Hx H8) H8:=m7_ sH3 qx;have gO:grow S1 Hx H8 O=none:=by rw[g7_ hO3];show SO
      have gR:grow S1 Hx H8 R=none:=by rw[g7_ hR3];show SR
      have gD:grow S1 Hx H8 p3=some (.lst (((E7_ acc pt).drop tn++(E7_ acc pt).take tn).map V.str)):=by rw[kE_ f3];show hp38
      have gT:grow S1 Hx H8 p4=some (.tup [V.str (E3_ acc pt),V.ref p3]):=by rw[kE_ f4];show hp4
      have yl:ys.length=dn.length:=by rw[repS.length,Ab_,Ab_]
      show⟨ys,qx _ _ hR3,EN_ o_,⟨grow S1 Hx H8,sS.trans g1,b5_ g2 gR,gO,gR,rem.eraseIdx t,?_,dn++[pt],λk=>if k=pt then(E7_ acc pt).drop tn++(E7_ acc pt).take tn else tr k,?_,?_,pm2⟩,?_⟩
      .rw[ae_ RO.symm];show qx _ _ hO3
      .have ptd:pt∉dn:=λhd=>by have nd2:=pm2.nodup_iff.mpr CE_;rw[A4_]at nd2;show(AS_.mp nd2).2.2 pt hd pt s_ rfl
       have e1:((dn++[pt]).map λk=>(E3_ acc k,if k=pt then(E7_ acc pt).drop tn++(E7_ acc pt).take tn else tr k))=(dn.map λk=>(E3_ acc k,tr k))++[(E3_ acc pt,(E7_ acc pt).drop tn++(E7_ acc pt).take tn)]:=by
        rw[Aq_];congr 1
        .show A0_ λk hk=>?_;rw[if_neg (show ¬ k=pt from λz=>ptd (z▸hk))]
        .change[(E3_ acc pt,if pt=pt then _ else _)]=_;rw[if_pos rfl]
       rw[e1,Aq_];show Fk_.append (Fk_.mono g1 _ repS) ⟨_,_,rfl,⟨p4,_,rfl,gT,_,_,rfl,rfl,_,_,rfl,⟨p3,_,rfl,gD,bf_ _⟩,rfl⟩,rfl⟩
      .intro k hk;change Ro m (E7_ acc k) k (if k=pt then(E7_ acc pt).drop tn++(E7_ acc pt).take tn else tr k);by_cases ek:k=pt
       .subst ek;rw[if_pos rfl];show⟨tn,tnl,rfl,tn0,tn1⟩
       .rw[if_neg ek]
        rcases Ap_.mp hk with h|h
        .show htr k h
        .show absurd (Ak_.mp h) ek
      .unfold KC_;rw[ae_ RO.symm,qx _ _ hO3,hO'];change(List.map V.str _).length<(List.map V.str _).length;rw[Ab_,Ab_,Ab_,Ab_];lia
    .have re:rem=[]:=by
      by_cases h:rem=[]
      .show h
      .show absurd (AE_ h) hemp
     subst re;rw[Bp_]at pm;show⟨sS.trans sH2,dn,tr,ys,hRq,Fk_.mono sH2 _ repS,htr,pm⟩
   .rintro σ H' ⟨zz,e21,e22,e23,dn,tr,ys,rfl,sH,hR',repR,htr,pm⟩;nofun;obtain⟨wy,hwy,wyl,wyt⟩:=M.wor;have c16:c<=ws.length:=by rw[L.wn];lia
    have wat:∀i,i<c->ws[i]?=some (ws.getD i Str.empty):=λi hi=>by rw[Ag_,Aa_ (show i<ws.length by lia)];rfl
    have winj:∀i j,i<c->j<c->ws.getD i Str.empty=ws.getD j Str.empty->i=j:=λi j hi hj e=>(AQ_ (show i<ws.length by lia) L.wd).mp (by rw[wat i hi,wat j hj,e]);show⟨wo,wy,λi=>ws.getD i Str.empty,rfl,sH _ _ hwy,o_,λi hi=>?_,λi j hi hj e=>winj i j o_ o_ e,λl is nl' ispm isle=>⟨d_,λpe npe=>?_⟩⟩
    .obtain⟨a,u,e,h1,h2,h3⟩:=wyt i _ o_ (wat i o_);show⟨a,u,e,h1,sH _ _ h2,sH _ _ h3⟩
    .have cho:∀i,∃e:Int×Int,i<c->Rep H1 (wy.getD i .non) (dWo (ws.getD i Str.empty,e)):=λi=>by
      by_cases hi:i<c
      .obtain⟨a,u,e,h1,h2,h3⟩:=wyt i _ hi (wat i hi);show⟨e,λ_=>?_⟩;rw[Ag_,h1];show⟨a,_,rfl,h2,_,_,rfl,rfl,_,_,rfl,⟨u,_,rfl,h3,_,_,rfl,rfl,_,_,rfl,rfl,rfl⟩,rfl⟩
      .show⟨(0,0),λh=>absurd h hi⟩
     obtain⟨ef,hef⟩:=Classical.axiomOfChoice cho;have islt:∀i,i∈is↔i<c:=λi=>by rw[ispm.mem_iff,AU_,wyl]
     have Sl:EL_ H' (upd H' l (HO.lst (is.map λi=>wy.getD i .non))):=EL_.new nl';have hl':=aa_ (H:=H') (a:=l) (o:=HO.lst (is.map λi=>wy.getD i .non));generalize upd H' l (HO.lst (is.map λi=>wy.getD i .non))=H7 at*;have Se:EL_ H7 (upd H7 pe (HO.tup [V.ref pl,V.ref R,V.ref l])):=EL_.new npe;have he:=aa_ (H:=H7) (a:=pe) (o:=HO.tup [V.ref pl,V.ref R,V.ref l]);generalize upd H7 pe (HO.tup [V.ref pl,V.ref R,V.ref l])=H8 at*;have tot:EL_ H1 H8:=sH.trans (Sl.trans Se);have nat:∀i,i<acc.length->(acc.map Prod.fst)[i]?=some (E3_ acc i):=λi hi=>by rw[Ae_,at_A hi];rfl
     have ninj:∀a b,a<acc.length->b<acc.length->E3_ acc a=E3_ acc b->a=b:=λa b ha hb e=>(AQ_ (by rw[Ab_];show ha) M.D.keys).mp (by rw[nat a ha,nat b hb,e]);have pat:∀j (h:j<ps.length),j<acc.length/\E3_ acc j=ps[j]:=λj h=>by obtain⟨r,hr'⟩:=M.po j _ (Aa_ h);have hj:=(Ad_.mp hr').1;rw[at_A hj]at hr';show⟨hj,congrArg Prod.fst (Ar_ hr')⟩
     have hps:∀k,k<acc.length->(E3_ acc k∈ps↔k<m):=λk hk=>by
      constructor
      .intro h;obtain⟨j,hj,ej⟩:=Ax_.mp h;obtain⟨p1,p2⟩:=pat j hj;have:=ninj k j hk p1 (by rw[p2,ej]);rw[L.pn]at hj;lia
      .intro h;have hk2:k<ps.length:=by rw[L.pn];show h
       rw[(pat k hk2).2];show Bn_ _
     have isn:is.Nodup:=ispm.nodup_iff.mpr CE_
     have td:Jm_ (acc.map (·.2)) m ps (E3_ acc) dn tr:=by
      show⟨by rw[Ab_];show M.I.le,m0,λa b ha hb=>ninj a b (by rw[Ab_]at ha;show ha) (by rw[Ab_]at hb;show hb),L.pn,λj hj=>?_,by rw[Ab_];show pm,λk hk=>?_⟩
      .rw[Aa_ (show j<ps.length by rw[L.pn];show hj),(pat j (by rw[L.pn];show hj)).2]
      .rw[go_];rw[Ab_]at hk;show htr k (pm.mem_iff.mpr (AU_.mpr hk))
     have I0:=ln_ M.I;have wnd:(ws.take c).Nodup:=L.wd.sublist (List.take_sublist _ _);have cm:=M.cm;obtain⟨ok,po⟩:=td.net (wl:=is.map λi=>(ws.getD i Str.empty,ef i)) I0 wnd (by rw[Ab_];lia) m6 (by rw[BI_];lia) (by rw[Ab_,ispm.length_eq,B4_];lia);have lnN:LnN ⟨ps,dn.map λk=>(E3_ acc k,tr k),is.map λi=>(ws.getD i Str.empty,ef i)⟩:=by show⟨λx=>ns.getD x 0,mf,?_⟩;have:=td.lines ok po I0 Mt.li;change LI _ ps.length _ _;rw[L.pn];show this
     show k (.ref pe) ⟨ps,dn.map λk=>(E3_ acc k,tr k),is.map λi=>(ws.getD i Str.empty,ef i)⟩ H8 ((L.hs.trans M.D.sH).trans tot) ⟨pe,_,rfl,he,_,_,rfl,⟨pl,_,rfl,tot _ _ (M.D.sH _ _ L.pl),bf_ _⟩,_,_,rfl,⟨R,ys,rfl,(Sl.trans Se) _ _ hR',Fk_.mono (Sl.trans Se) _ repR⟩,_,_,rfl,⟨l,_,rfl,Se _ _ hl',?_⟩,rfl⟩ ok po lnN
     .change Fk_ H8 _ ((is.map λi=>(ws.getD i Str.empty,ef i)).map dWo);rw[AP_];show jw_ _ _ is λi hi=>(hef i ((islt i).mp hi)).mono tot
theorem lo_:∀{us:List V}{ts:List Str},Fk_ H us (ts.map dS)->us=ts.map V.str:=λh=>hi_ h
def dE(e:End Str):Dt:=.tup [.str e.1,.int e.2]
def Fz_(acc:List (Str×List (End Str)))(ls:List Addr):List (Key×V):=List.zipWith (λkv l=>(Sum.inr kv.1,V.ref l)) acc ls
structure DE(en:End Str->Dt)(S H:Hp)(d:Addr)(ls:List Addr)(acc:List (Str×List (End Str))):Prop where
 sH:EL_ S H
 dict:H d=some (.dK (Fz_ acc ls))
 len:ls.length=acc.length
 nd:ls.Nodup
 dn:d∉ls
 lst:∀(i:Nat)(l:Addr)(kv:Str×List (End Str)),ls[i]?=some l->acc[i]?=some kv->∃vs,H l=some (.lst vs)/\Fk_ S vs (kv.2.map en)
 fd:S d=none
 fl:∀l∈ls,S l=none
variable{en:End Str->Dt}
theorem DE.mono{acc:List (Str×List (End Str))}(h:DE en S H d ls acc)(s:EL_ H H'):DE en S H' d ls acc :=
 ⟨h.sH.trans s,s _ _ h.dict,h.len,h.nd,h.dn,λi l kv h1 h2=>(h.lst i l kv h1 h2).elim λvs z=>⟨vs,s _ _ z.1,z.2⟩,h.fd,h.fl⟩
variable{q:Addr}
theorem DE.stay{acc:List (Str×List (End Str))}(h:DE en S H d ls acc)(nq:H q=none)(o:HO):DE en (upd S q o) (upd H q o) d ls acc:=by
 have qd:q≠d:=(ag_ h.dict nq).symm;have ql:∀l∈ls,q≠l:=λl hl e=>by obtain⟨i,hi,ei⟩:=Ax_.mp hl;obtain⟨vs,z,_⟩:=h.lst i l (acc[i]'(by rw[<-h.len];show hi)) (by rw[Aa_ hi,ei]) (Aa_ _);rw[<-e,nq]at z;cases z
 show⟨lU_ h.sH nq,by rw[ae_ qd.symm];show h.dict,h.len,h.nd,h.dn,λi l kv h1 h2=>(h.lst i l kv h1 h2).elim λvs z=>⟨vs,by rw[ae_ (ql l (Ai_ h1)).symm];show z.1,Fk_.mono (ey_ h.sH nq) _ z.2⟩,by rw[ae_ qd.symm];show h.fd,λl hl=>by rw[ae_ (ql l hl).symm];show h.fl l hl⟩
theorem iY_{acc:List (Str×List (End Str))}(h:ls.length=acc.length):(Fz_ acc ls).length=acc.length:=by unfold Fz_;rw[EE_];lia
theorem dN_{w:Str}:∀{acc:List (Str×List (End Str))}{ls:List Addr}{i:Nat}{es:List (End Str)},ls.length=acc.length->acc[i]?=some (w,es)->(∀j kv,j<i->acc[j]?=some kv->kv.1≠w)->∃l,ls[i]?=some l/\Fl_ (Fz_ acc ls) (.inr w)=some (.ref l)
 |[],_,_,_,_,h,_=>by cases h
 |kv::acc,[],_,_,h,_,_=>by cases h
 |kv::acc,l::ls,0,es,_,h,_=>by
  cases h;show⟨l,rfl,aU_ rfl⟩
 |kv::acc,l::ls,i+1,es,hl,h,hn=>by obtain⟨l',h1,h2⟩:=dN_ (w:=w) (acc:=acc) (ls:=ls) (i:=i) (by simpa using hl) h λj kv hj hkv=>hn (j+1) kv o_ hkv;show⟨l',h1,?_⟩;change Fl_ ((Sum.inr kv.1,V.ref l)::Fz_ acc ls) (.inr w)=_;rw[aP_ (λz=>hn 0 kv o_ rfl (Cn_ z))];show h2
theorem fE_{w:Str}:∀{acc:List (Str×List (End Str))}{ls:List Addr},(∀kv∈acc,kv.1≠w)->Fl_ (Fz_ acc ls) (.inr w)=none
 |[],_,_=>by unfold Fz_;rw[List.zipWith_nil_left];rfl
 |kv::acc,[],_=>rfl
 |kv::acc,l::ls,h=>by change Fl_ ((Sum.inr kv.1,V.ref l)::Fz_ acc ls) (.inr w)=_;rw[aP_ (λz=>h kv Au_ (Cn_ z))];show fE_ λkv hkv=>h kv (Am_ _ hkv)
variable{e:End Str}
theorem mj_{w:Str}{acc:List (Str×List (End Str))}(hl:ls.length=acc.length)(h:∀kv∈acc,kv.1≠w):Fn_ (Fz_ acc ls) (.inr w) (.ref q)=Fz_ (acc++[(w,[e])]) (ls++[q]):=by have hv:=fE_ (ls:=ls) h;unfold Fn_;rw[if_neg (by rw[cn_,hv];decide)];unfold Fz_;rw[EF_ hl.symm];rfl
variable{es:List (End Str)}{vs:List V}
theorem DE.old{acc:List (Str×List (End Str))}(h:DE en S H d ls acc){w:Str}{l:Addr}{t:V}(hi:acc[i]?=some (w,es))(hl:ls[i]?=some l)(hv:H l=some (.lst vs))(hr:Fk_ S vs (es.map en))(ht:Rep S t (en e)):
  DE en S (upd H l (.lst (vs++[t]))) d ls (acc.set i (w,es++[e])):=by
 have dl:d≠l:=λz=>h.dn (by rw[z];show Ai_ hl);have il:i<ls.length:=(Ad_.mp hl).1;have ia:i<acc.length:=by rw[<-h.len];show il
 show⟨b5_ h.sH (h.fl l (Ai_ hl)),?_,by rw[Cj_];show h.len,h.nd,h.dn,λj l' kv h1 h2=>?_,h.fd,h.fl⟩
 .rw[ae_ dl,h.dict];congr 2;unfold Fz_;apply CB_
  .simp
  .intro j g1 g2;rw[Ev_,Ev_];by_cases z:i=j
   .subst z;rw[Ei_];rw[Aa_ ia]at hi;rw[Ar_ hi]
   .rw[Df_ z]
 .rw[List.getElem?_set]at h2;by_cases z:i=j
  .subst z;rw[if_pos rfl,if_pos ia]at h2;cases h2;rw[hl]at h1;cases h1;show⟨_,aa_,?_⟩;rw[Aq_];show Fk_.append hr ⟨_,_,rfl,ht,rfl⟩
  .rw[if_neg z]at h2;obtain⟨vs',g1,g2⟩:=h.lst j l' kv h1 h2;have ll:l'≠l:=λy=>by rw[y]at h1;show z ((AQ_ il h.nd).mp (hl.trans h1.symm))
   show⟨vs',by rw[ae_ ll];show g1,g2⟩
theorem DE.new{acc:List (Str×List (End Str))}(h:DE en S H d ls acc){w:Str}{t:V}(hn:∀kv∈acc,kv.1≠w)(hq:H q=some (.lst []))(qd:q≠d)(ql:q∉ls)(Sq:S q=none)(ht:Rep S t (en e)):
  DE en S (upd (upd H d (.dK (Fn_ (Fz_ acc ls) (.inr w) (.ref q)))) q (.lst [t])) d (ls++[q]) (acc++[(w,[e])]):=by
 show⟨b5_ (b5_ h.sH h.fd) Sq,?_,by simp[h.len],?_,?_,λj l' kv h1 h2=>?_,h.fd,λl hl=>?_⟩
 .rw[ae_ qd.symm,aa_,mj_ h.len hn]
 .show AS_.mpr ⟨h.nd,s_,λx hx y hy z=>ql (by rw[<-Ak_.mp hy,<-z];show hx)⟩
 .intro z
  rcases Ap_.mp z with z|z
  .show h.dn z
  .show qd (Ak_.mp z).symm
 .by_cases hj:j<ls.length
  .rw[Ao_ hj]at h1;rw[Ao_ (by rw[<-h.len];show hj)]at h2;obtain⟨vs',g1,g2⟩:=h.lst j l' kv h1 h2;have e1:l'≠q:=λz=>ql (by rw[<-z];show Ai_ h1);have e2:l'≠d:=λz=>h.dn (by rw[<-z];show Ai_ h1);show⟨vs',by rw[ae_ e1,ae_ e2];show g1,g2⟩
  .rw[Ay_ o_]at h1;rw[Ay_ (by rw[<-h.len];lia)]at h2;have e1:=Ak_.mp (Ai_ h1);have e2:=Ak_.mp (Ai_ h2);subst e1 e2;show⟨_,aa_,_,_,rfl,ht,rfl⟩
 .rcases Ap_.mp hl with z|z
  .show h.fl l z
  .rw[Ak_.mp z];show Sq
variable{N:Net Str}
theorem eg_{v:V}(h:Rep H v (FT_ N)):∃(pn p0 p1 p2:Addr)(rs ws:List V),v=.ref pn/\H pn=some (.tup [.ref p0,.ref p1,.ref p2])/\H p0=some (.lst (N.posts.map V.str))/\H p1=some (.lst rs)/\Fk_ H rs (N.rows.map dRw)/\H p2=some (.lst ws)/\Fk_ H ws (N.worths.map dWo):=by obtain⟨pn,_,rfl,hn,_,_,rfl,⟨p0,ps,rfl,h0,r0⟩,_,_,rfl,⟨p1,rs,rfl,h1,r1⟩,_,_,rfl,⟨p2,ws,rfl,h2,r2⟩,rfl⟩:=h;rw[lo_ r0]at h0;show⟨pn,p0,p1,p2,rs,ws,rfl,hn,h0,h1,r1,h2,r2⟩
theorem lp_{v:V}{r:Str×List Str}(h:Rep H v (dRw r)):∃q l,v=.ref q/\H q=some (.tup [.str r.1,.ref l])/\H l=some (.lst (r.2.map V.str)):=by obtain⟨q,_,rfl,hq,x,_,rfl,hx,_,_,rfl,⟨l,us,rfl,hl,rl⟩,rfl⟩:=h;rw[lo_ rl]at hl;cases hx;show⟨q,l,rfl,hq,hl⟩
variable{rs:List V}{rows:List (Str×List Str)}
theorem dO_{x:V}(h:Fk_ H rs (rows.map dRw))(e:rs[i]?=some x):∃r q l,rows[i]?=some r/\x=.ref q/\H q=some (.tup [.str r.1,.ref l])/\H l=some (.lst (r.2.map V.str)):=by
 obtain⟨d,hd,hr⟩:=h.of_get e;rw[Ae_]at hd;cases e2:rows[i]? with
 |none=>rw[e2]at hd;cases hd
 |some r =>rw[e2]at hd;rw[<-Ar_ hd]at hr;obtain⟨q,l,h1,h2,h3⟩:=lp_ hr;show⟨r,q,l,rfl,h1,h2,h3⟩
theorem gP_(p:Str):∀(ws:List Str)(k j:Nat),(Fi_ p k ws)[j]?=(ws[j]?).map λx=>(x,(p,k+j))
 |[],_,_=>by simp[Fi_]
 |w::ws,k,0=>rfl
 |w::ws,k,j+1=>by change(Fi_ p (k+1) ws)[j]?=(ws[j]?).map λx=>(x,(p,k+(j+1)));rw[gP_ p ws (k+1) j,show k+1+j=k+(j+1) by lia]
theorem jU_(p:Str)(ws:List Str)(k:Nat):(Fi_ p k ws).length=ws.length:=by
 have:=congrArg List.length (e7_ p ws k)
 rwa[Ab_]at this
theorem jx_{r:Str×List Str}(h:rows[i]?=some r):occ (rows.take (i+1))=occ (rows.take i)++Fi_ r.1 0 r.2:=by unfold occ;rw[Bu_,h,Aq_,AX_];simp
theorem jy_(ok:E0_ N)(l m:List (Str×End Str))(h:l++m=occ N.rows):(E4_ l).length<=30:=by
 have e:∀l:List (Str×End Str),(E4_ l).length<=l.length:=λl=>by
  have key:∀n (l:List (Str×End Str)),l.length=n->(E4_ l).length<=n:=λn=>by
   induction n with
   |zero=>intro l h;rw[Bb_ h];show Aj_ _
   |succ n ih =>
    intro l h;obtain⟨m,x,rfl⟩:∃m x,l=m++[x]:=⟨l.dropLast,l.getLast (λe=>by rw[e]at h;cases h),(Cw_ _).symm⟩;rw[cQ_];have h2:=ih m (by simpa using h);have h3:=congrArg List.length (cR_ (w:=x.1) (e:=x.2) (a:=E4_ m));rw[Ab_]at h3;split at h3
    .rw[Ab_]at h3;lia
    .rw[Af_,Ab_]at h3;simp at h3;lia
  show key _ l rfl
 have h1:=e l;have h2:=congrArg List.length h;have h3:=congrArg List.length (g2_ N.rows);rw[Ab_]at h3;have h4:=ok.tot;unfold Net.all at h4;rw[Af_]at h2;lia
theorem jV_(ok:E0_ N)(l m:List (Str×End Str))(h:l++m=occ N.rows):∀kv∈E4_ l,kv.2.length<=30:=λkv hkv=>by
 have h0:=(a3_ _ l rfl).2.1 kv hkv;have h1:kv.2.length<=l.length:=by rw[h0,Ab_];show Eo_ _ _
 have h2:=congrArg List.length h;have h3:=congrArg List.length (g2_ N.rows);rw[Ab_]at h3;have h4:=ok.tot;unfold Net.all at h4;rw[Af_]at h2;lia
theorem mk_{a b:Addr}{x y:HO}(h:a≠b):upd (upd H a x) b y=upd (upd H b y) a x:=by
 funext c;by_cases h1:c=a
 .subst h1;rw[ae_ h,aa_,aa_]
 .by_cases h2:c=b
  .subst h2;rw[aa_,ae_ h1,aa_]
  .rw[ae_ h2,ae_ h1,ae_ h1,ae_ h2]
abbrev EZ_:Stmt:=stN 15
theorem aV_:ZL ["net","ends","point","wires","place","wire"] ["net"] (EO_ EZ_):=zL
theorem cy_:LK EZ_ "enumerate" .globalImplicit:=r_
def HL_:Sp:=λvs H Q _=>∃(v:V)(N:Net Str),vs=[v]/\Rep H v (FT_ N)/\E0_ N/\∀d S ls H',EL_ H S->DE dE S H' d ls (Fq_ N)->H d=none->Q (.ref d) H'
theorem gp_(T:Txt K mg)(F:Fn0 K mg "ends_by_wire" EZ_):Cal P w K mg base "ends_by_wire" ["net"] 1 HL_:=by
  show aY_ F aV_.1 λf cdv A outer s H vs Q E hr h=>?_;obtain⟨v,N,rfl,hv,ok,k⟩:=h;refine'⟨_,?D,?R⟩
  case D =>
   refine' ac_ ?a (ac_ ?b (ah_ (aF_ (zv 1 aV_))))
   case a=>show zas 1 aV_ g8_
   case' b=>refine' bq_ AI_ rfl (aT_ (K:=K) rfl (EU_ ak_ (zv 0 aV_) ad_)) (by_ (K:=K) (n:=2) rfl rfl (an_ ?c (an_ ?d bw_))) ?e
   case c=>show zh 2 aV_
   case d=>show zh 3 aV_
   case' e=>refine' ah_ (bq_ AI_ rfl (iF_ (K:=K) rfl cy_ T.n_enumerate (pa_c (zv 3 aV_) ab_)) (by_ (K:=K) (n:=2) rfl rfl (an_ ?f (an_ ?g bw_))) ?h)
   case f=>show zh 4 aV_
   case g=>show zh 5 aV_
   case' h=>refine' ah_ (au_ (Ft_ AA_ AC_ AD_ aw_ (Ft_ BC_ Cx_ Dk_ eA_ (zv 1 aV_) (pa_c (zv 5 aV_) (pa_c (bx_ ab_) ab_))) ?i))
   case' i=>refine' pa_c (ap_ (pa_c (zv 2 aV_) (pa_c (zv 4 aV_) ab_))) ab_
  case R =>
   nofun;obtain⟨pn,p0,p1,p2,rs,ws,rfl,hn,h0,h1,r1,h2,r2⟩:=eg_ hv;have rl:rs.length=N.rows.length:=by rw[r1.length,Ab_]
   intro d nd;have Sd:EL_ H (upd H d (HO.dK [])):=EL_.new nd;show⟨pn,rfl,_,Sd _ _ hn,_,FA_,p1,rfl,⟨_,.inl (.inl (Sd _ _ h1))⟩,?_⟩;have D0:DE dE H (upd H d (HO.dK [])) d [] (E4_ (occ (N.rows.take 0))):=⟨Sd,aa_,rfl,AY_,λz=>(by cases z),λi l kv z=>(by cases z),nd,λl z=>(by cases z)⟩;show fK_ (xs:=rs) (λi σ H'=>∃(e2 e3 e4 e5:Option V)(S:Hp)(ls:List Addr),σ=[some (.ref pn),some (.ref d),e2,e3,e4,e5]/\EL_ H S/\DE dE S H' d ls (E4_ (occ (N.rows.take i)))) ⟨none,none,none,none,H,[],rfl,EL_.refl _,D0⟩ ?_ ?_ ?_
   .rintro i σ H' hi ⟨e2,e3,e4,e5,S,ls,rfl,sS,de⟩;show .inl (.inl (de.sH _ _ (sS _ _ h1)))
   .rintro i x σ H' hx ⟨e2,e3,e4,e5,S,ls,rfl,sS,de⟩;obtain⟨r,q,l,hr1,rfl,hq,hl⟩:=dO_ r1 hx;have s1:=sS.trans de.sH;rw[jx_ hr1];have occle:∀j,∃m,(occ (N.rows.take i)++(Fi_ r.1 0 r.2).take j)++m=occ N.rows:=λj=>by show⟨(Fi_ r.1 0 r.2).drop j++occ (N.rows.drop (i+1)),?_⟩;rw[A4_,<-A4_ (List.take j _),Bo_,<-A4_,<-jx_ hr1];unfold occ;rw[<-AX_,<-Aq_,Bo_]
    nofun;show⟨_,SqT.of (s1 _ _ hq),rfl,_,_,rfl,_,_,rfl,rfl,l,rfl,⟨_,.inl (.inl (s1 _ _ hl))⟩,?_⟩;show kU_ (xs:=r.2.map V.str) (λj σ H'=>∃(e4 e5:Option V)(S:Hp)(ls:List Addr),σ=[some (.ref pn),some (.ref d),some (.str r.1),some (.ref l),e4,e5]/\EL_ H S/\DE dE S H' d ls (E4_ (occ (N.rows.take i)++(Fi_ r.1 0 r.2).take j))) ⟨e4,e5,S,ls,rfl,sS,by rw[Dj_,Bp_];show de⟩ ?_ ?_ ?_
    .rintro j σ H2 hj ⟨e4,e5,S,ls,rfl,sS,de⟩;show .inl (.inl ((sS.trans de.sH) _ _ hl))
    .rintro j x T0 σ H2 hx ⟨e4,e5,S,ls,rfl,sS,de⟩ nT;rw[Ae_]at hx
     obtain⟨wr,hw,rfl⟩:∃wr,r.2[j]?=some wr/\x=.str wr:=by
      cases e:r.2[j]? with
      |none=>rw[e]at hx;cases hx
      |some wr=>rw[e]at hx;cases hx;show⟨wr,rfl,rfl⟩
     have tk:(Fi_ r.1 0 r.2).take (j+1)=(Fi_ r.1 0 r.2).take j++[(wr,(r.1,j))]:=by rw[Bu_,gP_,hw];simp
     obtain⟨m,hm⟩:=occle j;have few:=jy_ ok _ _ hm;have short:=jV_ ok _ _ hm;rw[tk,<-A4_,cQ_];generalize E4_ (occ (N.rows.take i)++(Fi_ r.1 0 r.2).take j)=acc at*;have de2:=de.mono (EL_.new nT (o:=HO.tup [V.int j,V.str wr]));have hT:=aa_ (H:=H2) (a:=T0) (o:=HO.tup [V.int j,V.str wr]);generalize upd H2 T0 (HO.tup [V.int j,V.str wr])=H3 at*;nofun;show⟨_,SqT.of hT,rfl,_,_,rfl,_,_,rfl,rfl,.inr (.inr (.inl (.inl ⟨_,de2.dict⟩))),AB_ _,λq nq=>?_⟩;have qd:q≠d:=(ag_ de2.dict nq).symm;have ql:q∉ls:=λz=>by obtain⟨i0,hi0,ei⟩:=Ax_.mp z;obtain⟨vs,z2,_⟩:=de2.lst i0 q (acc[i0]'(by rw[<-de2.len];show hi0)) (by rw[Aa_ hi0,ei]) (Aa_ _);rw[nq]at z2;cases z2
     have Sq:S q=none:=de2.sH.free nq;have de3:=de2.mono (EL_.new nq (o:=HO.lst []));have hq4:=aa_ (H:=H3) (a:=q) (o:=HO.lst []);generalize upd H3 q (HO.lst [])=H4 at*;show⟨_,.inr wr,rfl,de3.dict,by rw[iY_ de3.len];lia,λv2 hv2=>?_,λhnone=>?_⟩
     .have hex:∃kv∈acc,kv.1=wr:=by
       by_cases hc:∃kv∈acc,kv.1=wr
       .show hc
       .rw[fE_ (λkv hkv z=>hc ⟨kv,hkv,z⟩)]at hv2;cases hv2
      obtain⟨i0,es,g1,g2,g3⟩:=cP_ (e:=(r.1,j)) hex;obtain⟨lw,l1,l2⟩:=dN_ de3.len g1 g2;rw[l2]at hv2;cases hv2;obtain⟨vs,hvs,hrep⟩:=de3.lst i0 lw _ l1 g1;have vle:vs.length<=30:=by rw[hrep.length,Ab_];show short _ (Ai_ g1)
      show⟨.inl ⟨_,.inl (.inl hvs)⟩,d_,λt nt=>⟨lw,rfl,vs,(EL_.new nt) _ _ hvs,EN_ o_,?_⟩⟩;have de5:=de3.stay nt (.tup [.str r.1,.int j]);have de6:=de5.old g1 l1 ((EL_.new nt) _ _ hvs) (Fk_.mono (ey_ de3.sH nt) _ hrep) (e:=(r.1,j)) ⟨t,_,rfl,aa_,_,_,rfl,rfl,_,_,rfl,rfl,rfl⟩;rw[g3];show⟨_,sS.trans (ey_ de3.sH nt),ls,de6⟩
     .have hno:∀kv∈acc,kv.1≠wr:=λkv hkv z=>by obtain⟨i0,es,g1,g2,g3⟩:=cP_ (e:=(r.1,j)) ⟨kv,hkv,z⟩;obtain⟨lw,l1,l2⟩:=dN_ de3.len g1 g2;rw[l2]at hnone;cases hnone
      have hqd:upd H4 d (HO.dK (Fn_ (Fz_ acc ls) (Sum.inr wr) (V.ref q))) q=some (.lst []):=by rw[ae_ qd];show hq4
      show⟨.inl ⟨_,.inl (.inl hqd)⟩,d_,λt nt=>?_⟩;have td:t≠d:=λz=>by rw[z,aa_]at nt;cases nt
      have nt4:H4 t=none:=by rw[ae_ td]at nt;show nt
      have tq:t≠q:=(ag_ hq4 nt4).symm;have de5:=de3.stay nt4 (.tup [.str r.1,.int j]);have de6:=de5.new (e:=(r.1,j)) (q:=q) hno (by rw[ae_ tq.symm];show hq4) qd ql (by rw[ae_ tq.symm];show Sq) ⟨t,_,rfl,aa_,_,_,rfl,rfl,_,_,rfl,rfl,rfl⟩;show⟨[],by rw[ae_ tq.symm];show hqd,EN_ d_,upd S t (.tup [.str r.1,.int j]),sS.trans (ey_ de3.sH nt4),ls++[q],?_⟩;rw[fX_ hno,mk_ td.symm];show de6
    .rintro σ H2 ⟨e4,e5,S,ls,rfl,sS,de⟩;rw[Bl_ (l:=Fi_ r.1 0 r.2) (by rw[jU_,Ab_];show Aj_ _)]at de;show⟨_,_,_,_,rfl,S,sS,ls,de⟩
   .rintro σ H' ⟨e2,e3,e4,e5,S,ls,rfl,sS,de⟩;rw[Bl_ o_]at de;nofun;show k d S ls H' sS de nd
mutual
theorem eR_:∀d:Dt,deq d d=some true
 | .non=>rfl
 | .bl a=>by simp[deq]
 | .int a=>by simp[deq]
 | .str a=>by simp[deq]
 | .tup xs=>gq_ xs
 | .lst xs=>by rw[deq,if_pos rfl];show gq_ xs
theorem gq_:∀ds:List Dt,deqs ds ds=some true
 |[]=>rfl
 |d::ds=>by rw[deqs,eR_ d,gq_ ds];rfl
end
theorem gr_{α:Type}{f:α->Dt}{n:Nat}(h:∀a,dep (f a)<=n):∀l:List α,deps (l.map f)<=n
 |[]=>AB_ _
 |a::l=>Nat.max_le.mpr ⟨h a,gr_ h l⟩
theorem hl_(N:Net Str):dep (FT_ N)<=6:=by
 have h1:dep (.lst (N.posts.map dS))<=5:=AT_ (BT_ (gr_ (f:=dS) (n:=1) (λa=>by simp[dS,dep]) _)) d_;have h2:dep (.lst (N.rows.map dRw))<=5:=AT_ (BT_ (gr_ (f:=dRw) (n:=3) (λr=>by have:dep (.lst (r.2.map dS))<=2:=BT_ (gr_ (f:=dS) (n:=1) (λa=>by simp[dS,dep]) _);change max 0 (max (dep (.lst (r.2.map dS))) 0)+1<=3;lia) _)) d_;have h3:dep (.lst (N.worths.map dWo))<=5:=AT_ (BT_ (gr_ (f:=dWo) (n:=3) (λr=>by simp[dWo,dep,deps]) _)) d_;change max (dep (.lst (N.posts.map dS))) (max (dep (.lst (N.rows.map dRw))) (max (dep (.lst (N.worths.map dWo))) 0))+1<=6;lia
abbrev FY_:Stmt:=stN 91
theorem ml_:ZL ["_law_net"] ["_law_net"] (EO_ FY_):=zL
theorem eS_:LK FY_ "list" .globalImplicit:=r_
def HB_:Sp:=λvs H Q _=>∃(v:V)(N:Net Str),vs=[v]/\Rep H v (FT_ N)/\E0_ N/\∀v' H',EL_ H H'->Rep H' v' (FT_ N)->Q v' H'
theorem mm_(T:Txt K mg)(F:Fn0 K mg "_law_copy" FY_):Cal P w K mg base "_law_copy" ["_law_net"] 1 HB_:=by
  show aY_ F ml_.1 λf cdv A outer s H vs Q E hr h=>?_;obtain⟨v,N,rfl,hv,ok,k⟩:=h;obtain⟨pn,p0,p1,p2,rs,ws,rfl,hn,h0,h1,r1,h2,r2⟩:=eg_ hv;have rl:rs.length=N.rows.length:=by rw[r1.length,Ab_]
  have few:=ok.few;refine'⟨_,?D,?R⟩
  case D =>
   refine' ah_ (aF_ (ap_ (pa_c (b3_ b8_ eS_ T.n_list c5_ (pa_c (EU_ ak_ (zv 0 ml_) ad_) ab_)) ?a)))
   case' a=>refine' pa_c ?b (pa_c (b3_ b8_ eS_ T.n_list c5_ (pa_c (EU_ ak_ (zv 0 ml_) ad_) ab_)) ab_)
   case' b=>refine' e5_ (N':=["_law_point","_law_wires"]) (ix:=[none,none]) rfl rfl (eu_ ?c) (aT_ (K:=K) rfl (EU_ ak_ (zv 0 ml_) ad_)) (λ_ _ _=>(by_ (K:=K) (n:=2) rfl rfl (an_ ?d (an_ ?e bw_)))) (λ_ _ _=>?f) (λ_ _ _=>?g)
   case c=>show(by change HC_ (EO_ FY_) ["_law_net"] _ _ _=true;decide +kernel)
   case d=>show ai_ (i:=0) (by change List.Nodup (["_law_point","_law_wires"]:List Str);decide +kernel) rfl rfl
   case e=>show ai_ (i:=1) (by change List.Nodup (["_law_point","_law_wires"]:List Str);decide +kernel) rfl rfl
   case f=>show fP_
   case' g=>refine' ap_ (pa_c (pv1 0 rfl rfl) (pa_c (b3_ b8_ rfl T.n_list c5_ (pa_c (pv1 1 rfl rfl) ab_)) ab_))
  case R =>
   nofun;show⟨_,hn,_,Fy_,p0,rfl,_,.inl h0,λc0 n0=>?_⟩;have S1:EL_ H (upd H c0 (HO.lst (N.posts.map V.str))):=EL_.new n0;have hc0:=aa_ (H:=H) (a:=c0) (o:=HO.lst (N.posts.map V.str));generalize upd H c0 (HO.lst (N.posts.map V.str))=H1 at*;show⟨_,S1 _ _ hn,_,FA_,p1,rfl,⟨_,.inl (.inl (S1 _ _ h1))⟩,?_⟩;have h11:=S1 _ _ h1;show ev_ (n:=N.rows.length) (B:=λ_=>none) (Pσ:=λσ=>∃e e',σ=[e,e']) (ds:=N.rows.map dRw) (λb o e=>by cases e) ⟨_,_,rfl⟩ s_ o_ (λi H' hi s'=>⟨rs,rs[i]'o_,.inl (.inl (s' _ _ h11)),Aa_ _⟩) (λH' s'=>⟨rs,.inl (.inl (s' _ _ h11)),o_⟩) ?_ ?_
   .rintro D i x d σ' H2 H2' hD hDo hs2 hi hdi ⟨rfl,hy⟩ ⟨e,e',rfl⟩ R kR;obtain⟨od,hDo⟩:=hDo;have hx:=hy _ (.inl (.inl (hs2 _ _ h11)));obtain⟨r,q,l,hr1,rfl,hq,hl⟩:=dO_ r1 hx;have s12:=S1.trans hs2;have hd:d=dRw r:=by rw[Ae_,hr1]at hdi;show(Ar_ hdi).symm
    nofun;show⟨_,SqT.of (s12 _ _ hq),rfl,_,_,rfl,_,_,rfl,rfl,l,rfl,_,.inl (s12 _ _ hl),λc1 n1=>⟨d_,λc2 n2=>?_⟩⟩;have c1D:c1≠D:=(ag_ hDo n1).symm;have c2D:c2≠D:=(ag_ ((EL_.new n1 (o:=HO.lst (r.2.map V.str))) _ _ hDo) n2).symm;show kR _ _ _ ⟨_,_,rfl⟩ ((EL_.new n1).trans (EL_.new n2)) ?_;rw[hd];show⟨c2,_,rfl,by rw[c8_ c2D rfl];show aa_,_,_,rfl,rfl,_,_,rfl,⟨c1,_,rfl,by rw[c8_ c1D rfl];show(EL_.new n2) _ _ aa_,bf_ _⟩,rfl⟩
   .intro D H2 hD s2 rep2;have s02:=S1.trans s2;show⟨_,s02 _ _ hn,_,Ho_,p2,rfl,_,.inl (s02 _ _ h2),λc2 n2=>⟨d_,λpe ne=>?_⟩⟩;have S3:=EL_.new n2 (o:=HO.lst ws);have S4:=EL_.new ne (o:=HO.tup [V.ref c0,V.ref D,V.ref c2]);show k _ _ (s02.trans (S3.trans S4)) ⟨pe,_,rfl,aa_,_,_,rfl,⟨c0,_,rfl,(s2.trans (S3.trans S4)) _ _ hc0,bf_ _⟩,_,_,rfl,Rep.mono (fR_.trans (S3.trans S4)) _ rep2,_,_,rfl,⟨c2,ws,rfl,S4 _ _ aa_,Fk_.mono (s02.trans (S3.trans S4)) _ r2⟩,rfl⟩
def eV(e:End Str):HO:=.tup [.str e.1,.int e.2]
def eK(e:End Str):List Key:=[.inr e.1,.inl (e.2:Int)]
theorem dG_{a b:End Str}(h:eK a=eK b):a=b:=by
 unfold eK at h;injection h with h1 h2
 injection h2 with h3 h4
 show BD_ (Cn_ h1) (by have:=Sum.inl.inj h3;lia)
def MO(S:Hp)(acc:List (Str×List (End Str)))(i:Nat)(k2:List (List Key×V)):Prop :=
 ∀(j:Nat)(x:Str)(a b:End Str),j<i->acc[j]?=some (x,[a,b])->(∃q,Fl_ k2 (eK a)=some (.ref q)/\S q=some (eV b))/\∃q,Fl_ k2 (eK b)=some (.ref q)/\S q=some (eV a)
theorem MO.step(ok:E0_ N){k2:List (List Key×V)}(h:MO S (Fq_ N) i k2){a b:End Str}{qa qb:Addr}(hi:(Fq_ N)[i]?=some (x,[a,b]))(ha:S qa=some (eV a))(hb:S qb=some (eV b)):
  MO S (Fq_ N) (i+1) (Fn_ (Fn_ k2 (eK a) (.ref qb)) (eK b) (.ref qa)):=by
 have hm:=Ai_ hi;have ne:=kw_ ok hm rfl;intro j y c d hj hjs
 have nk:∀e,j≠i->e∈[c,d]->e≠a/\e≠b:=λe ji he=>by
  have hmj:=Ai_ hjs
  have key:∀f,f∈[a,b]->e≠f:=λf hf z=>by
   subst z;have:=jJ_ ok hmj hm he hf;have k1:((Fq_ N).map (·.1))[j]?=((Fq_ N).map (·.1))[i]?:=by rw[Ae_,Ae_,hjs,hi];show congrArg some this
   show ji ((AQ_ (by rw[Ab_];show(Ad_.mp hjs).1) (m3_ N)).mp k1)
  show⟨key a s_,key b s_⟩
 by_cases ji:j=i
 .subst ji;rw[hi]at hjs;cases hjs;constructor
  .show⟨qb,?_,hb⟩;rw[av_,if_neg (λz=>ne (dG_ z)),av_,if_pos rfl]
  .show⟨qa,?_,ha⟩;rw[av_,if_pos rfl]
 .obtain⟨g1,g2⟩:=h j y c d o_ hjs;obtain⟨n1,n2⟩:=nk c ji s_;obtain⟨n3,n4⟩:=nk d ji s_;rw[av_,if_neg (λz=>n2 (dG_ z)),av_,if_neg (λz=>n1 (dG_ z)),av_,if_neg (λz=>n4 (dG_ z)),av_,if_neg (λz=>n3 (dG_ z))];show⟨g1,g2⟩
theorem lq_{κ:Type}[DecidableEq κ](kvs:List (κ×V))(k:κ)(v:V):(Fn_ kvs k v).length<=kvs.length+1:=aL_ kvs k v
theorem nt_{acc:List (Str×List (End Str))}{k:Key}{x:V}(h:(Fz_ acc ls)[i]?=some (k,x)):∃kv l,acc[i]?=some kv/\ls[i]?=some l/\k=.inr kv.1/\x=.ref l:=by
 unfold Fz_ at h;rw[List.getElem?_zipWith]at h;cases e1:acc[i]? with
 |none=>rw[e1]at h;cases h
 |some kv =>
  cases e2:ls[i]? with
  |none=>rw[e1,e2]at h;cases h
  |some l =>rw[e1,e2]at h;cases h;show⟨kv,l,rfl,rfl,rfl,rfl⟩
theorem mn_{a b:End Str}(h:Fk_ S vs ([a,b].map dE)):∃qa qb,vs=[.ref qa,.ref qb]/\S qa=some (eV a)/\S qb=some (eV b):=by obtain⟨_,_,rfl,⟨qa,_,rfl,ha,_,_,rfl,hx,_,_,rfl,hy,rfl⟩,_,_,rfl,⟨qb,_,rfl,hb,_,_,rfl,hz,_,_,rfl,hu,rfl⟩,rfl⟩:=h;cases hx;cases hy;cases hz;cases hu;show⟨qa,qb,rfl,ha,hb⟩
theorem id_{κ:Type}[DecidableEq κ](kvs:List (κ×V))(k:κ)(v:V):(Fn_ kvs k v).map (·.1)=if k∈kvs.map (·.1)then kvs.map (·.1)else kvs.map (·.1)++[k]:=by
 have e:(kvs.any λkv=>decide (kv.1=k))=decide (k∈kvs.map (·.1)):=by rw[Ci_,Ce_,CJ_,An_];show⟨λ⟨x,hx,ex⟩=>⟨x,hx,A6_ ex⟩,λ⟨x,hx,ex⟩=>⟨x,hx,A3_ ex⟩⟩
 unfold Fn_;rw[e];by_cases h:k∈kvs.map (·.1)
 .rw[if_pos (A3_ h),if_pos h,AP_];show A0_ λx _=>?_;change(if x.1=k then(x.1,v)else x).1=x.1;split <;> rfl
 .rw[if_neg (by rw[AE_ h];decide),if_neg h,Aq_];rfl
def KyO(k2:List (List Key×V)):Prop:=(k2.map (·.1)).Nodup/\∀k∈k2.map (·.1),∃a:End Str,k=eK a
theorem KyO.put{k2:List (List Key×V)}(h:KyO k2)(a:End Str)(v:V):KyO (Fn_ k2 (eK a) v):=by
 unfold KyO;rw[id_];split
 .show h
 .rename_i c;show⟨AS_.mpr ⟨h.1,AG_.mpr ⟨s_,AY_⟩,λx hx y hy z=>c ?_⟩,λk hk=>?_⟩
  .rw[<-Ak_.mp hy,<-z];show hx
  .rcases Ap_.mp hk with hk|hk
   .show h.2 k hk
   .show⟨a,Ak_.mp hk⟩
theorem gQ_{κ:Type}[DecidableEq κ]:∀{kvs:List (κ×V)}{k:κ}{v:V},(kvs.map (·.1)).Nodup->(k,v)∈kvs->Fl_ kvs k=some v
 |q::kvs,k,v,hn,hm=>by
  have h':=AG_.mp hn
  rcases As_.mp hm with e|e
  .rw[<-e];show aU_ rfl
  .rw[aP_ (show ¬ q.1=k from λz=>h'.1 (An_.mpr ⟨_,e,z.symm⟩))];show gQ_ h'.2 e
abbrev Fj_:Stmt:=stN 16
theorem dh_:ZL ["net","others","pair"] ["net"] (EO_ Fj_):=zL
theorem ch_:LK Fj_ "ends_by_wire" .globalImplicit:=r_
def Gt_:Sp:=λvs H Q _=>∃(v:V)(N:Net Str),vs=[v]/\Rep H v (FT_ N)/\E0_ N/\∀d k2 H',EL_ H H'->H' d=some (.dT k2)->MO H' (Fq_ N) (Fq_ N).length k2->(∀e,(∀kv∈Fq_ N,e∉kv.2)->Fl_ k2 (eK e)=none)->KyO k2->k2.length<=60->H d=none->Q (.ref d) H'
theorem hm_(T:Txt K mg)(F:Fn0 K mg "other_ends" Fj_) (Gd_:Cal P w K mg base "ends_by_wire" ["net"] 1 HL_):Cal P w K mg base "other_ends" ["net"] 2 Gt_:=by
  show aY_ F dh_.1 λf cdv A outer s H vs Q E hr h=>?_;obtain⟨v,N,rfl,hv,ok,k⟩:=h;refine'⟨_,?D,?R⟩
  case D =>
   refine' ac_ ?a (ac_ (bq_ AI_ rfl (l0_ (ao_ Gd_ (hr.mono d_) ch_ (pa_c (zv 0 dh_) ab_))) ?b ?c) (ah_ (aF_ (zv 1 dh_))))
   case a=>show zas 1 dh_ ez_
   case b=>show zh 2 dh_
   case' c=>refine' ac_ (dx_ (un1 hr.units) (zv 1 dh_) (EU_ ay_ (zv 2 dh_) ad_) (EU_ ay_ (zv 2 dh_) ad_) rfl) (ah_ (dx_ (un1 hr.units) (zv 1 dh_) (EU_ ay_ (zv 2 dh_) ad_) (EU_ ay_ (zv 2 dh_) ad_) rfl))
  case R =>
   nofun;intro O nO;have SO:EL_ H (upd H O (HO.dT [])):=EL_.new nO;have hO:=aa_ (H:=H) (a:=O) (o:=HO.dT []);generalize upd H O (HO.dT [])=H1 at*;show⟨v,N,rfl,Rep.mono SO _ hv,ok,λd S ls H2 sS de nd=>?_⟩;have SO2:=sS _ _ hO;have dO:d≠O:=(ag_ hO nd).symm;have lO:∀l∈ls,l≠O:=λl hl z=>by have:=de.fl l hl;rw[z,SO2]at this;cases this
   let S':Hp:=λb=>if b=O then none else S b
   have S'O:S' O=none:=if_pos rfl;have S'ne:∀b,b≠O->S' b=S b:=λb hb=>if_neg hb
   have S'S:∀b o,S' b=some o->S b=some o:=λb o hb=>by
    by_cases z:b=O
    .rw[z,S'O]at hb;cases hb
    .rw[S'ne b z]at hb;show hb
   have tupO:∀q e,S q=some (eV e)->S' q=some (eV e):=λq e hq=>by rw[S'ne q (λz=>by rw[z,SO2]at hq;cases hq)];show hq
   have hHS:EL_ H S':=λb o hb=>by rw[S'ne b (ag_ hb nO)];show sS _ _ (SO _ _ hb)
   show⟨d,rfl,_,de.dict,λob=>?_⟩;have el:(Fz_ (Fq_ N) ls).length=(Fq_ N).length:=iY_ de.len;have few:(Fq_ N).length<=30:=jy_ ok _ [] (by rw[Bp_]);show Ko_ (λi σ H'=>∃(e2:Option V)(k2:List (List Key×V)),σ=[some v,some (.ref O),e2]/\EL_ S' H'/\H' d=some (.frz ob (.dK (Fz_ (Fq_ N) ls)))/\(∀l∈ls,H' l=H2 l)/\H' O=some (.dT k2)/\MO S' (Fq_ N) i k2/\(∀e,(∀kv∈Fq_ N,e∉kv.2)->Fl_ k2 (eK e)=none)/\k2.length<=2*i/\KyO k2) ⟨none,[],rfl,b5_ (λb o hb=>de.sH _ _ (S'S b o hb)) (by rw[S'ne d dO];show de.fd),aa_,λl hl=>ae_ (λz=>de.dn (by rw[<-z];show hl)),by rw[ae_ dO.symm];show de.sH _ _ SO2,λj x a b hj=>absurd hj o_,λ_ _=>rfl,s_,AY_,λk hk=>(by cases hk)⟩ ?_ ?_ ?_
   .rintro i σ H' hi ⟨e2,k2,rfl,sS',hd',hls,hO',mo,no,kl,ky⟩;show hd'
   .rintro i key x σ H' hx ⟨e2,k2,rfl,sS',hd',hls,hO',mo,no,kl,ky⟩;obtain⟨kv,l,h1,h2,rfl,rfl⟩:=nt_ hx;have ii:i<(Fq_ N).length:=(Ad_.mp h1).1;obtain⟨a,b,eab⟩:=g3_ ok (Ai_ h1);obtain⟨vs,hvs,hrep⟩:=de.lst i l kv h2 h1;rw[eab]at hrep;obtain⟨qa,qb,rfl,ha,hb⟩:=mn_ hrep;have ha':=tupO _ _ ha;have hb':=tupO _ _ hb;have hl':H' l=some (.lst [.ref qa,.ref qb]):=by rw[hls l (Ai_ h2)];show hvs
    have h1':(Fq_ N)[i]?=some (kv.1,[a,b]):=by rw[h1,<-eab]
    have mo2:=mo.step ok h1' ha' hb';have lO':=lO l (Ai_ h2);nofun;have p1:=lq_ k2 (eK a) (.ref qb);have p2:=lq_ (Fn_ k2 (eK a) (.ref qb)) (eK b) (.ref qa);have qaO:qb≠O:=λz=>by rw[z,S'O]at hb';cases hb'
    show⟨_,hl',_,FA_,_,hl',_,Fy_,_,GP_.t (k:=eK a) hO' (sS' _ _ ha') (EN_ o_),_,by rw[ae_ lO'];show hl',_,Fy_,_,by rw[ae_ lO'];show hl',_,FA_,_,GP_.t (k:=eK b) aa_ (by rw[ae_ qaO];show sS' _ _ hb') (EN_ o_),b5_ (b5_ sS' S'O) S'O,by rw[ae_ dO,ae_ dO];show hd',λl2 hl2=>by rw[ae_ (lO l2 hl2),ae_ (lO l2 hl2)];show hls l2 hl2,_,aa_,mo2,λe he=>?_,o_,(ky.put a _).put b _⟩;have hm:=he kv (Ai_ h1);rw[eab]at hm;simp only[As_,AR_,CC_,not_or]at hm;rw[av_,if_neg (λz=>hm.2 (dG_ z)),av_,if_neg (λz=>hm.1 (dG_ z))];show no e he
   .rintro σ H' ⟨e2,k2,rfl,sS',hd',hls,hO',mo,no,kl,ky⟩;rw[el]at mo;nofun;show k O k2 H' (hHS.trans sS') hO' (λj x a b hj hjs=>?_) no ky o_ nO;obtain⟨⟨q1,g1,g2⟩,q2,g3,g4⟩:=mo j x a b hj hjs;show⟨⟨q1,g1,sS' _ _ g2⟩,q2,g3,sS' _ _ g4⟩
theorem mo_:∀(r:List Str),(r.map V.str).all F1_=true
 |[]=>rfl
 |y::r=>by simp[F1_]
def Fm_(N:Net Str):List (End Str):=(N.rows.map λr=>(List.range (r.2.length+if r.1∈N.posts then 1 else 0)).map λk=>(r.1,k)).flatten
def E5_(N:Net Str)(r:Str×List Str):List (End Str):=(List.range (r.2.length+if r.1∈N.posts then 1 else 0)).map λk=>(r.1,k)
theorem eT_(ok:E0_ N):(Fm_ N).length<=100/\∀r∈N.rows,r.2.length<=30:=by
 have key:∀(l:List (Str×List Str)),((l.map (E5_ N)).flatten).length<=((l.map (·.2)).flatten).length+l.length:=λl=>by
  induction l with
  |nil=>show Aj_ _
  |cons r l ih =>
   rw[Aw_,AJ_,Af_,Aw_,AJ_,Af_,A1_];have:(E5_ N r).length<=r.2.length+1:=by unfold E5_;rw[Ab_,B4_];split <;> lia
   lia
 have h1:=key N.rows;have h2:=ok.tot;have h3:=ok.few;unfold Net.all at h2;show⟨?_,λr hr=>?_⟩
 .change((N.rows.map (E5_ N)).flatten).length<=100;lia
 .obtain⟨i,hi,rfl⟩:=Ax_.mp hr;have e:(N.rows.map (·.2)).flatten.length=((N.rows.map (·.2)).take i).flatten.length+((N.rows.map (·.2)).drop i).flatten.length:=by rw[<-Af_,<-AX_,Bo_]
  rw[B8_ (by rw[Ab_];show hi),AJ_,Af_,List.getElem_map]at e;lia
abbrev ER_:Stmt:=stN 17
theorem ax_:ZM ["net","corners","point","wires","count"] ["net"] (EO_ ER_):=zM
theorem a8_:LK ER_ "corners" .local:=r_
theorem bX_:LK ER_ "point" .cell:=r_
theorem bY_:LK ER_ "wires" .local:=r_
theorem aQ_:LK ER_ "count" .local:=r_
theorem di_:LK ER_ "len" .globalImplicit:=r_
theorem cz_:LK ER_ "range" .globalImplicit:=r_
def HU_:Sp:=λvs H Q _=>∃(v:V)(N:Net Str),vs=[v]/\Rep H v (FT_ N)/\E0_ N/\∀D H',EL_ H H'->Rep (GA_ H H') (.ref D) (.lst ((Fm_ N).map dE))->Q (.ref D) H'
theorem eh_(T:Txt K mg)(F:Fn0 K mg "corners_in_order" ER_):Cal P w K mg base "corners_in_order" ["net"] 1 HU_:=by
  show aY_ F ax_.1 λf cdv A outer s H vs Q E hr h=>?_;obtain⟨v,N,rfl,hv,ok,k⟩:=h;obtain⟨few,rfew⟩:=eT_ ok;obtain⟨pn,p0,p1,p2,rs,ws,rfl,hn,h0,h1,r1,h2,r2⟩:=eg_ hv;have rl:rs.length=N.rows.length:=by rw[r1.length,Ab_]
  refine'⟨_,?D,?R⟩
  case D =>
   refine' ac_ (af_ (i:=1) ax_.nd rfl a8_ (bx_ ab_)) (ac_ ?a (ah_ (aF_ (zw 1 ax_))))
   case' a=>refine' bq_ AI_ rfl (aT_ (K:=K) rfl (EU_ ak_ (zw 0 ax_) ad_)) (by_ (K:=K) (n:=2) rfl rfl (an_ ?b (an_ ?c bw_))) ?d
   case b=>show lR_ (i:=2) ax_.nd rfl bX_ rfl
   case c=>show ai_ (i:=3) ax_.nd rfl bY_
   case' d=>refine' ac_ (af_ (i:=4) ax_.nd rfl aQ_ (as_ aO_ di_ T.n_len cb_ (pa_c (zw 3 ax_) ab_))) (ac_ ?e (ah_ (au_ ?f)))
   case' e=>refine' es_ (FH_ (aG_ (od_ (K:=K) rfl) (zw 2 ax_) (EU_ ak_ (zw 0 ax_) ad_) (by with_unfolding_all rfl)) (ah_ (af_ (i:=4) ax_.nd rfl aQ_ (EQ_ a5_ (zw 4 ax_) ad_))) a4_)
   case' f=>refine' Ft_ AA_ PySem.F.slot_list_extend PySem.F.type_list_extend kn_ (zw 1 ax_) (pa_c (e5_ (N':=["place","point"]) (ix:=[none,some 2]) rfl rfl (eu_ ?g) (bS_ cz_ T.n_range (pa_c (zw 4 ax_) ab_)) (λ_ _ _=>?h) (λ_ _ _=>?i) (λ_ _ _=>(ap_ (pa_c (pvc 1 rfl rfl) (pa_c (pv1 0 rfl rfl) ab_))))) ab_)
   case g=>show(by change HC_ (EO_ ER_) ["net","corners","point","wires","count"] _ _ _=true;decide +kernel)
   case h=>show ai_ (i:=0) (by change List.Nodup (["place","point"]:List Str);decide +kernel) rfl rfl
   case i=>show fP_
  case R =>
   nofun;show⟨AB_ _,λD nD=>?_⟩;have SD:EL_ H (upd H D (HO.lst [])):=EL_.new nD;show⟨_,SD _ _ hn,_,FA_,p1,rfl,⟨_,.inl (.inl (SD _ _ h1))⟩,?_⟩;show fK_ (xs:=rs) (λi σ H'=>∃(e2 e3 e4:Option V)(ys:List V),σ=[some (.ref pn),some (.ref D),e2,e3,e4]/\EL_ H H'/\H' D=some (.lst ys)/\Fk_ (Hd_ H D H') ys ((((N.rows.take i).map (E5_ N)).flatten).map dE)) ⟨none,none,none,[],rfl,SD,aa_,rfl⟩ ?_ ?_ ?_
   .rintro i σ H' hi ⟨e2,e3,e4,ys,rfl,s1,hD,reps⟩;show .inl (.inl (s1 _ _ h1))
   .rintro i x σ H' hx ⟨e2,e3,e4,ys,rfl,s1,hD,reps⟩;obtain⟨r,q,l,hr1,rfl,hq,hl⟩:=dO_ r1 hx;have rm:=Ai_ hr1;have r30:=rfew r rm;have tk:(N.rows.take (i+1)).map (E5_ N)=(N.rows.take i).map (E5_ N)++[E5_ N r]:=by rw[Bu_,hr1,Aq_];rfl
    have fl2:[E5_ N r].flatten=E5_ N r:=s_
    have tkl:(((N.rows.take i).map (E5_ N)).flatten).length+(E5_ N r).length<=100:=by
     have e:(N.rows.map (E5_ N)).flatten.length=((N.rows.map (E5_ N)).take (i+1)).flatten.length+((N.rows.map (E5_ N)).drop (i+1)).flatten.length:=by rw[<-Af_,<-AX_,Bo_]
     rw[<-Dw_,tk,AX_,fl2,Af_]at e;have:(Fm_ N).length=(N.rows.map (E5_ N)).flatten.length:=rfl;lia
    rw[tk,AX_,fl2,Aq_];have yl:ys.length=(((N.rows.take i).map (E5_ N)).flatten).length:=by rw[reps.length,Ab_]
    nofun;show⟨_,SqT.of (s1 _ _ hq),rfl,_,_,rfl,_,_,rfl,rfl,l,rfl,_,.inl (s1 _ _ hl),?_⟩;show⟨λσ Hx=>σ=[some (.ref pn),some (.ref D),some (.str r.1),some (.ref l),some (.int ((r.2.length+if r.1∈N.posts then 1 else 0:Nat):Int))]/\Hx=H',?_,?_⟩
    .nofun;show⟨_,s1 _ _ hn,_,Fy_,p0,rfl,_,.inl (.inl (.inl (s1 _ _ h0))),rfl,mo_ _,?_⟩;rw[jv_,Ab_];by_cases hc:r.1∈N.posts
     .rw[if_pos (A3_ hc),if_pos hc];rfl
     .rw[if_neg (by rw[AE_ hc];decide),if_neg hc];rfl
    rintro σ Hx ⟨rfl,rfl⟩;have cl:(E5_ N r).length=r.2.length+if r.1∈N.posts then 1 else 0:=by unfold E5_;rw[Ab_,B4_]
    obtain⟨n,hn'⟩:∃n:Nat,n=r.2.length+if r.1∈N.posts then 1 else 0:=⟨_,rfl⟩;have cr:E5_ N r=(List.range n).map λk=>(r.1,k):=by unfold E5_;rw[hn']
    rw[<-hn']at cl⊢;have n31:n<=31:=by rw[hn'];split <;> lia
    nofun;show⟨.inl ⟨_,.inl (.inl hD)⟩,o_,o_,?_⟩;rw[show Int.toNat (n:Int)=n by lia];show ev_ (n:=n) (B:=Hx) (Pσ:=λσ=>∃e,σ=[e,some (.str r.1)]) (ds:=(E5_ N r).map dE) (EL_.refl _) ⟨_,rfl⟩ (by rw[Ab_,cl]) o_ (λj H2 hj s2=>hj) (λH2 s2=>Aj_ _) ?_ ?_
    .rintro D2 j x d σ' H2 H2' hD2 hDo hs2 hj hdj ⟨rfl,rfl⟩ ⟨e,rfl⟩ R kR;obtain⟨od,hDo⟩:=hDo;have hd:d=dE (r.1,j):=by rw[cr,Ae_,Ae_,CF_ hj]at hdj;show(Ar_ hdj).symm
     nofun;show⟨d_,λp np=>kR _ _ _ ⟨_,rfl⟩ (EL_.new np) ?_⟩;rw[hd];have pD:p≠D2:=(ag_ hDo np).symm;show⟨p,_,rfl,by rw[c8_ pD (hs2.free np)];show aa_,_,_,rfl,rfl,_,_,rfl,by rw[CM_];rfl,rfl⟩
    .intro D2 H2 hD2 s2 rep2;obtain⟨_,us,e0,hu',hus⟩:=id rep2;cases e0;obtain⟨nu,hu⟩:=bZ_ hu';have ul:us.length=(E5_ N r).length:=by rw[hus.length,Ab_]
     have D2D:D2≠D:=(ag_ hD hD2).symm;show⟨D2,rfl,ys,s2 _ _ hD,us,hu,AV_ (EN_ o_),?_⟩;show⟨λb o hb=>by rw[ae_ (ag_ hb nD)];show s2 _ _ (s1 _ _ hb),?_⟩;rw[je_];show Fk_.append (Fk_.mono (hJ_ s2) _ reps) (Fk_.mono (λb o hb=>?_) _ hus);obtain⟨b1,b2⟩:=bZ_ hb;rw[c8_ (ag_ hD b1).symm (s1.free b1)];show b2
   .rintro σ H' ⟨e2,e3,e4,ys,rfl,s1,hD,reps⟩;rw[Bl_ o_]at reps;nofun;show k D H' s1 ⟨D,ys,rfl,by rw[e6_ nD];show hD,Fk_.mono jd_ _ reps⟩
abbrev ph(N:Net Str):=phi Str.empty N
abbrev Pn(N:Net Str):=N.posts.length
theorem dP_(k:List Key):∀(more kvs:List (List Key×V)),(Fl_ (Fp_ kvs more) k).isSome=((Fl_ kvs k).isSome ||more.any λq=>decide (q.1=k))
 |[],kvs=>by simp[Fp_]
 |p::more,kvs=>by
  change(Fl_ (Fp_ (Fn_ kvs p.1 p.2) more) k).isSome=_;rw[dP_ k more,av_,B2_];by_cases e:k=p.1
  .subst e;simp
  .have e':¬ p.1=k:=λz=>e z.symm;simp[e,e']
theorem ei_(po:ES_ N):Fm_ N=(GH_ N).map (ph N):=(lT_ po).symm
theorem mp_{us:List V}(h:Fk_ H us (es.map dE))(hi:i<es.length):∃q,us[i]?=some (.ref q)/\H q=some (eV es[i]):=by
 have hl:us.length=es.length:=by rw[h.length,Ab_]
 obtain⟨dd,hdd,hrep⟩:=h.of_get (i:=i) (x:=us[i]) (Aa_ o_);rw[Ae_,Aa_ hi]at hdd;rw[<-Ar_ hdd]at hrep;obtain⟨q,_,e,hq,_,_,rfl,hx1,_,_,rfl,hx2,rfl⟩:=hrep;cases hx1;cases hx2;show⟨q,by rw[Aa_ o_,e],hq⟩
def dKn(e:End Str):Dt:=.tup [dE e,.bl true]
def kvK(es:List (End Str)):List (List Key×V):=es.map λe=>(eK e,.bl true)
theorem jW_{p:Addr}(h:Rep H (.ref p) (.lst (es.map dKn))):HA_ H p (kvK es):=by
 obtain⟨_,ys,e0,hp,hys⟩:=h;cases e0;have yl:ys.length=es.length:=by rw[hys.length,Ab_]
 show⟨ys,hp,by rw[yl];unfold kvK;rw[Ab_],λi q hq=>?_⟩
 have hi:i<es.length:=by
  have:=(Ad_.mp hq).1;unfold kvK at this
  rwa[Ab_]at this
 unfold kvK at hq;rw[Ae_,Aa_ hi]at hq;cases hq;obtain⟨dd,hdd,hrep⟩:=hys.of_get (i:=i) (x:=ys[i]) (Aa_ o_);rw[Ae_,Aa_ hi]at hdd;rw[<-Ar_ hdd]at hrep;obtain⟨a,_,e,ha,x1,_,rfl,hx1,x2,_,rfl,hx2,rfl⟩:=hrep;obtain⟨b,_,rfl,hb,_,_,rfl,hy1,_,_,rfl,hy2,rfl⟩:=hx1;cases hx2;cases hy1;cases hy2;show⟨a,b,by rw[Aa_ o_,e],ha,hb⟩
theorem lr_(es:List (End Str))(e:End Str):(Fl_ (Fp_ [] (kvK es)) (eK e)).isSome=decide (e∈es):=by
 rw[dP_];change(false ||_)=_;rw[Bool.false_or];unfold kvK;rw[List.any_map];by_cases h:e∈es
 .rw[A3_ h];show Ce_.mpr ⟨e,h,A3_ rfl⟩
 .rw[AE_ h];show Bool.eq_false_iff.mpr λz=>?_;obtain⟨x,hx,ex⟩:=Ce_.mp z;show h (dG_ (A6_ ex)▸hx)
theorem hn_:∀(kvs D:List (Key×V)),((D++kvs).map (·.1)).Nodup->F4_ D kvs=D++kvs
 |[],D,_=>by rw[Bp_];rfl
 |kv::kvs,D,h=>by
  have hn:Fl_ D kv.1=none:=by
   cases e:Fl_ D kv.1 with
   |none=>rfl
   |some v =>have h1:=kK_ e;rw[Aq_,AS_]at h;show absurd rfl (h.2.2 _ h1 kv.1 s_)
  change F4_ (Fn_ D kv.1 kv.2) kvs=_;rw[lV_ _ hn,hn_ kvs (D++[kv]) (by rw[A4_];show h),A4_];rfl
theorem iZ_:∀{kvs:List (Key×V)}{k:Key}{v:V},(kvs.map (·.1)).Nodup->(k,v)∈kvs->Fl_ kvs k=some v
 |kv::kvs,k,v,h,hm=>by
  rcases As_.mp hm with e|e
  .rw[<-e];show aU_ rfl
  .have h':=AG_.mp h;rw[aP_ (λc=>h'.1 (An_.mpr ⟨_,e,(show kv.1=k from c).symm⟩))];show iZ_ h'.2 e
theorem ho_{H:Hp}:∀{rs:List V}{rows:List (Str×List Str)},Fk_ H rs (rows.map dRw)->∃kvs:List (Key×V),kvs.map (·.1)=rows.map (λr=>Sum.inr r.1)/\rs.length=kvs.length/\(∀(i:Nat)(q:Key×V),kvs[i]?=some q->∃a,rs[i]?=some (.ref a)/\H a=some (.tup [kV q.1,q.2]))/\∀r∈rows,∃l,(Sum.inr r.1,V.ref l)∈kvs/\H l=some (.lst (r.2.map V.str))
 |_,[],h=>by
  cases h;show⟨[],rfl,rfl,λi q e=>(nomatch e),λr hr=>(nomatch hr)⟩
 |_,r::rows,⟨x,l,e,hx,hl⟩=>by
  subst e;obtain⟨kvs,k1,k2,k3,k4⟩:=ho_ hl;obtain⟨q,l',e1,hq,hl'⟩:=lp_ hx;subst e1;show⟨(.inr r.1,.ref l')::kvs,by rw[Aw_,Aw_,k1],by rw[A1_,A1_,k2],λi z e=>?_,λr' hr=>?_⟩
  .cases i with
   |zero=>cases e;show⟨q,rfl,hq⟩
   |succ i=>show k3 i z e
  .rcases As_.mp hr with rfl|hr
   .show⟨l',Au_,hl'⟩
   .obtain⟨v,hv1,hv2⟩:=k4 r' hr;show⟨v,Am_ _ hv1,hv2⟩
abbrev F5_:Stmt:=stN 20
theorem ls_:ZL ["standing"] ["standing"] (EO_ F5_):=zL
def Gy_:Sp:=λvs H Q _=>∃(q:Addr)(k:Sk),vs=[.ref q]/\FE_ H q k/\∀q' H',EL_ H H'->FE_ H' q' (k.1,!k.2)->Q (.ref q') H'
theorem lt_(T:Txt K mg)(F:Fn0 K mg "turned" F5_):Cal P w K mg base "turned" ["standing"] 1 Gy_:=by
  show aY_ F ls_.1 λf cdv A outer s H vs Q E hr h=>?_;obtain⟨q,k,rfl,⟨p,h1,h2⟩,kk⟩:=h;refine'⟨_,?D,?R⟩
  case D =>refine' ah_ (aF_ (ap_ (pa_c (EU_ ak_ (zv 0 ls_) ad_) (pa_c (nE_ (EU_ ak_ (zv 0 ls_) ad_)) ab_))))
  case R =>nofun;show⟨_,h1,_,Fy_,_,h1,_,FA_,_,rfl,d_,λq' nq=>kk q' _ (EL_.new nq) ⟨p,aa_,(EL_.new nq) _ _ h2⟩⟩
theorem JC_(ok:E0_ N){r:Str×List Str}(h:r∈N.rows):r.2.length<=30:=by
 have h1:r.2.length<=N.all.length:=by unfold Net.all;show(Cz_ (An_.mpr ⟨r,h,rfl⟩)).length_le
 have:=ok.tot;lia
abbrev EP_:Stmt:=stN 21
theorem ar_:ZL ["net","behind","point","wires","place","last"] ["net"] (EO_ EP_):=zL
theorem bd_:LK EP_ "len" .globalImplicit:=r_
theorem b7_:LK EP_ "range" .globalImplicit:=r_
def bhN(N:Net Str)(e:End Str)(n:Nat):End Str:=if e.1∉N.posts/\e.2+1=n then(e.1,0)else(e.1,e.2+1)
def JU_(H:Hp)(N:Net Str)(kb:List (List Key×V))(rows:List (Str×List Str)):Prop:=∀r∈rows,∀k,k<r.2.length->∃q,Fl_ kb (eK (r.1,k))=some (.ref q)/\H q=some (eV (bhN N (r.1,k) r.2.length))
def BhI(H:Hp)(N:Net Str)(kb:List (List Key×V))(i j:Nat):Prop:=∀i0 r k,N.rows[i0]?=some r->k<r.2.length->(i0<i\/(i0=i/\k<j))->∃q,Fl_ kb (eK (r.1,k))=some (.ref q)/\H q=some (eV (bhN N (r.1,k) r.2.length))
variable{kb:List (List Key×V)}
theorem BhI.all(h:BhI H N kb N.rows.length 0):JU_ H N kb N.rows:=λr hr k hk=>by obtain⟨i,hi,rfl⟩:=Ax_.mp hr;show h i _ k (Aa_ hi) hk (.inl hi)
theorem BhI.row{r:Str×List Str}(hr:N.rows[i]?=some r)(h:BhI H N kb i r.2.length):BhI H N kb (i+1) 0:=λi0 r0 k h1 h2 h3=>by
 show h i0 r0 k h1 h2 ?_
 rcases h3 with h3|h3
 .by_cases e:i0=i
  .subst e;rw[hr]at h1;cases h1;show .inr ⟨rfl,h2⟩
  .show .inl o_
 .show absurd h3.2 (Bi_ _)
theorem BhI.put(ok:E0_ N){j:Nat}{r:Str×List Str}(hr:N.rows[i]?=some r)(h:BhI H N kb i j)(s:∀b ys,H b=some (.tup ys)->H' b=some (.tup ys))(hq:H' q=some (eV (bhN N (r.1,j) r.2.length))):BhI H' N (Fn_ kb (eK (r.1,j)) (.ref q)) i (j+1):=λi0 r0 k h1 h2 h3=>by
 by_cases e:eK (r0.1,k)=eK (r.1,j)
 .have e':=dG_ e;have en:r0.1=r.1:=(D8_ e').1;have ek:k=j:=(D8_ e').2;have er:r0=r:=by obtain⟨l1,rfl⟩:=Ad_.mp h1;obtain⟨l2,rfl⟩:=Ad_.mp hr;have:=(AQ_ (l:=N.rows.map (·.1)) (i:=i0) (j:=i) (by rw[Ab_];show l1) ok.nd).mp (by rw[Ae_,Ae_,h1,hr];show congrArg some en);subst this;rfl
  subst er ek;show⟨q,by rw[av_,if_pos rfl],hq⟩
 .obtain⟨q0,z1,z2⟩:=h i0 r0 k h1 h2 (by
   rcases h3 with h3|⟨h3,h4⟩
   .show .inl h3
   .show .inr ⟨h3,?_⟩;subst h3;rw[hr]at h1;cases h1;have:k≠j:=λz=>e (by rw[z]);lia)
  show⟨q0,by rw[av_,if_neg e];show z1,s _ _ z2⟩
def Ik_:Sp:=λvs H Q _=>∃(v:V)(N:Net Str),vs=[v]/\Rep H v (FT_ N)/\E0_ N/\∀d kb H',EL_ H H'->H d=none->H' d=some (.dT kb)->JU_ H' N kb N.rows->Q (.ref d) H'
theorem dq_(T:Txt K mg)(F:Fn0 K mg "corners_behind_ends" EP_):Cal P w K mg base "corners_behind_ends" ["net"] 1 Ik_:=by
  show aY_ F ar_.1 λf cdv A outer s H vs Q E hr h=>?_;obtain⟨v,N,rfl,hv,ok,kk⟩:=h;obtain⟨pn,p0,p1,p2,rs,ws,rfl,hn,h0,h1,r1,h2,r2⟩:=eg_ hv;have rl:rs.length=N.rows.length:=by rw[r1.length,Ab_]
  refine'⟨_,?D,?R⟩
  case D =>
   refine' ac_ ?a (ac_ ?b (ah_ (aF_ (zv 1 ar_))))
   case a=>show zas 1 ar_ ez_
   case' b=>refine' bq_ AI_ rfl (aT_ (K:=K) rfl (EU_ ak_ (zv 0 ar_) ad_)) (by_ (K:=K) (n:=2) rfl rfl (an_ ?c (an_ ?d bw_))) ?e
   case c=>show zh 2 ar_
   case d=>show zh 3 ar_
   case' e=>refine' ah_ (bq_ AI_ rfl (bS_ b7_ T.n_range (pa_c (as_ aO_ bd_ T.n_len cb_ (pa_c (zv 3 ar_) ab_)) ab_)) ?f ?g)
   case f=>show zh 4 ar_
   case' g=>refine' aj_ (zas 5 ar_ ?h) (ah_ (dx_ (un1 hr.units) (zv 1 ar_) (ap_ (pa_c (zv 2 ar_) (pa_c (zv 4 ar_) ab_))) ?i rfl))
   case' h=>refine' mv_ (gR_ GD_ (EQ_ a5_ (zv 4 ar_) ad_) (as_ aO_ bd_ T.n_len cb_ (pa_c (zv 3 ar_) ab_)) (Fc_ _)) (mu_ (gR_ (ib_ (K:=K) rfl) (zv 2 ar_) (EU_ ak_ (zv 0 ar_) ad_) (by with_unfolding_all rfl)))
   case' i=>refine' ap_ (pa_c (zv 2 ar_) (pa_c (lF_ (i4_ (zv 5 ar_)) ad_ (EQ_ a5_ (zv 4 ar_) ad_)) ab_))
  case R =>
   nofun;intro d nd;have S1:=EL_.new nd (o:=HO.dT []);have hd1:=aa_ (H:=H) (a:=d) (o:=HO.dT []);generalize upd H d (HO.dT [])=H1 at*;show⟨_,S1 _ _ hn,_,FA_,p1,rfl,⟨_,.inl (.inl (S1 _ _ h1))⟩,?_⟩;show eB_ (xs:=rs) (λi σ Hy=>∃(e2 e3 e4 e5:Option V)(kb:List (List Key×V)),σ=[some (.ref pn),some (.ref d),e2,e3,e4,e5]/\EL_ H Hy/\Hy d=some (.dT kb)/\kb.length<=31*i/\BhI Hy N kb i 0) ⟨_,_,_,_,[],rfl,S1,hd1,AB_ _,λi0 r k _ _ h=>(by rcases h with h|h;show absurd h (Bi_ _);show absurd h.2 (Bi_ _))⟩ ?_ ?_ ?_
   .rintro i σ Hy hi ⟨e2,e3,e4,e5,kb,rfl,sy,hd,kl,bh⟩;show .inl (.inl (sy _ _ h1))
   .rintro i y σ Hy hy kc kbk hk hb G hG ⟨e2,e3,e4,e5,kb,rfl,sy,hd,kl,bh⟩;show hG ?_;obtain⟨r,q,l,hr1,rfl,hq,hl⟩:=dO_ r1 hy;have il:=(Ad_.mp hr1).1;have few:=ok.few;have r30:=JC_ ok (Ai_ hr1);nofun;show⟨_,SqT.of (sy _ _ hq),rfl,_,_,rfl,_,_,rfl,rfl,l,rfl,_,.inl (sy _ _ hl),o_,by rw[Ab_];lia,?_⟩;rw[Ab_,A5_];show hQ_ (λj σ Hz=>∃(e4 e5:Option V)(kb:List (List Key×V)),σ=[some (.ref pn),some (.ref d),some (.str r.1),some (.ref l),e4,e5]/\EL_ H Hz/\Hz d=some (.dT kb)/\kb.length<=31*i+j/\BhI Hz N kb i j) ⟨_,_,kb,rfl,sy,hd,o_,bh⟩ ?_ ?_
    .rintro j σ Hz hj kk2 kb2 hk2 hb2 G2 hG2 ⟨e4,e5,kb,rfl,sz,hd,kl,bh⟩;show hG2 ?_;rw[CM_];have hlz:=sz _ _ hl;have hnz:=sz _ _ hn;have h0z:=sz _ _ h0
     have fin:∀(b:Bool)(n:Int),n=(bhN N (r.1,j) r.2.length).2->(2<=sizeLine/\∀q1:Addr,Hz q1=none->2<=sizeLine/\∀q2:Addr,upd Hz q1 (.tup [.str r.1,.int n]) q2=none->∃x,GP_ (upd (upd Hz q1 (.tup [.str r.1,.int n])) q2 (.tup [.str r.1,.int j])) d (.ref q2) (.ref q1) x/\kk2 [some (.ref pn),some (.ref d),some (.str r.1),some (.ref l),some (.int j),some (.bl b)] x):=by
      rintro b n rfl;show⟨d_,λq1 n1=>⟨d_,λq2 n2=>?_⟩⟩;have t1:=EL_.new n1 (o:=HO.tup [.str r.1,.int ((bhN N (r.1,j) r.2.length).2:Nat)]);have hq1:=aa_ (H:=Hz) (a:=q1) (o:=HO.tup [.str r.1,.int ((bhN N (r.1,j) r.2.length).2:Nat)]);generalize upd Hz q1 (HO.tup [.str r.1,.int ((bhN N (r.1,j) r.2.length).2:Nat)])=Z1 at*;have t2:=EL_.new n2 (o:=HO.tup [.str r.1,.int j]);have hq2:=aa_ (H:=Z1) (a:=q2) (o:=HO.tup [.str r.1,.int j]);have hq1':=t2 _ _ hq1;have t12:=t1.trans t2;generalize upd Z1 q2 (HO.tup [.str r.1,.int j])=Z2 at*;have hd2:=t12 _ _ hd;show⟨_,GP_.t (k:=eK (r.1,j)) hd2 hq2 (EN_ o_),hk2 _ _ ⟨_,_,_,rfl,(sz.trans t12).upd nd,aa_,by have:=aL_ kb (eK (r.1,j)) (.ref q1);lia,?_⟩⟩;have old:∀b ys,Hz b=some (.tup ys)->upd Z2 d (.dT (Fn_ kb (eK (r.1,j)) (.ref q1))) b=some (.tup ys):=λb ys e=>by rw[ae_ (GB_ (t12 _ _ e) hd2 (λz=>nomatch z))];show t12 _ _ e
      show BhI.put ok hr1 bh old ?_;rw[ae_ (GB_ hq1' hd2 (λz=>nomatch z)),hq1'];unfold eV bhN;split <;> rfl
     nofun;show⟨_,.inl hlz,?_⟩;rw[Ab_];show ite2 (λc=>?_) (λc=>?_)
     .show⟨_,hnz,_,Fy_,p0,rfl,_,.inl (.inl (.inl h0z)),rfl,by simp[F1_],?_⟩;rw[jv_];nofun;show ite2 (λc2=>fin _ _ ?_) (λc2=>fin _ _ ?_)
      .unfold bhN;rw[if_pos ⟨c2,by dsimp only;lia⟩];rfl
      .unfold bhN;rw[if_neg (λz=>c2 z.1)];rfl
     .nofun;show fin _ _ ?_;unfold bhN;rw[if_neg (λz=>c (by have:=z.2;dsimp only at this;lia))];rfl
    .rintro σ Hz ⟨e4,e5,kb,rfl,sz,hd,kl,bh⟩;show hk _ _ ⟨_,_,_,_,kb,rfl,sz,hd,o_,bh.row hr1⟩
   .rintro σ Hy ⟨e2,e3,e4,e5,kb,rfl,sy,hd,kl,bh⟩;rw[rl]at bh;nofun;show kk d kb Hy sy nd hd bh.all
theorem un2{n c:Nat}(h:n+64<c):n+2<c:=o_
def skN(N:Net Str)(s:Sd):Sk:=(eK (ph N s.1),s.2)
theorem hp_(ok:E0_ N)(po:ES_ N){a b:Sd}(ha:a.1.1<(pts N).length)(hb:b.1.1<(pts N).length)(h:skN N a=skN N b):a=b:=by unfold skN at h;obtain⟨h1,h2⟩:=D8_ h;show BD_ (fZ_ ok po ha hb (dG_ h1)) h2
theorem oe_{p:Nat}(h:p<(pts N).length):(pts N)[p]?=some ((pts N).getD p Str.empty):=by rw[Ag_,Aa_ h];rfl
theorem mN_(ok:E0_ N)(po:ES_ N){p:Nat}(h:p<(pts N).length):∃r∈N.rows,r.1=(pts N).getD p Str.empty/\(trn N).getD p []=r.2/\(r.1∈N.posts↔p<Pn N):=by
 have hx:=oe_ h;have hm:(pts N).getD p Str.empty∈pts N:=Ai_ hx;obtain⟨r,hr,e⟩:=An_.mp ((c9_ po).mp hm);show⟨r,hr,e,?_,?_⟩
 .rw[e8_ hx,<-e];show b4_ ok hr
 .rw[e];show ew_ ok po hx
theorem Fu_(ok:E0_ N)(po:ES_ N){e:Nat×Nat}(h:wi (trn N) e=some x):e.1<(pts N).length/\∃r∈N.rows,r.1=(ph N e).1/\r.2[e.2]?=some x/\r.2.length=rl (trn N) e.1/\(r.1∈N.posts↔e.1<Pn N):=by
 have h1:=(Fo_ h).2;rw[bp_]at h1;obtain⟨r,hr,g1,g2,g3⟩:=mN_ ok po h1;show⟨h1,r,hr,g1,?_,?_,g3⟩
 .have:=h;unfold wi at this;rw[g2]at this;show this
 .unfold rl;rw[g2]
theorem JB_(ok:E0_ N)(po:ES_ N)(bh:JU_ H N kb N.rows){e:Nat×Nat}(h:wi (trn N) e=some x):∃q,Fl_ kb (eK (ph N e))=some (.ref q)/\H q=some (eV (ph N (beh (trn N) (Pn N) e))):=by
 obtain⟨h1,r,hr,g1,g2,g3,g4⟩:=Fu_ ok po h;have hk:e.2<r.2.length:=(Ad_.mp g2).1;obtain⟨q,z1,z2⟩:=bh r hr e.2 hk;have ee:((r.1,e.2):End Str)=ph N e:=BD_ g1 rfl;rw[ee]at z1 z2;show⟨q,z1,?_⟩;rw[z2];congr 1;unfold bhN beh;rw[g3];have c:((ph N e).1∉N.posts/\(ph N e).2+1=rl (trn N) e.1)↔(Pn N<=e.1/\e.2+1=rl (trn N) e.1):=by rw[<-g1,g4];show and_congr Ck_ Iff.rfl
 by_cases c1:Pn N<=e.1/\e.2+1=rl (trn N) e.1
 .rw[if_pos (c.mpr c1),if_pos c1];rfl
 .rw[if_neg (λz=>c1 (c.mp z)),if_neg c1];rfl
theorem mO_(ok:E0_ N)(po:ES_ N){kv:Str×List (End Str)}(hkv:kv∈Fq_ N){a:End Str}(ha:a∈kv.2):∃e,wi (trn N) e=some kv.1/\ph N e=a:=by
 obtain⟨r,hr,h1,h2⟩:=kz_.mp (kv_ hkv ha)
 dsimp only at h1 h2
 have hm:r.1∈pts N:=(c9_ po).mpr (An_.mpr ⟨r,hr,rfl⟩);show⟨(pid N r.1,a.2),?_,?_⟩
 .unfold wi;rw[e8_ (fs_ hm),b4_ ok hr];show h2
 .show(ky_ hm a.2).trans (BD_ h1 rfl)
structure GoI(H:Hp)(N:Net Str)(kg:List (Sk×V))(D:Nat×Nat->Prop):Prop where
 tt:∀e f x,D e->Gf_ (trn N) e f->wi (trn N) e=some x->∃v q,Fl_ kg (skN N (e,true))=some (.ref v)/\H v=some (.tup [.str x,.ref q])/\FE_ H q (skN N (f,false))
 ff:∀e f x,D e->Gf_ (trn N) e f->wi (trn N) e=some x->∃v q,Fl_ kg (skN N (beh (trn N) (Pn N) e,false))=some (.ref v)/\H v=some (.tup [.str x,.ref q])/\FE_ H q (skN N (beh (trn N) (Pn N) f,true))
 no:∀s:Sd,IsC (trn N) (Pn N) s.1->wr (trn N) (Pn N) s=none->Fl_ kg (skN N s)=none
theorem GoI.put{N:Net Str}(ok:E0_ N)(po:ES_ N){H H':Hp}{kg:List (Sk×V)}{D:Nat×Nat->Prop}(g:GoI H N kg D){e f:Nat×Nat}{x:Str}(m:Gf_ (trn N) e f)(hx:wi (trn N) e=some x){v1 q1 v2 q2:Addr}
  (s:∀b ys,H b=some (.tup ys)->H' b=some (.tup ys)) (h1:H' v1=some (.tup [.str x,.ref q1])) (k1:FE_ H' q1 (skN N (f,false))) (h2:H' v2=some (.tup [.str x,.ref q2])) (k2:FE_ H' q2 (skN N (beh (trn N) (Pn N) f,true))):
  GoI H' N (Fn_ (Fn_ kg (skN N (e,true)) (.ref v1)) (skN N (beh (trn N) (Pn N) e,false)) (.ref v2)) (λc=>D c\/c=e):=by
 have lt:∀{c:Nat×Nat}{y:Str},wi (trn N) c=some y->c.1<(pts N).length:=λ{c y} h=>by have:=(Fo_ h).2;rwa[bp_]at this
 have bl:∀{c:Nat×Nat},(beh (trn N) (Pn N) c).1=c.1:=λ{c}=>e9_ _ _ c;have tf:∀{a b:Nat×Nat},skN N (a,true)≠skN N (b,false):=λ{a b} z=>by have:=congrArg Prod.snd z;cases this
 have ft:∀{a b:Nat×Nat},skN N (a,false)≠skN N (b,true):=λ{a b} z=>tf z.symm;have one:∀c,Gf_ (trn N) e c->c=f:=λc hc=>g0_ (fr_ ok po) hc m;have kp:∀{q k},FE_ H q k->FE_ H' q k:=λ{q k} ⟨p,z1,z2⟩=>⟨p,s _ _ z1,s _ _ z2⟩;show⟨λc d y hc hm hy=>?_,λc d y hc hm hy=>?_,λt ht hn=>?_⟩
 .rw[av_,if_neg tf,av_];by_cases ce:c=e
  .subst ce;rw[hx]at hy;cases hy;rw[if_pos rfl,one d hm];show⟨v1,q1,rfl,h1,k1⟩
  .rw[if_neg (λz=>ce (congrArg Prod.fst (hp_ ok po (lt hy) (lt hx) z)))];obtain⟨v,q,z1,z2,z3⟩:=g.tt c d y (hc.resolve_right ce) hm hy;show⟨v,q,z1,s _ _ z2,kp z3⟩
 .rw[av_];by_cases ce:c=e
  .subst ce;rw[hx]at hy;cases hy;rw[if_pos rfl,one d hm];show⟨v2,q2,rfl,h2,k2⟩
  .rw[if_neg (λz=>ce (g4_ (Fo_ hy).1 (Fo_ hx).1 (congrArg Prod.fst (hp_ ok po (by change(beh _ _ c).1<_;rw[bl];show lt hy) (by change(beh _ _ e).1<_;rw[bl];show lt hx) z)))),av_,if_neg ft];obtain⟨v,q,z1,z2,z3⟩:=g.ff c d y (hc.resolve_right ce) hm hy;show⟨v,q,z1,s _ _ z2,kp z3⟩
 .have tl:t.1.1<(pts N).length:=by have:=ht.1;rwa[bp_]at this
  rw[av_,if_neg,av_,if_neg]
  .show g.no t ht hn
  .intro z;have:=hp_ ok po tl (lt hx) z;rw[this]at hn;rw[show wr (trn N) (Pn N) (e,true)=wi (trn N) e from rfl,hx]at hn;cases hn
  .intro z;have:=hp_ ok po tl (by change(beh _ _ e).1<_;rw[bl];show lt hx) z;rw[this,ex_ (Fo_ hx).1,hx]at hn;cases hn
abbrev E2_:Stmt:=stN 22
theorem a9_:ZL ["net","wires_round","behind","goings","end","far","wire"] ["net"] (EO_ E2_):=zL
theorem bB_:LK E2_ "corners_behind_ends" .globalImplicit:=r_
theorem fk_:LK E2_ "dict" .globalImplicit:=r_
theorem dj_:LK E2_ "other_ends" .globalImplicit:=r_
def Jp_(P:Program)(w:World):Sp:=λvs H Q _=>∃(v:V)(N:Net Str),vs=[v]/\Rep H v (FT_ N)/\E0_ N/\ES_ N/\∀d kg H',EL_ H H'->DP P w H' d kg->GoI H' N kg (λ_=>True)->H d=none->Q (.ref d) H'
theorem ie_(T:Txt K mg)(F:Fn0 K mg "goings_of" E2_) (FK_:Cal P w K mg base "corners_behind_ends" ["net"] 1 Ik_) (GF_:Cal P w K mg base "other_ends" ["net"] 2 Gt_):Cal P w K mg base "goings_of" ["net"] 3 (Jp_ P w):=by
  show aY_ F a9_.1 λf cdv A outer s H vs Q E hr h=>?_;obtain⟨v,N,rfl,hv,ok,po,kk⟩:=h;obtain⟨pn,p0,p1,p2,rs,ws,rfl,hn,h0,h1,r1,h2,r2⟩:=eg_ hv;have rl:rs.length=N.rows.length:=by rw[r1.length,Ab_]
  refine'⟨_,?D,?R⟩
  case D =>
   refine' aj_ (zas 1 a9_ (b3_ (gI_ rfl) fk_ T.n_dict ll_ (pa_c (EU_ ak_ (zv 0 a9_) ad_) ab_))) ?a
   case' a=>refine' aj_ (zas 2 a9_ (ao_ FK_ (hr.mono d_) bB_ (pa_c (zv 0 a9_) ab_))) (aj_ ?b (ac_ ?c (ah_ (aF_ (zv 3 a9_)))))
   case b=>show zas 3 a9_ (nb_ (P:=P) (w:=w) rfl rfl)
   case' c=>refine' bq_ AI_ rfl (jL_ (ao_ GF_ (hr.mono d_) dj_ (pa_c (zv 0 a9_) ab_))) (by_ (K:=K) (n:=2) rfl rfl (an_ ?d (an_ ?e bw_))) ?f
   case d=>show zh 4 a9_
   case e=>show zh 5 a9_
   case' f=>refine' aj_ (zas 6 a9_ (EU_ ay_ (b0_ (un1 hr.units) (zv 1 a9_) (EU_ ak_ (zv 4 a9_) ad_)) (EU_ ak_ (zv 4 a9_) ad_))) ?g
   case' g=>refine' aj_ (kW_ (P:=P) (w:=w) rfl rfl (un2 hr.units) (zv 3 a9_) (ap_ (pa_c (zv 4 a9_) (pa_c F2_ ab_))) ?h rfl) ?i
   case' h=>refine' ap_ (pa_c (zv 6 a9_) (pa_c (ap_ (pa_c (zv 5 a9_) (pa_c F2_ ab_))) ab_))
   case' i=>refine' ah_ (kW_ (P:=P) (w:=w) rfl rfl (un2 hr.units) (zv 3 a9_) (ap_ (pa_c (b0_ (un1 hr.units) (zv 2 a9_) (zv 4 a9_)) (pa_c F2_ ab_))) ?j rfl)
   case' j=>refine' ap_ (pa_c (zv 6 a9_) (pa_c (ap_ (pa_c (b0_ (un1 hr.units) (zv 2 a9_) (zv 5 a9_)) (pa_c F2_ ab_))) ab_))
  case R =>
   nofun;obtain⟨kvs,k1,k2,k3,k4⟩:=ho_ r1;have few:=ok.few;have knd:(kvs.map (·.1)).Nodup:=by rw[k1];have:=ok.nd;unfold List.Nodup at this⊢;rw[BQ_]at this⊢;show this.imp λh z=>h (Cn_ z)
   show⟨_,hn,_,FA_,p1,rfl,rs,h1,kvs,o_,o_,k3,λdr ndr=>?_⟩;rw[hn_ kvs [] (by rw[Dd_];show knd),Dd_];have S1:=EL_.new ndr (o:=HO.dK kvs);have hdr:=aa_ (H:=H) (a:=dr) (o:=HO.dK kvs);generalize upd H dr (HO.dK kvs)=H1 at*;nofun;show⟨_,N,rfl,Rep.mono S1 _ hv,ok,λdb kb H2 s2 ndb hdb bh=>?_⟩;nofun;intro dg ndg H3 s3 dp0 fr3;nofun;show⟨_,N,rfl,Rep.mono (S1.trans (s2.trans s3)) _ hv,ok,λdO k2' H4 s4 hdO mo no ky kl60 ndO=>?_⟩;show⟨dO,rfl,k2',hdO,λob=>?_⟩;have s03:=S1.trans (s2.trans s3);have s04:=s03.trans s4;have dgO:dg≠dO:=λz=>by obtain⟨_,xs,e,_⟩:=dp0;rw[z]at e;rw[e]at ndO;cases ndO
   have dgn:H dg=none:=(S1.trans s2).free ndg
   let Sx:Hp:=λb=>if b=dg then none else upd H4 dO (HO.frz ob (HO.dT k2')) b
   have Sxd:Sx dg=none:=if_pos rfl;have Sx4:∀b o,b≠dg->b≠dO->H4 b=some o->Sx b=some o:=λb o h1 h2 e=>by change(if b=dg then none else _)=_;rw[if_neg h1,ae_ h2];show e
   have tupS:∀b ys,H4 b=some (.tup ys)->Sx b=some (.tup ys):=λb ys e=>by
    show Sx4 b _ (λz=>?_) (λz=>?_) e
    .obtain⟨_,xs,e',_⟩:=dp0.mono s4;rw[z,e']at e;cases e
    .rw[z,hdO]at e;cases e
   have hS:EL_ H Sx:=λb o e=>Sx4 b o (ag_ e dgn) (λz=>by rw[z]at e;rw[s03 _ _ e]at ndO;cases ndO) (s04 _ _ e);have frzS:Sx dO=some (.frz ob (.dT k2')):=by change(if dO=dg then none else _)=_;rw[if_neg dgO.symm,aa_]
   have hdrS:Sx dr=some (.dK kvs):=Sx4 dr _ (ag_ (s2 _ _ hdr) ndg) (λz=>by have:=(s2.trans s3) _ _ hdr;rw[z,ndO]at this;cases this) ((s2.trans (s3.trans s4)) _ _ hdr);have hdbS:Sx db=some (.dT kb):=Sx4 db _ (ag_ hdb ndg) (λz=>by have:=s3 _ _ hdb;rw[z,ndO]at this;cases this) ((s3.trans s4) _ _ hdb);have bhS:JU_ Sx N kb N.rows:=λr hr k hk=>by obtain⟨q,z1,z2⟩:=bh r hr k hk;show⟨q,z1,tupS _ _ ((s3.trans s4) _ _ z2)⟩
   have dp4:=dp0.mono s4;have dpI:DP P w (upd H4 dO (HO.frz ob (HO.dT k2'))) dg []:=by obtain⟨z0,xs,z1,z2⟩:=dp4;show⟨z0,xs,by rw[ae_ dgO];show z1,?_⟩;cases z2;show .nil
   have item:∀(i:Nat) k x,k2'[i]?=some (k,x)->∃e f a q,k=eK (ph N e)/\Gf_ (trn N) e f/\wi (trn N) e=some a/\x=.ref q/\Sx q=some (eV (ph N f)):=λi k x hk=>by
    have hm:=Ai_ hk;obtain⟨a,rfl⟩:=ky.2 k (An_.mpr ⟨_,hm,rfl⟩);have hv:=gQ_ ky.1 hm
    obtain⟨kv,hkv,hakv⟩:∃kv∈Fq_ N,a∈kv.2:=by
     by_cases c:∃kv∈Fq_ N,a∈kv.2
     .show c
     .rw[no a λkv hkv z=>c ⟨kv,hkv,z⟩]at hv;cases hv
    obtain⟨j,hj,ej⟩:=Ax_.mp hkv;obtain⟨b,c,ebc⟩:=g3_ ok hkv;have ne:=kw_ ok hkv ebc;obtain⟨⟨q1,g1,g2⟩,q2,g3,g4⟩:=mo j kv.1 b c hj (by rw[Aa_ hj,ej,<-ebc]);have mt:∀{a1 a2:End Str},a1∈kv.2->a2∈kv.2->a1≠a2->∃e f,ph N e=a1/\ph N f=a2/\Gf_ (trn N) e f/\wi (trn N) e=some kv.1:=λ{a1 a2} h1 h2 h3=>by obtain⟨e,w1,r1⟩:=mO_ ok po hkv h1;obtain⟨f,w2,r2⟩:=mO_ ok po hkv h2;show⟨e,f,r1,r2,⟨λz=>h3 (by rw[<-r1,<-r2,z]),_,w1,w2⟩,w1⟩
    rw[ebc]at hakv
    rcases As_.mp hakv with z|z
    .subst z;obtain⟨e,f,r1,r2,m,w1⟩:=mt (a1:=a) (a2:=c) (by rw[ebc];simp) (by rw[ebc];simp) ne;rw[g1]at hv;cases hv;show⟨e,f,_,q1,by rw[r1],m,w1,rfl,by rw[r2];show tupS _ _ g2⟩
    .rw[Ak_]at z;subst z;obtain⟨e,f,r1,r2,m,w1⟩:=mt (a1:=a) (a2:=b) (by rw[ebc];simp) (by rw[ebc];simp) ne.symm;rw[g3]at hv;cases hv;show⟨e,f,_,q2,by rw[r1],m,w1,rfl,by rw[r2];show tupS _ _ g4⟩
   show ne_ (λi σ Hy=>∃(e4 e5 e6:Option V)(kg:List (Sk×V)),σ=[some (.ref pn),some (.ref dr),some (.ref db),some (.ref dg),e4,e5,e6]/\EL_ Sx Hy/\DP P w Hy dg kg/\kg.length<=2*i/\GoI Hy N kg (λe=>∃m,m<i/\(k2'[m]?).map (·.1)=some (eK (ph N e)))) ⟨_,_,_,[],rfl,?_,dpI,AB_ _,⟨λe f x h=>?_,λe f x h=>?_,λs _ _=>rfl⟩⟩ ?_ ?_ ?_
   .intro b o e;have:b≠dg:=λz=>by rw[z,Sxd]at e;cases e
    have e':(if b=dg then none else upd H4 dO (HO.frz ob (HO.dT k2')) b)=some o:=e;rw[if_neg this]at e';show e'
   .obtain⟨m,hm,_⟩:=h;show absurd hm (Bi_ _)
   .obtain⟨m,hm,_⟩:=h;show absurd hm (Bi_ _)
   .rintro i σ Hy hi ⟨e4,e5,e6,kg,rfl,sy,dp,kl,gi⟩;show sy _ _ frzS
   .rintro i k x T0 qe σ Hy hk hT0 hqe kc kbk hkk hbb G hG ⟨e4,e5,e6,kg,rfl,sy,dp,kl,gi⟩;show hG ?_;obtain⟨e,f,a,q,rfl,m,wa,rfl,hq⟩:=item i k x hk;nofun;have U0:=EL_.new hT0 (o:=HO.tup [V.ref qe,V.ref q]);have hT:=aa_ (H:=Hy) (a:=T0) (o:=HO.tup [V.ref qe,V.ref q]);generalize upd Hy T0 (HO.tup [V.ref qe,V.ref q])=Z0 at*;show⟨_,SqT.of hT,rfl,_,_,rfl,_,_,rfl,rfl,?_⟩;have sz:=sy.trans U0;have dpz:=dp.mono U0;have hqe0:=U0 _ _ hqe;have hq0:=sz _ _ hq;obtain⟨ep,er,hr,g1,g2,g3,g4⟩:=Fu_ ok po wa;obtain⟨lw,kvm,hlw⟩:=k4 er hr;have vlw:=iZ_ knd kvm;have hlw0:Z0 lw=some (.lst (er.2.map V.str)):=(hS.trans sz) _ _ hlw;nofun;show⟨_,hqe0,_,Fy_,.ref lw,?_,_,hqe0,_,FA_,lw,rfl,_,_,rfl,hlw0,.str a,mY_ (by rw[Ae_,show er.2[(ph N e).2]?=some a from g2];rfl),?_⟩
    .have:=FZ_.k (k:=.inr er.1) (sz _ _ hdrS);rw[vlw,g1]at this;show this
    have hi60:i<60:=by have:=(Ad_.mp hk).1;lia
    nofun;show⟨d_,λt1 n1=>⟨d_,λt2 n2=>⟨d_,λt3 n3=>?_⟩⟩⟩;have A1:=EL_.new n1 (o:=HO.tup [V.ref q,V.bl false]);have h1':=aa_ (H:=Z0) (a:=t1) (o:=HO.tup [V.ref q,V.bl false]);generalize upd Z0 t1 (HO.tup [V.ref q,V.bl false])=Y1 at*;have A2:=EL_.new n2 (o:=HO.tup [V.str a,V.ref t1]);have h2':=aa_ (H:=Y1) (a:=t2) (o:=HO.tup [V.str a,V.ref t1]);generalize upd Y1 t2 (HO.tup [V.str a,V.ref t1])=Y2 at*;have A3:=EL_.new n3 (o:=HO.tup [V.ref qe,V.bl true]);have h3':=aa_ (H:=Y2) (a:=t3) (o:=HO.tup [V.ref qe,V.bl true]);generalize upd Y2 t3 (HO.tup [V.ref qe,V.bl true])=Y3 at*;have a13:=A1.trans (A2.trans A3);have dp3:=dpz.mono a13;have ky3:FE_ Y3 t3 (skN N (e,true)):=⟨qe,h3',a13 _ _ hqe0⟩;show⟨kg,dp3,_,ky3,EN_ o_,λH5 fr5 dp5=>?_⟩;have keep:∀b o,Y3 b=some o->b≠dg->H5 b=some o:=λb o hb ne=>by rw[fr5 b ne];show hb
    obtain⟨_,xs3,ex3,_⟩:=id dp3;have kt:∀b ys,Y3 b=some (.tup ys)->H5 b=some (.tup ys):=λb ys hb=>keep b _ hb (λz=>by rw[z,ex3]at hb;cases hb);have h15:=kt _ _ ((A2.trans A3) _ _ h1');have h25:=kt _ _ (A3 _ _ h2');have hqe5:=kt _ _ (a13 _ _ hqe0);have hq5:H5 q=some (eV (ph N f)):=kt _ _ (a13 _ _ hq0);have Sx5:∀b o,Sx b=some o->H5 b=some o:=λb o hb=>keep b o (a13 _ _ (sz _ _ hb)) (λz=>by rw[z,Sxd]at hb;cases hb);obtain⟨be,vb1,hb1⟩:=JB_ ok po bhS wa;obtain⟨w2,wf1,wf2⟩:=m.2;have wf:wi (trn N) f=some a:=by rw[wa]at wf1;cases wf1;show wf2
    obtain⟨bf,vb2,hb2⟩:=JB_ ok po bhS wf;nofun;show⟨.ref bf,by have:=FZ_.t (k:=eK (ph N f)) (Sx5 _ _ hdbS) hq5;rw[vb2]at this;show this,d_,λu1 m1=>⟨d_,λu2 m2=>?_⟩⟩;have B1:=EL_.new m1 (o:=HO.tup [V.ref bf,V.bl true]);have c1:=aa_ (H:=H5) (a:=u1) (o:=HO.tup [V.ref bf,V.bl true]);generalize upd H5 u1 (HO.tup [V.ref bf,V.bl true])=X1 at*;have B2:=EL_.new m2 (o:=HO.tup [V.str a,V.ref u1]);have c2:=aa_ (H:=X1) (a:=u2) (o:=HO.tup [V.str a,V.ref u1]);generalize upd X1 u2 (HO.tup [V.str a,V.ref u1])=X2 at*;have b12:=B1.trans B2;show⟨.ref be,by have:=FZ_.t (k:=eK (ph N e)) (b12 _ _ (Sx5 _ _ hdbS)) (b12 _ _ hqe5);rw[vb1]at this;show this,d_,λu3 m3=>?_⟩;have B3:=EL_.new m3 (o:=HO.tup [V.ref be,V.bl false]);have c3:=aa_ (H:=X2) (a:=u3) (o:=HO.tup [V.ref be,V.bl false]);generalize upd X2 u3 (HO.tup [V.ref be,V.bl false])=X3 at*;have b13:=b12.trans B3;have dp6:=dp5.mono b13;have ky6:FE_ X3 u3 (skN N (beh (trn N) (Pn N) e,false)):=⟨be,c3,b13 _ _ (Sx5 _ _ hb1)⟩;have pl1:=aL_ kg (skN N (e,true)) (.ref t2);show⟨_,dp6,_,ky6,EN_ o_,λH7 fr7 dp7=>?_⟩;obtain⟨_,xs6,ex6,_⟩:=id dp6;have keep7:∀b o,X3 b=some o->b≠dg->H7 b=some o:=λb o hb ne=>by rw[fr7 b ne];show hb
    have kt7:∀b ys,X3 b=some (.tup ys)->H7 b=some (.tup ys):=λb ys hb=>keep7 b _ hb (λz=>by rw[z,ex6]at hb;cases hb);have Sx7:∀b o,Sx b=some o->H7 b=some o:=λb o hb=>keep7 b o (b13 _ _ (Sx5 _ _ hb)) (λz=>by rw[z,Sxd]at hb;cases hb);have pl2:=aL_ (Fn_ kg (skN N (e,true)) (.ref t2)) (skN N (beh (trn N) (Pn N) e,false)) (.ref u2);have gi7:=gi.put ok po (H':=H7) m wa (v1:=t2) (q1:=t1) (v2:=u2) (q2:=u1) (λb ys hb=>kt7 _ _ (b13 _ _ (kt _ _ (a13 _ _ (U0 _ _ hb))))) (kt7 _ _ (b13 _ _ h25)) ⟨q,kt7 _ _ (b13 _ _ h15),kt7 _ _ (b13 _ _ hq5)⟩ (kt7 _ _ (B3 _ _ c2)) ⟨bf,kt7 _ _ ((B2.trans B3) _ _ c1),kt7 _ _ (b13 _ _ (Sx5 _ _ hb2))⟩;show hkk _ _ ⟨_,_,_,_,rfl,Sx7,dp7,o_,⟨λc d y hc hm hy=>gi7.tt c d y ?_ hm hy,λc d y hc hm hy=>gi7.ff c d y ?_ hm hy,gi7.no⟩⟩
    all_goals
     obtain⟨mm,hmm,hmk⟩:=hc;by_cases em:mm=i
     .subst em;rw[hk]at hmk;have hph:ph N e=ph N c:=dG_ (Ar_ hmk);show .inr (fZ_ ok po ((Fu_ ok po hy).1) ep hph.symm)
     .show .inl ⟨mm,o_,hmk⟩
   .rintro σ Hy ⟨e4,e5,e6,kg,rfl,sy,dp,kl,gi⟩;nofun;show kk dg kg Hy (hS.trans sy) dp ⟨λe f x _ hm hx=>gi.tt e f x ?_ hm hx,λe f x _ hm hx=>gi.ff e f x ?_ hm hx,gi.no⟩ dgn
    all_goals
     obtain⟨kv,hkv,hab⟩:=kA_ (d0:=Str.empty) ok po hm;obtain⟨j,hj,ej⟩:=Ax_.mp hkv
     have hvs:∃v,Fl_ k2' (eK (ph N e))=some v:=by
      rcases hab with hab|hab
      .obtain⟨⟨q1,g1,_⟩,_⟩:=mo j kv.1 _ _ hj (by rw[Aa_ hj,ej,<-hab]);show⟨_,g1⟩
      .obtain⟨_,q1,g1,_⟩:=mo j kv.1 _ _ hj (by rw[Aa_ hj,ej,<-hab]);show⟨_,g1⟩
     obtain⟨v,hv⟩:=hvs;obtain⟨mm,hmm,em⟩:=Ax_.mp (kK_ hv);rw[Ab_]at hmm;show⟨mm,hmm,by rw[Aa_ hmm];rw[List.getElem_map]at em;show congrArg some em⟩
theorem nu_(ok:E0_ N)(po:ES_ N)(h:N.posts[i]?=some x):(pts N)[i]?=some x/\i<(pts N).length/\∃r∈N.rows,r.1=x/\(trn N).getD i []=r.2:=by
 have hi:=(Ad_.mp h).1;have hp:(pts N)[i]?=some x:=by unfold pts;rw[Ao_ hi];show h
 have hl:=(Ad_.mp hp).1;obtain⟨r,hr,g1,g2,_⟩:=mN_ ok po hl;show⟨hp,hl,r,hr,?_,g2⟩;rw[g1,Ag_,hp];rfl
abbrev E9_:Stmt:=stN 23
theorem cp_:ZL ["net","wires_round","starts","post"] ["net"] (EO_ E9_):=zL
theorem fl_:LK E9_ "dict" .globalImplicit:=r_
theorem fw_:LK E9_ "len" .globalImplicit:=r_
def StA(H:Hp)(N:Net Str)(qs:List Addr):Prop:=∀(i:Nat) q,qs[i]?=some q->FE_ H q (skN N (stt (trn N) i))
theorem FE_.tups{k:Sk}(h:FE_ H q k)(s:∀b ys,H b=some (.tup ys)->H' b=some (.tup ys)):FE_ H' q k:=let⟨p,z1,z2⟩:=h;⟨p,s _ _ z1,s _ _ z2⟩
theorem StA.push{qs:List Addr}(h:StA H N qs)(s:∀b ys,H b=some (.tup ys)->H' b=some (.tup ys))(hq:FE_ H' q (skN N (stt (trn N) qs.length))):StA H' N (qs++[q]):=λi q' hi=>by
 by_cases c:i<qs.length
 .rw[Ao_ c]at hi;show FE_.tups (h i q' hi) s
 .rw[Ay_ o_]at hi;have:i-qs.length=0:=by have:=(Ad_.mp hi).1;simp at this;lia
  rw[this]at hi;cases hi;rw[show i=qs.length by lia];show hq
def Gx_:Sp:=λvs H Q _=>∃(v:V)(N:Net Str),vs=[v]/\Rep H v (FT_ N)/\E0_ N/\ES_ N/\∀D qs H',EL_ H H'->H D=none->H' D=some (.lst (qs.map V.ref))->qs.length=2*Pn N->StA H' N qs->Q (.ref D) H'
theorem if_(T:Txt K mg)(F:Fn0 K mg "starts_of" E9_):Cal P w K mg base "starts_of" ["net"] 1 Gx_:=by
  show aY_ F cp_.1 λf cdv A outer s H vs Q E hr h=>?_;obtain⟨v,N,rfl,hv,ok,po,kk⟩:=h;obtain⟨pn,p0,p1,p2,rs,ws,rfl,hn,h0,h1,r1,h2,r2⟩:=eg_ hv;have rl:rs.length=N.rows.length:=by rw[r1.length,Ab_]
  refine'⟨_,?D,?R⟩
  case D =>
   refine' aj_ (zas 1 cp_ (b3_ (gI_ rfl) fl_ T.n_dict ll_ (pa_c (EU_ ak_ (zv 0 cp_) ad_) ab_))) (aj_ (zas 2 cp_ (bx_ ab_)) ?a)
   case' a=>refine' ac_ (bq_ AI_ rfl (aT_ (K:=K) rfl (EU_ ak_ (zv 0 cp_) ad_)) ?b ?c) (ah_ (aF_ (zv 2 cp_)))
   case b=>show zh 3 cp_
   case' c=>refine' aj_ (au_ (Ft_ AA_ AC_ AD_ aw_ (zv 2 cp_) (pa_c (ap_ ?d) ab_))) (ah_ (au_ ?e))
   case' d=>refine' pa_c (ap_ (pa_c (zv 3 cp_) (pa_c (as_ aO_ fw_ T.n_len cb_ (pa_c (b0_ (un1 hr.units) (zv 1 cp_) (zv 3 cp_)) ab_)) ab_))) (pa_c F2_ ab_)
   case' e=>refine' Ft_ AA_ AC_ AD_ aw_ (zv 2 cp_) (pa_c (ap_ (pa_c (ap_ (pa_c (zv 3 cp_) (pa_c ad_ ab_))) (pa_c F2_ ab_))) ab_)
  case R =>
   nofun;obtain⟨kvs,k1,k2,k3,k4⟩:=ho_ r1;have few:=ok.few;have knd:(kvs.map (·.1)).Nodup:=by rw[k1];have:=ok.nd;unfold List.Nodup at this⊢;rw[BQ_]at this⊢;show this.imp λh z=>h (Cn_ z)
   show⟨_,hn,_,FA_,p1,rfl,rs,h1,kvs,o_,o_,k3,λdr ndr=>?_⟩;rw[hn_ kvs [] (by rw[Dd_];show knd),Dd_];have S1:=EL_.new ndr (o:=HO.dK kvs);have hdr:=aa_ (H:=H) (a:=dr) (o:=HO.dK kvs);generalize upd H dr (HO.dK kvs)=H1 at*;nofun;show⟨AB_ _,λD nD=>?_⟩;have S2:=EL_.new nD (o:=HO.lst []);have hD:=aa_ (H:=H1) (a:=D) (o:=HO.lst []);generalize upd H1 D (HO.lst [])=H2 at*;nofun;show⟨_,(S1.trans S2) _ _ hn,_,Fy_,p0,rfl,⟨_,.inl (.inl ((S1.trans S2) _ _ h0))⟩,?_⟩;have DH:H D=none:=S1.free nD;have p6:=ok.pl;show eB_ (xs:=N.posts.map V.str) (λi σ Hy=>∃(e3:Option V)(qs:List Addr),σ=[some (.ref pn),some (.ref dr),some (.ref D),e3]/\EL_ H1 Hy/\Hy D=some (.lst (qs.map V.ref))/\qs.length=2*i/\StA Hy N qs) ⟨_,[],rfl,S2,hD,rfl,λi q z=>(by cases z)⟩ ?_ ?_ ?_
   .rintro i σ Hy hi ⟨e3,qs,rfl,sy,hDy,ql,st⟩;show .inl (.inl ((S1.trans sy) _ _ h0))
   .rintro i y σ Hy hy kc kbk hk hb G hG ⟨e3,qs,rfl,sy,hDy,ql,st⟩;show hG ?_;rw[Ae_]at hy;obtain⟨x,hx,rfl⟩:=AK_.mp hy;obtain⟨hp,hl,r,hr,rx,rt⟩:=nu_ ok po hx;have il:=(Ad_.mp hx).1;obtain⟨lw,kvm,hlw⟩:=k4 r hr;have vlw:=iZ_ knd kvm;have r30:=JC_ ok hr;nofun;have phx:∀k,ph N (i,k)=(x,k):=λk=>by change((pts N).getD i Str.empty,k)=(x,k);rw[Ag_,hp];rfl
    have rll:RimT.rl (trn N) i=r.2.length:=by unfold RimT.rl;rw[rt]
    show⟨.inl ⟨_,.inl (.inl hDy)⟩,.ref lw,by have:=FZ_.k (k:=.inr r.1) (sy _ _ hdr);rw[vlw,rx]at this;show this,lw,rfl,_,.inl ((S1.trans sy) _ _ hlw),d_,λt1 n1=>⟨d_,λt2 n2=>?_⟩⟩;rw[Ab_]at*;have A1:=EL_.new n1 (o:=HO.tup [V.str x,V.int (r.2.length:Nat)]);have c1:=aa_ (H:=Hy) (a:=t1) (o:=HO.tup [V.str x,V.int (r.2.length:Nat)]);generalize upd Hy t1 (HO.tup [V.str x,V.int (r.2.length:Nat)])=Y1 at*;have A2:=EL_.new n2 (o:=HO.tup [V.ref t1,V.bl false]);have c2:=aa_ (H:=Y1) (a:=t2) (o:=HO.tup [V.ref t1,V.bl false]);generalize upd Y1 t2 (HO.tup [V.ref t1,V.bl false])=Y2 at*;have a12:=A1.trans A2;have hD2:=a12 _ _ hDy;show⟨_,hD2,EN_ (by rw[Ab_];lia),?_⟩;have sD:EL_ H1 (upd Y2 D (.lst (qs.map V.ref++[V.ref t2]))):=(sy.trans a12).upd nD;have kt:∀b ys,Y2 b=some (.tup ys)->upd Y2 D (.lst (qs.map V.ref++[V.ref t2])) b=some (.tup ys):=λb ys e=>by rw[ae_ (GB_ e hD2 (λz=>nomatch z))];show e
    have hD3:=aa_ (H:=Y2) (a:=D) (o:=HO.lst (qs.map V.ref++[V.ref t2]));generalize upd Y2 D (HO.lst (qs.map V.ref++[V.ref t2]))=Y3 at*;have st3:StA Y3 N (qs++[t2]):=st.push (λb ys e=>kt _ _ (a12 _ _ e)) ⟨t1,by rw[ql];unfold skN stt;rw[if_pos o_];show kt _ _ c2,by rw[ql];unfold skN stt;rw[if_pos o_,show 2*i/2=i by lia,rll,phx];show kt _ _ (A2 _ _ c1)⟩;nofun;show⟨.inl ⟨_,.inl (.inl hD3)⟩,d_,λu1 m1=>⟨d_,λu2 m2=>?_⟩⟩;have B1:=EL_.new m1 (o:=HO.tup [V.str x,V.int 0]);have d1:=aa_ (H:=Y3) (a:=u1) (o:=HO.tup [V.str x,V.int 0]);generalize upd Y3 u1 (HO.tup [V.str x,V.int 0])=X1 at*;have B2:=EL_.new m2 (o:=HO.tup [V.ref u1,V.bl true]);have d2:=aa_ (H:=X1) (a:=u2) (o:=HO.tup [V.ref u1,V.bl true]);generalize upd X1 u2 (HO.tup [V.ref u1,V.bl true])=X2 at*;have b12:=B1.trans B2;have hD4:=b12 _ _ hD3;show⟨_,hD4,EN_ (by rw[Af_,Ab_];simp;lia),hk _ _ ⟨_,(qs++[t2])++[u2],rfl,(sD.trans b12).upd nD,by rw[aa_,Aq_,Aq_];rfl,by rw[Af_,Af_,ql];simp;lia,?_⟩⟩;have kt2:∀b ys,X2 b=some (.tup ys)->upd X2 D (.lst (qs.map V.ref++[V.ref t2]++[V.ref u2])) b=some (.tup ys):=λb ys e=>by rw[ae_ (GB_ e hD4 (λz=>nomatch z))];show e
    show st3.push (λb ys e=>kt2 _ _ (b12 _ _ e)) ⟨u1,?_,?_⟩
    .rw[Af_,ql];unfold skN stt;rw[if_neg (by simp <;> lia)];show kt2 _ _ d2
    .rw[Af_,ql];unfold skN stt;rw[if_neg (by simp <;> lia),show(2*i+[t2].length)/2=i by rw[A9_];lia,phx];show kt2 _ _ (B2 _ _ d1)
   .rintro σ Hy ⟨e3,qs,rfl,sy,hDy,ql,st⟩;nofun;show kk D qs Hy (S1.trans sy) DH hDy (by rw[ql,Ab_]) st
def Es(H:Hp)(N:Net Str):List Addr->List (Nat×Nat)->Prop
 |[],[]=>True
 |x::xs,c::cs=>H x=some (eV (ph N c))/\Es H N xs cs
 |_,_=>False
theorem Es.mono{H H':Hp}{N:Net Str}(s:EL_ H H'):∀{xs:List Addr}{cs:List (Nat×Nat)},Es H N xs cs->Es H' N xs cs
 |[],[],_=>trivial
 |x::xs,c::cs,h=>⟨s _ _ h.1,Es.mono s h.2⟩
theorem Es.len{H:Hp}{N:Net Str}:∀{xs:List Addr}{cs:List (Nat×Nat)},Es H N xs cs->xs.length=cs.length
 |[],[],_=>rfl
 |x::xs,c::cs,h=>by rw[A1_,A1_,Es.len h.2]
theorem Es.snoc{H:Hp}{N:Net Str}{y:Addr}{d:Nat×Nat}(hy:H y=some (eV (ph N d))):∀{xs:List Addr}{cs:List (Nat×Nat)},Es H N xs cs->Es H N (xs++[y]) (cs++[d])
 |[],[],_=>⟨hy,trivial⟩
 |x::xs,c::cs,h=>⟨h.1,Es.snoc hy h.2⟩
theorem Es.get{H:Hp}{N:Net Str}:∀{xs:List Addr}{cs:List (Nat×Nat)}{i:Nat}{d:Nat×Nat},Es H N xs cs->cs[i]?=some d->∃x,xs[i]?=some x/\H x=some (eV (ph N d))
 |[],[],i,d,h,e=>by cases e
 |[],_::_,_,_,h,_=>h.elim
 |_::_,[],_,_,h,_=>h.elim
 |x::xs,c::cs,0,d,h,e=>by cases e;show⟨x,rfl,h.1⟩
 |x::xs,c::cs,i+1,d,h,e=>Es.get (i:=i) h.2 e
theorem of_{x:Addr}(h:H x=some (eV e)):Rep H (.ref x) (dE e):=⟨x,_,rfl,h,_,_,rfl,rfl,_,_,rfl,rfl,rfl⟩
theorem og_(a b:End Str):deq (dE a) (dE b)=some (decide (a=b)):=by
 by_cases h1:a.1=b.1 <;> by_cases h2:(a.2:Int)=b.2
 .have e:a=b:=BD_ h1 o_;subst e;simp[dE,deq,deqs]
 .have e:a≠b:=λz=>h2 (by rw[z]);simp[dE,deq,deqs,h1,h2,e]
 .have e:a≠b:=λz=>h1 (by rw[z]);simp[dE,deq,deqs,h1,h2,e]
 .have e:a≠b:=λz=>h1 (by rw[z]);simp[dE,deq,deqs,h1,h2,e]
theorem Kp_(ok:E0_ N)(po:ES_ N){kg:List (Sk×V)}(g:GoI H N kg (λ_=>True)){s:Sd}(hc:IsC (trn N) (Pn N) s.1)(h:wr (trn N) (Pn N) s=some x):∃b v q,Gg (trn N) (Pn N) s b/\Fl_ kg (skN N s)=some (.ref v)/\H v=some (.tup [.str x,.ref q])/\FE_ H q (skN N b):=by
 obtain⟨e,he,h⟩:=jj_ hc h;obtain⟨f,m⟩:=m2_ (fr_ ok po) he
 rcases h with rfl|rfl
 .obtain⟨v,q,z1,z2,z3⟩:=g.tt e f x trivial m he;show⟨_,v,q,⟨e,f,m,.inl ⟨rfl,rfl⟩⟩,z1,z2,z3⟩
 .obtain⟨v,q,z1,z2,z3⟩:=g.ff e f x trivial m he;show⟨_,v,q,⟨e,f,m,.inr ⟨rfl,rfl⟩⟩,z1,z2,z3⟩
def dSd(k:Sd)(N:Net Str):Dt:=.tup [dE (ph N k.1),.bl k.2]
theorem hq_{k:Sd}(h:FE_ H q (skN N k)):Rep H (.ref q) (dSd k N):=let⟨p,h1,h2⟩:=h;⟨q,_,rfl,h1,_,_,rfl,of_ h2,_,_,rfl,rfl,rfl⟩
theorem lu_(ok:E0_ N)(po:ES_ N){a b:Sd}(ha:a.1.1<(pts N).length)(hb:b.1.1<(pts N).length):deq (dSd a N) (dSd b N)=some (decide (a=b)):=by
 have h1:=og_ (ph N a.1) (ph N b.1);obtain⟨c,x⟩:=a;obtain⟨d,y⟩:=b;unfold dSd
 dsimp only at h1 ha hb⊢
 rw[deq,deqs,h1,deqs,deqs,deq];by_cases e:ph N c=ph N d
 .have:=fZ_ ok po ha hb e;subst this;cases x <;> cases y <;> simp
 .have:c≠d:=λz=>e (by rw[z]);simp[e,this]
theorem pa1{G:Sd->Sd->Prop}(s:Sd):Pa G [s]:=λi a b ha hb=>by cases hb
theorem jz_{T:List (List Str)}{P:Nat}(m:List Sd)(x:Sd):wiL T P (m++[x])=wiL T P m++(wr T P x).toList:=by unfold wiL;rw[BJ_];cases h:wr T P x <;> simp[h]
theorem _root_.RimT.Pa.snoc{G:Sd->Sd->Prop}{m:List Sd}{x b:Sd}(p:Pa G (m++[x]))(g:G x b):Pa G (m++[x]++[b]):=λi c d hc hd=>by
 have l1:=(Ad_.mp hd).1;simp only[Af_,A9_]at l1;by_cases e:i<m.length
 .rw[Ao_ (by simp;lia)]at hc hd;show p i c d hc hd
 .have e:i=m.length:=o_
  subst e;rw[Ao_ s_,Ay_ (Aj_ _)]at hc;rw[Ay_ s_]at hd;simp at hc hd;rw[<-hc,<-hd];show g
abbrev Fa_:Stmt:=stN 24
theorem bt_:ZL ["start","goings","corners","wires","standing","wire"] ["start","goings"] (EO_ Fa_):=zL
def JX_(H:Hp)(N:Net Str)(s:Sd)(l:List Sd)(z:Addr):Prop:=∃x,l.getLast?=some x/\((wr (trn N) (Pn N) x=none/\FE_ H z (skN N x))\/(Gg (trn N) (Pn N) x s/\FE_ H z (skN N s)))
def HP_(P:Program)(w:World):Sp:=λvs H Q _=>∃(N:Net Str)(q d:Addr)(kg:List (Sk×V))(s:Sd),vs=[.ref q,.ref d]/\E0_ N/\ES_ N/\FE_ H q (skN N s)/\IsC (trn N) (Pn N) s.1/\DP P w H d kg/\GoI H N kg (λ_=>True)/\(corners (trn N) (Pn N)).length<=900 /\
 ∀t C W z H' xs l,EL_ H H'->H t=none->H C=none->H W=none->C≠W->t≠C->t≠W->H' t=some (.tup [.ref C,.ref W,.ref z])->H' C=some (.lst (xs.map V.ref))->H' W=some (.lst ((wiL (trn N) (Pn N) l).map V.str))->Es H N xs (l.map (·.1))->Pa (Gg (trn N) (Pn N)) l->l[0]?=some s->(∀j b,0<j->l[j]?=some b->b≠s)->JX_ H N s l z->Q (.ref t) H'
theorem ig_(T:Txt K mg)(F:Fn0 K mg "gone_from" Fa_):Cal P w K mg base "gone_from" ["start","goings"] 1 (HP_ P w):=by
  show aY_ F bt_.1 λf cdv A outer s0 H vs Q E hr h=>?_;obtain⟨N,q,d,kg,s,rfl,ok,po,hq,ic,hd,gi,c9,k⟩:=h;have tw:=fr_ ok po;refine'⟨_,?D,?R⟩
  case D =>
   refine' aj_ (zas 2 bt_ (bx_ (pa_c (EU_ ak_ (zv 0 bt_) ad_) ab_))) ?a
   case' a=>refine' aj_ (zas 3 bt_ (bx_ ab_)) (aj_ (zas 4 bt_ (zv 0 bt_)) (ac_ (ep_ AI_ (fG_ (n2_ (P:=P) (w:=w) rfl rfl (un2 hr.units) (zv 4 bt_) (zv 1 bt_))) ?b) ?c))
   case' b=>refine' aj_ (zas 5 bt_ (EU_ ak_ (kV_ (P:=P) (w:=w) rfl rfl (un2 hr.units) (zv 1 bt_) (zv 4 bt_)) ad_)) (aj_ (zas 4 bt_ (EU_ ak_ (kV_ (P:=P) (w:=w) rfl rfl (un2 hr.units) (zv 1 bt_) (zv 4 bt_)) ad_)) ?d)
   case' d=>refine' aj_ (au_ (Ft_ AA_ AC_ AD_ aw_ (zv 3 bt_) (pa_c (zv 5 bt_) ab_))) (ac_ (FH_ (aG_ (jb_ (hr.units)) (zv 4 bt_) (zv 0 bt_) (Fc_ _)) (ah_ ?e) a4_) ?f)
   case e=>show lG_
   case' f=>refine' ah_ (au_ (Ft_ AA_ AC_ AD_ aw_ (zv 2 bt_) (pa_c (EU_ ak_ (zv 4 bt_) ad_) ab_)))
   case' c=>refine' ah_ (aF_ (ap_ (pa_c (zv 2 bt_) (pa_c (zv 3 bt_) (pa_c (zv 4 bt_) ab_)))))
  case R =>
   nofun;obtain⟨p0,hq0,hp0⟩:=id hq;show⟨_,hq0,_,Fy_,d_,λC nC=>?_⟩;nofun;show⟨d_,λW nW=>?_⟩;have CW:C≠W:=λz=>by rw[<-z,aa_]at nW;cases nW
   have S1:=EL_.new nC (o:=HO.lst [V.ref p0]);have nW0:=S1.free nW;have S2:=S1.trans (EL_.new nW (o:=HO.lst []));have hC2:upd (upd H C (.lst [V.ref p0])) W (.lst []) C=some (.lst [V.ref p0]):=by rw[ae_ CW,aa_]
   have hW2:upd (upd H C (.lst [V.ref p0])) W (.lst []) W=some (.lst []):=aa_;generalize upd (upd H C (.lst [V.ref p0])) W (.lst [])=H2 at*;nofun
   show l1_ (λσ Hy=>∃(e5:Option V)(m:List Sd)(x:Sd)(q1:Addr)(xs:List Addr),σ=[some (.ref q),some (.ref d),some (.ref C),some (.ref W),some (.ref q1),e5]/\EL_ H Hy/\Hy C=some (.lst (xs.map V.ref))/\Hy W=some (.lst ((wiL (trn N) (Pn N) m).map V.str))/\Es H N xs ((m++[x]).map (·.1))/\Pa (Gg (trn N) (Pn N)) (m++[x])/\(m++[x])[0]?=some s/\(∀j b,0<j->(m++[x])[j]?=some b->b≠s)/\FE_ H q1 (skN N x))
    (λσ Hy=>match Hy C with|some (.lst xs)=>(corners (trn N) (Pn N)).length+1-xs.length|_=>0) ⟨_,[],s,q,[p0],rfl,S2,hC2,hW2,⟨hp0,trivial⟩,pa1 s,rfl,λj b hj hb=>?_,hq⟩ ?_
   .obtain⟨j,rfl⟩:∃k,j=k+1:=⟨j-1,o_⟩;cases hb
   rintro σ Hy kb hkb G hG ⟨e5,m,x,q1,xs,rfl,sy,hC,hW,es,pa,h0,hs,hq1⟩;show hG ?_;have nd:=pa.nodup (FG_ tw) h0 hs;have sh:=pa.short tw h0 ic nd;have ix:=pa.allC h0 ic x s_;nofun;have fin:∀(z:Addr)(Hz:Hp),EL_ H Hz->Hz C=some (.lst (xs.map V.ref))->Hz W=some (.lst ((wiL (trn N) (Pn N) (m++[x])).map V.str))->JX_ H N s (m++[x]) z->∀t,Hz t=none->Q (.ref t) (upd Hz t (.tup [.ref C,.ref W,.ref z])):=λz Hz sz z1 z2 ed t nt=>by have s3:=EL_.new nt (o:=HO.tup [.ref C,.ref W,.ref z]);show k t C W z _ xs (m++[x]) (sz.trans s3) (sz.free nt) nC nW0 CW (λe=>by rw[e,z1]at nt;cases nt) (λe=>by rw[e,z2]at nt;cases nt) aa_ (s3 _ _ z1) (s3 _ _ z2) es pa h0 hs ed
   show⟨_,hd.mono sy,_,hq1.mono sy,?_⟩;cases hwr:wr (trn N) (Pn N) x with
   |none =>
    rw[gi.no x ix hwr,if_neg s_];show hkb _ _ ?_;nofun;show⟨d_,λt nt=>fin q1 Hy sy hC ?_ ⟨x,s_,.inl ⟨hwr,hq1⟩⟩ t nt⟩;rw[hW,jz_,hwr,Option.toList,Bp_]
   |some a =>
    obtain⟨b,v,q2,gb,vb,hv,hb⟩:=Kp_ ok po gi ix hwr;rw[vb,if_pos (show(some (V.ref v)).isSome=true from rfl)];show⟨_,N_ok,boxN λkn hkn=>?_⟩;nofun;show⟨_,hd.mono sy,_,hq1.mono sy,_,vb,_,rfl,_,sy _ _ hv,_,Fy_,?_⟩;nofun;show⟨_,hd.mono sy,_,hq1.mono sy,_,vb,_,rfl,_,sy _ _ hv,_,FA_,?_⟩;nofun;have ml:m.length+1<=900:=by rw[Af_]at sh;show AT_ sh c9
    have wl:(wiL (trn N) (Pn N) m).length<=m.length:=CN_ _ _;show⟨.inl ⟨_,.inl (.inl hW)⟩,_,hW,EN_ (by rw[Ab_];lia),?_⟩;have sy1:EL_ H (upd Hy W (HO.lst ((wiL (trn N) (Pn N) m).map V.str++[V.str a]))):=λb o hb=>by rw[ae_ (ag_ hb nW0)];show sy _ _ hb
    have hC1:upd Hy W (HO.lst ((wiL (trn N) (Pn N) m).map V.str++[V.str a])) C=some (.lst (xs.map V.ref)):=by rw[ae_ CW];show hC
    have hW1:upd Hy W (HO.lst ((wiL (trn N) (Pn N) m).map V.str++[V.str a])) W=some (.lst ((wiL (trn N) (Pn N) (m++[x])).map V.str)):=by rw[aa_,jz_,hwr,Aq_];rfl
    generalize upd Hy W (HO.lst ((wiL (trn N) (Pn N) m).map V.str++[V.str a]))=H3 at*;have ib:=gg_c gb;have slt:s.1.1<(pts N).length:=by rw[<-bp_];show ic.1
    have blt:b.1.1<(pts N).length:=by rw[<-bp_];show ib.1
    nofun;show⟨_,hq_ (hb.mono sy1),_,hq_ (hq.mono sy1),_,lu_ ok po blt slt,by simp[dSd,dE,dep,deps],?_⟩;by_cases hbs:b=s
    .subst hbs;rw[if_pos s_];nofun;show⟨d_,λt nt=>fin q2 H3 sy1 hC1 hW1 ⟨x,s_,.inr ⟨gb,hb⟩⟩ t nt⟩
    .rw[if_neg (by simp[hbs])];obtain⟨pb,hb0,hpb⟩:=id hb;have xl:xs.length=m.length+1:=by rw[es.len,Ab_,Af_];rfl
     show⟨.inl ⟨_,.inl (.inl hC1)⟩,_,sy1 _ _ hb0,_,Fy_,_,hC1,EN_ (by rw[Ab_];lia),hkn _ _ ⟨⟨_,m++[x],b,q2,rfl,λc o hc=>by rw[ae_ (ag_ hc nC)];show sy1 _ _ hc,xs++[pb],by rw[aa_,Aq_];rfl,by rw[ae_ CW.symm];show hW1,?_,?_,?_,?_,hb⟩,?_⟩⟩
     .rw[Aq_];show es.snoc hpb
     .show pa.snoc gb
     .rw[Ao_ s_];show h0
     .intro j c hj hc;by_cases cj:j<(m++[x]).length
      .rw[Ao_ cj]at hc;show hs j c hj hc
      .rw[Ay_ o_]at hc;have:j-(m++[x]).length=0:=by have:=(Ad_.mp hc).1;simp only[A9_]at this;lia
       rw[this]at hc;cases hc;show hbs
     .rw[aa_,hC];simp only[Af_,Ab_,A9_]at sh⊢;lia
theorem JF_(ok:E0_ N)(po:ES_ N):(corners (trn N) (Pn N)).length<=900:=by
 have h:=fW_ (T:=trn N) (P:=Pn N)
 have e:(trn N).flatten.length=N.all.length:=by
  have h1:((N.rows.map (·.1)).map (F6_ N))=N.rows.map (·.2):=by rw[AP_];show A0_ λr hr=>b4_ ok hr
  have h2:=(dw_ ((fA_ ok po).map (F6_ N))).length_eq;rw[h1]at h2;show h2
 have h3:=ok.tot;have h4:=ok.pl;change(corners (trn N) (Pn N)).length<=900;have h5:Pn N<=6:=h4;lia
theorem lv_{H:Hp}(f:Nat->Dt):∀(qs:List Addr)(o:Nat),(∀(i:Nat) q,qs[i]?=some q->Rep H (.ref q) (f (o+i)))->Fk_ H (qs.map V.ref) ((List.range' o qs.length).map f)
 |[],o,h=>rfl
 |q::qs,o,h=>⟨_,_,rfl,h 0 q rfl,lv_ f qs (o+1) λi q' hi=>by rw[show o+1+i=o+(i+1) by lia];show h (i+1) q' hi⟩
theorem nv_(ok:E0_ N)(po:ES_ N){pl:Nat}(hp:pl<2*Pn N){l:List Sd}{z:Addr}(pa:Pa (Gg (trn N) (Pn N)) l)(h0:l[0]?=some (stt (trn N) pl))(ed:JX_ H N (stt (trn N) pl) l z):∃x j,l.getLast?=some x/\Ln (trn N) (Pn N) (stt (trn N) pl) l/\FE_ H z (skN N x)/\j<2*Pn N/\tn x=stt (trn N) j:=by
 have tw:=fr_ ok po;have PT:Pn N<=(trn N).length:=by rw[bp_];unfold pts;rw[Af_];show Bz_ _ _
 have ic:=I5_ (T:=trn N) PT hp;have st:=be_ (T:=trn N) hp;obtain⟨x,hx,h⟩:=ed;have hxm:x∈l:=BM_ hx
 rcases h with⟨h1,h2⟩|⟨h1,_⟩
 .obtain⟨j,hj,ej⟩:=jk_ (pa.allC h0 ic x hxm) h1;show⟨x,j,hx,⟨pa,h0,λy hy=>by rw[hx]at hy;cases hy;show h1⟩,h2,hj,ej⟩
 .show absurd ((FG_ tw).rev h1) (d9_ st)
def HN_(kt:List (List Key×V))(all:List (List Key)):Prop:=(kt.map (·.1)).Nodup/\∀k∈kt.map (·.1),k∈all
variable{kt:List (List Key×V)}
theorem HN_.len{all:List (List Key)}(h:HN_ kt all):kt.length<=all.length:=by
 have:=b9_ h.1 h.2
 rwa[Ab_]at this
theorem HN_.put{all:List (List Key)}(h:HN_ kt all){k:List Key}(hk:k∈all)(v:V):HN_ (Fn_ kt k v) all:=by
 unfold HN_;rw[id_];split
 .show h
 .next hn =>
  show⟨AS_.mpr ⟨h.1,s_,λa ha b hb e=>?_⟩,λx hx=>?_⟩
  .rw[Ak_.mp hb]at e;show hn (e▸ha)
  .rcases Ap_.mp hx with hx|hx
   .show h.2 x hx
   .rw[Ak_.mp hx];show hk
theorem HN_.merge{all:List (List Key)}:∀{more kt:List (List Key×V)},HN_ kt all->(∀q∈more,q.1∈all)->HN_ (Fp_ kt more) all
 |[],kt,h,_=>h
 |p::more,kt,h,hm=>HN_.merge (more:=more) (kt:=Fn_ kt p.1 p.2) (h.put (hm p Au_) _) λq hq=>hm q (Am_ _ hq)
theorem nw_(es:List (End Str))(e:End Str):((kvK es).any λq=>decide (q.1=eK e))=decide (e∈es):=by have:=lr_ es e;rw[dP_]at this;show this
abbrev Tr:=Option (Nat×Nat)×List Sd
def trF(t:Tr):V:=match t.1 with|some (p,_)=>.int p|none=>.non
def trL(t:Tr):V:=match t.1 with|some (_,j)=>.int j|none=>.non
def TrA(H0 H:Hp)(N:Net Str)(D:Addr)(ts:List Addr)(L:List Tr):Prop:=Paired (λ(q:Addr)(t:Tr)=>∃C W,H q=some (.tup [trF t,trL t,.ref C,.ref W])/\H W=some (.lst ((wiL (trn N) (Pn N) t.2).map V.str))/\W≠D/\H0 W=none) ts L
def ClL(T:List (List Str))(P:Nat)(l:List Sd):Prop:=∃s x,Pa (Gg T P) l/\l[0]?=some s/\l.getLast?=some x/\Gg T P x s
def opT(O:List (Nat×Nat×List Sd)):List Tr:=O.map λt=>(some (t.1,t.2.1),t.2.2)
def clT(L:List (List Sd)):List Tr:=L.map λl=>(none,l)
theorem Kr_(ok:E0_ N)(po:ES_ N){qs:List Addr}(sa:StA H N qs)(ql:qs.length=2*Pn N){q2:Addr}{j:Nat}(kj:FE_ H q2 (skN N (stt (trn N) j)))(hj:j<2*Pn N){Q:Nat->Prop}(k:Q j):∃ds,Fk_ H (qs.map V.ref) ds/\∃d,Rep H (.ref q2) d/\(qs.map V.ref).length<=1000/\(∀y,y∈qs.map V.ref->∃q,y=V.ref q)/\∃bs:Nat->Bool,(∀(m:Nat) dm,ds[m]?=some dm->deq dm d=some (bs m)/\dep dm<=60)/\∃j',j'<ds.length/\bs j'=true/\(∀m,m<j'->bs m=false)/\Q j':=by
 have PT:Pn N<=(trn N).length:=by rw[bp_];unfold pts;rw[Af_];show Bz_ _ _
 have lt:∀{m},m<2*Pn N->(stt (trn N) m).1.1<(pts N).length:=λ{m} hm=>by rw[<-bp_];show(I5_ (T:=trn N) PT hm).1
 have pl6:Pn N<=6:=ok.pl;have dl:((List.range' 0 qs.length).map λi=>dSd (stt (trn N) i) N).length=2*Pn N:=by rw[Ab_,List.length_range',ql]
 show⟨(List.range' 0 qs.length).map λi=>dSd (stt (trn N) i) N,lv_ _ qs 0 λi q hi=>?_,_,hq_ kj,by rw[Ab_];lia,λy hy=>?_,λm=>decide (stt (trn N) m=stt (trn N) j),λm dm hm=>?_,j,by rw[dl];show hj,A3_ rfl,λm hm=>AE_ λz=>?_,k⟩
 .rw[CK_];show hq_ (sa i q hi)
 .obtain⟨q,_,e⟩:=An_.mp hy;show⟨q,e.symm⟩
 .have hl:=(Ad_.mp hm).1;rw[dl]at hl;rw[Ae_,List.getElem?_range' o_]at hm;cases hm;rw[CK_,Nat.one_mul];show⟨lu_ ok po (lt hl) (lt hj),by simp[dSd,dE,dep,deps]⟩
 .have:=g5_ z;lia
variable{O:List (Nat×Nat×List Sd)}
theorem _root_.RimT.OpL.skip2(tw:Tw (trn N))(hi:i<2*Pn N)(h:OpL (trn N) (Pn N) i O)(hn:(stt (trn N) i).1∈csO O):OpL (trn N) (Pn N) (i+1) O:=by
 obtain⟨t,ht,hc⟩:=f1_.mp hn;obtain⟨h1,h2,h3⟩:=h.in_ t ht
 rcases h3.hits tw hi hc with e|e
 .lia
 .have b:=h3.back tw o_;rw[<-e]at b;show h.skip tw hi b hn
def csT(L:List Tr):List (Nat×Nat):=(L.map λt=>cs t.2).flatten
theorem eU_(L:List Tr)(t:Tr):csT (L++[t])=csT L++cs t.2:=by unfold csT;rw[Aq_,AX_];simp
theorem lw_(O:List (Nat×Nat×List Sd)):csT (opT O)=csO O:=by unfold csT opT csO;rw[AP_];rfl
theorem lx_(O:List (Nat×Nat×List Sd))(L:List (List Sd)):csT (opT O++clT L)=csO O++(L.map cs).flatten:=by rw[<-lw_];unfold csT clT;rw[Aq_,AX_,AP_];rfl
structure TrS(N:Net Str)(H0 B Hy:Hp)(tl D:Addr)(ts:List Addr)(kt:List (List Key×V))(L:List Tr):Prop where
 same:EL_ B Hy
 hD:Hy D=some (.lst (ts.map V.ref))
 tr:TrA H0 Hy N D ts L
 ht:Hy tl=some (.dT kt)
 kto:HN_ kt ((Fm_ N).map eK)
 seen:∀c,IsC (trn N) (Pn N) c->(Fl_ kt (eK (ph N c))).isSome=decide (c∈csT L)
 nd:(csT L).Nodup
 sh:Hu_ (trn N) (Pn N) (csT L)
 ic:∀c∈csT L,IsC (trn N) (Pn N) c
theorem TrS.mono{H0 Hy:Hp}{tl D:Addr}{ts:List Addr}{L:List Tr}(h:TrS N H0 B Hy tl D ts kt L)(s:EL_ Hy H'):TrS N H0 B H' tl D ts kt L:=⟨h.same.trans s,s _ _ h.hD,Paired.mapP h.tr λq' t' ⟨C',W',z1,z2,z3⟩=>⟨C',W',s _ _ z1,s _ _ z2,z3⟩,s _ _ h.ht,h.kto,h.seen,h.nd,h.sh,h.ic⟩
theorem i0_{H H':Hp}{N:Net Str}:∀{xs:List Addr}{l:List (Nat×Nat)},Es H N xs l->(∀b ys,H b=some (.tup ys)->H' b=some (.tup ys))->Es H' N xs l
 |[],[],_,_=>trivial
 |x::xs,c::l,h,s=>⟨s _ _ h.1,i0_ h.2 s⟩
theorem ly_(ok:E0_ N)(po:ES_ N){l:List (Nat×Nat)}(nd:l.Nodup)(ic:∀c∈l,IsC (trn N) (Pn N) c):l.length<=100:=by
 have:=b9_ (l:=l) (m:=GH_ N) nd λx hx=>(fB_ ok po).mpr (ic x hx);have ol:(GH_ N).length=(Fm_ N).length:=by rw[ei_ po,Ab_]
 have:=(eT_ ok).1;lia
theorem TrS.begun{H0 Hy:Hp}{tl D:Addr}(s:EL_ B Hy)(hD:Hy D=some (.lst []))(ht:Hy tl=some (.dT [])):TrS N H0 B Hy tl D [] [] []:=⟨s,hD,.nil,ht,⟨AY_,λk hk=>absurd hk AR_⟩,λc _=>rfl,AY_,λa b g hb=>absurd hb AR_,λc hc=>absurd hc AR_⟩
theorem GoI.mono{kg:List (Sk×V)}{E:Nat×Nat->Prop}(h:GoI H N kg E)(s:EL_ H H'):GoI H' N kg E:=⟨λe f x he m hx=>let⟨v,q,z1,z2,z3⟩:=h.tt e f x he m hx;⟨v,q,z1,s _ _ z2,z3.mono s⟩,λe f x he m hx=>let⟨v,q,z1,z2,z3⟩:=h.ff e f x he m hx;⟨v,q,z1,s _ _ z2,z3.mono s⟩,h.no⟩
theorem TrS.add{N:Net Str}(ok:E0_ N)(po:ES_ N){H0 B Hy:Hp}{tl D:Addr}{ts:List Addr}{kt:List (List Key×V)}{L:List Tr}(h:TrS N H0 B Hy tl D ts kt L){t:Tr}{q C W:Addr}{H3 H5:Hp}(bt:B tl=none)(bD:B D=none)(tD:tl≠D)(s3:EL_ Hy H3)(hq:H3 q=some (.tup [trF t,trL t,.ref C,.ref W]))(hW:H3 W=some (.lst ((wiL (trn N) (Pn N) t.2).map V.str)))(WD:W≠D)(bW:H0 W=none)(s5:EL_ (upd H3 D (.lst (ts.map V.ref++[.ref q]))) H5)
  (ap:∀c∈cs t.2,c∉csT L) (nd':(cs t.2).Nodup) (sh':Hu_ (trn N) (Pn N) (cs t.2)) (ic':∀c∈cs t.2,IsC (trn N) (Pn N) c):TrS N H0 B (upd H5 tl (.dT (Fp_ kt (kvK ((cs t.2).map (ph N)))))) tl D (ts++[q]) (Fp_ kt (kvK ((cs t.2).map (ph N)))) (L++[t]):=by
 have hD3:=s3 _ _ h.hD;have ht3:=s3 _ _ h.ht;have put:∀b o,b≠D->b≠tl->H3 b=some o->upd H5 tl (.dT (Fp_ kt (kvK ((cs t.2).map (ph N))))) b=some o:=λb o h1 h2 h3=>by rw[ae_ h2];show s5 _ _ ?_;rw[ae_ h1];show h3
 have tp:∀b ys,H3 b=some (.tup ys)->upd H5 tl (.dT (Fp_ kt (kvK ((cs t.2).map (ph N))))) b=some (.tup ys):=λb ys e=>put b _ (λz=>by rw[z,hD3]at e;cases e) (λz=>by rw[z,ht3]at e;cases e) e;have ls:∀b ys,b≠D->H3 b=some (.lst ys)->upd H5 tl (.dT (Fp_ kt (kvK ((cs t.2).map (ph N))))) b=some (.lst ys):=λb ys n e=>put b _ n (λz=>by rw[z,ht3]at e;cases e) e;show⟨λb o e=>put b o (ag_ e bD) (ag_ e bt) (s3 _ _ (h.same _ _ e)),?_,?_,aa_,h.kto.merge λk hk=>?_,λc hc=>?_,?_,?_,λc hc=>?_⟩
 .rw[ae_ tD.symm,s5 _ _ aa_,Aq_];rfl
 .show Ea_ (Paired.mapP h.tr λq' t' ⟨C',W',z1,z2,z3⟩=>⟨C',W',tp _ _ (s3 _ _ z1),ls _ _ z3.1 (s3 _ _ z2),z3⟩) ⟨C,W,tp _ _ hq,ls _ _ WD hW,WD,bW⟩
 .unfold kvK at hk;obtain⟨e,he,rfl⟩:=An_.mp hk;obtain⟨c0,hc0,rfl⟩:=An_.mp he;show An_.mpr ⟨_,?_,rfl⟩;rw[ei_ po];show An_.mpr ⟨c0,(fB_ ok po).mpr (ic' c0 hc0),rfl⟩
 .rw[dP_,h.seen c hc,nw_,eU_];have dlt:c.1<(pts N).length:=by rw[<-bp_];show hc.1
  have e1:decide (ph N c∈(cs t.2).map (ph N))=decide (c∈cs t.2):=decide_eq_decide.mpr ⟨λh=>by obtain⟨c0,hc0,e0⟩:=An_.mp h;have:=fZ_ ok po (by rw[<-bp_];show(ic' c0 hc0).1) dlt e0;show this▸hc0,λh=>An_.mpr ⟨c,h,rfl⟩⟩;rw[e1,<-Bool.decide_or];show decide_eq_decide.mpr s_
 .rw[eU_];show AS_.mpr ⟨h.nd,nd',λa ha b hb e=>ap b hb (e▸ha)⟩
 .rw[eU_];show h.sh.app sh'
 .rw[eU_]at hc
  rcases Ap_.mp hc with hc|hc
  .show h.ic c hc
  .show ic' c hc
theorem ih_{H7:Hp}{C:Addr}{xs:List Addr}{l:List Sd}{Q:VK}(hC:H7 C=some (.lst (xs.map V.ref)))(hes:Es H7 N xs (cs l))(c100:(cs l).length<=100)(k:∀kl H8,EL_ H7 H8->HA_ H8 kl (kvK ((cs l).map (ph N)))->Q (.ref kl) H8):Hh_ (Itl K C) (Gl_ 0) Ja_ (JQ_ (Hk_ (Jb_ 0) (Hk_ (L2.tC (V.bl true)) JS_))) [none] H7 Q:=by
 have xl:=hes.len;show ev_ (n:=xs.length) (B:=λ_=>none) (Pσ:=λσ=>∃e,σ=[e]) (ds:=((cs l).map (ph N)).map dKn) (λb o e=>by cases e) ⟨_,rfl⟩ (by simp[xl]) o_ (λj Hj hj sj=>⟨_,.ref (xs[j]),.inl (.inl (sj _ _ hC)),by simp[hj]⟩) (λHj sj=>⟨_,.inl (.inl (sj _ _ hC)),s_⟩) ?_ ?_
 .rintro Dc j x dd σ' H6 H6' hDc hDo hs6 hj hdj ⟨rfl,hy⟩ ⟨e,rfl⟩ R0 kR;obtain⟨od,hDo⟩:=hDo;have hx:=hy _ (.inl (.inl (hs6 _ _ hC)));have hjc:j<(cs l).length:=o_
  obtain⟨y,hy1,hy2⟩:=hes.get (Aa_ hjc);rw[Ae_,hy1]at hx;cases hx;have hd:dd=dKn (ph N (cs l)[j]):=by rw[Ae_,Ae_,Aa_ hjc]at hdj;show(Ar_ hdj).symm
  nofun;show⟨d_,λt nt=>kR _ _ _ ⟨_,rfl⟩ (EL_.new nt) ?_⟩;rw[hd];have tD':t≠Dc:=(ag_ hDo nt).symm;have yD:y≠Dc:=ag_ hy2 hDc;have hq2:=(EL_.new nt (o:=HO.tup [V.ref y,V.bl true])) _ _ (hs6 _ _ hy2);show⟨t,_,rfl,by rw[c8_ tD' rfl];show aa_,_,_,rfl,⟨y,_,rfl,by rw[c8_ yD rfl];show hq2,_,_,rfl,rfl,_,_,rfl,rfl,rfl⟩,_,_,rfl,rfl,rfl⟩
 .intro kl H6 hkl s6 rep6;show k kl H6 s6 (jW_ (Rep.mono fR_ _ rep6))
abbrev ET_:Stmt:=stN 25
theorem aJ_:ZL ["net","goings","starts","passed","trails","place","start","gone","corner"] ["net"] (EO_ ET_):=zL
theorem b1_:LK ET_ "corners_in_order" .globalImplicit:=r_
theorem dr_:LK ET_ "enumerate" .globalImplicit:=r_
theorem ds_:LK ET_ "goings_of" .globalImplicit:=r_
theorem bC_:LK ET_ "gone_from" .globalImplicit:=r_
theorem dt_:LK ET_ "starts_of" .globalImplicit:=r_
theorem ej_:LK ET_ "turned" .globalImplicit:=r_
def Gs_:Sp:=λvs H Q _=>∃(v:V)(N:Net Str),vs=[v]/\Rep H v (FT_ N)/\E0_ N/\ES_ N/\∀D ts H' O L,EL_ H H'->H D=none->H' D=some (.lst (ts.map V.ref))->TrA H H' N D ts (opT O++clT L)->ts.length<=200->OpL (trn N) (Pn N) (2*Pn N) O->(∀l∈L,ClL (trn N) (Pn N) l)->(csO O++(L.map cs).flatten).Nodup->(∀c,IsC (trn N) (Pn N) c↔c∈csO O++(L.map cs).flatten)->Q (.ref D) H'
theorem ii_(T:Txt K mg)(F:Fn0 K mg "trails_of" ET_) (GX_:Cal P w K mg base "starts_of" ["net"] 1 Gx_) (GY_:Cal P w K mg base "goings_of" ["net"] 3 (Jp_ P w)) (F7_:Cal P w K mg base "gone_from" ["start","goings"] 1 (HP_ P w)) (Ic_:Cal P w K mg base "turned" ["standing"] 1 Gy_) (FW_:Cal P w K mg base "corners_in_order" ["net"] 1 HU_):Cal P w K mg base "trails_of" ["net"] 4 Gs_:=by
  show aY_ F aJ_.1 λf cdv A outer s0 H vs Q E hr h=>?_;obtain⟨v,N,rfl,hv,ok,po,k⟩:=h;have tw:=fr_ ok po;have PT:Pn N<=(trn N).length:=by rw[bp_];unfold pts;rw[Af_];show Bz_ _ _
  have pl6:Pn N<=6:=ok.pl;refine'⟨_,?D,?R⟩
  case D =>
   refine' aj_ (zas 1 aJ_ (ao_ GY_ (hr.mono d_) ds_ (pa_c (zv 0 aJ_) ab_))) ?a
   case' a=>refine' aj_ (zas 2 aJ_ (ao_ GX_ (hr.mono d_) dt_ (pa_c (zv 0 aJ_) ab_))) (aj_ ?b (aj_ (zas 4 aJ_ (bx_ ab_)) ?c))
   case b=>show zas 3 aJ_ ez_
   case' c=>refine' aj_ (bq_ AI_ rfl (iF_ (K:=K) rfl dr_ T.n_enumerate (pa_c (zv 2 aJ_) ab_)) (by_ (K:=K) (n:=2) rfl rfl (an_ ?d (an_ ?e bw_))) (ah_ ?f)) ?g
   case d=>show zh 5 aJ_
   case e=>show zh 6 aJ_
   case' f=>refine' FH_ (fG_ (f3_ (un1 hr.units) (EU_ ak_ (zv 6 aJ_) ad_) (zv 3 aJ_))) (aj_ (zas 7 aJ_ (ao_ F7_ (hr.mono d_) bC_ (pa_c (zv 6 aJ_) (pa_c (zv 1 aJ_) ab_)))) ?h) a4_
   case' h=>refine' aj_ (au_ (Ft_ AA_ AC_ AD_ aw_ (zv 4 aJ_) ?i)) (ah_ (au_ ?j))
   case' i=>refine' pa_c (ap_ (pa_c (zv 5 aJ_) (pa_c ?k (pa_c (EU_ ak_ (zv 7 aJ_) ad_) (pa_c (EU_ ak_ (zv 7 aJ_) ad_) ab_))))) ab_
   case' k=>refine' Ft_ AA_ PySem.F.slot_list_index PySem.F.type_list_index (k1_ (hr.units)) (zv 2 aJ_) (pa_c (ao_ Ic_ (hr.mono d_) ej_ (pa_c (EU_ ak_ (zv 7 aJ_) ad_) ab_)) ab_)
   case' j=>refine' Ft_ BC_ DQ_ DR_ (gJ_ hr.units rfl) (zv 3 aJ_) (pa_c (e5_ (N':=["corner"]) (ix:=[none]) rfl rfl (eu_ ?l) (aT_ (K:=K) rfl (EU_ ak_ (zv 7 aJ_) ad_)) (λ_ _ _=>?m) (λ_ _ _=>?n) (λ_ _ _=>(ap_ (pa_c (pv1 0 rfl rfl) (pa_c F2_ ab_))))) ab_)
   case l=>show(by change HC_ (EO_ ET_) ["net","goings","starts","passed","trails","place","start","gone","corner"] _ _ _=true;decide +kernel)
   case m=>show ai_ (i:=0) (by change List.Nodup (["corner"]:List Str);decide +kernel) rfl rfl
   case n=>show fP_
   case' g=>refine' ac_ (bq_ AI_ rfl (aT_ (K:=K) rfl (ao_ FW_ (hr.mono d_) b1_ (pa_c (zv 0 aJ_) ab_))) ?o (ah_ ?p)) (ah_ (aF_ (zv 4 aJ_)))
   case o=>show zh 8 aJ_
   case' p=>refine' FH_ (fG_ (f3_ (un1 hr.units) (zv 8 aJ_) (zv 3 aJ_))) (aj_ ?q (aj_ (au_ (Ft_ AA_ AC_ AD_ aw_ (zv 4 aJ_) ?r)) (ah_ (au_ ?s)))) a4_
   case' q=>refine' zas 7 aJ_ (ao_ F7_ (hr.mono d_) bC_ (pa_c (ap_ (pa_c (zv 8 aJ_) (pa_c F2_ ab_))) (pa_c (zv 1 aJ_) ab_)))
   case' r=>refine' pa_c (ap_ (pa_c ?t (pa_c ?u (pa_c (EU_ ak_ (zv 7 aJ_) ad_) (pa_c (EU_ ak_ (zv 7 aJ_) ad_) ab_))))) ab_
   case t=>show hu_
   case u=>show hu_
   case' s=>refine' Ft_ BC_ DQ_ DR_ (gJ_ hr.units rfl) (zv 3 aJ_) (pa_c (e5_ (N':=["member"]) (ix:=[none]) rfl rfl (eu_ ?v) (aT_ (K:=K) rfl (EU_ ak_ (zv 7 aJ_) ad_)) (λ_ _ _=>?w) (λ_ _ _=>?x) (λ_ _ _=>(ap_ (pa_c (pv1 0 rfl rfl) (pa_c F2_ ab_))))) ab_)
   case v=>show(by change HC_ (EO_ ET_) ["net","goings","starts","passed","trails","place","start","gone","corner"] _ _ _=true;decide +kernel)
   case w=>show ai_ (i:=0) (by change List.Nodup (["member"]:List Str);decide +kernel) rfl rfl
   case x=>show fP_
  case R =>
   nofun;show⟨_,N,rfl,hv,ok,po,λd kg H1 s1 dp gi nd=>?_⟩;nofun;show⟨_,N,rfl,Rep.mono s1 _ hv,ok,po,λSt qs H2 s2 nSt hSt ql sa=>?_⟩;nofun;intro tl ntl;nofun;show⟨AB_ _,λD nD=>?_⟩;nofun;have tD:tl≠D:=λz=>by rw[<-z,aa_]at nD;cases nD
   have nD2:=(EL_.new ntl (o:=HO.dT [])).free nD;have sB:=(EL_.new ntl (o:=HO.dT [])).trans (EL_.new nD (o:=HO.lst []));have b1:upd (upd H2 tl (HO.dT [])) D (HO.lst []) tl=some (.dT []):=by rw[ae_ tD,aa_]
   have b2:upd (upd H2 tl (HO.dT [])) D (HO.lst []) D=some (.lst []):=aa_;generalize upd (upd H2 tl (HO.dT [])) D (HO.lst [])=H3 at*;show⟨⟨_,.inl (.inl (sB _ _ hSt))⟩,?_⟩;show jo_ (xs:=qs.map V.ref) (λi σ Hy=>∃(e5 e6 e7 e8:Option V)(ts:List Addr)(kt:List (List Key×V))(O:List (Nat×Nat×List Sd)),σ=[some v,some (.ref d),some (.ref St),some (.ref tl),some (.ref D),e5,e6,e7,e8]/\TrS N H H2 Hy tl D ts kt (opT O)/\OpL (trn N) (Pn N) i O/\O.length<=i/\∀p,p<i->(stt (trn N) p).1∈csO O) ⟨_,_,_,_,[],[],[],rfl,TrS.begun sB b2 b1,rfl,Aj_ _,λp hp=>absurd hp (Bi_ _)⟩ ?_ ?_ ?_
   .rintro i σ Hy hi ⟨e5,e6,e7,e8,ts,kt,O,rfl,tS,op,ol,all⟩;show .inl (.inl (tS.same _ _ hSt))
   .rintro i x T0 σ Hy hx kc kb hkc hkb G hG ⟨e5,e6,e7,e8,ts,kt,O,rfl,tS,op,ol,all⟩ nT0;show hG ?_;have hi:i<2*Pn N:=by have:=(Ad_.mp hx).1;rw[Ab_]at this;lia
    rw[Ae_]at hx;obtain⟨q,hq,rfl⟩:=AK_.mp hx;have ic:=I5_ (T:=trn N) PT hi;nofun;have S0:=EL_.new nT0 (o:=HO.tup [V.int i,V.ref q]);have hT0:=aa_ (H:=Hy) (a:=T0) (o:=HO.tup [V.int i,V.ref q]);generalize upd Hy T0 (HO.tup [V.int i,V.ref q])=Y0 at*;show⟨_,SqT.of hT0,rfl,_,_,rfl,_,_,rfl,rfl,?_⟩;have kq:FE_ H2 q (skN N (stt (trn N) i)):=sa i q hq;have kq0:=(kq.mono tS.same).mono S0;obtain⟨pq,hq1,hq2⟩:=id kq0;nofun;show⟨_,hq1,_,Fy_,_,FZ_.t (k:=eK (ph N (stt (trn N) i).1)) (S0 _ _ tS.ht) hq2,?_⟩;rw[tS.seen _ ic,lw_];by_cases hc:(stt (trn N) i).1∈csO O
    .rw[if_neg (by rw[A3_ hc];decide)];show hkc _ _ ⟨_,_,_,_,ts,kt,O,rfl,?_,op.skip2 tw hi hc,o_,λp hp=>?_⟩
     .show tS.mono S0
     .by_cases e:p=i
      .rw[e];show hc
      .show all p o_
    .rw[if_pos (AE_ hc)];have sy0:=(s2.trans tS.same).trans S0;nofun;show⟨N,q,d,kg,stt (trn N) i,rfl,ok,po,kq0,ic,dp.mono sy0,gi.mono sy0,JF_ ok po,λt C W z H4 xs l s4 nt nC nW CW tC tW ht hC hW es pa h0 hs ed=>?_⟩;obtain⟨x,j,hx,ln,hz,hj,ej⟩:=nv_ ok po hi pa h0 ed;have lp:LnP (trn N) (Pn N) i l j:=⟨ln,hj,x,hx,ej⟩;have sH:=tS.mono (S0.trans s4);nofun;have hSt4:=sH.same _ _ hSt;show⟨.inl ⟨_,.inl (.inl sH.hD)⟩,.inl ⟨_,.inl (.inl hSt4)⟩,_,ht,_,Ho_,_,_,rfl,hz.mono s4,λq2 H5 s5 hq2'=>⟨_,s5 _ _ hSt4,Kr_ ok po (j:=j) (λi' q' hi'=>(sa i' q' hi').mono (sH.same.trans s5)) ql (by rw[<-ej];show hq2') hj ⟨_,s5 _ _ ht,_,Fy_,_,s5 _ _ ht,_,FA_,d_,λp np=>?_⟩⟩⟩;have S6:=EL_.new np (o:=HO.tup [V.int i,V.int j,V.ref C,V.ref W]);have hp6:=aa_ (H:=H5) (a:=p) (o:=HO.tup [V.int i,V.int j,V.ref C,V.ref W]);generalize upd H5 p (HO.tup [V.int i,V.int j,V.ref C,V.ref W])=H6 at*;have s46:=s5.trans S6;have sH6:=sH.mono s46;have tl9:ts.length=O.length:=by rw[Br_ tS.tr];show Ab_ _
     show⟨_,sH6.hD,EN_ (by rw[Ab_];lia),?_⟩;have s7:∀b o,b≠D->H6 b=some o->upd H6 D (HO.lst (ts.map V.ref++[V.ref p])) b=some o:=λb o h1 h2=>by rw[ae_ h1];show h2
     have ht7:=s7 t _ (λz=>by rw[z,(tS.mono S0).hD]at nt;cases nt) (s46 _ _ ht);have hC7:=s7 C _ (λz=>by rw[z,(tS.mono S0).hD]at nC;cases nC) (s46 _ _ hC);have htl7:=s7 tl _ tD sH6.ht;have WD:W≠D:=λz=>by rw[z,(tS.mono S0).hD]at nW;cases nW
     have es7:Es (upd H6 D (HO.lst (ts.map V.ref++[V.ref p]))) N xs (cs l):=i0_ es λb ys e=>s7 _ _ (λz=>by rw[z,(tS.mono S0).hD]at e;cases e) ((s4.trans s46) _ _ e);have add:=λH8=>TrS.add ok po (t:=(some (i,j),l)) (q:=p) (C:=C) (W:=W) (H5:=H8) tS ntl nD2 tD ((S0.trans s4).trans s46) hp6 (s46 _ _ hW) WD ((((s1.trans s2).trans tS.same).trans S0).free nW);generalize upd H6 D (HO.lst (ts.map V.ref++[V.ref p]))=H7 at*;have nd':(cs l).Nodup:=pa.corners (FG_ tw) (pa.nd_first tw h0 (be_ hi));have icl:∀c∈cs l,IsC (trn N) (Pn N) c:=λc hc=>let⟨x,hx,e⟩:=bU_.mp hc;e▸pa.allC h0 ic x hx;have c100:=ly_ ok po nd' icl;have ktl:=tS.kto.len;rw[Ab_]at ktl;have co:=(eT_ ok).1;nofun;show⟨.inr (.inr (.inl (.inr ⟨_,htl7⟩))),_,ht7,_,Fy_,_,rfl,⟨_,.inl (.inl hC7)⟩,ih_ hC7 es7 c100 λkl H8 s8 pr=>⟨_,rfl,kt,s8 _ _ htl7,_,pr,by unfold kvK;rw[Ab_,Ab_];lia,hkc _ _ ⟨_,_,_,_,ts++[p],Fp_ kt (kvK ((cs l).map (ph N))),O++[(i,j,l)],rfl,?_,op.put tw hi lp hc,by rw[Af_];show BT_ ol,λp' hp'=>?_⟩⟩⟩
     .rw[show opT (O++[(i,j,l)])=opT O++[(some (i,j),l)] by unfold opT;rw[Aq_];rfl];show add H8 s8 (λc hc' hm=>?_) nd' (ln.shut tw (be_ hi)) icl;obtain⟨x',hx',rfl⟩:=bU_.mp hc';obtain⟨k',hk'⟩:=Ba_.mp hx';show tS.sh.apart pa h0 (by rw[lw_];show hc) k' x' hk' hm
     .unfold csO;rw[Aq_,AX_];by_cases e:p'=i
      .rw[e];show Ap_.mpr (.inr (by simpa using lp.first))
      .show Ap_.mpr (.inl (all p' o_))
   .rintro σ Hy ⟨e5,e6,e7,e8,ts,kt,O,rfl,tS,op,ol,all⟩;nofun;rw[Ab_,ql]at op all ol;have sS:=tS.same;show⟨v,N,rfl,Rep.mono ((s1.trans s2).trans sS) _ hv,ok,λD1 H3' s3' rep3=>?_⟩;have tS3:=tS.mono s3';have ol6:O.length<=12:=o_
    have tS0:=tS;clear tS;obtain⟨_,us,e0,hD1',hus⟩:=rep3;cases e0;obtain⟨nD1,hD1⟩:=bZ_ hD1';have ul:us.length=(Fm_ N).length:=by rw[hus.length,Ab_]
    have ephi:=ei_ po;have oln:(GH_ N).length=(Fm_ N).length:=by rw[ephi,Ab_]
    have csn:∀b o,H3' b=some o->(Hy b=none\/b≠tl/\b≠D)->b≠tl/\b≠D:=λb o hb h=>h.elim (λz=>⟨λe=>absurd (z.symm.trans (e▸tS0.ht)) s_,λe=>absurd (z.symm.trans (e▸tS0.hD)) s_⟩) id
    let B2:Hp:=λb=>if b=tl then none else if b=D then none else H3' b
    have B2t:B2 tl=none:=if_pos rfl;have B2D:B2 D=none:=by change(if D=tl then none else if D=D then none else H3' D)=none;rw[if_neg tD.symm,if_pos rfl]
    have B2i:∀b o,b≠tl->b≠D->H3' b=some o->B2 b=some o:=λb o h1 h2 e=>by change(if b=tl then none else if b=D then none else H3' b)=_;rw[if_neg h1,if_neg h2];show e
    have B2s:EL_ B2 H3':=λb o e=>by
     have e':(if b=tl then none else if b=D then none else H3' b)=some o:=e;by_cases c1:b=tl
     .rw[if_pos c1]at e';cases e'
     .by_cases c2:b=D
      .rw[if_neg c1,if_pos c2]at e';cases e'
      .rw[if_neg c1,if_neg c2]at e';show e'
    have s2B:EL_ H2 B2:=λb o e=>B2i b o (ag_ e ntl) (ag_ e nD2) (s3' _ _ (sS _ _ e));have nB:∀b o,GA_ Hy H3' b=some o->B2 b=some o:=λb o e=>by obtain⟨n1,n2⟩:=bZ_ e;have:=csn b o n2 (.inl n1);show B2i b o this.1 this.2 n2
    have D1B:B2 D1=some (.lst us):=nB _ _ hD1';have usB:Fk_ B2 us ((Fm_ N).map dE):=Fk_.mono nB _ hus;have tS4:TrS N H B2 H3' tl D ts kt (opT O++clT []):=by change TrS N H B2 H3' tl D ts kt (opT O++[]);rw[Bp_];show⟨B2s,tS3.hD,tS3.tr,tS3.ht,tS3.kto,tS3.seen,tS3.nd,tS3.sh,tS3.ic⟩
    clear_value B2
    show⟨D1,rfl,⟨_,.inl (.inl hD1)⟩,?_⟩;show eB_ (xs:=us) (λi σ Hy=>∃(e5 e6 e7 e8:Option V)(ts:List Addr)(kt:List (List Key×V))(L:List (List Sd)),σ=[some v,some (.ref d),some (.ref St),some (.ref tl),some (.ref D),e5,e6,e7,e8]/\TrS N H B2 Hy tl D ts kt (opT O++clT L)/\(∀l∈L,ClL (trn N) (Pn N) l)/\L.length<=i/\∀m c,m<i->(GH_ N)[m]?=some c->c∈csT (opT O++clT L)) ⟨_,_,_,_,ts,kt,[],rfl,tS4,λl hl=>absurd hl AR_,Aj_ _,λm c hm=>absurd hm (Bi_ _)⟩ ?_ ?_ ?_
    .rintro i σ Hy hi ⟨e5,e6,e7,e8,ts,kt,L,rfl,tS,cl,ll,all2⟩;show .inl (.inl (tS.same _ _ D1B))
    .rintro i x σ Hy hx kc kb hkc hkb G hG ⟨e5,e6,e7,e8,ts,kt,L,rfl,tS,cl,ll,all2⟩;show hG ?_;have hi:i<(Fm_ N).length:=by have:=(Ad_.mp hx).1;lia
     obtain⟨q,hq1,hq⟩:=mp_ usB hi;rw[hq1]at hx;cases hx;have hio:i<(GH_ N).length:=o_
     have ec:(Fm_ N)[i]=ph N (GH_ N)[i]:=by
      have:(Fm_ N)[i]?=some (ph N (GH_ N)[i]):=by rw[ephi,Ae_,Aa_ hio];rfl
      rw[Aa_ hi]at this;show Ar_ this
     rw[ec]at hq;have ic:IsC (trn N) (Pn N) (GH_ N)[i]:=(fB_ ok po).mp (Bn_ hio);have hoi:(GH_ N)[i]?=some (GH_ N)[i]:=Aa_ hio;generalize(GH_ N)[i]=c at*;have hqy:=tS.same _ _ hq;nofun;show⟨_,FZ_.t (k:=eK (ph N c)) tS.ht hqy,?_⟩;rw[tS.seen c ic];by_cases hc:c∈csT (opT O++clT L)
     .rw[if_neg (by rw[A3_ hc];decide)];show hkc _ _ ⟨_,_,_,_,ts,kt,L,rfl,tS,cl,o_,λm c' hm hc'=>?_⟩;by_cases e:m=i
      .rw[e,hoi]at hc';cases hc';show hc
      .show all2 m c' o_ hc'
     .rw[if_pos (AE_ hc)];nofun;show⟨d_,λp0 np0=>?_⟩;have S0:=EL_.new np0 (o:=HO.tup [V.ref q,V.bl true]);have hp0:=aa_ (H:=Hy) (a:=p0) (o:=HO.tup [V.ref q,V.bl true]);generalize upd Hy p0 (HO.tup [V.ref q,V.bl true])=Y0 at*;have sy0:=((s2.trans s2B).trans tS.same).trans S0;show⟨N,p0,d,kg,(c,true),rfl,ok,po,⟨q,hp0,S0 _ _ hqy⟩,ic,dp.mono sy0,gi.mono sy0,JF_ ok po,λt C W z H4 xs l s4 nt nC nW CW tC tW ht hC hW es pa h0 hs ed=>?_⟩;have apt:=tS.sh.apart pa h0 hc
      have cll:ClL (trn N) (Pn N) l:=by
       obtain⟨x,hx,h⟩:=ed
       rcases h with⟨h1,_⟩|⟨h1,_⟩
       .obtain⟨j,hj,ej⟩:=jk_ (pa.allC h0 ic x (BM_ hx)) h1;obtain⟨k',hk'⟩:=Ba_.mp (BM_ hx);show absurd ?_ (apt k' x hk');have:=all j hj;rw[<-ej]at this;rw[lx_];show Ap_.mpr (.inl this)
       .show⟨_,x,pa,h0,hx,h1⟩
      have sH:=tS.mono (S0.trans s4);have tl9:ts.length=O.length+L.length:=by rw[Br_ tS.tr,Af_];unfold opT clT;rw[Ab_,Ab_]
      have co:=(eT_ ok).1;nofun;show⟨.inl ⟨_,.inl (.inl sH.hD)⟩,_,ht,_,Fy_,_,ht,_,FA_,d_,λp np=>?_⟩;have S6:=EL_.new np (o:=HO.tup [V.non,V.non,V.ref C,V.ref W]);have hp6:=aa_ (H:=H4) (a:=p) (o:=HO.tup [V.non,V.non,V.ref C,V.ref W]);generalize upd H4 p (HO.tup [V.non,V.non,V.ref C,V.ref W])=H6 at*;have sH6:=sH.mono S6;show⟨_,sH6.hD,EN_ (by rw[Ab_];lia),?_⟩;have s7:∀b o,b≠D->H6 b=some o->upd H6 D (HO.lst (ts.map V.ref++[V.ref p])) b=some o:=λb o h1 h2=>by rw[ae_ h1];show h2
      have ht7:=s7 t _ (λz=>by rw[z,(tS.mono S0).hD]at nt;cases nt) (S6 _ _ ht);have hC7:=s7 C _ (λz=>by rw[z,(tS.mono S0).hD]at nC;cases nC) (S6 _ _ hC);have htl7:=s7 tl _ tD sH6.ht;have WD:W≠D:=λz=>by rw[z,(tS.mono S0).hD]at nW;cases nW
      have es7:Es (upd H6 D (HO.lst (ts.map V.ref++[V.ref p]))) N xs (cs l):=i0_ es λb ys e=>s7 _ _ (λz=>by rw[z,(tS.mono S0).hD]at e;cases e) ((s4.trans S6) _ _ e);have add:=λH8=>TrS.add ok po (t:=(none,l)) (q:=p) (C:=C) (W:=W) (H5:=H8) tS B2t B2D tD ((S0.trans s4).trans S6) hp6 (S6 _ _ hW) WD ((s1.trans sy0).free nW);generalize upd H6 D (HO.lst (ts.map V.ref++[V.ref p]))=H7 at*;have nd':(cs l).Nodup:=pa.corners (FG_ tw) (pa.nodup (FG_ tw) h0 hs);have icl:∀c∈cs l,IsC (trn N) (Pn N) c:=λc hc=>let⟨x,hx,e⟩:=bU_.mp hc;e▸pa.allC h0 ic x hx;have c100:=ly_ ok po nd' icl;have ktl:=tS.kto.len;rw[Ab_]at ktl;have eO:opT O++clT (L++[l])=(opT O++clT L)++[(none,l)]:=by unfold clT;rw[Aq_,A4_];rfl
      nofun;show⟨.inr (.inr (.inl (.inr ⟨_,htl7⟩))),_,ht7,_,Fy_,_,rfl,⟨_,.inl (.inl hC7)⟩,ih_ hC7 es7 c100 λkl H8 s8 pr=>⟨_,rfl,kt,s8 _ _ htl7,_,pr,by unfold kvK;rw[Ab_,Ab_];lia,hkc _ _ ⟨_,_,_,_,ts++[p],Fp_ kt (kvK ((cs l).map (ph N))),L++[l],rfl,?_,λl' hl'=>?_,by rw[Af_];show BT_ ll,λm c' hm hc'=>?_⟩⟩⟩
      .rw[eO];show add H8 s8 (λc hc' hm=>?_) nd' ?_ icl
       .obtain⟨x',hx',rfl⟩:=bU_.mp hc';obtain⟨k',hk'⟩:=Ba_.mp hx';show apt k' x' hk' hm
       .obtain⟨s',x',z1,z2,z3,z4⟩:=cll;show m6_ tw z1 z2 z3 z4
      .rcases Ap_.mp hl' with h|h
       .show cl l' h
       .rw[Ak_.mp h];show cll
      .rw[eO,eU_];by_cases e:m=i
       .rw[e,hoi]at hc';cases hc';show Ap_.mpr (.inr (bU_.mpr ⟨_,Ai_ h0,rfl⟩))
       .show Ap_.mpr (.inl (all2 m c' o_ hc'))
    .rintro σ Hy ⟨e5,e6,e7,e8,ts,kt,L,rfl,tS,cl,ll,all2⟩;nofun;have co:=(eT_ ok).1;have tl9:ts.length=O.length+L.length:=by rw[Br_ tS.tr,Af_];unfold opT clT;rw[Ab_,Ab_]
     have sF:=(s1.trans (s2.trans s2B)).trans tS.same;show k D ts Hy O L sF ((s1.trans s2).free nD2) tS.hD tS.tr o_ op cl ?_ λc=>?_
     .rw[<-lx_];show tS.nd
     .rw[<-lx_];show⟨λh=>?_,λh=>tS.ic c h⟩;obtain⟨m,hm⟩:=Ba_.mp ((fB_ ok po).mpr h);have:=(Ad_.mp hm).1;show all2 m c o_ hm
abbrev EX_:Stmt:=stN 26
theorem bQ_:ZL ["wires","backwards","begun","start"] ["wires"] (EO_ EX_):=zL
theorem eV_:LK EX_ "len" .globalImplicit:=r_
theorem ek_:LK EX_ "list" .globalImplicit:=r_
theorem eW_:LK EX_ "min" .globalImplicit:=r_
theorem dS_:LK EX_ "range" .globalImplicit:=r_
theorem dk_:LK EX_ "reversed" .globalImplicit:=r_
def G9_:Sp:=λvs H Q _=>∃(W:Addr)(ws:List Str),vs=[.ref W]/\H W=some (.lst (ws.map V.str))/\ws≠[]/\ws.length<=200/\∀l (us:List Str) H',EL_ H H'->H l=none->H' l=some (.lst (us.map V.str))->Lst ws us->Q (.ref l) H'
structure LB(ws:List Str)(B H:Hp)(D:Addr)(ls:List Addr)(tss:List (List Str)):Prop where
 same:EL_ B H
 hD:H D=some (.lst (ls.map V.ref))
 la:I9_ H ls tss
 len:ls.length=tss.length
 ne:∀l∈ls,l≠D
 pm:∀t∈tss,Rd ws t
 nw:∀l∈ls,B l=none
theorem LB.push{D r:Addr}{tss:List (List Str)}{us:List Str}(h:LB ws B H D ls tss)(bD:B D=none)(s:EL_ H H')(hr:H' r=some (.lst (us.map V.str)))(nr:H r=none)(pu:Rd ws us):LB ws B (upd H' D (.lst (ls.map V.ref++[.ref r]))) D (ls++[r]) (tss++[us]):=by
 have rD:r≠D:=λz=>by rw[z,h.hD]at nr;cases nr
 show⟨λb o e=>by rw[ae_ (ag_ e bD)];show s _ _ (h.same _ _ e),by rw[aa_,Aq_];rfl,λi l hl=>?_,by rw[Af_,Af_,h.len];rfl,λl hl=>?_,λt ht=>?_,λl hl=>?_⟩
 .by_cases c:i<ls.length
  .rw[Ao_ c]at hl;rw[ae_ (h.ne l (Ai_ hl)),Ag_,Ao_ (by rw[<-h.len];show c),<-Ag_];show s _ _ (h.la i l hl)
  .rw[Ay_ o_]at hl;have e:i-ls.length=0:=by have:=(Ad_.mp hl).1;simp only[A9_]at this;lia
   rw[e]at hl;cases hl;rw[ae_ rD,Ag_,Ay_ (by rw[<-h.len];lia),<-h.len,e];show hr
 .rcases Ap_.mp hl with hl|hl
  .show h.ne l hl
  .rw[Ak_.mp hl];show rD
 .rcases Ap_.mp ht with ht|ht
  .show h.pm t ht
  .rw[Ak_.mp ht];show pu
 .rcases Ap_.mp hl with hl|hl
  .show h.nw l hl
  .rw[Ak_.mp hl];show h.same.free nr
theorem gy_(T:Txt K mg)(F:Fn0 K mg "least_round" EX_):Cal P w K mg base "least_round" ["wires"] 1 G9_:=by
  show aY_ F bQ_.1 λf cdv A outer s0 H vs Q E hr h=>?_;obtain⟨W,ws,rfl,hW,ne,wl,k⟩:=h;refine'⟨_,?D,?R⟩
  case D =>
   refine' aj_ (zas 1 bQ_ (f4_ rfl ek_ T.n_list dk_ T.n_reversed (pa_c (zv 0 bQ_) ab_))) ?a
   case' a=>refine' aj_ (zas 2 bQ_ (bx_ ab_)) (ac_ ?b (ah_ (aF_ (as_ (jP_ rfl (hr.units)) eW_ T.n_min mC_ (pa_c (zv 2 bQ_) ab_)))))
   case' b=>refine' bq_ AI_ rfl (bS_ dS_ T.n_range (pa_c (as_ aO_ eV_ T.n_len cb_ (pa_c (zv 0 bQ_) ab_)) ab_)) ?c (aj_ ?d (ah_ ?e))
   case c=>show zh 3 bQ_
   case' d=>refine' au_ (Ft_ AA_ AC_ AD_ aw_ (zv 2 bQ_) (pa_c (EQ_ hD_ (cj_ cm_ (zv 0 bQ_) (dv_ (zv 3 bQ_)) ?f) (cj_ cm_ (zv 0 bQ_) ?g (dv_ (zv 3 bQ_)))) ab_))
   case f=>show du_
   case g=>show du_
   case' e=>refine' au_ (Ft_ AA_ AC_ AD_ aw_ (zv 2 bQ_) (pa_c (EQ_ hD_ (cj_ cm_ (zv 1 bQ_) (dv_ (zv 3 bQ_)) ?h) (cj_ cm_ (zv 1 bQ_) ?i (dv_ (zv 3 bQ_)))) ab_))
   case h=>show du_
   case i=>show du_
  case R =>
   nofun;show⟨_,hW,λB nB=>?_⟩;have S1:=EL_.new nB (o:=HO.lst (ws.map V.str).reverse);have hB:=aa_ (H:=H) (a:=B) (o:=HO.lst (ws.map V.str).reverse);generalize upd H B (HO.lst (ws.map V.str).reverse)=H1 at*;rw[<-List.map_reverse]at hB;nofun;show⟨AB_ _,λD nD=>?_⟩;have S2:=EL_.new nD (o:=HO.lst []);have hD:=aa_ (H:=H1) (a:=D) (o:=HO.lst []);generalize upd H1 D (HO.lst [])=H2 at*;have s12:=S1.trans S2;nofun;have wn:(ws.map V.str).length=ws.length:=Ab_ _;show⟨_,.inl (s12 _ _ hW),by rw[wn];lia,by rw[wn];lia,?_⟩;rw[wn,A5_];show hQ_ (λi σ Hy=>∃(e3:Option V)(ls:List Addr)(tss:List (List Str)),σ=[some (.ref W),some (.ref B),some (.ref D),e3]/\LB ws H1 Hy D ls tss/\ls.length=2*i/\∀j,j<i->ws.drop j++ws.take j∈tss/\ws.reverse.drop j++ws.reverse.take j∈tss) ⟨_,[],[],rfl,⟨S2,hD,(λi l h=>by cases h),rfl,λl hl=>absurd hl AR_,λt ht=>absurd ht AR_,λl hl=>absurd hl AR_⟩,rfl,λj hj=>absurd hj (Bi_ _)⟩ ?_ ?_
   .rintro i σ Hy hi kc kb hkc hkb G hG ⟨e3,ls,tss,rfl,lb,ll,al⟩;show hG ?_;rw[show(0:Int)+(i:Int)=(i:Int) by lia];have cut:∀us:List Str,us.length=ws.length->Hy_ (us.map V.str) (some (i:Int)) none=(us.drop i).map V.str/\Hy_ (us.map V.str) none (some (i:Int))=(us.take i).map V.str:=λus hu=>⟨by rw[gW_ _ _ (by rw[Ab_];lia),EA_],by rw[kr_ _ _ (by rw[Ab_];lia),Dw_]⟩;obtain⟨c1,c2⟩:=cut ws rfl;have hW0:=lb.same _ _ (S1 _ _ hW);obtain⟨c3,c4⟩:=cut ws.reverse (BH_);nofun;show⟨.inl ⟨_,.inl (.inl lb.hD)⟩,_,hW0,λp1 n1=>?_⟩;rw[c1]at*;have A1a:=EL_.new n1 (o:=HO.lst ((ws.drop i).map V.str));have g1a:=aa_ (H:=Hy) (a:=p1) (o:=HO.lst ((ws.drop i).map V.str));generalize upd Hy p1 (HO.lst ((ws.drop i).map V.str))=Y1 at*;show⟨_,A1a _ _ hW0,λp2 n2=>?_⟩;rw[c2]at*;have A2a:=EL_.new n2 (o:=HO.lst ((ws.take i).map V.str));have g2a:=A2a _ _ g1a;generalize upd Y1 p2 (HO.lst ((ws.take i).map V.str))=Y2 at*;show⟨_,g2a,by rw[Ab_,Ab_,By_,BI_];show AV_ (EN_ (by(try simp only[BH_]);lia)),λp3 n3=>?_⟩;rw[<-Aq_]at*;have A3a:=EL_.new n3 (o:=HO.lst ((ws.drop i++ws.take i).map V.str));have g3a:=aa_ (H:=Y2) (a:=p3) (o:=HO.lst ((ws.drop i++ws.take i).map V.str));generalize upd Y2 p3 (HO.lst ((ws.drop i++ws.take i).map V.str))=Y3 at*;have a13a:=A1a.trans (A2a.trans A3a);show⟨_,a13a _ _ lb.hD,EN_ (by rw[Ab_];lia),?_⟩;have lb2:=lb.push nD a13a g3a ((A1a.trans A2a).free n3) (.inl (JI_ ws i));generalize upd Y3 D (HO.lst (ls.map V.ref++[V.ref p3]))=Z at*;have hB2:=lb2.same _ _ hB;have ll2:(ls++[p3]).length=2*i+1:=by rw[Af_,ll];rfl
    generalize ls++[p3]=ls2 at*;have al2:ws.drop i++ws.take i∈tss++[ws.drop i++ws.take i]/\∀t∈tss,t∈tss++[ws.drop i++ws.take i]:=⟨s_,λt ht=>AN_ _ ht⟩;generalize tss++[ws.drop i++ws.take i]=tss2 at*;nofun;show⟨.inl ⟨_,.inl (.inl lb2.hD)⟩,_,hB2,λq1 n1=>?_⟩;rw[c3]at*;have A1b:=EL_.new n1 (o:=HO.lst ((ws.reverse.drop i).map V.str));have g1b:=aa_ (H:=Z) (a:=q1) (o:=HO.lst ((ws.reverse.drop i).map V.str));generalize upd Z q1 (HO.lst ((ws.reverse.drop i).map V.str))=Y1 at*;show⟨_,A1b _ _ hB2,λq2 n2=>?_⟩;rw[c4]at*;have A2b:=EL_.new n2 (o:=HO.lst ((ws.reverse.take i).map V.str));have g2b:=A2b _ _ g1b;generalize upd Y1 q2 (HO.lst ((ws.reverse.take i).map V.str))=Y2 at*;show⟨_,g2b,by rw[Ab_,Ab_,By_,BI_];show AV_ (EN_ (by(try simp only[BH_]);lia)),λq3 n3=>?_⟩;rw[<-Aq_]at*;have A3b:=EL_.new n3 (o:=HO.lst ((ws.reverse.drop i++ws.reverse.take i).map V.str));have g3b:=aa_ (H:=Y2) (a:=q3) (o:=HO.lst ((ws.reverse.drop i++ws.reverse.take i).map V.str));generalize upd Y2 q3 (HO.lst ((ws.reverse.drop i++ws.reverse.take i).map V.str))=Y6 at*;have a13b:=A1b.trans (A2b.trans A3b);show⟨_,a13b _ _ lb2.hD,EN_ (by rw[Ab_];lia),?_⟩;have lb3:=lb2.push nD a13b g3b ((A1b.trans A2b).free n3) (.inr (JI_ ws.reverse i))
    show hkc _ _ ⟨_,_,_,rfl,lb3,by rw[Af_,ll2];simp;lia,λj hj=>by
     by_cases e:j=i
     .subst e;show⟨AN_ _ al2.1,s_⟩
     .show⟨AN_ _ (al2.2 _ (al j o_).1),AN_ _ (al2.2 _ (al j o_).2)⟩⟩
   .rintro σ Hy ⟨e3,ls,tss,rfl,lb,ll,al⟩;nofun;have nz:ws.length≠0:=λz=>ne (Bb_ z);show⟨ls,lb.hD,(λz=>by rw[z]at ll;simp at ll;lia),tss,lb.la,λi l hl le=>?_⟩;have hi:=(Ad_.mp hl).1;have mem:∀{j:Nat},j<ls.length->tss.getD j []∈tss:=λ{j} hj=>by rw[Ag_,Aa_ (by rw[<-lb.len];show hj)];show Bn_ _
    show k l (tss.getD i []) Hy (S1.trans lb.same) (S1.free (lb.nw l (Ai_ hl))) (lb.la i l hl) (n5_ ne (mem hi) lb.pm al λt ht=>?_);obtain⟨j,hj,rfl⟩:=Ax_.mp ht;have:=le j (by rw[lb.len];show hj)
    rwa[Ag_,Aa_ hj]at this
theorem eX_{α β:Type}{F:α->β->Prop}:∀{l:List α}{m:List β}{i:Nat}{a:α},Paired F l m->l[i]?=some a->∃b,m[i]?=some b/\F a b
 |_::_,_::_,0,_,.cons h _,e=>by cases e;show⟨_,rfl,h⟩
 |_::_,_::_,i+1,_,.cons _ t,e=>by obtain⟨b,h1,h2⟩:=eX_ (i:=i) t e;show⟨b,h1,h2⟩
theorem ij_{α β:Type}{F:α->β->Prop}:∀{l:List α}{m:List β},l.length=m.length->(∀(i:Nat) a b,l[i]?=some a->m[i]?=some b->F a b)->Paired F l m
 |[],[],_,_=>.nil
 |a::l,b::m,h,k=>.cons (k 0 a b rfl rfl) (ij_ (by simpa using h) λi x y hx hy=>k (i+1) x y hx hy)
theorem JH_{L:List (List Sd)}{t:Tr}(h:(opT O++clT L)[i]?=some t):(i<O.length/\∃o,O[i]?=some o/\t=(some (o.1,o.2.1),o.2.2))\/(O.length<=i/\t.1=none/\L[i-O.length]?=some t.2):=by
 have ol:(opT O).length=O.length:=Ab_ _;by_cases c:i<O.length
 .rw[Ao_ o_]at h;unfold opT at h;rw[Ae_,Aa_ c]at h;cases h;show .inl ⟨c,_,Aa_ c,rfl⟩
 .rw[Ay_ o_,ol]at h;unfold clT at h;rw[Ae_]at h;obtain⟨l,h1,rfl⟩:=AK_.mp h;show .inr ⟨o_,rfl,h1⟩
theorem Kz_{H0:Hp}{D:Addr}{ts:List Addr}{L:List Tr}(h:TrA H0 H N D ts L):∃Wl:List Addr,Wl.length=ts.length/\∀(i:Nat) q t,ts[i]?=some q->L[i]?=some t->∃C W,Wl[i]?=some W/\H q=some (.tup [trF t,trL t,.ref C,.ref W])/\H W=some (.lst ((wiL (trn N) (Pn N) t.2).map V.str))/\H0 W=none:=by
 unfold TrA at h
 induction h with
 |nil=>show⟨[],rfl,λi q t h=>by cases h⟩
 | @cons q t qs tts h _ ih =>
  obtain⟨C,W,h1,h2,_,h3⟩:=h;obtain⟨Wl,g1,g2⟩:=ih;show⟨W::Wl,by simp[g1],λi q' t' hq ht=>?_⟩;cases i with
  |zero=>cases hq;cases ht;show⟨C,W,rfl,h1,h2,h3⟩
  |succ i=>show g2 i q' t' hq ht
abbrev LD:=Option (Nat×Nat)×List Str
def ldF(t:LD):V:=match t.1 with|some (p,_)=>.int p|none=>.non
def ldL(t:LD):V:=match t.1 with|some (_,j)=>.int j|none=>.non
def LA(H0 H:Hp)(ts:List Addr)(ls:List LD):Prop:=Paired (λ(q:Addr)(t:LD)=>∃W,H q=some (.tup [ldF t,ldL t,.ref W])/\H W=some (.lst (t.2.map V.str))/\H0 W=none) ts ls
def opD(T:List (List Str))(P:Nat)(O:List (Nat×Nat×List Sd)):List LD:=O.map λt=>(some (t.1,t.2.1),wiL T P t.2.2)
def clD(uss:List (List Str)):List LD:=uss.map λu=>(none,u)
theorem lz_:∀{L:List (List Sd)},(∀l∈L,l≠[])->L.length<=((L.map cs).flatten).length
 |[],_=>AB_ _
 |l::L,h=>by have:=lz_ (L:=L) λm hm=>h m (Am_ _ hm);have h1:=Bg_.mpr (h l Au_);rw[Aw_,AJ_,Af_,A1_];have:(cs l).length=l.length:=Ab_ _;lia
theorem H0_(ok:E0_ N)(po:ES_ N):(corners (trn N) (Pn N)).length<=40:=by
 have h:=fW_ (T:=trn N) (P:=Pn N)
 have e:(trn N).flatten.length=N.all.length:=by
  have h1:((N.rows.map (·.1)).map (F6_ N))=N.rows.map (·.2):=by rw[AP_];show A0_ λr hr=>b4_ ok hr
  have h2:=(dw_ ((fA_ ok po).map (F6_ N))).length_eq;rw[h1]at h2;show h2
 have h3:=ok.tot;have h5:Pn N<=6:=ok.pl;lia
def Pt(zs:List Addr)(i:Nat)(vs:List V)(H:Hp):Prop:=∃qs:List Addr,vs=qs.map V.ref/\qs.length=i/\∀(k:Nat) q,qs[k]?=some q->∃W,zs[k]?=some W/\H q=some (.tup [.non,.non,.ref W])
def Pj(O:List (Nat×Nat×List Sd))(Wl:List Addr)(i:Nat)(vs:List V)(H:Hp):Prop:=∃ts:List Addr,vs=ts.map V.ref/\ts.length=min i O.length/\∀(k:Nat) q,ts[k]?=some q->∃o W,O[k]?=some o/\Wl[k]?=some W/\H q=some (.tup [.int o.1,.int o.2.1,.ref W])
def Pc(H0:Hp)(T:List (List Str))(P:Nat)(L:List (List Sd))(n i:Nat)(vs:List V)(H:Hp):Prop:=∃(ls:List Addr)(uss:List (List Str)),vs=ls.map V.ref/\ls.length=i-n/\ls.length=uss.length/\I9_ H ls uss/\(∀l∈ls,H0 l=none)/\uss=((L.take (i-n)).map λl=>lw (wiL T P l))/\∀l∈L.take (i-n),∃u,Lst (wiL T P l) u
abbrev E6_:Stmt:=stN 27
theorem dl_:ZL ["net","trails","joining","closed"] ["net"] (EO_ E6_):=zL
theorem eY_:LK E6_ "joining" .local:=r_
theorem eZ_:LK E6_ "closed" .local:=r_
theorem e0_:LK E6_ "sorted" .globalImplicit:=r_
theorem dH_:LK E6_ "trails_of" .globalImplicit:=r_
def G6_:Sp:=λvs H Q _=>∃(v:V)(N:Net Str),vs=[v]/\Rep H v (FT_ N)/\E0_ N/\ES_ N/\∀D (ts:List Addr) (uss:List (List Str)) H' (O:List (Nat×Nat×List Sd)) (L:List (List Sd)),EL_ H H'->H D=none->H' D=some (.lst (ts.map V.ref))->LA H H' ts (opD (trn N) (Pn N) O++clD uss)->ts.length<=200->OpL (trn N) (Pn N) (2*Pn N) O->(∀l∈L,ClL (trn N) (Pn N) l)->(csO O++(L.map cs).flatten).Nodup->(∀c,IsC (trn N) (Pn N) c↔c∈csO O++(L.map cs).flatten)->(∀l∈L,∃u,Lst (wiL (trn N) (Pn N) l) u)->uss.Perm (L.map λl=>lw (wiL (trn N) (Pn N) l))->uss.Pairwise (λx y=>FQ_ y x=false)->Q (.ref D) H'
theorem i1_(T:Txt K mg)(F:Fn0 K mg "lines_of" E6_) (GZ_:Cal P w K mg base "trails_of" ["net"] 4 Gs_) (Gp_:Cal P w K mg base "least_round" ["wires"] 1 G9_):Cal P w K mg base "lines_of" ["net"] 5 G6_:=by
  show aY_ F dl_.1 λf cdv A outer s0 H vs Q E hr h=>?_;obtain⟨v,N,rfl,hv,ok,po,k⟩:=h;refine'⟨_,?D,?R⟩
  case D =>
   refine' aj_ (zas 1 dl_ (ao_ GZ_ (hr.mono d_) dH_ (pa_c (zv 0 dl_) ab_))) ?a
   case' a=>refine' aj_ ?b (aj_ ?c (ah_ (aF_ (EQ_ hD_ (zv 2 dl_) ?d))))
   case' b=>refine' iy_ (i:=2) (N':=["first","last","corners","wires"]) (ix:=[none,none,none,none]) rfl rfl dl_.nd rfl eY_ rfl (eu_ ?e) (aT_ (K:=K) rfl (zv 1 dl_)) (λ_ _ _=>?f) (λ_ _ _=>(mD_ (fG_ (mT_ (pv1 0 rfl rfl))))) (λ_ _ _=>(ap_ (pa_c (pv1 0 rfl rfl) (pa_c (pv1 1 rfl rfl) (pa_c (pv1 3 rfl rfl) ab_)))))
   case e=>show(by change HC_ (EO_ E6_) ["net","trails","joining","closed"] _ _ _=true;decide +kernel)
   case' f=>refine' by_ (K:=K) (n:=4) rfl rfl (an_ ?g (an_ ?h (an_ ?i (an_ ?j bw_))))
   case g=>show ai_ (i:=0) (by change List.Nodup (["first","last","corners","wires"]:List Str);decide +kernel) rfl rfl
   case h=>show ai_ (i:=1) (by change List.Nodup (["first","last","corners","wires"]:List Str);decide +kernel) rfl rfl
   case i=>show ai_ (i:=2) (by change List.Nodup (["first","last","corners","wires"]:List Str);decide +kernel) rfl rfl
   case j=>show ai_ (i:=3) (by change List.Nodup (["first","last","corners","wires"]:List Str);decide +kernel) rfl rfl
   case' c=>refine' iy_ (i:=3) (N':=["first","last","corners","wires"]) (ix:=[none,none,none,none]) rfl rfl dl_.nd rfl eZ_ rfl (eu_ ?k) (aT_ (K:=K) rfl (zv 1 dl_)) (λ_ _ _=>?l) (λ_ _ _=>(mD_ (fG_ (ms_ (pv1 0 rfl rfl))))) (λ_ _ _=>(ao_ Gp_ (hr.mono d_) rfl (pa_c (pv1 3 rfl rfl) ab_)))
   case k=>show(by change HC_ (EO_ E6_) ["net","trails","joining","closed"] _ _ _=true;decide +kernel)
   case' l=>refine' by_ (K:=K) (n:=4) rfl rfl (an_ ?m (an_ ?n (an_ ?o (an_ ?p bw_))))
   case m=>show ai_ (i:=0) (by change List.Nodup (["first","last","corners","wires"]:List Str);decide +kernel) rfl rfl
   case n=>show ai_ (i:=1) (by change List.Nodup (["first","last","corners","wires"]:List Str);decide +kernel) rfl rfl
   case o=>show ai_ (i:=2) (by change List.Nodup (["first","last","corners","wires"]:List Str);decide +kernel) rfl rfl
   case p=>show ai_ (i:=3) (by change List.Nodup (["first","last","corners","wires"]:List Str);decide +kernel) rfl rfl
   case' d=>refine' e5_ (N':=["wires"]) (ix:=[none]) rfl rfl (eu_ ?q) (aT_ (K:=K) rfl (as_ (jR_ (hr.units)) e0_ T.n_sorted fM_ (pa_c (zv 3 dl_) ab_))) (λ_ _ _=>?r) (λ_ _ _=>?s) (λ_ _ _=>(ap_ (pa_c ?t (pa_c ?u (pa_c (pv1 0 rfl rfl) ab_)))))
   case q=>show(by change HC_ (EO_ E6_) ["net","trails","joining","closed"] _ _ _=true;decide +kernel)
   case r=>show ai_ (i:=0) (by change List.Nodup (["wires"]:List Str);decide +kernel) rfl rfl
   case s=>show fP_
   case t=>show hu_
   case u=>show hu_
  case R =>
   nofun;show⟨_,N,rfl,hv,ok,po,λD ts H1 O L s1 nD hD tra t200 op cl nd all=>?_⟩;nofun;have tl:ts.length=O.length+L.length:=by rw[Br_ tra,Af_];unfold opT clT;rw[Ab_,Ab_]
   obtain⟨Wl,wl,wh⟩:=Kz_ tra;show⟨⟨_,.inl (.inl hD)⟩,?_⟩;show fS_ (n:=ts.length) (Pσ:=λσ=>∃a b c e,σ=[a,b,c,e]) (Pj O Wl) ⟨_,_,_,_,rfl⟩ o_ ⟨[],rfl,s_,(λk q h=>by cases h)⟩ (λi vs H1 H2 s ⟨ts,z1,z2,z3⟩=>⟨ts,z1,z2,λk q hq=>let⟨o,W,y1,y2,y3⟩:=z3 k q hq;⟨o,W,y1,y2,s _ _ y3⟩⟩) (λi vs H1 ⟨ts,z1,z2,z3⟩=>by rw[z1,Ab_,z2];show Nat.min_le_left _ _) (λj Hj hj sj=>⟨_,.ref (ts[j]),.inl (.inl (sj _ _ hD)),by simp[hj]⟩) (λHj sj=>⟨_,.inl (.inl (sj _ _ hD)),s_⟩) ?_ ?_
   .rintro Dc i x σ' H2 H2' vs nDc ⟨od,hDc⟩ s2 hi ⟨rfl,hy⟩ ⟨a,b,c,e,rfl⟩ ⟨ts',rfl,tl',all'⟩ Y R kY kR;have hx:=hy _ (.inl (.inl (s2 _ _ hD)));rw[Ae_,Aa_ hi]at hx;cases hx;obtain⟨t,ht,_⟩:=eX_ tra (Aa_ hi);obtain⟨C,W,hWl,hq,hW,_⟩:=wh i _ t (Aa_ hi) ht;nofun;show⟨_,SqT.of (s2 _ _ hq),rfl,_,_,rfl,_,_,rfl,_,_,rfl,_,_,rfl,rfl,?_⟩
    rcases JH_ ht with⟨c,o,ho,rfl⟩|⟨c,e,_⟩
    .rw[if_pos (by simp[trF])];show⟨d_,λr nr=>kY _ _ _ ⟨_,_,_,_,rfl⟩ (EL_.new nr) ⟨ts'++[r],by rw[Aq_];rfl,by rw[Af_,tl'];simp;lia,λk' q hq'=>?_⟩⟩;have rD:r≠Dc:=(ag_ hDc nr).symm;by_cases ck:k'<ts'.length
     .rw[Ao_ ck]at hq';obtain⟨o',W',y1,y2,z⟩:=all' k' q hq';show⟨o',W',y1,y2,gX_ (EL_.new nr) _ _ z⟩
     .rw[Ay_ o_]at hq';have e0:k'-ts'.length=0:=by have:=(Ad_.mp hq').1;simp only[A9_]at this;lia
      rw[e0]at hq';cases hq';have ki:k'=i:=o_
      rw[ki];show⟨o,W,ho,hWl,by rw[jf_ rD];show aa_⟩
    .have ef:trF t=.non:=by unfold trF;rw[e]
     rw[ef,if_neg s_];show kR _ _ ⟨_,_,_,_,rfl⟩ (EL_.refl _) ⟨ts',rfl,by rw[tl'];lia,all'⟩
   .rintro J H2 vs nJ s2 hJ ⟨js,rfl,jl,jall⟩;have jl':js.length=O.length:=by rw[jl];lia
    nofun;show⟨⟨_,.inl (.inl (s2 _ _ hD))⟩,?_⟩;show fS_ (n:=ts.length) (Pσ:=λσ=>∃a b c e,σ=[a,b,c,e]) (Pc H (trn N) (Pn N) L O.length) ⟨_,_,_,_,rfl⟩ o_ ⟨[],[],rfl,s_,rfl,(λi l h=>by cases h),λl hl=>absurd hl AR_,s_,s_⟩ (λi vs H1 H2 s ⟨ls,uss,z1,z2,z3,z4,z5⟩=>⟨ls,uss,z1,z2,z3,λi l hl=>s _ _ (z4 i l hl),z5⟩) (λi vs H1 ⟨ls,uss,z1,z2,_⟩=>by rw[z1,Ab_,z2];lia) (λj Hj hj sj=>⟨_,.ref (ts[j]),.inl (.inl ((s2.trans sj) _ _ hD)),by simp[hj]⟩) (λHj sj=>⟨_,.inl (.inl ((s2.trans sj) _ _ hD)),s_⟩) ?_ ?_
    .rintro Dc i x σ' H3 H3' vs nDc ⟨od,hDc⟩ s3 hi ⟨rfl,hy⟩ ⟨a,b,c,e,rfl⟩ ⟨ls,uss,rfl,ll,lu,la,ln0,pm,ex⟩ Y R kY kR;have s23:=s2.trans s3;have hx:=hy _ (.inl (.inl (s23 _ _ hD)));rw[Ae_,Aa_ hi]at hx;cases hx;obtain⟨t,ht,_⟩:=eX_ tra (Aa_ hi);obtain⟨C,W,hWl,hq,hW,_⟩:=wh i _ t (Aa_ hi) ht;nofun;show⟨_,SqT.of (s23 _ _ hq),rfl,_,_,rfl,_,_,rfl,_,_,rfl,_,_,rfl,rfl,?_⟩
     rcases JH_ ht with⟨c,o,ho,rfl⟩|⟨c,e,hL⟩
     .rw[if_neg (by simp[trF])];show kR _ _ ⟨_,_,_,_,rfl⟩ (EL_.refl _) ⟨ls,uss,rfl,o_,lu,la,ln0,by rw[show i+1-O.length=i-O.length by lia];show⟨pm,ex⟩⟩
     .have ef:trF t=.non:=by unfold trF;rw[e]
      rw[ef,if_pos rfl];have lm:=Ai_ hL;obtain⟨s',x',z1,z2,z3,z4⟩:=cl _ lm;have ndl:(cs t.2).Nodup:=((AS_.mp nd).2.1.sublist (Cz_ (An_.mpr ⟨_,lm,rfl⟩)));have l100:=ly_ ok po ndl λc hc=>(all c).mpr (Ap_.mpr (.inr (Bm_.mpr ⟨_,An_.mpr ⟨_,lm,rfl⟩,hc⟩)));have wl:(wiL (trn N) (Pn N) t.2).length<=100:=AT_ (CN_ _ _) (by unfold cs at l100;rwa[Ab_]at l100);have wne:wiL (trn N) (Pn N) t.2≠[]:=λz=>by obtain⟨w',hw,_⟩:=GV_ z4;have:w'∈wiL (trn N) (Pn N) t.2:=BY_.mpr ⟨x',BM_ z3,hw⟩;rw[z]at this;cases this
      show⟨W,_,rfl,s23 _ _ hW,wne,o_,λl us H4 s4 nl hl pu=>kY _ _ _ ⟨_,_,_,_,rfl⟩ s4 ⟨ls++[l],uss++[us],by rw[Aq_];rfl,by rw[Af_,ll];simp;lia,by rw[Af_,Af_,lu];rfl,λk' l' hl'=>?_,λl' hl'=>?_,?_⟩⟩
      .have lD:l≠Dc:=(ag_ hDc nl).symm;by_cases ck:k'<ls.length
       .rw[Ao_ ck]at hl';rw[Ag_,Ao_ (by rw[<-lu];show ck),<-Ag_];show gX_ s4 _ _ (la k' l' hl')
       .rw[Ay_ o_]at hl';have e0:k'-ls.length=0:=by have:=(Ad_.mp hl').1;simp only[A9_]at this;lia
        rw[e0]at hl';cases hl';rw[jf_ lD,Ag_,Ay_ (by rw[<-lu];lia),<-lu,e0];show hl
      .rcases Ap_.mp hl' with h|h
       .show ln0 _ h
       .rw[Ak_.mp h];show(s1.trans s23).free nl
      .rw[show i+1-O.length=(i-O.length)+1 by lia,Bu_,hL,Aq_,pm];show⟨by rw[<-JK_ pu];rfl,λl' hl'=>?_⟩
       rcases Ap_.mp hl' with h|h
       .show ex _ h
       .rw[Ak_.mp h];show⟨us,pu⟩
    .rintro Cd H3 vs nCd s3 hCd ⟨ls,uss,rfl,ll,lu,la,ln0,pm,ex⟩;rw[show ts.length-O.length=L.length by lia,DK_]at pm ex;have ll':ls.length=L.length:=o_
     nofun
     have l64:L.length<=40:=by
      have h1:=lz_ (L:=L) λl hl z=>by obtain⟨s',x',z1,z2,z3,z4⟩:=cl l hl;rw[z]at z2;cases z2
      have h2:=b9_ (l:=(L.map cs).flatten) (m:=corners (trn N) (Pn N)) (AS_.mp nd).2.1 λc hc=>d8_.mpr ((all c).mpr (Ap_.mpr (.inr hc)));have h3:=H0_ ok po;lia
     show⟨ls,hCd,uss,lu,o_,λi l hl=>ks_ _ _ (la i l hl),λZ zs uss2 nZ zl zin za zp srt=>?_⟩;have S4:=EL_.new nZ (o:=HO.lst (zs.map V.ref));have hZ:=aa_ (H:=H3) (a:=Z) (o:=HO.lst (zs.map V.ref));generalize upd H3 Z (HO.lst (zs.map V.ref))=H4 at*;have zl40:zs.length=L.length:=by rw[zl,zp.length_eq,<-lu,ll']
     show⟨⟨_,.inl (.inl hZ)⟩,?_⟩;show fS_ (n:=zs.length) (Pσ:=λσ=>∃a,σ=[a]) (Pt zs) ⟨_,rfl⟩ o_ ⟨[],rfl,rfl,(λk q h=>by cases h)⟩ (λi vs H1 H2 s ⟨qs,z1,z2,z3⟩=>⟨qs,z1,z2,λk q hq=>let⟨W,y1,y2⟩:=z3 k q hq;⟨W,y1,s _ _ y2⟩⟩) (λi vs H1 ⟨qs,z1,z2,_⟩=>by rw[z1,Ab_,z2];show Aj_ _) (λj Hj hj sj=>⟨_,.ref (zs[j]),.inl (.inl (sj _ _ hZ)),by simp[hj]⟩) (λHj sj=>⟨_,.inl (.inl (sj _ _ hZ)),s_⟩) ?_ ?_
     .rintro Dc i x σ' H5 H5' vs nDc ⟨od,hDc⟩ s5 hi ⟨rfl,hy⟩ ⟨a,rfl⟩ ⟨qs,rfl,ql,qa⟩ Y R kY kR;have hx:=hy _ (.inl (.inl (s5 _ _ hZ)));rw[Ae_,Aa_ hi]at hx;cases hx;nofun;show⟨d_,λr nr=>kY _ _ _ ⟨_,rfl⟩ (EL_.new nr) ⟨qs++[r],by rw[Aq_];rfl,by rw[Af_,ql];rfl,λk' q hq=>?_⟩⟩;have rD:r≠Dc:=(ag_ hDc nr).symm;by_cases ck:k'<qs.length
      .rw[Ao_ ck]at hq;obtain⟨W,y1,y2⟩:=qa k' q hq;show⟨W,y1,gX_ (EL_.new nr) _ _ y2⟩
      .rw[Ay_ o_]at hq;have e0:k'-qs.length=0:=by have:=(Ad_.mp hq).1;simp only[A9_]at this;lia
       rw[e0]at hq;cases hq;show⟨zs[i],by rw[show k'=i by lia];show Aa_ hi,?_⟩;rw[jf_ rD];show aa_
     .rintro R0 H5 vs nR s5 hR ⟨qs,rfl,ql,qa⟩;have s35:=S4.trans s5;have s25:=s3.trans s35;show⟨R0,rfl,_,s25 _ _ hJ,_,hR,by rw[Ab_,Ab_];show AV_ (EN_ o_),λp np=>?_⟩;have s6:=EL_.new np (o:=HO.lst (js.map V.ref++qs.map V.ref));have h6:=aa_ (H:=H5) (a:=p) (o:=HO.lst (js.map V.ref++qs.map V.ref));generalize upd H5 p (HO.lst (js.map V.ref++qs.map V.ref))=H6 at*;have sall:=s1.trans (s2.trans s25);have ol:(opD (trn N) (Pn N) O).length=O.length:=Ab_ _;have ul:(clD uss2).length=uss2.length:=Ab_ _;show k p (js++qs) uss2 H6 O L (sall.trans s6) (sall.free np) (by rw[h6,Aq_]) (ij_ (by rw[Af_,Af_,jl',ql,zl,ol,ul]) λi q t hq ht=>?_) (by rw[Af_];lia) op cl nd all ex (by rw[<-pm];show zp) srt;by_cases c:i<js.length
      .rw[Ao_ c]at hq;rw[Ao_ o_]at ht;obtain⟨o,W,y1,y2,z⟩:=jall i q hq;unfold opD at ht;rw[Ae_,y1]at ht;cases ht;have ht1:(opT O++clT L)[i]?=some (some (o.1,o.2.1),o.2.2):=by have ol:(opT O).length=O.length:=Ab_ _;rw[Ao_ o_];unfold opT;rw[Ae_,y1];rfl
       obtain⟨C,W',x1,x2,x3,x4⟩:=wh i _ _ (Aa_ (show i<ts.length by lia)) ht1;rw[y2]at x1;cases x1;show⟨W,(s25.trans s6) _ _ (ks_ _ _ z),(s2.trans (s25.trans s6)) _ _ x3,x4⟩
      .rw[Ay_ o_,show i-js.length=i-O.length by lia]at hq;rw[Ay_ o_,ol]at ht;obtain⟨W,y1,y2⟩:=qa _ q hq;unfold clD at ht;rw[Ae_]at ht;obtain⟨u,hu,rfl⟩:=AK_.mp ht;have:=za _ W y1;rw[Ag_,hu]at this;show⟨W,s6 _ _ (ks_ _ _ y2),(s35.trans s6) _ _ this,ln0 _ (zin _ (Ai_ y1))⟩
def hid(H:Hp)(d:Addr):Hp:=λb=>if b=d then none else H b
theorem jA_{b:Addr}{o:HO}(h:H b=some o)(n:b≠d):hid H d b=some o:=(if_neg n).trans h
structure LF(N:Net Str)(lns:List LD)(O:List (Nat×Nat×List Sd))(L:List (List Sd))(uss:List (List Str)):Prop where
 eq:lns=opD (trn N) (Pn N) O++clD uss
 op:OpL (trn N) (Pn N) (2*Pn N) O
 cl:∀l∈L,ClL (trn N) (Pn N) l
 nd:(csO O++(L.map cs).flatten).Nodup
 all:∀c,IsC (trn N) (Pn N) c↔c∈csO O++(L.map cs).flatten
 ex:∀l∈L,∃u,Lst (wiL (trn N) (Pn N) l) u
 pm:uss.Perm (L.map λl=>lw (wiL (trn N) (Pn N) l))
 srt:uss.Pairwise λx y=>FQ_ y x=false
def Gm_(N:Net Str)(lns:List LD):Prop:=∃O L uss,LF N lns O L uss
theorem nx_{a b:List Str}(h:Rd a b):a.Perm b:=by
 rcases h with⟨x,y,h1,h2⟩|⟨x,y,h1,h2⟩
 .rw[h1,h2];show C2_
 .show(Dy_ a).symm.trans ?_;rw[h1,h2];show C2_
theorem ik_{α:Type}{f g:α->List Str}:∀{l:List α},(∀x∈l,(f x).Perm (g x))->(l.map f).flatten.Perm (l.map g).flatten
 |[],_=>.refl _
 |x::l,h=>by rw[Aw_,Aw_,AJ_,AJ_];show(h x Au_).append (ik_ λy hy=>h y (Am_ _ hy))
theorem jB_{α β γ:Type}{f:α->List β}{g:α->List γ}:∀{l:List α},(∀x∈l,(f x).length<=(g x).length)->(l.map f).flatten.length<=(l.map g).flatten.length
 |[],_=>Aj_ _
 |x::l,h=>by rw[Aw_,Aw_,AJ_,AJ_,Af_,Af_];have:=h x Au_;have:=jB_ λy hy=>h y (Am_ _ hy);lia
abbrev wsL(lns:List LD):List (List Str):=lns.map (·.2)
variable{lns:List LD}
theorem LF.flat{L:List (List Sd)}{uss:List (List Str)}(h:LF N lns O L uss):(wsL lns).flatten.Perm (((O.map λt=>t.2.2)++L).map (wiL (trn N) (Pn N))).flatten:=by
 have e1:wsL lns=(O.map λt=>wiL (trn N) (Pn N) t.2.2)++uss:=by rw[h.eq];unfold wsL opD clD;rw[Aq_,AP_,AP_];show congrArg _ ((A0_ λ_ _=>rfl).trans (Ef_ _))
 rw[e1,Aq_,AP_,AX_,AX_];show List.Perm.append_left _ ((dw_ h.pm).trans (ik_ λl hl=>?_));obtain⟨u,hu⟩:=h.ex l hl;rw[JK_ hu];show(nx_ hu.1).symm
theorem Gm_.two(tw:Tw (trn N))(h:Gm_ N lns):∀x∈(wsL lns).flatten,(wsL lns).flatten.count x=2:=λx hx=>by
 obtain⟨O,L,us,h⟩:=h;have e2:(((O.map λt=>t.2.2)++L).map λm=>m.map (·.1)).flatten=csO O++(L.map cs).flatten:=by rw[Aq_,AX_,AP_];rfl
 have ht:=iB_ (P:=Pn N) tw (L:=(O.map λt=>t.2.2)++L) h.nd (λc=>(h.all c).symm) (.of_eq e2) x λm hm=>by
  rcases Ap_.mp hm with hm|hm
  .obtain⟨t,ht,rfl⟩:=An_.mp hm;obtain⟨z1,z2,z3⟩:=h.op.in_ t ht;show nV_ x z3.ln (be_ z1)
  .obtain⟨s,y,z1,z2,z3,z4⟩:=h.cl m hm;cases m with
   |nil=>cases z2
   |cons a m =>
    have e:a=s:=by simpa using z2
    subst e;show nW_ x z1 z3 z4
 have hc:=h.flat.count_eq x;rw[ht]at hc;have:=AM_.mpr hx;split at hc <;> lia
theorem Gm_.few(c40:(corners (trn N) (Pn N)).length<=40)(h:Gm_ N lns):(wsL lns).flatten.length<=40:=by
 obtain⟨O,L,us,h⟩:=h;rw[h.flat.length_eq];show AT_ (jB_ (g:=cs) λl _=>?_) (AT_ ?_ c40)
 .show AT_ (CN_ _ _) (Nat.le_of_eq (Ab_ _).symm)
 .have e2:(((O.map λt=>t.2.2)++L).map cs).flatten=csO O++(L.map cs).flatten:=by rw[Aq_,AX_,AP_];rfl
  rw[e2];show b9_ h.nd λc hc=>d8_.mpr ((h.all c).mpr hc)
theorem lA_(l:List (Str×End Str)):(E4_ l).length<=l.length:=by
 have key:∀n (l:List (Str×End Str)),l.length=n->(E4_ l).length<=n:=λn=>by
  induction n with
  |zero=>intro l h;rw[Bb_ h];show Aj_ _
  |succ n ih =>
   intro l h;obtain⟨m,x,rfl⟩:∃m x,l=m++[x]:=⟨l.dropLast,l.getLast (λe=>by rw[e]at h;cases h),(Cw_ _).symm⟩;rw[cQ_];have h2:=ih m (by simpa using h);have h3:=congrArg List.length (cR_ (w:=x.1) (e:=x.2) (a:=E4_ m));rw[Ab_]at h3;split at h3
   .rw[Ab_]at h3;lia
   .rw[Af_,Ab_]at h3;simp at h3;lia
 show key _ l rfl
def dI(e:End Str):Dt:=.int e.2
abbrev EW_:Stmt:=stN 42
theorem a2_:ZL ["net","numbers","number","line","wire"] ["net"] (EO_ EW_):=zL
theorem ci_:LK EW_ "enumerate" .globalImplicit:=r_
theorem cN_:LK EW_ "lines_of" .globalImplicit:=r_
def In_:Sp:=λvs H Q _=>∃(v:V)(N:Net Str),vs=[v]/\Rep H v (FT_ N)/\E0_ N/\ES_ N/\∀d S ls H' lns,EL_ H S->Gm_ N lns->DE dI S H' d ls (E4_ (FF_ Str.empty 0 (wsL lns)))->H d=none->Q (.ref d) H'
theorem fx_(T:Txt K mg)(F:Fn0 K mg "lines_by_wire" EW_) (Hp_:Cal P w K mg base "lines_of" ["net"] 5 G6_):Cal P w K mg base "lines_by_wire" ["net"] 6 In_:=by
  show aY_ F a2_.1 λf cdv A outer s H vs Q E hr h=>?_;obtain⟨v,N,rfl,hv,ok,po,k⟩:=h;have c40:=H0_ ok po;refine'⟨_,?D,?R⟩
  case D =>
   refine' aj_ ?a (aj_ ?b (ah_ (aF_ (zv 1 a2_))))
   case a=>show zas 1 a2_ g8_
   case' b=>refine' bq_ AI_ rfl (iF_ (K:=K) rfl ci_ T.n_enumerate (pa_c (ao_ Hp_ (hr.mono d_) cN_ (pa_c (zv 0 a2_) ab_)) ab_)) (by_ (K:=K) (n:=2) rfl rfl (an_ ?c (an_ ?d bw_))) ?e
   case c=>show zh 2 a2_
   case d=>show zh 3 a2_
   case' e=>refine' ah_ (bq_ AI_ rfl (aT_ (K:=K) rfl (EU_ ak_ (zv 3 a2_) ad_)) ?f ?g)
   case f=>show zh 4 a2_
   case' g=>refine' ah_ (au_ (Ft_ AA_ AC_ AD_ aw_ (Ft_ BC_ Cx_ Dk_ eA_ (zv 1 a2_) (pa_c (zv 4 a2_) (pa_c (bx_ ab_) ab_))) (pa_c (zv 2 a2_) ab_)))
  case R =>
   nofun;intro d nd;have Sd:=EL_.new nd (o:=HO.dK []);have hd:=aa_ (H:=H) (a:=d) (o:=HO.dK []);generalize upd H d (HO.dK [])=H1 at*;nofun;show⟨_,N,rfl,Rep.mono Sd _ hv,ok,po,λD ts uss H2 O L s2 nD hD la t200 op cl nd' all ex pm srt=>?_⟩;obtain⟨lns,hlns,he⟩:∃lns,Gm_ N lns/\lns=opD (trn N) (Pn N) O++clD uss:=⟨_,⟨O,L,uss,rfl,op,cl,nd',all,ex,pm,srt⟩,rfl⟩;rw[<-he]at la;have few:=hlns.few c40;have hd2:=s2 _ _ hd;have hidS:∀{b:Addr}{o:HO},H2 b=some o->(∀kv,o≠.dK kv)->hid H2 d b=some o:=λ{b o} h1 h2=>jA_ h1 λz=>by rw[z,hd2]at h1;show h2 _ (Ar_ h1).symm
   have hidH:EL_ (hid H2 d) H2:=λb o h=>by
    unfold hid at h;by_cases z:b=d
    .rw[if_pos z]at h;cases h
    .rwa[if_neg z]at h
   have S0:EL_ H (hid H2 d):=λb o h=>jA_ (s2 _ _ (Sd _ _ h)) λz=>by rw[z,nd]at h;cases h
   show⟨D,rfl,⟨_,.inl (.inl hD)⟩,?_⟩;have tl:ts.length=lns.length:=la.length;show jo_ (xs:=ts.map V.ref) (λi σ Hy=>∃(e2 e3 e4:Option V)(S:Hp)(ls:List Addr),σ=[some v,some (.ref d),e2,e3,e4]/\EL_ (hid H2 d) S/\DE dI S Hy d ls (E4_ (FF_ Str.empty 0 ((wsL lns).take i)))) ⟨_,_,_,_,[],rfl,EL_.refl _,hidH,hd2,rfl,AY_,λz=>(by cases z),λi l kv z=>(by cases z),if_pos rfl,λl z=>(by cases z)⟩ ?_ ?_ ?_
   .rintro i σ Hy hi ⟨e2,e3,e4,S,ls,rfl,sS,de⟩;show .inl (.inl ((sS.trans de.sH) _ _ (hidS hD s_)))
   .rintro i x T0 σ Hy hx kc kb hkc hkb G hG ⟨e2,e3,e4,S,ls,rfl,sS,de⟩ nT;show hG ?_;rw[Ae_]at hx;obtain⟨q,hq,rfl⟩:=AK_.mp hx;obtain⟨t,ht,W,g1,g2,_⟩:=eX_ la hq;have hw:(wsL lns)[i]?=some t.2:=by unfold wsL;rw[Ae_,ht];rfl
    have de2:=de.mono (EL_.new nT (o:=HO.tup [V.int i,V.ref q]));have hT:=aa_ (H:=Hy) (a:=T0) (o:=HO.tup [V.int i,V.ref q]);generalize upd Hy T0 (HO.tup [V.int i,V.ref q])=H3 at*;have s3:=sS.trans de2.sH;nofun;show⟨_,SqT.of hT,rfl,_,_,rfl,_,_,rfl,rfl,q,rfl,_,s3 _ _ (hidS g1 s_),_,Ho_,W,rfl,⟨_,.inl (.inl (s3 _ _ (hidS g2 s_)))⟩,?_⟩;show eB_ (xs:=t.2.map V.str) (λj σ Hz=>∃(e4:Option V)(S:Hp)(ls:List Addr),σ=[some v,some (.ref d),some (.int i),some (.ref q),e4]/\EL_ (hid H2 d) S/\DE dI S Hz d ls (E4_ (FF_ Str.empty 0 ((wsL lns).take i)++(t.2.take j).map λw=>(w,(Str.empty,i))))) ⟨_,S,ls,rfl,sS,by rw[Dj_,DG_,Bp_];show de2⟩ ?_ ?_ ?_
    .rintro j σ Hz hj ⟨e4,S,ls,rfl,sS,de⟩;show .inl (.inl ((sS.trans de.sH) _ _ (hidS g2 s_)))
    .rintro j x σ Hz hx kc2 kb2 hkc2 hkb2 G2 hG2 ⟨e4,S,ls,rfl,sS,de⟩;show hG2 ?_;rw[Ae_]at hx;obtain⟨wr,hwr,rfl⟩:=AK_.mp hx;have tk:(t.2.take (j+1)).map (λw=>(w,(Str.empty,i)))=(t.2.take j).map (λw=>(w,(Str.empty,i)))++[(wr,(Str.empty,i))]:=by rw[Bu_,hwr];simp
     have ol:(FF_ Str.empty 0 ((wsL lns).take i)++(t.2.take j).map λw=>(w,(Str.empty,i))).length<=40:=by have h1:=congrArg List.length (js_ Str.empty (wsL lns) (i+1) 0);rw[f9_ Str.empty hw,Af_,Af_,Ab_]at h1;have h2:=congrArg List.length (eE_ Str.empty (wsL lns) 0);rw[Ab_]at h2;rw[Af_,Ab_,BI_];lia
     have few2:=lA_ (FF_ Str.empty 0 ((wsL lns).take i)++(t.2.take j).map λw=>(w,(Str.empty,i)));have short:∀kv∈E4_ (FF_ Str.empty 0 ((wsL lns).take i)++(t.2.take j).map λw=>(w,(Str.empty,i))),kv.2.length<=40:=λkv hkv=>by rw[(a3_ _ _ rfl).2.1 kv hkv,Ab_];show AT_ (Eo_ _ _) ol
     rw[tk,<-A4_,cQ_]at hkc2;generalize E4_ (FF_ Str.empty 0 ((wsL lns).take i)++(t.2.take j).map λw=>(w,(Str.empty,i)))=acc at*;nofun;show⟨.inr (.inr (.inl (.inl ⟨_,de.dict⟩))),AB_ _,λq nq=>?_⟩;have qd:q≠d:=(ag_ de.dict nq).symm;have ql:q∉ls:=λz=>by obtain⟨i0,hi0,ei⟩:=Ax_.mp z;obtain⟨vs,z2,_⟩:=de.lst i0 q (acc[i0]'(by rw[<-de.len];show hi0)) (by rw[Aa_ hi0,ei]) (Aa_ _);rw[nq]at z2;cases z2
     have Sq:S q=none:=de.sH.free nq;have de3:=de.mono (EL_.new nq (o:=HO.lst []));have hq4:=aa_ (H:=Hz) (a:=q) (o:=HO.lst []);generalize upd Hz q (HO.lst [])=H4 at*;show⟨_,.inr wr,rfl,de3.dict,by rw[iY_ de3.len];lia,λv2 hv2=>?_,λhnone=>?_⟩
     .have hex:∃kv∈acc,kv.1=wr:=by
       by_cases hc:∃kv∈acc,kv.1=wr
       .show hc
       .rw[fE_ (λkv hkv z=>hc ⟨kv,hkv,z⟩)]at hv2;cases hv2
      obtain⟨i0,es,g1,g2,g3⟩:=cP_ (e:=(Str.empty,i)) hex;obtain⟨lw,l1,l2⟩:=dN_ de3.len g1 g2;rw[l2]at hv2;cases hv2;obtain⟨vs,hvs,hrep⟩:=de3.lst i0 lw _ l1 g1;have vle:vs.length<=40:=by rw[hrep.length,Ab_];show short _ (Ai_ g1)
      show⟨.inl ⟨_,.inl (.inl hvs)⟩,lw,rfl,vs,hvs,EN_ o_,hkc2 _ _ ⟨_,S,ls,rfl,sS,?_⟩⟩;rw[g3];show de3.old g1 l1 hvs hrep rfl
     .have hno:∀kv∈acc,kv.1≠wr:=λkv hkv z=>by obtain⟨i0,es,g1,g2,g3⟩:=cP_ (e:=(Str.empty,i)) ⟨kv,hkv,z⟩;obtain⟨lw,l1,l2⟩:=dN_ de3.len g1 g2;rw[l2]at hnone;cases hnone
      have hqd:upd H4 d (HO.dK (Fn_ (Fz_ acc ls) (Sum.inr wr) (V.ref q))) q=some (.lst []):=by rw[ae_ qd];show hq4
      show⟨.inl ⟨_,.inl (.inl hqd)⟩,[],hqd,EN_ d_,hkc2 _ _ ⟨_,S,ls++[q],rfl,sS,?_⟩⟩;rw[fX_ hno];show de3.new hno hq4 qd ql Sq rfl
    .rintro σ Hz ⟨e4,S,ls,rfl,sS,de⟩;show hkc _ _ ⟨_,_,_,S,ls,rfl,sS,?_⟩;rw[f9_ Str.empty hw,CK_]
     rwa[Bl_ (l:=t.2) (by rw[Ab_];show Aj_ _)]at de
   .rintro σ Hy ⟨e2,e3,e4,S,ls,rfl,sS,de⟩;rw[Bl_ (by rw[Ab_,Ab_];lia)]at de;nofun;show k d S ls Hy lns (S0.trans sS) hlns de nd
def cV(c:Nat×Nat):HO:=.tup [.int c.1,.int c.2]
def cK(c:Nat×Nat):List Key:=[.inl c.1,.inl c.2]
theorem oh_{a b:Nat×Nat}(h:cK a=cK b):a=b:=by
 unfold cK at h;injection h with h1 h2
 injection h2 with h2 _
 injection h1 with h1
 injection h2 with h2
 show BD_ o_ o_
def sLt(x y:Str):Prop:=x.cps.toList<y.cps.toList
def LnsV(H:Hp)(ls:List (List Str))(v:V):Prop:=(v=.non/\¬ IV_ ls)\/(IV_ ls/\((∃(q:Addr)(k:Nat)(x:Str),v=.ref q/\H q=some (.tup [.int k,.str x])/\k<ls.length/\(ls.getD k []).count x=2)\/∃(q:Addr)(a b:Nat)(x y:Str),v=.ref q/\H q=some (.tup [.int a,.int b,.str x,.str y])/\a<b/\b<ls.length/\sLt x y/\(x∈ls.getD a []/\x∈ls.getD b [])/\y∈ls.getD a []/\y∈ls.getD b []))
theorem jC_:∀{acc:List (Str×List (End Str))}{ls:List Addr},ls.length=acc.length->(Fz_ acc ls).map (λq=>q.1)=(acc.map (·.1)).map λn=>(Sum.inr n:Key)
 |[],[],_=>rfl
 |kv::acc,l::ls,h=>by change Sum.inr kv.1::(Fz_ acc ls).map _=_;rw[jC_ (by simpa using h)];rfl
theorem ny_{dls:List Addr}{ws:List (List Str)}(de:DE dI S H d dls (E4_ (FF_ Str.empty 0 ws)))(hx:x∈ws.flatten)(h2:ws.flatten.count x=2):∃(l:Addr)(a b:Nat),Fl_ (Fz_ (E4_ (FF_ Str.empty 0 ws)) dls) (.inr x)=some (.ref l)/\H l=some (.lst [.int a,.int b])/\nums 0 ws x=[a,b]/\a<=b/\b<ws.length:=by
 obtain⟨k1,k2,k3,k4⟩:=a3_ _ (FF_ Str.empty 0 ws) rfl;rw[<-eE_ Str.empty ws 0]at hx;obtain⟨y,hy,rfl⟩:=An_.mp hx;obtain⟨kv,hkv,ekv⟩:=k3 y hy;obtain⟨i,hi,rfl⟩:=Ax_.mp hkv;obtain⟨a,b,hn,ab,bl⟩:=hf_ h2;have e2:=k2 _ hkv;have hm:((E4_ (FF_ Str.empty 0 ws))[i]).2.map (·.2)=[a,b]:=by rw[e2,AP_,<-hn,<-k8_ (z:=Str.empty)];rw[ekv];rfl
 obtain⟨l,l1,l2⟩:=dN_ (w:=y.1) (acc:=E4_ (FF_ Str.empty 0 ws)) (i:=i) (es:=((E4_ (FF_ Str.empty 0 ws))[i]).2) de.len (by rw[Aa_ hi,<-ekv]) λj kv hj hkv' e=>by obtain⟨jl,rfl⟩:=Ad_.mp hkv';have:=(AQ_ (l:=(E4_ (FF_ Str.empty 0 ws)).map (·.1)) (i:=j) (j:=i) (by rw[Ab_];show jl) k1).mp (by rw[Ae_,Ae_,hkv',Aa_ hi];show congrArg some (e.trans ekv.symm));lia
 obtain⟨vs,hvs,hr⟩:=de.lst i l _ l1 (Aa_ hi);show⟨l,a,b,l2,?_,hn,ab,bl⟩
 match hq:((E4_ (FF_ Str.empty 0 ws))[i]).2,hm with
 |[e1,e3],hm =>rw[hq]at hr;cases hm;obtain⟨v1,_,rfl,h1,v2,_,rfl,h3,rfl⟩:=hr;cases h1;cases h3;show hvs
abbrev Fh_:Stmt:=stN 43
theorem ca_:ZL ["net","met","numbers","wire","one","other"] ["net"] (EO_ Fh_):=zL
theorem c3_:LK Fh_ "lines_by_wire" .globalImplicit:=r_
theorem fm_:LK Fh_ "sorted" .globalImplicit:=r_
def HI_:Sp:=λvs H Q _=>∃(v:V)(N:Net Str),vs=[v]/\Rep H v (FT_ N)/\E0_ N/\ES_ N/\∀r H' lns,EL_ H H'->Gm_ N lns->LnsV H' (wsL lns) r->Q r H'
structure Met(ws:List (List Str))(zs:List Str)(i:Nat)(kb:List (List Key×V)):Prop where
 len:kb.length<=i
 to:∀(j:Nat) x,j<i->zs[j]?=some x->∃a b,nums 0 ws x=[a,b]/\a≠b/\Fl_ kb (cK (a,b))=some (.str x)
 fr:∀a b v,Fl_ kb (cK (a,b))=some v->∃(j:Nat)(x:Str),j<i/\zs[j]?=some x/\v=.str x/\nums 0 ws x=[a,b]
theorem Met.put{ws:List (List Str)}{zs:List Str}(h:Met ws zs i kb){a b:Nat}(hx:zs[i]?=some x)(hn:nums 0 ws x=[a,b])(ne:a≠b)(no:Fl_ kb (cK (a,b))=none):Met ws zs (i+1) (Fn_ kb (cK (a,b)) (.str x)):=by
 show⟨by have:=aL_ kb (cK (a,b)) (.str x);have:=h.len;lia,λj y hj hy=>?_,λa' b' v hv=>?_⟩
 .by_cases c:j=i
  .subst c;rw[hx]at hy;cases hy;show⟨a,b,hn,ne,by rw[av_,if_pos rfl]⟩
  .obtain⟨a',b',h1,h2,h3⟩:=h.to j y o_ hy;show⟨a',b',h1,h2,?_⟩;rw[av_,if_neg (λz=>by rw[z,no]at h3;cases h3)];show h3
 .rw[av_]at hv;by_cases c:cK (a',b')=cK (a,b)
  .rw[if_pos c]at hv;have e:=oh_ c;cases e;show⟨i,x,o_,hx,(Ar_ hv).symm,hn⟩
  .rw[if_neg c]at hv;obtain⟨j,y,h1,h2,h3,h4⟩:=h.fr a' b' v hv;show⟨j,y,o_,h2,h3,h4⟩
theorem jX_(T:Txt K mg)(F:Fn0 K mg "lens_of" Fh_) (F8_:Cal P w K mg base "lines_by_wire" ["net"] 6 In_):Cal P w K mg base "lens_of" ["net"] 7 HI_:=by
  show aY_ F ca_.1 λf cdv A outer s H vs Q E hr h=>?_;obtain⟨v,N,rfl,hv,ok,po,k⟩:=h;have c40:=H0_ ok po;have tw:=fr_ ok po;refine'⟨_,?D,?R⟩
  case D =>
   refine' aj_ ?a (aj_ (zas 2 ca_ (ao_ F8_ (hr.mono d_) c3_ (pa_c (zv 0 ca_) ab_))) ?b)
   case a=>show zas 1 ca_ ez_
   case' b=>refine' aj_ (bq_ AI_ rfl (aT_ (K:=K) rfl (as_ (iI_ rfl) fm_ T.n_sorted fM_ (pa_c (zv 2 ca_) ab_))) ?c ?d) (ah_ (aF_ ?e))
   case c=>show zh 3 ca_
   case' d=>refine' aj_ (zas 4 ca_ (EU_ ay_ (b0_ (un1 hr.units) (zv 2 ca_) (zv 3 ca_)) ad_)) (aj_ (zas 5 ca_ (EU_ ay_ (b0_ (un1 hr.units) (zv 2 ca_) (zv 3 ca_)) ad_)) ?f)
   case' f=>refine' aj_ ?g (aj_ ?h (ah_ (dx_ (un1 hr.units) (zv 1 ca_) (ap_ (pa_c (zv 4 ca_) (pa_c (zv 5 ca_) ab_))) (zv 3 ca_) rfl)))
   case' g=>refine' FH_ (aG_ GD_ (zv 4 ca_) (zv 5 ca_) (Fc_ _)) (ah_ (aF_ (ap_ (pa_c (zv 4 ca_) (pa_c (zv 3 ca_) ab_))))) a4_
   case' h=>refine' FH_ (fG_ (nY_ (un1 hr.units) (ap_ (pa_c (zv 4 ca_) (pa_c (zv 5 ca_) ab_))) (zv 1 ca_))) (ah_ (aF_ (ap_ ?i))) a4_
   case' i=>refine' pa_c (zv 4 ca_) (pa_c (zv 5 ca_) (pa_c (b0_ (un1 hr.units) (zv 1 ca_) (ap_ (pa_c (zv 4 ca_) (pa_c (zv 5 ca_) ab_)))) (pa_c (zv 3 ca_) ab_)))
   case e=>show hu_
  case R =>
   nofun;intro m nm;have Sm:=EL_.new nm (o:=HO.dT []);have hm:=aa_ (H:=H) (a:=m) (o:=HO.dT []);generalize upd H m (HO.dT [])=H1 at*;nofun;show⟨_,N,rfl,Rep.mono Sm _ hv,ok,po,λd S dls H2 lns s2 hlns de nd=>?_⟩;nofun;have few:=hlns.few c40;have two:=hlns.two tw;have sH2:=s2.trans de.sH;have hm2:=sH2 _ _ hm;have md:m≠d:=(ag_ hm nd);obtain⟨k1,k2,k3,k4⟩:=a3_ _ (FF_ Str.empty 0 (wsL lns)) rfl;have kl:(E4_ (FF_ Str.empty 0 (wsL lns))).length<=40:=by have h1:=lA_ (FF_ Str.empty 0 (wsL lns));have h2:=congrArg List.length (eE_ Str.empty (wsL lns) 0);rw[Ab_]at h2;lia
   show⟨d,_,(E4_ (FF_ Str.empty 0 (wsL lns))).map (·.1),rfl,de.dict,jC_ de.len,by rw[Ab_];lia,λZ zs nZ pz sz=>?_⟩;have SZ:=EL_.new nZ (o:=HO.lst (zs.map V.str));have hZ:=aa_ (H:=H2) (a:=Z) (o:=HO.lst (zs.map V.str));have de3:=de.mono SZ;have hm3:=SZ _ _ hm2;have sH3:=sH2.trans SZ;generalize upd H2 Z (HO.lst (zs.map V.str))=H3 at*
   have zmem:∀x,x∈zs↔x∈(wsL lns).flatten:=λx=>by
    rw[pz.mem_iff,<-eE_ Str.empty (wsL lns) 0];constructor
    .intro h;obtain⟨kv,hkv,rfl⟩:=An_.mp h;obtain⟨y,hy,e⟩:=k4 kv hkv;show An_.mpr ⟨y,hy,e⟩
    .intro h;obtain⟨y,hy,rfl⟩:=An_.mp h;obtain⟨kv,hkv,e⟩:=k3 y hy;show An_.mpr ⟨kv,hkv,e⟩
   have znd:zs.Nodup:=pz.nodup_iff.mpr k1;have zl:zs.length<=40:=by rw[pz.length_eq,Ab_];show kl
   have hidS:∀{b:Addr}{o:HO},H3 b=some o->(∀kv,o≠.dT kv)->hid H3 m b=some o:=λ{b o} h1 h2=>jA_ h1 λz=>by rw[z,hm3]at h1;show h2 _ (Ar_ h1).symm
   have S0:EL_ H (hid H3 m):=λb o h=>jA_ (sH3 _ _ (Sm _ _ h)) λz=>by rw[z,nm]at h;cases h
   have hidH:EL_ (hid H3 m) H3:=λb o h=>by
    unfold hid at h;by_cases z:b=m
    .rw[if_pos z]at h;cases h
    .rwa[if_neg z]at h
   show⟨Z,rfl,⟨_,.inl (.inl hZ)⟩,?_⟩;show eB_ (xs:=zs.map V.str) (λi σ Hy=>∃(e3 e4 e5:Option V)(kb:List (List Key×V)),σ=[some v,some (.ref m),some (.ref d),e3,e4,e5]/\EL_ (hid H3 m) Hy/\Hy m=some (.dT kb)/\Met (wsL lns) zs i kb) ⟨_,_,_,[],rfl,hidH,hm3,Aj_ _,λj x hj=>absurd hj (Bi_ _),λa b v h=>by cases h⟩ ?_ ?_ ?_
   .rintro i σ Hy hi ⟨e3,e4,e5,kb,rfl,sy,hmy,mt⟩;show .inl (.inl (sy _ _ (hidS hZ s_)))
   .rintro i x0 σ Hy hx0 kc kb0 hkc hkb G hG ⟨e3,e4,e5,kb,rfl,sy,hmy,mt⟩;show hG ?_;rw[Ae_]at hx0;obtain⟨x,hx,rfl⟩:=AK_.mp hx0;have xf:=(zmem x).mp (Ai_ hx);have il:=(Ad_.mp hx).1;obtain⟨l,a,b,hv1,hl,hn,ab,bl⟩:=ny_ de3 xf (two x xf);have hdy:=sy _ _ (hidS de3.dict s_);have hly:=sy _ _ (hidS hl s_);nofun;show⟨.ref l,hv1▸FZ_.k (k:=.inr x) hdy,l,rfl,_,hly,_,Fy_,?_⟩;nofun;show⟨.ref l,hv1▸FZ_.k (k:=.inr x) hdy,l,rfl,_,hly,_,FA_,?_⟩;nofun;show ite2 (λc=>?_) (λc=>?_)
    .have e:a=b:=o_
     subst e;obtain⟨z1,z2⟩:=nh_ hn bl;show⟨d_,λp np=>k _ _ lns ((S0.trans sy).trans (EL_.new np)) hlns (.inr ⟨z1,.inl ⟨p,a,x,rfl,aa_,bl,z2⟩⟩)⟩
    .have lt:a<b:=o_
     nofun;show⟨d_,λp np=>?_⟩;have sp:=EL_.new np (o:=cV (a,b));have hp:=aa_ (H:=Hy) (a:=p) (o:=cV (a,b));have e0:upd Hy p (HO.tup [V.int a,V.int b])=upd Hy p (cV (a,b)):=rfl;rw[e0];generalize upd Hy p (cV (a,b))=Z1 at*;show⟨_,FZ_.t (k:=cK (a,b)) (sp _ _ hmy) hp,?_⟩;have sz1:=sy.trans sp;have hm1:=sp _ _ hmy;cases hk:Fl_ kb (cK (a,b))with
     |some u =>
      obtain⟨j,y,hj,hy,rfl,hny⟩:=mt.fr a b u hk;rw[if_pos (show(some (V.str y)).isSome=true from rfl)];show⟨d_,λp1 np1=>?_⟩;have s1:=EL_.new np1 (o:=cV (a,b));have hp1:=aa_ (H:=Z1) (a:=p1) (o:=cV (a,b));have e1:upd Z1 p1 (HO.tup [V.int a,V.int b])=upd Z1 p1 (cV (a,b)):=rfl;rw[e1];generalize upd Z1 p1 (cV (a,b))=Z2 at*;show⟨_,hk▸FZ_.t (k:=cK (a,b)) (s1 _ _ hm1) hp1,d_,λp2 np2=>k _ _ lns ((S0.trans sz1).trans (s1.trans (EL_.new np2))) hlns (.inr ⟨?_,.inr ⟨p2,a,b,y,x,rfl,aa_,lt,bl,?_,hg_ hny o_,hg_ hn o_⟩⟩)⟩
      .show ni_ hny hn (λe=>by rw[e]at hy;have:=(AQ_ o_ znd).mp (hy.trans hx.symm);lia) lt bl
      .have h1:sLe y x:=by obtain⟨jl,ej⟩:=Ad_.mp hy;obtain⟨il,ei⟩:=Ad_.mp hx;rw[<-ej,<-ei];show Bv_.mp sz j i jl il hj
       show Classical.byContradiction λz=>?_;have e:=sLe.antisymm h1 z;rw[e]at hy;have:=(AQ_ o_ znd).mp (hy.trans hx.symm);lia
     |none =>rw[if_neg d_];nofun;show⟨d_,λp1 np1=>?_⟩;have s1:=EL_.new np1 (o:=cV (a,b));have hp1:=aa_ (H:=Z1) (a:=p1) (o:=cV (a,b));have e1:upd Z1 p1 (HO.tup [V.int a,V.int b])=upd Z1 p1 (cV (a,b)):=rfl;rw[e1];generalize upd Z1 p1 (cV (a,b))=Z2 at*;have ml:=mt.len;show⟨_,GP_.t (k:=cK (a,b)) (s1 _ _ hm1) hp1 (EN_ o_),hkc _ _ ⟨_,_,_,_,rfl,b5_ (sz1.trans s1) (if_pos rfl),aa_,mt.put hx hn o_ hk⟩⟩
   .rintro σ Hy ⟨e3,e4,e5,kb,rfl,sy,hmy,mt⟩;nofun;show k _ Hy lns (S0.trans sy) hlns (.inl ⟨rfl,k9_ two λx hx y hy a b hn=>?_⟩);rw[<-zmem]at hx hy;obtain⟨i,hi,ei⟩:=Ax_.mp hx;obtain⟨j,hj,ej⟩:=Ax_.mp hy;obtain⟨a1,b1,h1,h2,h3⟩:=mt.to i x (by rw[Ab_];show hi) (by rw[Aa_ hi,ei]);obtain⟨a2,b2,g1,g2,g3⟩:=mt.to j y (by rw[Ab_];show hj) (by rw[Aa_ hj,ej]);rw[hn]at h1;cases h1;show⟨h2,λe=>?_⟩;rw[e]at g1;cases g1;rw[h3]at g3;cases g3;rfl
abbrev FI_:Stmt:=stN 44
theorem jY_:ZL ["net"] ["net"] (EO_ FI_):=zL
theorem e2_:LK FI_ "lens_of" .globalImplicit:=r_
def HF_:Sp:=λvs H Q _=>∃(v:V)(N:Net Str),vs=[v]/\Rep H v (FT_ N)/\E0_ N/\ES_ N/\∀b H' lns,EL_ H H'->Gm_ N lns->(b=true↔¬ IV_ (wsL lns))->Q (.bl b) H'
theorem jZ_(T:Txt K mg)(F:Fn0 K mg "is_lean" FI_) (H2_:Cal P w K mg base "lens_of" ["net"] 7 HI_):Cal P w K mg base "is_lean" ["net"] 8 HF_:=by
  show aY_ F jY_.1 λf cdv A outer s H vs Q E hr h=>?_;obtain⟨v,N,rfl,hv,ok,po,k⟩:=h;refine'⟨_,?D,?R⟩
  case D =>refine' ah_ (aF_ (nD_ (ms_ (ao_ H2_ (hr.mono d_) e2_ (pa_c (zv 0 jY_) ab_)))))
  case R =>
   nofun;show⟨_,N,rfl,hv,ok,po,λr H' lns s' hl hr=>?_⟩;show k _ H' lns s' hl ?_;rw[CJ_]
   rcases hr with⟨rfl,h⟩|⟨h,⟨q,_,_,rfl,_⟩|⟨q,_,_,_,_,rfl,_⟩⟩
   .show⟨λ_=>h,λ_=>rfl⟩
   .show⟨(λz=>nomatch z),λz=>absurd h z⟩
   .show⟨(λz=>nomatch z),λz=>absurd h z⟩
theorem io_(ok:E0_ N)(po:ES_ N)(ln:LnN N)(h:Gm_ N lns):¬ IV_ (wsL lns):=by
 have tw:=fr_ ok po;have two:=h.two tw;obtain⟨at_,mf,li⟩:=ln;obtain⟨O,L,us,lf⟩:=id h;have e1:wsL lns=(O.map λt=>wiL (trn N) (Pn N) t.2.2)++us:=by rw[lf.eq];unfold wsL opD clD;rw[Aq_,AP_,AP_];show congrArg _ ((A0_ λ_ _=>rfl).trans (Ef_ _))
 have inT:∀x∈(wsL lns).flatten,x∈(trn N).flatten:=λx hx=>by
  obtain⟨m,hm,hx'⟩:=Bm_.mp (lf.flat.mem_iff.mp hx);obtain⟨l,hl,rfl⟩:=An_.mp hm;obtain⟨s,hs,hw⟩:=BY_.mp hx'
  have sc:IsC (trn N) (Pn N) s.1:=(lf.all s.1).mpr (by
   rcases Ap_.mp hl with z|z
   .obtain⟨t,ht,rfl⟩:=An_.mp z;show AN_ _ (f1_.mpr ⟨t,ht,bU_.mpr ⟨s,hs,rfl⟩⟩)
   .show AO_ _ (Bm_.mpr ⟨_,An_.mpr ⟨l,z,rfl⟩,bU_.mpr ⟨s,hs,rfl⟩⟩))
  obtain⟨e,he,_⟩:=jj_ sc hw;show hK_ he
 have at_O:∀p,p<2*Pn N->∃(i:Nat)(t:Nat×Nat×List Sd),O[i]?=some t/\(wsL lns)[i]?=some (wiL (trn N) (Pn N) t.2.2)/\t.1<2*Pn N/\at_ t.1=at_ p:=λp hp=>by
  obtain⟨l,j,k,_,hm⟩:=lf.op.covers tw hp;obtain⟨l',y',k',ea,_⟩:=li.ln p hp;obtain⟨_,rfl⟩:=k'.one tw k;have fin:∀t∈O,∃i:Nat,O[i]?=some t/\(wsL lns)[i]?=some (wiL (trn N) (Pn N) t.2.2):=λt ht=>by obtain⟨i,hi⟩:=Ba_.mp ht;show⟨i,hi,?_⟩;rw[e1,Ao_ (by rw[Ab_];show(Ad_.mp hi).1),Ae_,hi];rfl
  rcases hm with hm|hm
  .obtain⟨i,h1,h2⟩:=fin _ hm;show⟨i,_,h1,h2,hp,rfl⟩
  .obtain⟨i,h1,h2⟩:=fin _ hm;show⟨i,_,h1,h2,k.jl,ea.symm⟩
 have wires:∀{i:Nat}{t:Nat×Nat×List Sd},O[i]?=some t->∀x,x∈wiL (trn N) (Pn N) t.2.2↔(x∈(trn N).flatten/\(at_ t.1=(mf x).1\/at_ t.1=(mf x).2)):=λ{i t} hi x=>by obtain⟨z1,z2,z3⟩:=lf.op.in_ t (Ai_ hi);obtain⟨l',y',k',_,_,iff⟩:=li.ln t.1 z1;obtain⟨e,_⟩:=k'.one tw z3;rw[<-e];show iff x
 have key:∀v∈(wsL lns).flatten,∃(i k:Nat)(t u:Nat×Nat×List Sd),O[i]?=some t/\O[k]?=some u/\at_ t.1=(mf v).1/\at_ u.1=(mf v).2/\i≠k/\i∈nums 0 (wsL lns) v/\k∈nums 0 (wsL lns) v:=λv hv=>by
  have hvT:=inT v hv;obtain⟨x,y,hx,hy,ex,ey⟩:=li.ex v hvT;obtain⟨i,t,h1,h2,h3,h4⟩:=at_O x hx;obtain⟨k,u,g1,g2,g3,g4⟩:=at_O y hy;have a1:at_ t.1=(mf v).1:=h4.trans ex;have a2:at_ u.1=(mf v).2:=g4.trans ey;have lt:=li.lt v hvT;have ne:i≠k:=λz=>by rw[z,g1]at h1;cases h1;lia
  show⟨i,k,t,u,h1,g1,a1,a2,ne,AM_.mp ?_,AM_.mp ?_⟩
  .rw[bH_,da_ h2];show AM_.mpr ((wires h1 v).mpr ⟨hvT,.inl a1⟩)
  .rw[bH_,da_ g2];show AM_.mpr ((wires g1 v).mpr ⟨hvT,.inr a2⟩)
 have numO:∀w∈(wsL lns).flatten,∀{i:Nat}{t:Nat×Nat×List Sd},O[i]?=some t->i∈nums 0 (wsL lns) w->at_ t.1=(mf w).1\/at_ t.1=(mf w).2:=λw hw {i t} hi hn=>by
  have c:=AM_.mpr hn;rw[bH_]at c;have e:(wsL lns)[i]?=some (wiL (trn N) (Pn N) t.2.2):=by rw[e1,Ao_ (by rw[Ab_];show(Ad_.mp hi).1),Ae_,hi];rfl
  rw[da_ e]at c;show((wires hi w).mp (AM_.mp c)).2
 show k9_ two λv hv w hw a b hn=>?_;obtain⟨i,k,t,u,h1,h2,h3,h4,ne,m1,m2⟩:=key v hv;rw[hn]at m1 m2;simp only[As_,AR_,CC_]at m1 m2;show⟨λz=>o_,λhnw=>?_⟩;have n1:=numO w hw h1 (by rw[hnw];simp only[As_,AR_,CC_];show m1);have n2:=numO w hw h2 (by rw[hnw];simp only[As_,AR_,CC_];show m2);have l1:=li.lt v (inT v hv);have l2:=li.lt w (inT w hw);show li.inj v (inT v hv) w (inT w hw) (BD_ ?_ ?_) <;> lia
abbrev Fv_:Stmt:=stN 92
theorem e3_:ZL ["_law_script","_law_at","_law_big_here","_law_most"] ["_law_script","_law_at"] (EO_ Fv_):=zL
theorem d2_:LK Fv_ "_law_big" .globalImplicit:=r_
theorem e4_:LK Fv_ "_law_lean_by" .globalImplicit:=r_
def Hg_(K:PySem.W.Frag):Sp:=λvs H Q _=>∃(a:Addr)(ns:List Int),vs=[.ref a,.int 0]/\SqL K H a (ns.map V.int)/\∀v (N:Net Str) H',EL_ H H'->Rep H' v (FT_ N)->E0_ N->ES_ N->LnN N->Q v H'
theorem lB_(T:Txt K mg)(F:Fn0 K mg "_law_drawn" Fv_) (Is_:Cal P w K mg base "_law_big" ["_law_script","_law_at"] 2 (Im_ K)) (Hq_:Cal P w K mg base "_law_lean_by" ["_law_big_here","_law_many","_law_most","_law_stem"] 3 HK_):Cal P w K mg base "_law_drawn" ["_law_script","_law_at"] 4 (Hg_ K):=by
  show aY_ F e3_.1 λf cdv A outer s H vs Q E hr h=>?_;obtain⟨a,ns,rfl,hS,k⟩:=h;refine'⟨_,?D,?R⟩
  case D =>
   refine' ac_ (zas 2 e3_ (ao_ Is_ (hr.mono d_) d2_ (pa_c (zv 0 e3_) (pa_c (zv 1 e3_) ab_)))) ?a
   case' a=>refine' ac_ (zas 3 e3_ (EQ_ aN_ (EQ_ aq_ (zv 2 e3_) ad_) ad_)) ?b
   case' b=>refine' ac_ (es_ (FH_ (aG_ GD_ (EQ_ aN_ (EQ_ aq_ (zv 2 e3_) ad_) ad_) ad_ (Fc_ _)) (ah_ (zas 3 e3_ ad_)) a4_)) ?c
   case' c=>refine' ah_ (aF_ (ao_ Hq_ (hr.mono d_) e4_ (pa_c (EQ_ aq_ (zv 2 e3_) ad_) (pa_c (EQ_ a5_ ad_ (EQ_ aN_ (zv 2 e3_) ad_)) ?d))))
   case' d=>refine' pa_c (zv 3 e3_) (pa_c (EQ_ aN_ (ao_ Is_ (hr.mono d_) d2_ (pa_c (zv 0 e3_) (pa_c (EQ_ a5_ (zv 1 e3_) ad_) ab_))) (EQ_ kc_ ad_ ad_)) ab_)
  case R =>
   nofun;show⟨a,ns,0,rfl,d_,hS,λz0 H0 s0=>?_⟩;nofun;show⟨d_,r_,d_,λσ Hx=>∃mo:Nat,σ=[some (.ref a),some (.int 0),some (.int z0),some (.int mo)]/\Hx=H0/\mo<=15,?_,?_⟩
   .nofun;have a1:=A2_ (z0/6) (show(9:Int)≠0 by decide);have a2:=AZ_ (z0/6) (show(0:Int)<9 by decide);show⟨d_,r_,d_,ite2 (λ_=>⟨15,rfl,d_⟩) (λ_=>⟨(z0/6%9).toNat,o_,o_⟩)⟩
   rintro σ Hx ⟨mo,rfl,rfl,mo16⟩;nofun;show⟨d_,r_,d_,a,ns,_,rfl,d_,s0.seq hS,λz1 H1 s1=>?_⟩;nofun;have b1:=A2_ z0 (show(6:Int)≠0 by decide);have b2:=AZ_ z0 (show(0:Int)<6 by decide);show⟨d_,d_,d_,d_,?_⟩;show⟨_,_,(1+z0%6).toNat,mo,by rw[show(((1+z0%6).toNat:Nat):Int)=1+z0%6 by lia],o_,o_,mo16,λv N H2 s2 rep ok po ln=>k v N H2 (s0.trans (s1.trans s2)) rep ok po ln⟩
def Jr_(B H:Hp)(v:V)(N:Net Str):Prop:=∃(pe c0 D c2:Addr)(rs ys:List V),v=.ref pe/\H pe=some (.tup [.ref c0,.ref D,.ref c2])/\B c0=none/\B D=none/\B c2=none/\H c2=some (.lst ys)/\H c0=some (.lst (N.posts.map V.str))/\H D=some (.lst rs)/\rs.length=N.rows.length/\(∀(i:Nat) x,rs[i]?=some x->∃(q l:Addr)(r:Str×List Str),x=.ref q/\H q=some (.tup [.str r.1,.ref l])/\H l=some (.lst (r.2.map V.str))/\r.2.length<=30/\B l=none/\l≠D)/\Rep H v (FT_ N)
theorem Jr_.mono{B':Hp}{v:V}(h:Jr_ B H v N)(sB:EL_ B' B)(s:EL_ H H'):Jr_ B' H' v N:=by obtain⟨pe,c0,D,c2,rs,ys,e,h1,b1,b2,b3,h2,h3,h4,h5,h6,h7⟩:=h;show⟨pe,c0,D,c2,rs,ys,e,s _ _ h1,sB.free b1,sB.free b2,sB.free b3,s _ _ h2,s _ _ h3,s _ _ h4,h5,λi x hx=>?_,Rep.mono s _ h7⟩;obtain⟨q,l,r,g1,g2,g3,g4,g5,g6⟩:=h6 i x hx;show⟨q,l,r,g1,s _ _ g2,s _ _ g3,g4,sB.free g5,g6⟩
abbrev FM_:Stmt:=stN 80
theorem lC_:ZL ["net"] ["net"] (EO_ FM_):=zL
theorem d3_:LK FM_ "list" .globalImplicit:=r_
def Gv_:Sp:=λvs H Q _=>∃(v:V)(N:Net Str),vs=[v]/\Rep H v (FT_ N)/\E0_ N/\∀v' H',EL_ H H'->Jr_ H H' v' N->Q v' H'
theorem lD_(T:Txt K mg)(F:Fn0 K mg "copied" FM_):Cal P w K mg base "copied" ["net"] 1 Gv_:=by
  show aY_ F lC_.1 λf cdv A outer s H vs Q E hr h=>?_;obtain⟨v,N,rfl,hv,ok,k⟩:=h;obtain⟨pn,p0,p1,p2,rs,ws,rfl,hn,h0,h1,r1,h2,r2⟩:=eg_ hv;have rl:rs.length=N.rows.length:=by rw[r1.length,Ab_]
  have few:=ok.few;refine'⟨_,?D,?R⟩
  case D =>
   refine' ah_ (aF_ (ap_ (pa_c (b3_ b8_ d3_ T.n_list c5_ (pa_c (EU_ ak_ (zv 0 lC_) ad_) ab_)) ?a)))
   case' a=>refine' pa_c ?b (pa_c (b3_ b8_ d3_ T.n_list c5_ (pa_c (EU_ ak_ (zv 0 lC_) ad_) ab_)) ab_)
   case' b=>refine' e5_ (N':=["point","wires"]) (ix:=[none,none]) rfl rfl (eu_ ?c) (aT_ (K:=K) rfl (EU_ ak_ (zv 0 lC_) ad_)) (λ_ _ _=>(by_ (K:=K) (n:=2) rfl rfl (an_ ?d (an_ ?e bw_)))) (λ_ _ _=>?f) (λ_ _ _=>?g)
   case c=>show(by change HC_ (EO_ FM_) ["net"] _ _ _=true;decide +kernel)
   case d=>show ai_ (i:=0) (by change List.Nodup (["point","wires"]:List Str);decide +kernel) rfl rfl
   case e=>show ai_ (i:=1) (by change List.Nodup (["point","wires"]:List Str);decide +kernel) rfl rfl
   case f=>show fP_
   case' g=>refine' ap_ (pa_c (pv1 0 rfl rfl) (pa_c (b3_ b8_ rfl T.n_list c5_ (pa_c (pv1 1 rfl rfl) ab_)) ab_))
  case R =>
   nofun;show⟨_,hn,_,Fy_,p0,rfl,_,.inl h0,λc0 n0=>?_⟩;have S1:EL_ H (upd H c0 (HO.lst (N.posts.map V.str))):=EL_.new n0;have hc0:=aa_ (H:=H) (a:=c0) (o:=HO.lst (N.posts.map V.str));generalize upd H c0 (HO.lst (N.posts.map V.str))=H1 at*;show⟨_,S1 _ _ hn,_,FA_,p1,rfl,⟨_,.inl (.inl (S1 _ _ h1))⟩,?_⟩;have h11:=S1 _ _ h1;show ev_ (n:=N.rows.length) (B:=H1) (Pσ:=λσ=>∃e e',σ=[e,e']) (ds:=N.rows.map dRw) (EL_.refl _) ⟨_,_,rfl⟩ s_ o_ (λi H' hi s'=>⟨rs,rs[i]'o_,.inl (.inl (s' _ _ h11)),Aa_ _⟩) (λH' s'=>⟨rs,.inl (.inl (s' _ _ h11)),o_⟩) ?_ ?_
   .rintro D i x d σ' H2 H2' hD hDo hs2 hi hdi ⟨rfl,hy⟩ ⟨e,e',rfl⟩ R kR;obtain⟨od,hDo⟩:=hDo;have hx:=hy _ (.inl (.inl (hs2 _ _ h11)));obtain⟨r,q,l,hr1,rfl,hq,hl⟩:=dO_ r1 hx;have s12:=S1.trans hs2;have hd:d=dRw r:=by rw[Ae_,hr1]at hdi;show(Ar_ hdi).symm
    nofun;show⟨_,SqT.of (s12 _ _ hq),rfl,_,_,rfl,_,_,rfl,rfl,l,rfl,_,.inl (s12 _ _ hl),λc1 n1=>⟨d_,λc2 n2=>?_⟩⟩;have c1D:c1≠D:=(ag_ hDo n1).symm;have c2D:c2≠D:=(ag_ ((EL_.new n1 (o:=HO.lst (r.2.map V.str))) _ _ hDo) n2).symm;show kR _ _ _ ⟨_,_,rfl⟩ ((EL_.new n1).trans (EL_.new n2)) ?_;rw[hd];show⟨c2,_,rfl,by rw[c8_ c2D (hs2.free ((EL_.new n1).free n2))];show aa_,_,_,rfl,rfl,_,_,rfl,⟨c1,_,rfl,by rw[c8_ c1D (hs2.free n1)];show(EL_.new n2) _ _ aa_,bf_ _⟩,rfl⟩
   .intro D H2 hD s2 rep2;have s02:=S1.trans s2;show⟨_,s02 _ _ hn,_,Ho_,p2,rfl,_,.inl (s02 _ _ h2),λc2 n2=>⟨d_,λpe ne=>?_⟩⟩;have S3:=EL_.new n2 (o:=HO.lst ws);have S4:=EL_.new ne (o:=HO.tup [V.ref c0,V.ref D,V.ref c2]);have S24:=S3.trans S4;obtain⟨_,us,e0,hDn,hus⟩:=id rep2;cases e0;have hD2:=(bZ_ hDn).2;show k _ _ (s02.trans S24) ⟨pe,c0,D,c2,us,ws,rfl,aa_,n0,S1.free hD,s02.free n2,S4 _ _ aa_,(s2.trans S24) _ _ hc0,S24 _ _ hD2,by rw[hus.length,Ab_],λi x hx=>?_,⟨pe,_,rfl,aa_,_,_,rfl,⟨c0,_,rfl,(s2.trans S24) _ _ hc0,bf_ _⟩,_,_,rfl,Rep.mono (fR_.trans S24) _ rep2,_,_,rfl,⟨c2,ws,rfl,S4 _ _ aa_,Fk_.mono (s02.trans S24) _ r2⟩,rfl⟩⟩;obtain⟨r,q,l,hr1,e,hq,hl⟩:=dO_ hus hx;obtain⟨l1,l2⟩:=bZ_ hl;show⟨q,l,r,e,S24 _ _ (bZ_ hq).2,S24 _ _ l2,?_,S1.free l1,λz=>?_⟩
    .have:=(Cz_ (An_.mpr ⟨r,Ai_ hr1,rfl⟩:r.2∈N.rows.map (·.2))).length_le;show AT_ this ok.tot
    .rw[z,hDn]at hl;cases hl;rw[Ae_]at hx;cases z2:r.2[i]? with
     |none=>rw[z2]at hx;cases hx
     |some y=>rw[z2]at hx;rw[e]at hx;cases hx
abbrev Ff_:Stmt:=stN 81
theorem dI_:ZM ["net","steps","left","step"] ["net"] (EO_ Ff_):=zM
theorem d4_:LK Ff_ "steps" .local:=r_
theorem cO_:LK Ff_ "left" .local:=r_
theorem en_:LK Ff_ "copied" .globalImplicit:=r_
theorem dT_:LK Ff_ "is_lean" .globalImplicit:=r_
def HQ_:Sp:=λvs H Q _=>∃(v:V)(N:Net Str),vs=[v]/\Rep H v (FT_ N)/\E0_ N/\ES_ N/\LnN N/\∀t sl v' H',EL_ H H'->H' t=some (.tup [.ref sl,v'])->H' sl=some (.lst [])->H sl=none->Jr_ H H' v' N->Q (.ref t) H'
theorem ip_(T:Txt K mg)(F:Fn0 K mg "made_lean" Ff_) (Id_:Cal P w K mg base "copied" ["net"] 1 Gv_) (F9_:Cal P w K mg base "is_lean" ["net"] 8 HF_):Cal P w K mg base "made_lean" ["net"] 9 HQ_:=by
  show aY_ F dI_.1 λf cdv A outer s H vs Q E hr h=>?_;obtain⟨v,N,rfl,hv,ok,po,ln,k⟩:=h;refine'⟨_,?D,?R⟩
  case D =>
   refine' ac_ (af_ (i:=1) dI_.nd rfl d4_ (bx_ ab_)) (ac_ (af_ (i:=2) dI_.nd rfl cO_ (ao_ Id_ (hr.mono d_) en_ (pa_c (zw 0 dI_) ab_))) ?a)
   case' a=>refine' ac_ (ep_ AI_ (j5_ (i4_ (ao_ F9_ (hr.mono d_) dT_ (pa_c (zw 2 dI_) ab_)))) ?b) ?c
   case b=>show j6_
   case' c=>refine' ah_ (aF_ (ap_ (pa_c (zw 1 dI_) (pa_c (zw 2 dI_) ab_))))
  case R =>nofun;show⟨AB_ _,λp np=>?_⟩;have S1:=EL_.new np (o:=HO.lst []);have hp:=aa_ (H:=H) (a:=p) (o:=HO.lst []);generalize upd H p (HO.lst [])=H1 at*;show⟨v,N,rfl,Rep.mono S1 _ hv,ok,λv2 H2 s2 nf=>?_⟩;show fJ_ (λσ Hx=>σ=[some v,some (.ref p),some v2,none]/\Hx=H2) (λ_ _=>0) ⟨rfl,rfl⟩ ?_;rintro σ Hx ⟨rfl,rfl⟩;obtain⟨pe,c0,D,c2,rs,ys,e,g1,b1,b2,b3,g2,g3,g4,g5,g6,g7⟩:=id nf;nofun;show⟨v2,N,rfl,g7,ok,po,λb H3 lns s3 hl hb=>?_⟩;have hb':b=true:=hb.mpr (io_ ok po ln hl);subst hb';show⟨true,rfl,?_⟩;rw[if_neg d_];show⟨d_,λt nt=>k t p v2 _ (((S1.trans s2).trans s3).trans (EL_.new nt)) aa_ ((EL_.new nt) _ _ (s3 _ _ (s2 _ _ hp))) np (nf.mono S1 (s3.trans (EL_.new nt)))⟩
structure WF(B H:Hp)(t sl pe c0 D c2:Addr)(rs:List V)(n:Nat):Prop where
 sB:EL_ B H
 ht:H t=some (.tup [.ref sl,.ref pe])
 hpe:H pe=some (.tup [.ref c0,.ref D,.ref c2])
 hD:H D=some (.lst rs)
 h0:∃ys,H c0=some (.lst ys)/\ys.length<=100+n
 h2:∃ys,H c2=some (.lst ys)/\ys.length<=100+n
 hr:∀(i:Nat) x,rs[i]?=some x->∃(q l:Addr)(s:Str),x=.ref q/\H q=some (.tup [.str s,.ref l])/\(∃ys,H l=some (.lst ys)/\ys.length<=100+n)/\B l=none/\l≠D
theorem WF.same{t sl pe c0 D c2:Addr}{n:Nat}(h:WF B H t sl pe c0 D c2 rs n)(s:EL_ H H'):WF B H' t sl pe c0 D c2 rs n:=by obtain⟨y0,a1,a2⟩:=h.h0;obtain⟨y2,b1,b2⟩:=h.h2;show⟨h.sB.trans s,s _ _ h.ht,s _ _ h.hpe,s _ _ h.hD,⟨y0,s _ _ a1,a2⟩,⟨y2,s _ _ b1,b2⟩,λi x hx=>?_⟩;obtain⟨q,l,z,e,g1,⟨y,g2,g3⟩,g4⟩:=h.hr i x hx;show⟨q,l,z,e,s _ _ g1,⟨y,s _ _ g2,g3⟩,g4⟩
theorem WF.put{t sl pe c0 D c2:Addr}{n:Nat}(h:WF B H t sl pe c0 D c2 rs n){l:Addr}{ys ys':List V}(hl:H l=some (.lst ys))(bl:B l=none)(lD:l≠D)(hy:ys'.length<=100+(n+1)):WF B (upd H l (.lst ys')) t sl pe c0 D c2 rs (n+1):=by
 have tup:∀{b:Addr}{xs:List V},H b=some (.tup xs)->upd H l (.lst ys') b=some (.tup xs):=λ{b xs} hb=>by rw[ae_ (λz=>by rw[z,hl]at hb;cases hb)];show hb
 have lst:∀{b:Addr},(∃zs,H b=some (.lst zs)/\zs.length<=100+n)->∃zs,upd H l (.lst ys') b=some (.lst zs)/\zs.length<=100+(n+1):=λ{b} ⟨zs,h1,h2⟩=>by
  by_cases c:b=l
  .subst c;show⟨ys',aa_,hy⟩
  .show⟨zs,by rw[ae_ c];show h1,o_⟩
 show⟨h.sB.upd bl,tup h.ht,tup h.hpe,by rw[ae_ lD.symm];show h.hD,lst h.h0,lst h.h2,λi x hx=>?_⟩;obtain⟨q,l',z,e,g1,g2,g3,g4⟩:=h.hr i x hx;show⟨q,l',z,e,tup g1,lst g2,g3,g4⟩
abbrev FN_:Stmt:=stN 93
theorem iq_:ZL ["_law_script","_law_net","_law_handed","_law_found","_law_row"] ["_law_script"] (EO_ FN_):=zL
theorem ir_:LK FN_ "_law_copy" .globalImplicit:=r_
theorem hs_:LK FN_ "_law_drawn" .globalImplicit:=r_
theorem gA_:LK FN_ "is_lean" .globalImplicit:=r_
theorem c4_:LK FN_ "isinstance" .globalImplicit:=r_
theorem j0_:LK FN_ "len" .globalImplicit:=r_
theorem i2_:LK FN_ "list" .globalImplicit:=r_
theorem dp_:LK FN_ "made_lean" .globalImplicit:=r_
theorem is_:LK FN_ "tuple" .globalImplicit:=r_
def Hf_(K:PySem.W.Frag):Sp:=λvs H Q _=>∃(a:Addr)(ns:List Int),vs=[.ref a]/\SqL K H a (ns.map V.int)/\∀H',Q (.bl true) H'
theorem oi_{f:Addr}{fd:FuncData}(T:Txt K mg)(F:Fun K "law" "law" FN_ f fd) (Ie_:Cal P w K mg base "_law_drawn" ["_law_script","_law_at"] 4 (Hg_ K)) (I6_:Cal P w K mg base "_law_copy" ["_law_net"] 1 HB_) (Ga_:Cal P w K mg base "made_lean" ["net"] 9 HQ_) (F9_:Cal P w K mg base "is_lean" ["net"] 8 HF_):H5_ P w K mg base CX0 10 f fd ["_law_script"] (Hf_ K):=by
 show F.ok iq_.1 (λvs H Q E h=>by obtain⟨a,ns,rfl,_⟩:=h;rfl) ?_;intro cdv A outer s H vs Q E hr h;obtain⟨a,ns,rfl,hS,k⟩:=h;refine'⟨_,?D,?R⟩
 case D =>
  refine' ac_ (zas 1 iq_ (ao_ Ie_ (hr.mono d_) hs_ (pa_c (zv 0 iq_) (pa_c ad_ ab_)))) ?a
  case' a=>refine' ac_ (zas 2 iq_ (ao_ I6_ (hr.mono d_) ir_ (pa_c (zv 1 iq_) ab_))) (ac_ (zas 3 iq_ (ao_ Ga_ (hr.mono d_) dp_ (pa_c (zv 2 iq_) ab_))) ?b)
  case' b=>refine' ac_ (FH_ ?c (ah_ (aF_ F2_)) a4_) (ac_ (FH_ ?d (ah_ (aF_ F2_)) a4_) ?e)
  case' c=>refine' PW.pt (HZ_ ?f (HZ_ (aG_ I4_ (as_ aO_ j0_ T.n_len cb_ (pa_c (zv 3 iq_) ab_)) ad_ (Fc_ _)) ?g))
  case' f=>refine' j5_ (i4_ (as_ i9_ c4_ T.n_isinstance et_ (pa_c (zv 3 iq_) (pa_c ?h ab_))))
  case h=>show mB_ is_ T.n_tuple lP_
  case' g=>refine' HZ_ (aG_ (jc_ (hr.units)) (EU_ ak_ (zv 3 iq_) ad_) (bx_ ab_) (Fc_ _)) (mt_ (aG_ (jc_ (hr.units)) (zv 2 iq_) (zv 1 iq_) (Fc_ _)))
  case' d=>refine' PW.pt (HZ_ (j5_ (i4_ (as_ i9_ c4_ T.n_isinstance et_ (pa_c (EU_ ak_ (zv 3 iq_) ad_) (pa_c ?i ab_))))) ?j)
  case i=>show mB_ i2_ T.n_list c5_
  case' j=>refine' HZ_ (aG_ (jc_ (hr.units)) (EU_ ak_ (zv 3 iq_) ad_) (zv 1 iq_) (Fc_ _)) (mt_ (aG_ ld_ (ao_ F9_ (hr.mono d_) gA_ (pa_c (zv 2 iq_) ab_)) F2_ (Fc_ _)))
  case' e=>refine' ac_ ?k (ac_ (bq_ AI_ rfl (aT_ (K:=K) rfl (EU_ ak_ (EU_ ak_ (zv 3 iq_) ad_) ad_)) ?l ?m) ?n)
  case' k=>refine' au_ (Ft_ AA_ AC_ AD_ aw_ (EU_ ak_ (zv 3 iq_) ad_) (pa_c (ap_ (pa_c gB_ (pa_c gB_ ab_))) ab_))
  case l=>show zh 4 iq_
  case' m=>refine' ah_ (au_ (Ft_ AA_ AC_ AD_ aw_ (EU_ ak_ (zv 4 iq_) ad_) (pa_c gB_ ab_)))
  case' n=>refine' ac_ (au_ (Ft_ AA_ AC_ AD_ aw_ (EU_ ak_ (EU_ ak_ (zv 3 iq_) ad_) ad_) (pa_c gB_ ab_))) ?o
  case' o=>refine' ac_ (au_ (nL_ AA_ PySem.F.slot_list_clear PySem.F.type_list_clear lM_ (EU_ ak_ (EU_ ak_ (zv 3 iq_) ad_) ad_))) ?p
  case' p=>refine' ah_ (aF_ (mv_ (gR_ (jb_ (hr.units)) (zv 2 iq_) (zv 1 iq_) (Fc_ _)) ?q))
  case' q=>refine' mu_ (gR_ (jb_ (hr.units)) (ao_ Ga_ (hr.mono d_) dp_ (pa_c (zv 2 iq_) ab_)) (ap_ (pa_c (bx_ ab_) (pa_c (zv 1 iq_) ab_))) (Fc_ _))
 case R =>
  nofun;show⟨a,ns,rfl,hS,λv N H1 s1 rep1 ok po ln=>?_⟩;show⟨v,N,rfl,rep1,ok,λv2 H2 s2 rep2=>?_⟩;have rep12:=Rep.mono s2 _ rep1;show⟨v2,N,rfl,rep2,ok,po,ln,λt sl v3 H3 s3 ht hsl nsl nf=>?_⟩;obtain⟨pe,c0,D,c2,rs,ys,rfl,g1,b1,b2,b3,g2,g3,g4,g5,g6,g7⟩:=id nf;nofun;obtain⟨pv,_,ev,_⟩:=id rep1;subst ev;obtain⟨pv2,_,ev,_⟩:=id rep2;subst ev;show⟨"tuple",by simp[GQ_,ht],?_⟩;rw[if_neg d_];show⟨_,.inr ht,?_⟩;rw[if_neg s_];show⟨_,ht,_,Fy_,AB_ _,λp np=>?_⟩;have S4:=EL_.new np (o:=HO.lst []);have hp4:=aa_ (H:=H3) (a:=p) (o:=HO.lst []);generalize upd H3 p (HO.lst [])=H4 at*;show⟨sl,rfl,.lst [],⟨sl,[],rfl,S4 _ _ hsl,rfl⟩,.lst [],⟨p,[],rfl,hp4,rfl⟩,true,d_,d_,?_⟩;rw[if_neg d_];have S24:=s3.trans S4;show⟨pv2,rfl,pv,rfl,FT_ N,Rep.mono S24 _ rep2,FT_ N,Rep.mono S24 _ rep12,true,eR_ _,AT_ (hl_ N) d_,?_⟩;rw[if_neg d_];have ht4:=S4 _ _ ht;have hsl4:=S4 _ _ hsl;show⟨_,ht4,_,Fy_,"list",by simp[GQ_,hsl4],?_⟩;rw[if_neg d_];show⟨_,ht4,_,FA_,pe,rfl,pv,rfl,FT_ N,Rep.mono S4 _ g7,FT_ N,Rep.mono S24 _ rep12,true,eR_ _,AT_ (hl_ N) d_,?_⟩;rw[if_neg d_];show⟨_,N,rfl,Rep.mono S24 _ rep2,ok,po,λb H5 lns s5 hl hb=>?_⟩;have hb':b=true:=hb.mpr (io_ ok po ln hl);subst hb';show⟨true,rfl,rfl,false,rfl,?_⟩;rw[if_neg d_];have S35:=S4.trans s5;have ht5:=S35 _ _ ht;have hsl5:=S35 _ _ hsl;have few:=ok.few;have r0:0<rs.length:=by rw[g5];have h1:=m5_ ok po;have h2:=po.p0;unfold pts at h1;rw[Af_]at h1;lia
  have W3:WF H2 H3 t sl pe c0 D c2 rs 0:=by
   show⟨s3,ht,g1,g4,⟨_,g3,by rw[Ab_];have:=ok.pl;lia⟩,⟨ys,g2,?_⟩,λi x hx=>?_⟩
   .obtain⟨pz,_,e0,hz,u0,_,rfl,q0,u1,_,rfl,q1,u2,_,rfl,q2,rfl⟩:=g7;cases e0;rw[g1]at hz;cases hz;obtain⟨_,zs,e9,hz9,rz9⟩:=q2;cases e9;rw[g2]at hz9;cases hz9;rw[rz9.length,Ab_];have:=ok.wl;lia
   .obtain⟨q,l,r,e,a1,a2,a3,a4,a5⟩:=g6 i x hx;show⟨q,l,r.1,e,a1,⟨_,a2,by rw[Ab_];lia⟩,a4,a5⟩
  have slD:sl≠D:=λz=>by rw[z,g4]at hsl;cases hsl;simp at r0
  show⟨_,ht5,_,Fy_,.inl ⟨_,.inl (.inl hsl5)⟩,d_,λp6 np6=>?_⟩;have S56:=EL_.new np6 (o:=HO.tup [V.str (Str.ofString "loop"),V.str (Str.ofString "a")]);have W6:=W3.same (S35.trans S56);have hsl6:=S56 _ _ hsl5;generalize upd H5 p6 (HO.tup [V.str (Str.ofString "loop"),V.str (Str.ofString "a")])=H6 at*;have W7:=W6.put hsl6 nsl slD (ys':=[]++[V.ref p6]) s_;show⟨sl,rfl,_,hsl6,d_,_,W7.ht,_,FA_,pe,rfl,_,W7.hpe,_,FA_,D,rfl,⟨_,.inl (.inl W7.hD)⟩,?_⟩;generalize upd H6 sl (HO.lst ([]++[V.ref p6]))=H7 at*;show fK_ (xs:=rs) (λi σ Hx=>∃e4,σ=[some (V.ref a),some (V.ref pv),some (V.ref pv2),some (V.ref t),e4]/\WF H2 Hx t sl pe c0 D c2 rs (1+i)) ⟨none,rfl,W7⟩ ?_ ?_ ?_
  .rintro i σ Hx hi ⟨e4,rfl,W⟩;show .inl (.inl W.hD)
  .rintro i x σ Hx hx ⟨e4,rfl,W⟩;obtain⟨q,l,z,rfl,a1,⟨zs,a2,a3⟩,a4,a5⟩:=W.hr i x hx;have il:=(Ad_.mp hx).1;nofun;show⟨_,a1,_,FA_,.inl ⟨_,.inl (.inl a2)⟩,l,rfl,zs,a2,EN_ o_,?_⟩;show W.put a2 a4 a5 (by rw[Af_];change zs.length+1<=_;lia)
  .rintro σ Hx ⟨e4,rfl,W⟩;obtain⟨z0,d1,d2⟩:=W.h0;nofun;show⟨_,W.ht,_,FA_,pe,rfl,_,W.hpe,_,Fy_,.inl ⟨_,.inl (.inl d1)⟩,c0,rfl,z0,d1,EN_ o_,?_⟩;have tupA:∀{b:Addr}{xs:List V},Hx b=some (.tup xs)->upd Hx c0 (HO.lst (z0++[V.str (Str.ofString "a")])) b=some (.tup xs):=λ{b xs} hb=>by rw[ae_ (λz=>by rw[z,d1]at hb;cases hb)];show hb
   obtain⟨z2,f1⟩:∃zs,upd Hx c0 (HO.lst (z0++[V.str (Str.ofString "a")])) c2=some (.lst zs):=by
    by_cases c:c2=c0
    .rw[c];show⟨_,aa_⟩
    .obtain⟨zs,q1,_⟩:=W.h2;show⟨zs,by rw[ae_ c];show q1⟩
   have SA:=W.sB.upd b1 (o:=HO.lst (z0++[V.str (Str.ofString "a")]));have hA1:=tupA W.ht;have hA2:=tupA W.hpe;generalize upd Hx c0 (HO.lst (z0++[V.str (Str.ofString "a")]))=Ha at*;have SB:=SA.upd b3 (o:=HO.lst []);show⟨_,hA1,_,FA_,pe,rfl,_,hA2,_,Ho_,.inl ⟨_,.inl (.inl f1)⟩,c2,rfl,z2,f1,?_⟩;generalize upd Ha c2 (HO.lst [])=Hb at*;show⟨FT_ N,Rep.mono SB _ rep2,FT_ N,Rep.mono SB _ rep12,true,eR_ _,AT_ (hl_ N) d_,?_⟩;rw[if_pos rfl];show⟨_,N,rfl,Rep.mono SB _ rep2,ok,po,ln,λt' sl' v' Hc sc ht' hsl' nsl' nf'=>⟨d_,λp8 n8=>⟨d_,λp9 n9=>?_⟩⟩⟩;have S8:=EL_.new n8 (o:=HO.lst []);have h8:=aa_ (H:=Hc) (a:=p8) (o:=HO.lst []);generalize upd Hc p8 (HO.lst [])=Hd at*;have S9:=EL_.new n9 (o:=HO.tup [V.ref p8,V.ref pv]);have h9:=aa_ (H:=Hd) (a:=p9) (o:=HO.tup [V.ref p8,V.ref pv]);generalize upd Hd p9 (HO.tup [V.ref p8,V.ref pv])=He at*;have S89:=S8.trans S9;obtain⟨_,_,_,_,_,_,_,_,_,_,_,_,_,_,_,_,rv⟩:=nf';show⟨t',rfl,.tup [.lst [],FT_ N],⟨t',_,rfl,S89 _ _ ht',_,_,rfl,⟨sl',[],rfl,S89 _ _ hsl',rfl⟩,_,_,rfl,Rep.mono S89 _ rv,rfl⟩,.tup [.lst [],FT_ N],⟨p9,_,rfl,h9,_,_,rfl,⟨p8,[],rfl,S9 _ _ h8,rfl⟩,_,_,rfl,Rep.mono ((SB.trans sc).trans S89) _ rep12,rfl⟩,true,eR_ _,?_,k _⟩;have:=hl_ N;change max 1 (max (dep (FT_ N)) 0)+1<=60;lia
theorem oj_{l:PySem.W.OpenLaw}{fa:Addr}(hfa:mg "law"=some (.ref fa)) (T:Txt K mg)  (Ge_:Fn0 K mg "ends_by_wire" EZ_) (GG_:Fn0 K mg "other_ends" Fj_) (FX_:Fn0 K mg "corners_in_order" ER_) (If_:Fn0 K mg "turned" F5_) (FL_:Fn0 K mg "corners_behind_ends" EP_) (G0_:Fn0 K mg "goings_of" E2_) (G1_:Fn0 K mg "starts_of" E9_) (G2_:Fn0 K mg "gone_from" Fa_) (G3_:Fn0 K mg "trails_of" ET_) (Gq_:Fn0 K mg "least_round" EX_) (Hr_:Fn0 K mg "lines_of" E6_) (Gb_:Fn0 K mg "lines_by_wire" EW_) (H3_:Fn0 K mg "lens_of" Fh_) (H4_:Fn0 K mg "is_lean" FI_) (Ig_:Fn0 K mg "copied" FM_) (G4_:Fn0 K mg "made_lean" Ff_) (Hs_:Fn0 K mg "_law_cell_at" Fw_) (JN_:Fn0 K mg "_law_big" FC_) (Ih_:Fn0 K mg "_law_names" Fd_) (JO_:Fn0 K mg "_law_low" F3_) (G5_:Fn0 K mg "_law_worth_of" Fe_) (JP_:Fn0 K mg "_law_two" FP_) (Ii_:Fn0 K mg "_law_grown" Fr_) (Ht_:Fn0 K mg "_law_lean_by" EM_) (I7_:Fn0 K mg "_law_copy" FY_) (Ij_:Fn0 K mg "_law_drawn" Fv_) (KA_:Fn0 K mg "law" FN_):
  ∃fd:FuncData,(∀(s:Shared)(v:Value),BindsTo s fd ⟨[v],[]⟩ [("_law_script",v)])/\∀base:Heap,K.In base->base.Ns mainGlobals mg->H5_ l.prog w K mg base CX0 10 fa fd ["_law_script"] (Hf_ K):=by
 obtain⟨f,fd,FL,m⟩:=KA_;have e:=hfa.symm.trans m;cases e;show⟨fd,?_,λbase _ _=>?_⟩
 .obtain⟨oc,od,kV,doc,pm,an,cdv,ct,osl,rfl,lk,hcd⟩:=FL.ex;show λs v=>.of_eq rfl
 .have c1:=gp_ (P:=l.prog) (w:=w) (base:=base) T Ge_ ;have c2:=hm_ T GG_ c1;have c3:=eh_ (P:=l.prog) (w:=w) (base:=base) T FX_ ;have c4:=lt_ (P:=l.prog) (w:=w) (base:=base) T If_ ;have c5:=dq_ (P:=l.prog) (w:=w) (base:=base) T FL_ ;have c6:=ie_ T G0_ c5 c2;have c7:=if_ (P:=l.prog) (w:=w) (base:=base) T G1_ ;have c8:=ig_ (P:=l.prog) (w:=w) (base:=base) T G2_ ;have c9:=ii_ T G3_ c7 c6 c8 c4 c3;have c10:=gy_ (P:=l.prog) (w:=w) (base:=base) T Gq_ ;have c12:=i1_ T Hr_ c9 c10;have c13:=fx_ T Gb_ c12;have c14:=jX_ T H3_ c13;have c15:=jZ_ T H4_ c14;have c16:=lD_ (P:=l.prog) (w:=w) (base:=base) T Ig_ ;have c17:=ip_ T G4_ c16 c15;have d1:=iQ_ (P:=l.prog) (w:=w) (base:=base) T Hs_ ;have d2:=nk_ T JN_ d1;have d3:=lg_ (P:=l.prog) (w:=w) (base:=base) T Ih_ ;have d4:=nl_ (P:=l.prog) (w:=w) (base:=base) T JO_ ;have d5:=h7_ T G5_ d4;have d6:=np_ (P:=l.prog) (w:=w) (base:=base) T JP_ ;have d7:=lk_ (P:=l.prog) (w:=w) (base:=base) T Ii_ ;have d8:=iX_ T Ht_ d3 d6 d5 d7;have d9:=mm_ (P:=l.prog) (w:=w) (base:=base) T I7_ ;have d10:=lB_ T Ij_ d2 d8;show oi_ T FL d10 d9 c17 c15
theorem walk{l:PySem.W.OpenLaw}{q:Program}{loose:List Str}{XP:(Str->Option Value)->Heap->Prop}{YP:World->Heap->Prop}{d:DefRec}{K:Params->PySem.W.Frag}(hn:l.most=some 63)(hdf:d.params.defaults=[])
  (hY:∀(w:World)(h:Heap),YP w h->(K w.params).In h)
  (F:∀(w:World)(mg:Str->Option Value)(fa:Addr)(h:Heap),(K w.params).In h->h.Ns mainGlobals mg->mg d.name=some (.ref fa) ->
   ∃fd:FuncData,(∀(s:Shared)(u:Value),BindsTo s fd ⟨[u],[]⟩ [("_law_script",u)])/\∀base:Heap,(K w.params).In base->base.Ns mainGlobals mg->H5_ l.prog w (K w.params) mg base CX0 10 fa fd ["_law_script"] (Hf_ (K w.params))):
  PySem.W.WalkO q loose XP YP l.row.toRowW d [] (λf vs=>PySem.call f vs):=
 L2.m0_ (n:=63) (k:=10) (x := "_law_script") (CX:=λ_=>CX0) (sp:=λw=>Hf_ (K w.params)) hn d_ hdf ⟨rfl,d_,d_⟩ hY F (λ_ _ a ns hl _ hS=>⟨a,ns,rfl,hS,λ_=>rfl⟩) λ_ _ _ _ _ z=>z
end Rim41
namespace PySem.W.Fast
def tw10144829574544883369:=0
def tw2129524488326224243:=0
def tw11852902172310839694:=0
def tw14559158628584547508:=0
def tw6792103035688049387:=0
def tw14385227675843077951:=0
def tw2215398674574771742:=0
def tw1864895162633288514:=0
def tw3839595866834140208:=0
def tw15091974807149089620:=0
def tw2317877379374578977:=0
def tw16200474108533933069:=0
def tw17464852243287972163:=0
def tw4729064318691499309:=0
def tw16917304317352177850:=0
def tw844511187398143720:=0
def tw5346905638944723576:=0
def tw3995585619232438857:=0
def tw16763856948652189276:=0
def tw16151385637293873254:=0
def tw4757984869205505754:=0
def tw14769963221756785731:=0
def tw15306216138408394417:=0
def tw6657233733713050539:=0
def tw12371363348357718856:=0
def tw17259454599931330908:=0
def tw3431173564421564415:=0
def tw12043343434017357593:=0
def tw894112244225940674:=0
def tw4759224481927309962:=0
def tw17578194920659949734:=0
def tw4974171054176448976:=0
def tw12416272838860709800:=0
def tw5146474718425618541:=0
def tw6629923596914323617:=0
def tw11548434922759404374:=0
def tw10339500517455387601:=0
def tw350463800237070674:=0
def tw3032425243022724214:=0
def tw3470950014145847367:=0
def tw13288873002371971414:=0
def tw14361853443870142450:=0
def tw11676981678394100042:=0
def tw6009647809611724562:=0
def tw9604197530345601492:=0
def tw11529856486056846098:=0
def tw17266889774272478223:=0
def tw12336853817222907001:=0
def tw5548572176337546976:=0
def tw17816537483984645104:=0
def tw11395558367382034608:=0
def tw5488236178004572863:=0
def tw2775717499585786754:=0
def tw9488028817110793934:=0
def tw3357235316693293350:=0
def tw6818906939183476927:=0
def tw15133164159038857770:=0
def tw12328280254306132983:=0
def tw10535819969259331517:=0
def tw12526706461614382700:=0
def tw17173757107148045313:=0
def tw11812407514003635030:=0
def tw2157843195234875502:=0
def tw14480952468935366207:=0
def tw11505180348685971454:=0
def tw16007533880034223015:=0
def tw9360489129993357551:=0
def tw10572781692248833344:=0
def tw5446463073270001997:=0
def tw12634599912486486033:=0
def tw15256135376098835815:=0
def tw2727080981422638942:=0
def tw15660396001419522181:=0
def tw5144101529475576044:=0
def tw17030524489176990125:=0
def tw14018164654752156490:=0
def tw17387998177774894192:=0
def tw1721231588238463524:=0
def tw2024792282894432679:=0
def tw1359670460195858383:=0
def tw404323758276598023:=0
def tw3756456891953480846:=0
def tw13252354865144481032:=0
def tw9371527817839768156:=0
def tw16300278798806710676:=0
def tw3920041675399322881:=0
def tw11203222213080833019:=0
def tw15365614973206308618:=0
def tw3885338457344820660:=0
def tw1683406593136488734:=0
def tw11576371440369293896:=0
def tw4161573377682806263:=0
def tw1467696848581725623:=0
def tw16565688404559235265:=0
def tw14904282380904841085:=0
def tw18142575479499085659:=0
def tw12586673453963413726:=0
def tw15854556642708340180:=0
def tw1281372426251639119:=0
def tw880116110730933645:=0
def tw709339969597130126:=0
def tw2224168089346489747:=0
def tw11404937833170163603:=0
def tw16331523646566488033:=0
def tw12065841568602176025:=0
def tw7622762778138612878:=0
def tw9944824939049670142:=0
def tw8788096901532292726:=0
def tw8686965462587659445:=0
def tw10896833677837641776:=0
def tw7922312737366490462:=0
def tw1829261930973173351:=0
def tw3869979619197455080:=0
def tw12674391285489859961:=0
def tw426067469998567872:=0
def tw7707962288196434390:=0
def tw9943680593829291838:=0
def tw7209349900373161131:=0
def tw1630280334050976992:=0
def tw12985808791638005779:=0
def tw3356096272634790366:=0
def tw7270957305007292888:=0
def tw12064057204192008986:=0
def tw14126220416353300694:=0
def tw17546847831906792010:=0
def tw17615663540505904681:=0
def tw4154631618947919141:=0
def tw15847400305914741720:=0
def tw11854872021466200554:=0
def tw204402260498397555:=0
def tw4944116939871735251:=0
def tw17655402447275938534:=0
def tw17096643624399214305:=0
def tw5977938358408332968:=0
def tw4702350386850006372:=0
def tw4025636320544065672:=0
def tw7855704788857648068:=0
def tw4388508314949734203:=0
def tw7351481809807834809:=0
def tw10172324165855931632:=0
def tw12751866309026595886:=0
def tw12459409887921335749:=0
def tw8544623652292872965:=0
def tw17598844975004831043:=0
def tw17484901433500144367:=0
def tw16556617049039816510:=0
def tw6409251881559781293:=0
def tw2612140824219777771:=0
def tw17740088496927878019:=0
def tw3302815549928266547:=0
def tw11010254226246757174:=0
def tw4711853419840356175:=0
def tw6573940897877936330:=0
def tw17525103219559970792:=0
def tw15460868777042222165:=0
def tw3235602156896957319:=0
def tw5326369696675627390:=0
def tw9076738895441983029:=0
def tw13572851767028407620:=0
def tw7469068964570442002:=0
def tw1896221171374186655:=0
def tw1731670633260703975:=0
def tw5820897174282882252:=0
def tw6611975098915700405:=0
def tw3320754533036061736:=0
def tw14405339171266879175:=0
def tw12018356543795304706:=0
def tw9897676074661878801:=0
def tw15119726563789597940:=0
def tw8889738791887701283:=0
def tw11537823981321725211:=0
def tw1327148100566984230:=0
def tw13238794681606096270:=0
def tw11441426122956947378:=0
def tw4838907957311417926:=0
def tw15537793290355277766:=0
def tw3059150967628845485:=0
def tw16107124312586808223:=0
def tw10208424727434154843:=0
def tw17292508692884402784:=0
def tw3201097360333629658:=0
def tw7462021275383425446:=0
def tw11259124115208061792:=0
def tw6059696524021085264:=0
def tw15827841323527843665:=0
def tw9270973995802660656:=0
def tw3497584595548199031:=0
def tw8886355694877633351:=0
def tw14894999257502546800:=0
def tw113602303052908866:=0
def tw15896639233396637146:=0
def tw13121204262905176583:=0
def tw18383994308590016814:=0
def tw10649263748375363071:=0
def tw17194360123015576608:=0
def tw11608029889946140987:=0
def tw3347234812704423224:=0
def tw8057614172078007531:=0
def tw8753119381195414603:=0
def tw12452711850785462474:=0
def tw5563492345180471493:=0
def tw14055266844349922273:=0
def tw8315081124601639562:=0
def tw990413045500674235:=0
def tw14396774060403011365:=0
def tw5533852199774360669:=0
def tw8013174316243741785:=0
def tw10830758487385043032:=0
def tw8761339619064626422:=0
def tw8367282188693489987:=0
def tw3834406183265884975:=0
def tw55112465790726431:=0
def tw2162730640463201566:=0
def tw1999865231117938555:=0
def tw892668460383944795:=0
def tw18136935967182618897:=0
def tw16429003350183468487:=0
def tw1384178417328904914:=0
def tw7126932456841764350:=0
def tw848527089220633057:=0
def tw151389159305059528:=0
def tw9480540691273864329:=0
def tw17164433869793161889:=0
def tw18304604226149001621:=0
def tw6237360182368164215:=0
def tw16619128558867362976:=0
def tw4154117189694959348:=0
def tw16955627684862239538:=0
def tw17851152981765319978:=0
def tw8281390336308771277:=0
def tw10551214069213894336:=0
def tw445416849546184353:=0
def tw506470036181519739:=0
def tw652637527695014643:=0
def tw9292302076910593930:=0
def tw8918979987605249867:=0
def tw11029373144117153388:=0
def tw6568645844037182360:=0
def tw3976748023599445987:=0
def tw17013341714002870500:=0
def tw6103376433835305767:=0
def tw9752393669397556530:=0
def tw11743574214104563038:=0
def tw8522101146427524719:=0
def tw16831150605856090056:=0
def tw14120344535095623492:=0
def tw16180413016264028822:=0
def tw14022413212051014236:=0
def tw15729699229754600560:=0
def tw10748372604057599545:=0
def tw4456096387732139340:=0
def tw16735557658899065739:=0
def tw14998314212898713060:=0
def tw14734588580674054035:=0
def tw15598539333307452216:=0
def tw13963280608446407057:=0
def tw1969147588635644940:=0
def tw11534776593376789007:=0
def tw14793255863209164990:=0
def tw14603862869311347132:=0
def tw1167169232072236039:=0
def tw1796611200254020751:=0
def tw8694814261674151846:=0
def tw457836924487474679:=0
def tw17788241762096535020:=0
def tw13983201908373585461:=0
def tw1396432754076757828:=0
def tw6831523689001401943:=0
def tw13006046065337126265:=0
def tw2007573365979362089:=0
def tw5085166658815943798:=0
def tw11511097991098553745:=0
def tw7780163083467624077:=0
def tw7780681145694141423:=0
def tw7420607353845017011:=0
def tw11460412399689059024:=0
def tw6631455536963869604:=0
def tw16542423106923317558:=0
def tw13951986979911577880:=0
def tw666745520204435198:=0
def tw1388307210390761561:=0
def tw1967919120105681389:=0
def tw10877829215559702104:=0
def tw12171616291418974261:=0
def tw2465657958409006142:=0
def tw9594168580832980244:=0
def tw12715172162570115468:=0
def tw2578022941168306159:=0
def tw8220301923012349180:=0
def tw3298665213748741516:=0
def tw15376110613405077207:=0
def tw11850610859669556084:=0
def tw10541503529947946934:=0
def tw1783754132384287238:=0
def tw15329850475275394345:=0
def tw14665665705743281152:=0
def tw3401288146960451389:=0
def tw11046648719928819703:=0
def tw17047426363376879793:=0
def tw10108599506529498478:=0
def tw6430466616897839531:=0
def tw7695996254183409118:=0
def tw9400121670005393660:=0
def tw15844272613735695519:=0
def tw9950388281515137067:=0
def tw8321107951069288803:=0
def tw18291382000711763873:=0
def tw2033763995447114501:=0
def tw11020016173049658035:=0
def tw9279870951527063062:=0
def tw3058931067925043614:=0
def tw3601494277881350833:=0
def tw402448464188575645:=0
def tw4519535124716473968:=0
def tw15514723036419189798:=0
def tw11272677008117386524:=0
def tw14541564331862898547:=0
def tw5420659358225055721:=0
def tw11700936517741936608:=0
def tw15683136919072935704:=0
def tw15502088767571744366:=0
def tw5966997823305819005:=0
def tw16495251536305281277:=0
def tw6158485644500852398:=0
def tw8619978048063063581:=0
def tw9260484905849497061:=0
def tw1777489013466581235:=0
def tw15052546238199666137:=0
def tw10485576807590751551:=0
def tw11967718955032161659:=0
def tw5737670830532777407:=0
def tw6669797192401132224:=0
def tw5353286628435614869:=0
def tw2738085400918473489:=0
def tw4267451015068537061:=0
def tw5054191204034281440:=0
def tw15617013141275501651:=0
def tw8905073198350044908:=0
def tw8778974608641004488:=0
def tw7870367961868106874:=0
def tw6931484087280766828:=0
def tw1867974274530123994:=0
def tw15960504069455462749:=0
def tw616738085343745520:=0
def tw13462547048802576508:=0
def tw1984606674215586992:=0
def tw8272069226304785267:=0
def tw8665770630842688211:=0
def tw1847893349710675134:=0
def tw12589214987729405294:=0
def tw11891294628412536348:=0
def tw9963665858143129353:=0
def tw11869669602544149913:=0
def tw6329600952777405146:=0
def tw8644294341386227907:=0
def tw5951686961900749398:=0
def tw2794341973390951578:=0
def tw2023957504970334071:=0
def tw15413867159702932793:=0
def tw8258041852935631108:=0
def tw14762954605141667379:=0
def tw4838932239136075651:=0
def tw11610782292915218346:=0
def tw10023061273587295853:=0
def tw7177938757621996300:=0
def tw3732894245340291589:=0
def tw209849008657754527:=0
def tw76598788915071728:=0
def tw8531187123704300441:=0
def tw13908636075300907552:=0
def tw15000465619638745009:=0
def tw4095089944287494563:=0
def tw7515273599416124544:=0
def tw12457094458655302424:=0
def tw17216522558087022300:=0
def tw14803054392540229610:=0
def tw2654903028190164200:=0
def tw541474743946925830:=0
def tw11355941632343394035:=0
def tw6283937753867422358:=0
def tw3797501932560902871:=0
def tw7741425046915491263:=0
def tw12794212673032622958:=0
def tw6607928457473856148:=0
def tw4747941615192094009:=0
def tw10871011859597971002:=0
def tw2453597903660123681:=0
def tw9483741229467998982:=0
def tw13523318092187334629:=0
def tw9346841233870999897:=0
def tw6909683121274669021:=0
def tw12345779964217384189:=0
def tw10594586326482698190:=0
def tw13790195452210967567:=0
def tw14263349596775228567:=0
def tw14156623893602115939:=0
def tw531246064092488162:=0
def tw3842394554504504087:=0
def tw864969572051288203:=0
def tw15588926218196568022:=0
def tw11956413715620393030:=0
def tw11832958736532143924:=0
def tw4074547214606520695:=0
def tw17673469443658364317:=0
def tw8070825832107879961:=0
def tw15146328047249866739:=0
def tw12224711788399590059:=0
def tw8850334420116653149:=0
def tw317488349379036055:=0
def tw3627201500866293836:=0
def tw14092098598746711970:=0
def tw2804189591443102430:=0
def tw13818842348721690835:=0
def tw11422614509971869091:=0
def tw15020820323523965604:=0
def tw1548944823814783280:=0
def tw4784548488632270520:=0
def tw17546436908402323231:=0
def tw14491034006603086315:=0
def tw8926831186455779361:=0
def tw1055784188126174993:=0
def tw2726890218180081878:=0
def tw17761233806170745950:=0
def tw10209852912298685335:=0
def tw6367257036088131248:=0
def tw5641704058775928871:=0
def tw1960136668342283088:=0
def tw13078283822337833922:=0
def tw957738383727668215:=0
def tw3288396926212459401:=0
def tw605893273844943861:=0
def tw7811852383021356874:=0
def tw16727810243022929229:=0
def tw1934970831918621909:=0
def tw4163575987751000454:=0
def tw6027810647466812577:=0
def tw11167759357321140982:=0
def tw2450940161259238580:=0
def tw1681406454312927861:=0
def tw9867484734258137517:=0
def tw7403515855391708202:=0
def tw2654456302044562546:=0
def tw11964518074654298748:=0
def tw13473790564015880184:=0
def tw15301827298567560685:=0
def tw10125952459267925451:=0
def tw4687043883281395675:=0
def tw10880861814108983715:=0
def tw5407273197364520390:=0
def tw2585661614802708830:=0
def tw6753477681968396990:=0
def tw2783774804478154802:=0
def tw8711328297173818997:=0
def tw9497145739005820663:=0
def tw17618233164820360748:=0
def tw1106089825185028505:=0
def tw11347720344843580628:=0
def tw18208644492883658373:=0
def tw5980144947742508911:=0
def tw13616108268778908158:=0
def tw5109996681544944758:=0
end PySem.W.Fast
open PySem PySem.W PyProof.Rows
set_option maxRecDepth 100000 in
set_option maxHeartbeats 0 in
theorem PySem.Challenge.cw_rimread_k41_lean_nets_stay_holds : PySem.Challenge.rw_rimread_k41_lean_nets_stay.Holds := by
 w_on; o_law; k_head; (case hw=>w_witness2)
 k_fill
 refine Rim41.walk (l:=PySem.Challenge.rw_rimread_k41_lean_nets_stay) rfl rfl (fun w h Y=>PySem.W.km_in_of Y) ?F
 case F =>
  intro w mg fa h KX G hmg;refine Rim41.oj_  hmg ⟨?n_abs,?n_len,?n_range,?n_list,?n_isinstance,?n_int,?n_bool,?n_tuple,?n_str,?n_enumerate,?n_sorted,?n_min,?n_max,?n_dict,?n_ValueError,?n_set,?n_reversed⟩ ?f_ends_by_wire ?f_other_ends ?f_corners_in_order ?f_turned ?f_corners_behind_ends ?f_goings_of ?f_starts_of ?f_gone_from ?f_trails_of ?f_least_round ?f_lines_of ?f_lines_by_wire ?f_lens_of ?f_is_lean ?f_copied ?f_made_lean ?f_Lcell_at ?f_Lbig ?f_Lnames ?f_Llow ?f_Lworth_of ?f_Ltwo ?f_Lgrown ?f_Llean_by ?f_Lcopy ?f_Ldrawn ?f_law
  case n_abs | n_len | n_range | n_list | n_isinstance | n_int | n_bool | n_tuple | n_str | n_enumerate | n_sorted | n_min | n_max | n_dict | n_ValueError | n_set | n_reversed=>refine' PySem.W.mg_none_of KX G ?a; (case a=>k_is)
  case f_ends_by_wire | f_other_ends | f_corners_in_order | f_turned | f_corners_behind_ends | f_goings_of | f_starts_of | f_gone_from | f_trails_of | f_least_round | f_lines_of | f_lines_by_wire | f_lens_of | f_is_lean | f_copied | f_made_lean | f_Lcell_at | f_Lbig | f_Lnames | f_Llow | f_Lworth_of | f_Ltwo | f_Lgrown | f_Llean_by | f_Lcopy | f_Ldrawn | f_law=>refine' L2.nN_ KX G ?a ?l ?c ?k; (case a=>k_is); (case l=>k_is); (case c=>k_is); (case k=>k_is)
