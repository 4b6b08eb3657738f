import PyProof.Rows.All
import Wide.All
import OpenK.AllK
import Wide.FinOn
import Lean
import PyProof.EqAt
import PyProof.EqKinds
import PyProof.TupleCall
import PySem.Challenge.RW_rimread_k73_bench_refusals
local macro_rules|`(tactic|show $t:term)=>`(tactic|refine $t)
local macro_rules | `(tactic|rfl')=> `(tactic|decide +kernel)
local macro_rules | `(tactic|lia)=>`(tactic|first|lia -verbose|omega)
theorem o_{p:Prop}(h:p:=by lia):p:=h
theorem d_{p:Prop}(h:p:=by decide):p:=h
theorem r_{p:Prop}(h:p:=by rfl'):p:=h
theorem s_{p:Prop}(h:p:=by simp):p:=h
set_option Elab.async false
set_option linter.all false
set_option maxRecDepth 100000
set_option maxHeartbeats 4000000
set_option compiler.extract_closed false
def Aa_:=@List.getElem?_eq_getElem
def Ab_:=@List.length_map
def Ac_:=@List.getD_eq_getElem?_getD
def Ad_:=@List.mem_singleton
def Ae_:=@List.length_append
def Af_:=@PySem.wpAny_bind
def Ag_:=@List.getElem?_map
def Ah_:=@Nat.le_refl
def Ai_:=@List.mem_map
def Aj_:=@PySem.Heap.get?_push_of_some
def Ak_:=@List.mem_cons_of_mem
def Al_:=@List.getElem?_eq_some_iff
def Am_:=@List.mem_of_getElem?
def An_:=@List.mem_cons_self
def Ao_:=@List.mem_append
def Ap_:=@List.size_toArray
def Aq_:=@List.mem_cons
def Ar_:=@List.map_append
def As_:=@List.mem_iff_getElem
def At_:=@Option.some.inj
def Au_:=@PySem.Heap.lt_size
def Av_:=@PySem.F.plainAttrs_list
def Aw_:=@List.mem_append_right
def Ax_:=@PySem.wpAny_pure
def Ay_:=@List.getElem?_append_left
def Az_:=@List.map_cons
def AA_:=@List.nodup_append
def AB_:=@List.mem_append_left
def AC_:=@PySem.Heap.get?_push_size
def AD_:=@Int.toNat_natCast
def AE_:=@Nat.ne_of_lt
def AF_:=@List.length_cons
def AG_:=@decide_eq_true
def AH_:=@Nat.lt_of_lt_of_le
def AI_:=@decide_eq_false
def AJ_:=@List.mem_range
def AK_:=@List.getElem?_append_right
def AL_:=@List.length_singleton
def AM_:=@List.nodup_cons
def AN_:=@Bool.false_ne_true
def AO_:=@Nat.le_of_lt
def AP_:=@Nat.zero_le
def AQ_:=@List.not_mem_nil
def AR_:=@List.flatten_cons
def AS_:=@PySem.PassesOwn.never
def AT_:=@Int.emod_lt_of_pos
def AU_:=@of_decide_eq_true
def AV_:=@Int.emod_nonneg
def AW_:=@List.length_take
def AX_:=@List.mem_flatten
def AY_:=@List.getElem?_inj
def AZ_:=@List.map_map
def A0_:=@PySem.F.slot_list_append
def A1_:=@PySem.F.type_list_append
def A2_:=@List.eq_nil_of_length_eq_zero
def A3_:=@List.getElem_mem
def A4_:=@List.take_of_length_le
def A5_:=@List.take_append_drop
def A6_:=@List.append_nil
def A7_:=@Nat.le_trans
def A8_:=@PySem.Heap.get?_update_other
def A9_:=@List.length_range
def Ba_:=@List.flatten_append
def Bb_:=@Array.getD_eq_getD_getElem?
def Bc_:=@List.count_append
def Bd_:=@Prod.ext
def Be_:=@List.length_set
def Bf_:=@List.nodup_nil
def Bg_:=@PySem.Around.in1_units
def Bh_:=@List.getElem?_eq_none
def Bi_:=@Nat.lt_irrefl
def Bj_:=@PySem.wpAny_holding
def Bk_:=@List.pairwise_map
def Bl_:=@PySem.wpAny_mono
def Bm_:=@PySem.mem_of_lookup
def Bn_:=@Nat.lt_of_le_of_lt
def Bo_:=@List.getElem?_range
def Bp_:=@List.take_succ
def Bq_:=@List.mem_filter
def Br_:=@PyProof.Rows.callWith_type1
def Bs_:=@List.count_eq_zero
def Bt_:=@List.cons_append
def Bu_:=@Array.perm_iff_toList_perm
def Bv_:=@beq_eq_false_iff_ne
def Bw_:=@List.map_congr_left
def Bx_:=@List.perm_append_comm
def By_:=@List.length_drop
def Bz_:=@Bool.and_eq_true
def BA_:=@List.dropLast_concat_getLast
def BB_:=@PySem.wpAny_truthy_bool
def BC_:=@Nat.lt_succ_of_lt
def BD_:=@List.append_assoc
def BE_:=@List.range_succ
def BF_:=@List.length_nil
def BG_:=@Prod.mk.inj
def BH_:=@List.lookup_cons
def BI_:=@Nat.le_add_right
def BJ_:=@List.any_eq_true
def BK_:=@PySem.wpAny_Call_Name_kw
def BL_:=@PySem.Heap.size_push
def BM_:=@decide_eq_true_iff
def BN_:=@of_decide_eq_false
def BO_:=@List.count_pos_iff
def BP_:=@List.count_cons
def BQ_:=@PySem.codeAny_builtin
def BR_:=@PySem.Around.under_plainId
def BS_:=@Int.zero_add
def BT_:=@PySem.wpAny_pyIter_list
def BU_:=@List.length_pos_iff
def BV_:=@PySem.wpAny_pyNext_list_item
def BW_:=@Nat.sub_self
def BX_:=@PySem.wpAny_passesOwn
def BY_:=@List.cons.inj
def BZ_:=@Nat.not_lt
def B0_:=@PySem.sizeLine_eq
def B1_:=@PySem.codeAny_mono
def B2_:=@Nat.succ_le_succ
def B3_:=@Nat.lt_succ_self
def B4_:=@List.Pairwise.imp_of_mem
def B5_:=@List.filterMap_cons
def B6_:=@List.any_cons
def B7_:=@List.mem_filterMap
def B8_:=@Option.map_some
def B9_:=@Bool.eq_iff_iff
def Ca_:=@PySem.call_meets
def Cb_:=@List.find?_cons
def Cc_:=@PyProof.Rows.bits_of_natAbs_le
def Cd_:=@List.nil_append
def Ce_:=@Sum.inr.inj
def Cf_:=@PySem.wpAny_newObj_type
def Cg_:=@PySem.wpAny_pyNext_list_end
def Ch_:=@List.length_replicate
def Ci_:=@PySem.Heap.get?_update_self
def Cj_:=@List.ext_getElem
def Ck_:=@or_false
def Cl_:=@PySem.Paired.length
def Cm_:=@PySem.plainId_quiet
def Cn_:=@Nat.le_succ
def Co_:=@PySem.wpAny_field
def Cp_:=@PySem.wpAny_execs_nil
def Cq_:=@PySem.wpAny_comprehension_free
def Cr_:=@List.filter_append
def Cs_:=@PySem.tupleKind_room_in1
def Ct_:=@List.getElem?_replicate
def Cu_:=@List.getElem?_cons_succ
def Cv_:=@PySem.F.plainAttrs_dict
def Cw_:=@List.getElem?_set_self
def Cx_:=@PySem.Calls.callWith_builtin
def Cy_:=@List.head?_eq_getElem?
def Cz_:=@Array.getElem?_eq_none
def CA_:=@List.length_eq_one_iff
def CB_:=@List.map_take
def CC_:=@List.take_length
def CD_:=@List.nodup_range
def CE_:=@Array.getElem?_toList
def CF_:=@List.contains_iff_mem
def CG_:=@PySem.wpAny_notOrdered_dict
def CH_:=@List.length_filter_le
def CI_:=@List.getElem?_set_ne
def CJ_:=@PySem.wpAny_rule
def CK_:=@List.map_nil
def CL_:=@PySem.SeqAt.EqAt.same
def CM_:=@PySem.pushCells_keeps
def CN_:=@PyProof.Rows.get?_update_seq
def CO_:=@PySem.wpAny_typeOf
def CP_:=@Array.length_toList
def CQ_:=@List.length_reverse
def CR_:=@PySem.F.slot_dict_setdefault
def CS_:=@List.not_lt
def CT_:=@PyProof.Rows.assignInOrder_cons
def CU_:=@PySem.SeqAt.EqAt.of_refs
def CV_:=@Bool.false_eq_true
def CW_:=@PySem.Calls.Name_function_global
def CX_:=@PySem.wpAny_standAt
def CY_:=@PyProof.Rows.listUpdate_at
def CZ_:=@Option.isSome_map
def C0_:=@List.getElem?_eq_none_iff
def C1_:=@List.drop_eq_getElem_cons
def C2_:=@List.mem_or_eq_of_mem_set
def C3_:=@Nat.ne_of_gt
def C4_:=@Option.isSome_iff_exists
def C5_:=@beq_self_eq_true
def C6_:=@PySem.wpAny_call_entry
def C7_:=@PySem.F.slot_dict_values
def C8_:=@Nat.succ.inj
def C9_:=@PySem.wpAny_Call_method0_late
def Da_:=@List.pairwise_singleton
def Db_:=@Int.eq_ofNat_of_zero_le
def Dc_:=@Int.gcd_natCast_natCast
def Dd_:=@List.of_mem_zip
def De_:=@Nat.min_eq_left
def Df_:=@PySem.W.cellsFrom_some
def Dg_:=@PySem.seqIndex_of
def Dh_:=@PyProof.Rows.subscriptTail_builtinR
def Di_:=@Option.map_eq_some_iff
def Dj_:=@List.drop_eq_nil_of_le
def Dk_:=@PySem.wpAny_isTrue_Compare1
def Dl_:=@List.getElem_set_self
def Dm_:=@PySem.wpAny_seqItems
def Dn_:=@if_false
def Do_:=@PySem.SeqAt.EqAt.bool_bool
def Dp_:=@bne_iff_ne
def Dq_:=@List.getElem_zipWith
def Dr_:=@List.all_cons
def Ds_:=@List.map_drop
def Dt_:=@PySem.evalArgs_none
def Du_:=@List.filter_sublist
def Dv_:=@List.getElem_set_ne
def Dw_:=@PyProof.Rows.getElem?_mirror_all
def Dx_:=@PySem.seqIndex_neg
def Dy_:=@PySem.SeqAt.EqAt.str_str
def Dz_:=@List.reverse_cons
def DA_:=@List.reverse_perm
def DB_:=@List.getElem_take
def DC_:=@PySem.wpAny_Dict_empty
def DD_:=@PySem.typeIs_str
def DE_:=@Nat.not_lt_zero
def DF_:=@PySem.wpAny_tryCatch
def DG_:=@PySem.F.type_dict_setdefault
def DH_:=@List.pairwise_iff_getElem
def DI_:=@List.getElem?_take_of_lt
def DJ_:=@Nat.zero_add
def DK_:=@PySem.call_meetsIn
def DL_:=@List.length_filterMap_le
def DM_:=@PySem.F.slot_dict_update
def DN_:=@PySem.F.type_dict_update
def DO_:=@PySem.wpAny_callSpecial?_slot
def DP_:=@PySem.Paired.snoc
def DQ_:=@PySem.wpAny_Assign_Subscript
def DR_:=@List.filterMap_append
def DS_:=@List.length_zipWith
def DT_:=@List.zipWith_append
def DU_:=@Decidable.not_not
def DV_:=@PySem.wpAny_isInstance
def DW_:=@List.forIn_cons
def DX_:=@PySem.wpAny_specialOf
def DY_:=@List.take_zero
def DZ_:=@PyProof.Rows.Constant_none
def D0_:=@List.nodup_iff_pairwise_ne
def D1_:=@List.getElem?_reverse
def D2_:=@List.getLast?_eq_getElem?
def D3_:=@List.mem_iff_getElem?
def D4_:=@List.getLast?_map
def D5_:=@List.getLast?_reverse
def D6_:=@List.getLast?_cons_cons
def D7_:=@List.sum_cons
def D8_:=@List.mem_of_getLast?
def D9_:=@PySem.W.pyHash_slot
def Ea_:=@PySem.wpAny_mkInt
def Eb_:=@PySem.wpAny_tupleItemsOf
def Ec_:=@Array.forIn_toList
def Ed_:=@List.forIn_nil
def Ee_:=@PySem.isSubtype_tuple_tuple
def Ef_:=@PySem.builtinLookup_eq_fast
def Eg_:=@PySem.wpAny_letGo
def Eh_:=@PySem.F.slot_dict_items_iter
def Ei_:=@PySem.wpAny_dictEntries
def Ej_:=@PySem.wpAny_dictEpoch
def Ek_:=@PySem.F.slot_dict_itemiterator_next
def El_:=@PySem.F.entry_dict_itemiterator_next
def Em_:=@PySem.F.args_dict_itemiterator_next_1
def En_:=@PySem.wpAny_typeNameOfWhole_itemiter
def Eo_:=@PySem.wpAny_typeNameOf_itemiter
def Ep_:=@Array.getElem?_eq_getElem
def Eq_:=@PySem.wpAny_isOneOf_itemiter
def Er_:=@PySem.wpAny_setField_rec
def Es_:=@PySem.F.slot_dict_items
def Et_:=@List.mem_zipIdx_iff_getElem?
def Eu_:=@List.getElem_toArray
def Ev_:=@PySem.wpAny_loadPart'
def Ew_:=@PySem.F.slot_list_lt
def Ex_:=@PySem.F.entry_list_lt
def Ey_:=@PySem.F.args_list_lt_2
def Ez_:=@List.reverse_reverse
def EA_:=@PySem.F.entry_min_loop
def EB_:=@PySem.F.plain_min_loop
def EC_:=@PySem.wpAny_updateSeq
def ED_:=@List.getElem?_toArray
def EE_:=@List.map_id
def EF_:=@List.take_succ_cons
def EG_:=@List.mem_replicate
def EH_:=@List.nodup_iff_count
def EI_:=@List.getLast?_concat
def EJ_:=@List.mem_map_of_mem
def EK_:=@List.sublist_flatten_of_mem
namespace L2
open PySem PySem.Spec PyProof.Rows
abbrev Key:=Sum Int Str
def G9_:Key->Value->Bool
 | .inl k,v=>Value.isInt k v
 | .inr x,v=>Value.isStrOf x v
def keyH(w:World):Key->Int
 | .inl k=>hashInt k
 | .inr x=>hashStr w x
theorem aV_:∀{k:Key}{v:Value},G9_ k v=true->(∃i t,k=Sum.inl i/\v=Value.int i t)\/(∃x t,k=Sum.inr x/\v=Value.str x t)
 | .inl i,v,h=>by
  obtain⟨t,e⟩:=Value.isInt_shape (k:=i) (v:=v) h;show .inl ⟨i,t,rfl,e⟩
 | .inr x,v,h=>by obtain⟨t,e⟩:=Value.isStrOf_shape (x:=x) (v:=v) h;show .inr ⟨x,t,rfl,e⟩
theorem mp_(i:Int)(t:Tok):G9_ (.inl i) (.int i t)=true:=by simp[G9_,Value.isInt]
theorem mq_(x:Str)(t:Tok):G9_ (.inr x) (.str x t)=true:=by simp[G9_,Value.isStrOf]
theorem qI_(a b:Int):decide ((Sum.inl a:Key)=Sum.inl b)=(a == b):=by
 by_cases e:a=b
 .subst e;simp
 .have h:¬ (Sum.inl a:Key)=Sum.inl b:=λq=>e (Sum.inl.inj q);rw[AI_ h];show(Bv_.mpr e).symm
theorem qJ_(a b:Str):decide ((Sum.inr a:Key)=Sum.inr b)=decide (a=b):=by
 by_cases e:a=b
 .subst e;simp
 .have h:¬ (Sum.inr a:Key)=Sum.inr b:=λq=>e (Ce_ q);rw[AI_ h,AI_ e]
theorem qK_(a:Int)(b:Str):decide ((Sum.inl a:Key)=Sum.inr b)=false:=AI_ (λq=>nomatch q)
theorem qL_(a:Str)(b:Int):decide ((Sum.inr a:Key)=Sum.inl b)=false:=AI_ (λq=>nomatch q)
def E1_(prog:Program)(w:World):PySem.KeyKind prog w Key where
 is:=G9_
 hash:=keyH w
 inj:=λv a b ha hb=>by
  rcases aV_ ha with⟨i,t,rfl,rfl⟩|⟨x,t,rfl,rfl⟩
  .rcases aV_ hb with⟨j,u,rfl,e⟩|⟨y,u,rfl,e⟩
   .injection e with e1 _;rw[e1]
   .show nomatch e
  .rcases aV_ hb with⟨j,u,rfl,e⟩|⟨y,u,rfl,e⟩
   .show nomatch e
   .injection e with e1 _;rw[e1]
 byValue:=λk v h=>by rcases aV_ h with⟨i,t,rfl,rfl⟩|⟨x,t,rfl,rfl⟩ <;> rfl
 pyHash:=λhv h=>by
  rcases aV_ hv with⟨i,t,rfl,rfl⟩|⟨x,t,rfl,rfl⟩
  .show wpAny_pyHash_int h
  .show wpAny_pyHash_str h
 eqBool:=λhu hv h=>by
  rcases aV_ hu with⟨i,t,rfl,rfl⟩|⟨x,t,rfl,rfl⟩
  .rcases aV_ hv with⟨j,u,rfl,rfl⟩|⟨y,u,rfl,rfl⟩
   .rw[qI_]at h;show wpAny_eqBool_int h
   .rw[qK_]at h;show SeqAt.EqAt.int_str i t y u _ _ _ _ h
  .rcases aV_ hv with⟨j,u,rfl,rfl⟩|⟨y,u,rfl,rfl⟩
   .rw[qL_]at h;show SeqAt.EqAt.str_int x t j u _ _ _ _ h
   .rw[qJ_]at h;show wpAny_eqBool_str h
 «strs»:=λk x t v h=>by
  rcases aV_ h with⟨i,u,rfl,e⟩|⟨y,u,rfl,e⟩
  .show nomatch e
  .injection e with e1 _
   subst e1;cases v <;> rfl
theorem ki_(prog:Program)(w:World)(i:Int)(t:Tok):(E1_ prog w).is (.inl i) (.int i t)=true:=mp_ i t
theorem kj_(prog:Program)(w:World)(x:Str)(t:Tok):(E1_ prog w).is (.inr x) (.str x t)=true:=mq_ x t
inductive V where
 |non|bl (b:Bool)|int (i:Int)|str (x:Str)|byt (b:Array UInt8)|flt (b:UInt64)|ref (a:Addr)|ty (n:String)
 deriving DecidableEq
def Fm_:V->Value->Prop
 | .non,u=>u=Value.none
 | .bl b,u=>u=Value.bool b
 | .int i,u=>∃t,u=Value.int i t
 | .str x,u=>∃t,u=Value.str x t
 | .byt b,u=>∃t,u=Value.bytes b t
 | .flt b,u=>∃t,u=Value.float b t
 | .ref a,u=>u=Value.ref a
 | .ty n,u=>u=Value.type n
abbrev Fe_:List V->List Value->Prop:=Paired Fm_
variable{us:List Value}
theorem Fe_.length{xs:List V}(r:Fe_ xs us):xs.length=us.length:=Cl_ r
theorem Fe_.get:∀{xs:List V}{us:List Value}{i:Nat}{x:V},Fe_ xs us->xs[i]?=some x->∃u,us[i]?=some u/\Fm_ x u
 |_,_,_,_,.nil,e=>by simp at e
 |_,_,0,_,.cons r _,e=>by simp at e;subst e;show⟨_,rfl,r⟩
 |_,_,i+1,x,.cons _ t,e=>by obtain⟨u,h1,h2⟩:=Fe_.get (i:=i) (x:=x) t (by simpa using e);show⟨u,by simpa using h1,h2⟩
theorem Fe_.set{x:V}{u:Value}(r:Fm_ x u):∀{xs:List V}{us:List Value}(i:Nat),Fe_ xs us->Fe_ (xs.set i x) (us.set i u)
 |_,_,_,.nil=>.nil
 |_,_,0,.cons _ t=>.cons r t
 |_,_,i+1,.cons q t=>.cons q (Fe_.set r i t)
theorem Fe_.append:∀{xs ys:List V}{us ws:List Value},Fe_ xs us->Fe_ ys ws->Fe_ (xs++ys) (us++ws)
 |_,_,_,_,.nil,s=>s
 |_,_,_,_,.cons r t,s=>.cons r (Fe_.append t s)
theorem Fe_.take:∀{xs:List V}{us:List Value}(n:Nat),Fe_ xs us->Fe_ (xs.take n) (us.take n)
 |_,_,0,_=>.nil
 |_,_,_+1,.nil=>.nil
 |_,_,n+1,.cons r t=>.cons r (Fe_.take n t)
theorem Fe_.drop:∀{xs:List V}{us:List Value}(n:Nat),Fe_ xs us->Fe_ (xs.drop n) (us.drop n)
 |_,_,0,r=>r
 |_,_,_+1,.nil=>.nil
 |_,_,n+1,.cons _ t=>Fe_.drop n t
def GY_:Option V->Option Value->Prop
 |some v,some u=>Fm_ v u
 |none,none=>True
 |_,_=>False
def KV{κ:Type}:List (κ×V)->List (κ×Value)->Prop:=Paired λ(p:κ×V)(q:κ×Value)=>p.1=q.1/\Fm_ p.2 q.2
def kV:Key->V
 | .inl i=>.int i
 | .inr x=>.str x
inductive HO where
 |lst (xs:List V)
 |tup (xs:List V)
 |dK (kvs:List (Key×V))|dT (kvs:List (List Key×V))
 |set (S:Int->Bool) (n:Nat)
 |ins (C dx:Addr) (fs:List (Str×V))
 |own (x:Addr)
 |xd (fs:List (Str×V))
 |met (f x:Addr)
 |rng (lo hi:Int)
 |frz (o:Obj) (u:HO)
 |tbl (ps:Array Value)
 |ext (φ:Heap->Prop)
abbrev Hp:=Addr->Option HO
def upd(H:Hp)(a:Addr)(o:HO):Hp:=λb=>if b=a then some o else H b
variable{H:Hp}{a:Addr}{o:HO}
theorem ab_:upd H a o a=some o:=by unfold upd;rw[if_pos rfl]
variable{b:Addr}
theorem af_(h:b≠a):upd H a o b=H b:=by unfold upd;rw[if_neg h]
theorem pI_{u:HO}:upd (upd H a o) a u=upd H a u:=by funext b;unfold upd;split <;> rfl
theorem Lh_{u:HO}(h:H a=some o)(h':H b=some u)(d:o≠u):a≠b:=by intro e;subst e;rw[h]at h';show d (At_ h')
theorem ae_(h:H a=some o)(h':H b=none):a≠b:=by intro e;subst e;rw[h]at h';cases h'
section
variable (P:Program)(w:World)
def Fr_(H:Hp)(h:Heap)(a:Addr):HO->Prop
 | .lst xs=>xs.length<=sizeLine/\∃(its:List Value)(n:Nat),Fe_ xs its/\h.get? a=some {cls:=.type "list",data:=.seq its.toArray n}
 | .tup xs=>xs.length<=sizeLine/\∃its:List Value,Fe_ xs its/\IsTup h a its.toArray
 | .dK kvs=>kvs.length<=sizeLine/\(a == sysModules)=false/\∃vs,KV kvs vs/\h.DictOf (E1_ P w) a vs
 | .dT kvs=>kvs.length<=sizeLine/\(a == sysModules)=false/\∃xs:List (List Key×Addr×Value),
   Paired (λ(p:List Key×V)(q:List Key×Addr×Value)=>p.1=q.1/\H q.2.1=some (.tup (p.1.map kV))/\Fm_ p.2 q.2.2) kvs xs /\
   ∃o es ep,h.get? a=some o/\o.ExactDict/\o.data=.dict es ep/\es.toList=xs.map (entryOfKey (tupleKind (E1_ P w)))/\(xs.map (·.1)).Nodup
 | .set S n=>h.SetOf (intKind P w) a S n
 | .ins C dx fs=>H dx=some (.own a)/\fs.length<=1000/\dx≠a/\h.get? a=some (PySem.W.instObj C dx) /\
   ∃mA,h.Ns1 dx mA/\(∀f,GY_ (fs.lookup f) (mA f))/\PySem.Within mA (fs.map (·.1))
 | .own _=>∃o,h.get? a=some o
 | .xd fs=>∃mA,h.Ns1 a mA/\∀f,GY_ (fs.lookup f) (mA f)
 | .rng lo hi=>∃t u v,h.get? a=some {cls:=.type "range",data:=.fields #[.int lo t,.int hi u,.int 1 v]}
 | .frz o u=>h.get? a=some o/\Fr_ H h a u
 | .tbl ps=>h.get? a=some {cls:=.none,data:=.fields ps}
 | .met f x=>h.get? a=some (PySem.W.methodObj (.ref f) (.ref x))
 | .ext φ=>φ h/\(∃o,h.get? a=some o)/\∀h1 h2:Heap,φ h1->(∀o,h1.get? a=some o->h2.get? a=some o)->φ h2
def HOk(H:Hp)(h:Heap):Prop:=∀a o,H a=some o->Fr_ P w H h a o
end
variable {P:Program}{w:World}{H H':Hp}{h h':Heap}{a:Addr}{o:HO}
theorem Fr_.lt(x:Fr_ P w H h a o):a<h.objs.size:=by
 cases o with
 |lst xs=>obtain⟨_,_,_,_,e⟩:=x;show Au_ e
 |tup xs=>obtain⟨_,_,_,p⟩:=x;show p.lt
 |dK kvs=>obtain⟨_,_,_,_,o,_,_,e,_⟩:=x;show Au_ e
 |dT kvs=>obtain⟨_,_,_,_,o,_,_,e,_⟩:=x;show Au_ e
 |set S n=>obtain⟨o,_,_,_,e,_⟩:=x;show Au_ e
 |ins C dx fs=>obtain⟨_,_,_,e,_⟩:=x;show Au_ e
 |own y=>obtain⟨_,e⟩:=x;show Au_ e
 |xd fs=>obtain⟨_,⟨_,_,_,e,_⟩,_⟩:=x;show Au_ e
 |rng lo hi=>obtain⟨_,_,_,e⟩:=x;show Au_ e
 |frz ob u=>obtain⟨e,_⟩:=x;show Au_ e
 |tbl ps=>show Au_ (show h.get? a=some _ from x)
 |met f y=>show Au_ (show h.get? a=some _ from x)
 |ext φ=>obtain⟨_,⟨_,e⟩,_⟩:=x;show Au_ e
theorem Paired.mapP{α β:Type}{F G:α->β->Prop}:∀{l₁:List α}{l₂:List β},Paired F l₁ l₂->(∀a b,F a b->G a b)->Paired G l₁ l₂
 |_,_,.nil,_=>.nil
 |_,_,.cons r t,f=>.cons (f _ _ r) (Paired.mapP t f)
theorem Fr_.stay(x:Fr_ P w H h a o)(k:∀b u,(b=a\/H b=some (.own a))->h.get? b=some u->h'.get? b=some u)
  (ho:∀b,H b=some (.own a)->H' b=some (.own a)) (ht:∀b xs,H b=some (.tup xs)->H' b=some (.tup xs)):Fr_ P w H' h' a o:=by
 induction o with
 |lst xs=>obtain⟨z,its,n,r,e⟩:=x;show⟨z,its,n,r,k _ _ (.inl rfl) e⟩
 |tup xs=>obtain⟨z,its,r,ob,e,c⟩:=x;show⟨z,its,r,ob,k _ _ (.inl rfl) e,c⟩
 |dK kvs=>obtain⟨z,y,vs,r,ob,es,ep,e,c⟩:=x;show⟨z,y,vs,r,ob,es,ep,k _ _ (.inl rfl) e,c⟩
 |dT kvs =>
  obtain⟨z,y,xs,r,ob,es,ep,e,c⟩:=x;show⟨z,y,xs,Paired.mapP r λp q z=>⟨z.1,ht _ _ z.2.1,z.2.2⟩,ob,es,ep,k _ _ (.inl rfl) e,c⟩
 |set S n=>obtain⟨ob,es,ep,t,e,c⟩:=x;show⟨ob,es,ep,t,k _ _ (.inl rfl) e,c⟩
 |ins C dx fs =>
  obtain⟨d,z,ne,e,mA,⟨od,es,ep,e2,c⟩,r⟩:=x;show⟨ho _ d,z,ne,k _ _ (.inl rfl) e,mA,⟨od,es,ep,k _ _ (.inr d) e2,c⟩,r⟩
 |own y=>obtain⟨ob,e⟩:=x;show⟨ob,k _ _ (.inl rfl) e⟩
 |xd fs=>obtain⟨mA,⟨od,es,ep,e,c⟩,r⟩:=x;show⟨mA,⟨od,es,ep,k _ _ (.inl rfl) e,c⟩,r⟩
 |rng lo hi=>obtain⟨t,u,v,e⟩:=x;show⟨t,u,v,k _ _ (.inl rfl) e⟩
 |frz ob u ih=>obtain⟨e,q⟩:=x;show⟨k _ _ (.inl rfl) e,ih q⟩
 |tbl ps =>
  have e:h.get? a=some {cls:=.none,data:=.fields ps}:=x;change h'.get? a=some {cls:=.none,data:=.fields ps};show k a _ (.inl rfl) e
 |met f y =>
  have e:h.get? a=some (PySem.W.methodObj (.ref f) (.ref y)):=x;change h'.get? a=some (PySem.W.methodObj (.ref f) (.ref y));show k a _ (.inl rfl) e
 |ext φ=>obtain⟨p,⟨o,e⟩,st⟩:=x;show⟨st _ _ p λo q=>k _ _ (.inl rfl) q,⟨o,k _ _ (.inl rfl) e⟩,st⟩
theorem HOk.lt(x:HOk P w H h)(e:H a=some o):a<h.objs.size:=(x a o e).lt
theorem HOk.fresh(x:HOk P w H h)(e:h.objs.size<=a):H a=none:=by
 cases q:H a with
 |none=>rfl
 |some u=>show absurd (AH_ (x.lt q) e) (Bi_ _)
theorem HOk.kept(x:HOk P w H h)(k:∀b u,h.get? b=some u->h'.get? b=some u):HOk P w H h':=λa o e =>
 (x a o e).stay (λb u _ q=>k b u q) (λ_ q=>q) λ_ _ q=>q
theorem HOk.laid(x:HOk P w H h)(k:∀b u,h.get? b=some u->h'.get? b=some u)(hp:h.objs.size<=a)(new:Fr_ P w (upd H a o) h' a o):HOk P w (upd H a o) h':=λb u e=>by
 have hn:=x.fresh hp;by_cases hb:b=a
 .subst hb;rw[ab_]at e;cases e;show new
 .rw[af_ hb]at e;show(x b u e).stay (λc v _ q=>k c v q) (λc q=>by rw[af_ (ae_ q hn)];show q) λc xs q=>by rw[af_ (ae_ q hn)];show q
def Rd(H:Hp)(a:Addr)(u:HO):Prop:=H a=some u\/∃o,H a=some (.frz o u)
theorem Rd.ok{u:HO}(r:Rd H a u)(x:HOk P w H h):Fr_ P w H h a u:=by
 rcases r with r|⟨o,r⟩
 .show x a u r
 .obtain⟨_,q⟩:=x a _ r;show q
def Mut:Option HO->Prop
 |some (.lst _)=>True
 |some (.dK _)=>True
 |some (.dT _)=>True
 |some (.set _ _)=>True
 |some (.ins _ _ _)=>True
 |some (.ext _)=>True
 |_=>False
variable {x e:Addr}{o':HO}
theorem HOk.write(ok:HOk P w H h)(mu:Mut (H x))(he:e=x\/H e=some (.own x))(k:∀b u,b≠e->h.get? b=some u->h'.get? b=some u)(heo:∃u,h'.get? e=some u)
  (new:Fr_ P w (upd H x o') h' x o'):HOk P w (upd H x o') h':=λb u q=>by
 have nown:∀c y,H c=some (.own y)->c≠x:=λc y r z=>by subst z;rw[r]at mu;show mu
 have ntup:∀c xs,H c=some (.tup xs)->c≠x:=λc xs r z=>by subst z;rw[r]at mu;show mu
 by_cases hb:b=x
 .subst hb;rw[ab_]at q;cases q;show new
 .rw[af_ hb]at q;by_cases hbe:b=e
  .have q':H b=some (.own x):=by
    rcases he with z|z
    .show absurd (hbe.trans z) hb
    .rw[hbe];show z
   rw[q]at q';cases q';obtain⟨v,hv⟩:=heo;show⟨v,by rw[hbe];show hv⟩
  .show(ok b u q).stay (λc v hc r=>k c v ?_ r) (λc r=>by rw[af_ (nown c b r)];show r) λc xs r=>by rw[af_ (ntup c xs r)];show r
   rcases hc with rfl|hc
   .show hbe
   .rintro rfl
    rcases he with z|z
    .show nown c b hc z
    .rw[hc]at z;cases z;show hb rfl
structure Un(fs ex:List Addr)(H H':Hp)(h h':Heap):Prop where
 keep:∀b o,h.get? b=some o->H b=none->b∉fs->b∉ex->h'.get? b=some o
 slot:∀b o,h.get? b=some o->H b=none->b∈fs->b∉ex->∃sl,h'.get? b=some {o with slots:=sl}
 free:∀b o,h.get? b=some o->H b=none->b∉ex->H' b=none
 there:∀b o,h.get? b=some o->b∉ex->∃o',h'.get? b=some o'
 tups:∀b xs,H b=some (.tup xs)->H' b=some (.tup xs)
 frzs:∀b o u,H b=some (.frz o u)->H' b=some (.frz o u)
 tbls:∀b ps,H b=some (.tbl ps)->∃more,H' b=some (.tbl (ps++more))
section
variable {fs fs' ex ex':List Addr}{H1 H2:Hp}{h1 h2:Heap}
theorem Un.any(u:Un fs ex H H1 h h1){ob:Obj}(q:h.get? b=some ob)(n:H b=none)(hx:b∉ex):∃sl,h1.get? b=some {ob with slots:=sl}:=by
 by_cases hb:b∈fs
 .show u.slot b ob q n hb hx
 .show⟨ob.slots,u.keep b ob q n hb hx⟩
theorem Un.kept(k:∀b u,h.get? b=some u->h'.get? b=some u):Un fs ex H H h h' :=
 ⟨λb ob q _ _ _=>k b ob q,λb ob q _ _ _=>⟨ob.slots,k b ob q⟩,λ_ _ _ n _=>n,λb ob q _=>⟨ob,k b ob q⟩,λ_ _ q=>q,λ_ _ _ q=>q,λ_ ps q=>⟨#[],by rw[q];simp⟩⟩
theorem Un.refl:Un fs ex H H h h:=Un.kept λ_ _ q=>q
theorem Un.laid(k:∀b u,h.get? b=some u->h'.get? b=some u)(hp:h.objs.size<=a)(hn:H a=none):Un fs ex H (upd H a o) h h' where
 keep:=λb u q _ _ _=>k b u q
 slot:=λb u q _ _ _=>⟨u.slots,k b u q⟩
 free:=λb u q n _=>by rw[af_ (AE_ (AH_ (Au_ q) hp))];show n
 there:=λb u q _=>⟨u,k b u q⟩
 tups:=λb xs q=>by rw[af_ (ae_ q hn)];show q
 frzs:=λb u xs q=>by rw[af_ (ae_ q hn)];show q
 tbls:=λb ps q=>⟨#[],by rw[af_ (ae_ q hn),q];simp⟩
theorem Un.write(mu:Mut (H x))(he:e=x\/H e=some (.own x))(k:∀b u,b≠e->h.get? b=some u->h'.get? b=some u)(heo:∃u,h'.get? e=some u):Un fs ex H (upd H x o) h h':=by
 have hx:∀b,H b=none->b≠x:=λb n z=>by subst z;rw[n]at mu;show mu
 have hb:∀b,H b=none->b≠e:=λb n z=>by
  subst z
  rcases he with r|r
  .show hx b n r
  .rw[n]at r;cases r
 have hm:∀b u,H b=some u->¬ Mut (some u)->b≠x:=λb u q nm z=>by subst z;rw[q]at mu;show nm mu
 show⟨λb u q n _ _=>k b u (hb b n) q,λb u q n _ _=>⟨u.slots,k b u (hb b n) q⟩,λb u q n _=>by rw[af_ (hx b n)];show n,λb u q _=>?_,
  λb xs q=>by rw[af_ (hm b _ q λz=>z)];show q,λb u xs q=>by rw[af_ (hm b _ q λz=>z)];show q,λb ps q=>⟨#[],by rw[af_ (hm b _ q λz=>z),q];simp⟩⟩
 by_cases hbe:b=e
 .subst hbe;show heo
 .show⟨u,k b u hbe q⟩
end
def trk(h:Heap)(H:Hp):List Addr:=(List.range h.objs.size).filter λa=>(H a).isSome
def IK_(h:Heap)(H:Hp):Heap:=PySem.W.hideAll h (trk h H)
theorem mr_(h:Heap)(H:Hp):(IK_ h H).objs.size=h.objs.size:=PySem.W.hideAll_size _ _
theorem nY_{o:Obj}(e:h.get? b=some o)(n:H b=none):(IK_ h H).get? b=some o :=
 PySem.W.hideAll_get _ e λhm=>by have q:(H b).isSome=true:=(Bq_.mp hm).2;rw[n]at q;simp at q
theorem pJ_{o:Obj}(e:(IK_ h H).get? b=some o):h.get? b=some o/\H b=none:=by
 have e':h.get? b=some o:=PySem.W.of_hideAll (trk h H) e;show⟨e',?_⟩;cases q:H b with
 |none=>rfl
 |some x =>have hm:b∈trk h H:=Bq_.mpr ⟨AJ_.mpr (Au_ e'),by simp[q]⟩;have z:(IK_ h H).get? b=none:=PySem.W.hideAll_none (trk h H) hm;rw[z]at e;cases e
def FB_(g h:Heap)(L:Addr):List (Addr×Obj):=(List.range h.objs.size).filterMap λa=>if a=L\/(g.get? a).isSome=true then none else(h.get? a).map λo=>(a,o)
theorem dP_{g:Heap}{L:Addr}{o:Obj}(h1:a≠L)(h2:g.get? a=none)(h3:h.get? a=some o):(a,o)∈FB_ g h L :=
 B7_.mpr ⟨a,AJ_.mpr (Au_ h3),by simp[h1,h2,h3]⟩
theorem h5_{g:Heap}{L:Addr}{p:Addr×Obj}(hp:p∈FB_ g h L):p.1≠L/\g.get? p.1=none/\h.get? p.1=some p.2:=by
 obtain⟨b,_,e⟩:=B7_.mp hp;split at e
 .cases e
 .rename_i hn;cases q:h.get? b with
  |none=>rw[q]at e;simp at e
  |some u =>
   rw[q]at e;simp only[B8_,Option.some.injEq]at e;subst e;show⟨λz=>hn (.inl z),?_,q⟩;change g.get? b=none;cases r:g.get? b with
   |none=>rfl
   |some v=>show(hn (.inr (by simp[r]))).elim
def rest(g h:Heap)(L d:Addr):List (Addr×Obj):=(FB_ g h L).filter λp=>decide (p.1≠d)
theorem fw_{g:Heap}{L:Addr}:News g L h (FB_ g h L):=λp hp=>let⟨a,b,c⟩:=h5_ hp;⟨c,a,b⟩
structure Mod(K:PySem.W.Frag)(mg:Str->Option Value)(base:Heap):Prop where
 kin:K.In base
 glob:base.Ns mainGlobals mg
 blt:∃mb,base.Ns builtinsNs mb/\∀x:Str,x ≠ "__name__" -> mb x=bootBuiltins x
 nolimit:base.NoLimit
structure Cx where
 prog:Program
 w:World
 K:PySem.W.Frag
 mg:Str->Option Value
 base:Heap
 A:Around
 N:List Str
 s₀:Shared
 H₀:Hp
 env:Env
 outer:List Env
 stack:List Env
 ex:List Addr
 fn:Str->Bool
 calm:Bool
 pn:List (Addr×Obj)
 xe:Value->Shared->Prop
def frs(l:List Env):List Addr:=l.filterMap (·.frame)
abbrev Cx.fs(X:Cx):List Addr:=frs X.outer
def Vis(sc:Scope)(x:Str):Prop:=sc.names.lookup x=some .local\/sc.names.lookup x=some .cell\/sc.names.lookup x=some .free
def Loc(sc:Scope)(x:Str):Prop:=sc.names.lookup x=some .local\/sc.names.lookup x=some .cell
def Look(env:Env)(h:Heap)(m:Str->Option Value)(x:Str)(u:Value):Prop :=
 (env.kindOf x=some .local/\m x=some u)\/((env.kindOf x=some .cell\/env.kindOf x=some .free)/\∃c,env.cells.lookup x=some c/\h.IsCell c (some u))
structure Cx.Ok(X:Cx):Prop where
 mod:Mod X.K X.mg X.base
 kind:X.env.scope.kind=.function
 glob:X.env.globals=mainGlobals
 blt:X.env.builtins=builtinsNs
 above:X.s₀.heap.objs.size<=X.env.locals
 inj:∀x y c,X.env.cells.lookup x=some c->X.env.cells.lookup y=some c->x=y
 has:∀x,(X.env.kindOf x=some .cell\/X.env.kindOf x=some .free)->∃c,X.env.cells.lookup x=some c
 cab:∀x c,X.fn x=true->X.env.cells.lookup x=some c->X.s₀.heap.objs.size<=c
 hd:X.calm=true->X.A.handled=none
 frames:X.A.frames=some X.stack
 stk:X.stack=X.outer\/(X.stack=X.env::X.outer/\X.env.frame=some X.env.locals)
 exf:∀b∈X.ex,b≠X.env.locals/\∀x c,X.env.cells.lookup x=some c->c≠b
 bs:∀b o,X.base.get? b=some o->X.s₀.heap.get? b=some o/\X.H₀ b=none
 bsz:X.base.objs.size<=X.s₀.heap.objs.size
 noex:∀b o,X.base.get? b=some o->b∉X.ex
 exfs:∀b∈X.ex,b∉X.fs
 funs:X.s₀.heap.FunFrames X.base X.outer
 frf:∀b∈X.fs,X.H₀ b=none
structure Inv(X:Cx)(pins:List (Addr×Obj))(σ:List (Option V))(H:Hp)(s:Shared):Prop where
 ok:X.Ok
 os:s.os=X.s₀.os
 bare:AllBare s.gens
 base:Un X.fs X.ex X.H₀ H X.s₀.heap s.heap
 loc:∃m,s.heap.Ns X.env.locals m/\∀(i:Nat)(x:Str)(v:V),X.N[i]?=some x->σ[i]?=some (some v)->Vis X.env.scope x->∃u,Fm_ v u/\Look X.env s.heap m x u
 cell:∀x c,X.env.cells.lookup x=some c->∃v,s.heap.IsCell c v
 free:H X.env.locals=none
 freeC:∀x c,X.env.cells.lookup x=some c->H c=none
 pin:∀p∈X.pn++pins,s.heap.get? p.1=some p.2/\H p.1=none/\p.1≠X.env.locals/\p.1∉X.fs/\∀v,p.2.data≠.cell v
 hok:HOk X.prog X.w H s.heap
 len:σ.length=X.N.length
variable {X:Cx}{pins:List (Addr×Obj)}{σ:List (Option V)}{s:Shared}
theorem Cx.Ok.nofr(ok:X.Ok){o:Obj}(e:X.base.get? b=some o):b∉X.fs:=λhb=>by have:=(ok.funs.mem hb).1;rw[e]at this;cases this
theorem Inv.bs(I:Inv X pins σ H s):∀b o,X.base.get? b=some o->s.heap.get? b=some o/\H b=none:=λb o e =>⟨I.base.keep b o (I.ok.bs b o e).1 (I.ok.bs b o e).2 (I.ok.nofr e) (I.ok.noex b o e),I.base.free b o (I.ok.bs b o e).1 (I.ok.bs b o e).2 (I.ok.noex b o e)⟩
theorem Inv.bk(I:Inv X pins σ H s):∀b o,X.base.get? b=some o->s.heap.get? b=some o:=λb o e=>(I.bs b o e).1
theorem Inv.mod(I:Inv X pins σ H s):Mod X.K X.mg X.base:=I.ok.mod
theorem Inv.kIn(I:Inv X pins σ H s):X.K.In s.heap:=I.ok.mod.kin.keeps I.bk
theorem Inv.lt(I:Inv X pins σ H s):X.env.locals<s.heap.objs.size:=let⟨_,hn,_⟩:=I.loc;hn.lt
theorem Inv.sz(I:Inv X pins σ H s):X.s₀.heap.objs.size<=s.heap.objs.size:=A7_ I.ok.above (AO_ I.lt)
theorem Inv.nofs(I:Inv X pins σ H s)(h:s.heap.objs.size<=a):a∉X.fs:=λhb=>by obtain⟨_,o,ho,_⟩:=I.ok.funs.mem hb;show absurd (AH_ (Au_ ho) (A7_ I.sz h)) (Bi_ _)
theorem Inv.cne(I:Inv X pins σ H s):∀x c,X.env.cells.lookup x=some c->c≠X.env.locals:=λx c e z=>by obtain⟨v,o,ho,hd⟩:=I.cell x c e;obtain⟨m,⟨o',es,ep,ho',hd',_⟩,_⟩:=I.loc;rw[z,ho']at ho;cases ho;rw[hd']at hd;cases hd
theorem Inv.funs(I:Inv X pins σ H s):s.heap.FunFrames X.base X.outer:=by
 have all:∀(l:List Env),(∀b∈frs l,b∈X.fs)->X.s₀.heap.FunFrames X.base l->s.heap.FunFrames X.base l:=by
  intro l
  induction l with
  |nil=>intro _ _;trivial
  |cons env r ih =>intro hs hl;obtain⟨hk,⟨L,o,hf,hn,ho,hd⟩,hr⟩:=hl;have hL:L∈X.fs:=hs L (by unfold frs;rw[B5_,hf];show An_);obtain⟨sl,e⟩:=I.base.slot L o ho (I.ok.frf L hL) hL λz=>I.ok.exfs L z hL;show⟨hk,⟨L,_,hf,hn,e,hd⟩,ih (λb hb=>hs b (by unfold frs;rw[B5_,hf];show Ak_ _ hb)) hr⟩
 show all X.outer (λ_ hb=>hb) I.ok.funs
theorem Inv.stack(I:Inv X pins σ H s):s.heap.FunFrames X.base X.stack:=by
 rcases I.ok.stk with e|⟨e,hf⟩
 .rw[e];show I.funs
 .rw[e];obtain⟨m,hn,_⟩:=I.loc;show .cons (by rw[I.ok.kind];decide) hf hn ?_ I.funs;show Heap.get?_none_of_le (A7_ I.ok.bsz I.ok.above)
theorem Inv.stkSub(I:Inv X pins σ H s):∀b∈frs X.stack,b∈X.env.locals::X.fs:=λb hb=>by
 rcases I.ok.stk with e|⟨e,hf⟩
 .rw[e]at hb;show Ak_ _ hb
 .rw[e]at hb;unfold frs at hb;rw[B5_,hf]at hb;show hb
theorem Inv.stkFree(I:Inv X pins σ H s):∀b∈frs X.stack,H b=none:=λb hb=>by
 rcases Aq_.mp (I.stkSub b hb)with e|hb
 .rw[e];show I.free
 .obtain⟨_,o,ho,_⟩:=I.ok.funs.mem hb;show I.base.free b o ho (I.ok.frf b hb) λz=>I.ok.exfs b z hb
theorem Inv.step{g':Array GenState}{t':Nat}{d':Drawn}{ch:List Addr}(I:Inv X pins σ H s)
  (hch:∀b∈ch,(b∈X.ex\/X.s₀.heap.objs.size<=b)/\b≠X.env.locals/\(∀x c,X.env.cells.lookup x=some c->c≠b)/\∀p∈X.pn++pins,p.1≠b)
  (keep:∀b o,b≠X.env.locals->b∉X.fs->b∉ch->s.heap.get? b=some o->H b=none->h'.get? b=some o)
  (slot:∀b o,b≠X.env.locals->b∈X.fs->b∉ch->s.heap.get? b=some o->H b=none->∃sl,h'.get? b=some {o with slots:=sl}) (free:∀b o,b∉ch->s.heap.get? b=some o->H b=none->H' b=none)
  (there:∀b o,b∉ch->s.heap.get? b=some o->∃o',h'.get? b=some o')
  (tups:∀b xs,H b=some (.tup xs)->H' b=some (.tup xs)) (frzs:∀b o u,H b=some (.frz o u)->H' b=some (.frz o u)) (tbls:∀b ps,H b=some (.tbl ps)->∃more,H' b=some (.tbl (ps++more)))
  (ns:∀m,s.heap.Ns X.env.locals m->h'.Ns X.env.locals m) (hok:HOk X.prog X.w H' h') (hg:AllBare g'):
  Inv X pins σ H' {s with heap:=h',gens:=g',drawn:=d',toks:=t'}:=by
 have neL:∀b o,X.s₀.heap.get? b=some o->b≠X.env.locals:=λb o e=>AE_ (AH_ (Au_ e) I.ok.above)
 have neC:∀b o,X.s₀.heap.get? b=some o->b∉X.ex->b∉ch:=λb o e hx hb=>by
  rcases(hch b hb).1 with z|z
  .show hx z
  .show absurd (AH_ (Au_ e) z) (Bi_ _)
 have cellK:∀x c,X.env.cells.lookup x=some c->∀v,s.heap.IsCell c v->h'.IsCell c v:=λx c e v ⟨o,ho,hd⟩=>by
  have nch:c∉ch:=λz=>(hch c z).2.2.1 x c e rfl;by_cases hc:c∈X.fs
  .obtain⟨sl,q⟩:=slot c o (I.cne x c e) hc nch ho (I.freeC x c e);show⟨_,q,hd⟩
  .show⟨o,keep c o (I.cne x c e) hc nch ho (I.freeC x c e),hd⟩
 show⟨I.ok,I.os,hg,⟨λb o e n hb hx=>?_,λb o e n hb hx=>?_,λb o e n hx=>?_,λb o e hx=>?_,λb xs e=>tups b xs (I.base.tups b xs e),λb o xs e=>frzs b o xs (I.base.frzs b o xs e),λb ps e=>?_⟩,?_,λx c e=>?_,?_,λx c e=>?_,λp hp=>?_,hok,I.len⟩
 .show keep b o (neL b o e) hb (neC b o e hx) (I.base.keep b o e n hb hx) (I.base.free b o e n hx)
 .obtain⟨sl,e1⟩:=I.base.slot b o e n hb hx;obtain⟨sl',e2⟩:=slot b _ (neL b o e) hb (neC b o e hx) e1 (I.base.free b o e n hx);show⟨sl',e2⟩
 .obtain⟨o',e1⟩:=I.base.there b o e hx;show free b o' (neC b o e hx) e1 (I.base.free b o e n hx)
 .obtain⟨o',e1⟩:=I.base.there b o e hx;show there b o' (neC b o e hx) e1
 .obtain⟨m1,e1⟩:=I.base.tbls b ps e;obtain⟨m2,e2⟩:=tbls b _ e1;show⟨m1++m2,by rw[e2,Array.append_assoc]⟩
 .obtain⟨m,hn,hl⟩:=I.loc;show⟨m,ns m hn,λi x v e1 e2 e3=>?_⟩;obtain⟨u,r,l⟩:=hl i x v e1 e2 e3;show⟨u,r,?_⟩
  rcases l with l|⟨k,c,e,z⟩
  .show .inl l
  .show .inr ⟨k,c,e,cellK x c e _ z⟩
 .obtain⟨v,z⟩:=I.cell x c e;show⟨v,cellK x c e v z⟩
 .obtain⟨m,⟨o,_,_,ho,_⟩,_⟩:=I.loc;show free _ o (λz=>(hch _ z).2.1 rfl) ho I.free
 .obtain⟨v,o,ho,hd⟩:=I.cell x c e;show free c o (λz=>(hch c z).2.2.1 x c e rfl) ho (I.freeC x c e)
 .obtain⟨e,n,ne,nf,d⟩:=I.pin p hp;have nch:p.1∉ch:=λz=>(hch p.1 z).2.2.2 p hp rfl;show⟨keep p.1 p.2 ne nf nch e n,free p.1 p.2 nch e n,ne,nf,d⟩
theorem Inv.un{t':Nat}(I:Inv X pins σ H s)(u:Un X.fs [] H H' s.heap h')(hok:HOk X.prog X.w H' h'):Inv X pins σ H' {s with heap:=h',toks:=t'}:=by
 obtain⟨m,⟨o,es,ep,ho,r⟩,_⟩:=id I.loc;obtain⟨sl,hL⟩:=u.any ho I.free s_;show I.step (g':=s.gens) (d':=s.drawn) (ch:=[]) (λ_ z=>nomatch z) (λb o _ hb _ e n=>u.keep b o e n hb s_) (λb o _ hb _ e n=>u.slot b o e n hb s_) (λb o _ e n=>u.free b o e n s_) (λb o _ e=>u.there b o e s_) u.tups u.frzs u.tbls (λm' hm=>by obtain⟨o',es',ep',ho',r'⟩:=hm;rw[ho]at ho';cases ho';show⟨_,es',ep',hL,r'⟩) hok I.bare
theorem Inv.call{g':Array GenState}{t':Nat}{d':Drawn}{ch:List Addr}(I:Inv X pins σ H s)(u:Un (frs X.stack) ch H H' s.heap h')(hok:HOk X.prog X.w H' h')(hg:AllBare g')
  (hch:∀b∈ch,(b∈X.ex\/X.s₀.heap.objs.size<=b)/\b≠X.env.locals/\(∀x c,X.env.cells.lookup x=some c->c≠b)/\∀p∈X.pn++pins,p.1≠b):
  Inv X pins σ H' {s with heap:=h',gens:=g',drawn:=d',toks:=t'}:=by
 obtain⟨m,⟨o,es,ep,ho,r⟩,_⟩:=id I.loc;obtain⟨sl,hL⟩:=u.any ho I.free λz=>(hch _ z).2.1 rfl;show I.step (ch:=ch) hch (λb o hL hb hc e n=>u.keep b o e n (λz=>(Aq_.mp (I.stkSub b z)).elim hL hb) hc) (λb o _ _ hc e n=>u.any e n hc) (λb o hc e n=>u.free b o e n hc) (λb o hc e=>u.there b o e hc) u.tups u.frzs u.tbls (λm' hm=>by obtain⟨o',es',ep',ho',r'⟩:=hm;rw[ho]at ho';cases ho';show⟨_,es',ep',hL,r'⟩) hok hg
theorem Inv.turned{t':Nat}{it:Addr}(I:Inv X pins σ H s)(k:∀b o,b≠it->s.heap.get? b=some o->h'.get? b=some o)(hn:H it=none)(hL:it≠X.env.locals)
  (h1:it∈X.ex\/X.s₀.heap.objs.size<=it) (h2:∀x c,X.env.cells.lookup x=some c->c≠it) (h3:∀p∈X.pn++pins,p.1≠it):Inv X pins σ H {s with heap:=h',toks:=t'}:=by
 have nit:∀b u,H b=some u->b≠it:=λb u e z=>by rw[z,hn]at e;cases e
 show I.step (g':=s.gens) (d':=s.drawn) (ch:=[it]) (λb hb=>?_) (λb o _ _ hc e _=>k b o (λz=>hc (by simp[z])) e) (λb o _ _ hc e _=>⟨o.slots,k b o (λz=>hc (by simp[z])) e⟩) (λ_ _ _ _ n=>n)
  (λb o hc e=>⟨o,k b o (λz=>hc (by simp[z])) e⟩) (λ_ _ e=>e) (λ_ _ _ e=>e) (λb ps e=>⟨#[],by rw[e];simp⟩) (λm hm=>?_) (λb u e=>?_) I.bare
 .have e:b=it:=by simpa using hb
  subst e;show⟨h1,hL,h2,h3⟩
 .obtain⟨o,es,ep,ho,r⟩:=hm;show⟨o,es,ep,k _ o (Ne.symm hL) ho,r⟩
 .show(I.hok b u e).stay (λc v hc q=>k c v ?_ q) (λ_ q=>q) λ_ _ q=>q
  rcases hc with z|z
  .rw[z];show nit b u e
  .show nit c _ z
theorem Inv.tok(I:Inv X pins σ H s)(t:Nat):Inv X pins σ H {s with toks:=t}:=I.un (h':=s.heap) (t':=t) Un.refl I.hok
theorem Inv.kept{t':Nat}(I:Inv X pins σ H s)(k:∀b u,s.heap.get? b=some u->h'.get? b=some u):Inv X pins σ H {s with heap:=h',toks:=t'}:=I.un (Un.kept k) (I.hok.kept k)
theorem Inv.laid{t':Nat}(I:Inv X pins σ H s)(k:∀b u,s.heap.get? b=some u->h'.get? b=some u)(hp:s.heap.objs.size<=a)(new:Fr_ X.prog X.w (upd H a o) h' a o):
  Inv X pins σ (upd H a o) {s with heap:=h',toks:=t'}:=I.un (Un.laid k hp (I.hok.fresh hp)) (I.hok.laid k hp new)
theorem Inv.write{x e:Addr}{o:HO}{t':Nat}(I:Inv X pins σ H s)(mu:Mut (H x))(he:e=x\/H e=some (.own x))(k:∀b u,b≠e->s.heap.get? b=some u->h'.get? b=some u)(heo:∃u,h'.get? e=some u)
  (new:Fr_ X.prog X.w (upd H x o) h' x o):Inv X pins σ (upd H x o) {s with heap:=h',toks:=t'}:=I.un (Un.write mu he k heo) (I.hok.write mu he k heo new)
theorem Inv.pins_of{pins':List (Addr×Obj)}(I:Inv X pins σ H s)(h:∀p∈pins',s.heap.get? p.1=some p.2/\H p.1=none/\p.1≠X.env.locals/\p.1∉X.fs/\∀v,p.2.data≠.cell v):Inv X pins' σ H s :=
 ⟨I.ok,I.os,I.bare,I.base,I.loc,I.cell,I.free,I.freeC,λp hp=>(Ao_.mp hp).elim (λz=>I.pin p (AB_ _ z)) (h p),I.hok,I.len⟩
theorem iv_{N:List Str}(hN:N.Nodup){i j:Nat}{x:Str}(a:N[i]?=some x)(b:N[j]?=some x):i=j:=by obtain⟨h1,e1⟩:=Al_.mp a;obtain⟨h2,e2⟩:=Al_.mp b;show(List.getElem_inj hN).mp (e1.trans e2.symm)
theorem jb_{M:Model}{A:Around}{E:Value->Shared->Prop}{i:Nat}{x:Str}{v:V}{u:Value}{Q:Unit->Shared->Prop}(I:Inv X pins σ H s)(hN:X.N.Nodup)(hi:X.N[i]?=some x)(hx:Loc X.env.scope x)(r:Fm_ v u)
  (h:∀s',Inv X pins (σ.set i (some v)) H s'->(∃a,Heap.SameBut a s.heap s'.heap/\(a=X.env.locals\/X.env.cells.lookup x=some a))->Q () s') (hf:X.fn x=true\/X.env.scope.names.lookup x=some .local:=by first|show .inl rfl|show .inr rfl|assumption):wpAny M A (storeName X.env x u) Q E s:=by
 obtain⟨m,hn,hl⟩:=id I.loc;have hcls:(X.env.scope.kind == .class ||(X.env.scope.kind == .module && X.env.locals != X.env.globals))=false:=by rw[I.ok.kind];rfl
 have hiσ:i<σ.length:=by rw[I.len];show(Al_.mp hi).1
 have cne:=I.cne
 have tracked:∀{a:Addr}{h':Heap},(∃o,s.heap.get? a=some o/\H a=none)->Heap.SameBut a s.heap h'->HOk X.prog X.w H h':=λ{a h'} ha hs b ob e=>by
  obtain⟨_,_,hfree⟩:=ha;show(I.hok b ob e).stay (λc w' hc q=>(hs.2 c ?_).trans q) (λ_ q=>q) λ_ _ q=>q;rintro rfl
  rcases hc with rfl|hc
  .rw[hfree]at e;cases e
  .rw[hfree]at hc;cases hc
 rcases hx with hk|hk
 .show wpAny_storeName_local hk hn (λh' hn' hs=>?_) hcls;obtain⟨oL,_,_,hoL,_⟩:=id hn;show h _ ⟨I.ok,I.os,I.bare,⟨λb o e n hb hx=>?_,λb o e n hb hx=>?_,I.base.free,λb o e hx=>?_,I.base.tups,I.base.frzs,I.base.tbls⟩,⟨_,hn',λj y v' e1 e2 e3=>?_⟩,λy c e=>?_,I.free,I.freeC,λp hp=>?_,tracked ⟨oL,hoL,I.free⟩ hs,by simpa using I.len⟩ ⟨_,hs,.inl rfl⟩
  .show(hs.2 b (AE_ (AH_ (Au_ e) I.ok.above))).trans (I.base.keep b o e n hb hx)
  .obtain⟨sl,e1⟩:=I.base.slot b o e n hb hx;show⟨sl,(hs.2 b (AE_ (AH_ (Au_ e) I.ok.above))).trans e1⟩
  .obtain⟨o',e1⟩:=I.base.there b o e hx;show⟨o',(hs.2 b (AE_ (AH_ (Au_ e) I.ok.above))).trans e1⟩
  .by_cases hj:j=i
   .subst hj;rw[hi]at e1;cases e1;rw[Cw_ hiσ]at e2;cases e2;show⟨u,r,.inl ⟨hk,s_⟩⟩
   .rw[CI_ (Ne.symm hj)]at e2;obtain⟨u',r',q⟩:=hl j y v' e1 e2 e3;show⟨u',r',?_⟩
    rcases q with⟨k,e⟩|⟨k,c,e,z⟩
    .show .inl ⟨k,?_⟩;have:y≠x:=λe=>hj (iv_ hN e1 (e▸hi));simp[this,e]
    .show .inr ⟨k,c,e,z.sameBut hs (cne y c e)⟩
  .obtain⟨w',z⟩:=I.cell y c e;show⟨w',z.sameBut hs (cne y c e)⟩
  .obtain⟨e,n,ne,nf,d⟩:=I.pin p hp;show⟨(hs.2 p.1 ne).trans e,n,ne,nf,d⟩
 .have hfn:X.fn x=true:=by
   rcases hf with z|z
   .show z
   .rw[z]at hk;cases hk
  obtain⟨c,hc⟩:=I.ok.has x (.inl hk);obtain⟨w',z⟩:=I.cell x c hc;show wpAny_storeName_cell I.ok.kind hk hc z (λh' hc' hs=>?_);obtain⟨oc,hoc,hocd⟩:=id z;show h {s with heap:=h'} ⟨I.ok,I.os,I.bare,⟨λb o e n hb hx=>?_,λb o e n hb hx=>?_,I.base.free,λb o e hx=>?_,I.base.tups,I.base.frzs,I.base.tbls⟩,⟨m,hn.sameBut hs (Ne.symm (cne x c hc)),λj y v' e1 e2 e3=>?_⟩,λy c' e=>?_,I.free,I.freeC,λp hp=>?_,tracked ⟨oc,hoc,I.freeC x c hc⟩ hs,by simpa using I.len⟩ ⟨c,hs,.inr hc⟩
  .show(hs.2 b (AE_ (AH_ (Au_ e) (I.ok.cab x c hfn hc)))).trans (I.base.keep b o e n hb hx)
  .obtain⟨sl,e1⟩:=I.base.slot b o e n hb hx;show⟨sl,(hs.2 b (AE_ (AH_ (Au_ e) (I.ok.cab x c hfn hc)))).trans e1⟩
  .obtain⟨o',e1⟩:=I.base.there b o e hx;show⟨o',(hs.2 b (AE_ (AH_ (Au_ e) (I.ok.cab x c hfn hc)))).trans e1⟩
  .by_cases hj:j=i
   .subst hj;rw[hi]at e1;cases e1;rw[Cw_ hiσ]at e2;cases e2;show⟨u,r,.inr ⟨.inl hk,c,hc,hc'⟩⟩
   .rw[CI_ (Ne.symm hj)]at e2;obtain⟨u',r',q⟩:=hl j y v' e1 e2 e3;show⟨u',r',?_⟩
    rcases q with q|⟨k,c',e,z'⟩
    .show .inl q
    .show .inr ⟨k,c',e,z'.sameBut hs ?_⟩;rintro rfl;show hj (iv_ hN e1 (I.ok.inj _ _ _ e hc▸hi))
  .by_cases hcc:c'=c
   .subst hcc;show⟨_,hc'⟩
   .obtain⟨w2,z2⟩:=I.cell y c' e;show⟨w2,z2.sameBut hs hcc⟩
  .obtain⟨e,n,ne,nf,d⟩:=I.pin p hp;show⟨(hs.2 p.1 ?_).trans e,n,ne,nf,d⟩;intro q;rw[q,hoc]at e;have q':oc=p.2:=At_ e;show d w' (by rw[<-q'];show hocd)
theorem fx_{M:Model}{A:Around}{E:Value->Shared->Prop}{i:Nat}{x:Str}{v:V}{u:Value}{Q:Unit->Shared->Prop}(I:Inv X pins σ H s)(hN:X.N.Nodup)(hi:X.N[i]?=some x)(hx:Loc X.env.scope x)(r:Fm_ v u)
  (h:∀s',Inv X pins (σ.set i (some v)) H s'->Q () s') (hf:X.fn x=true\/X.env.scope.names.lookup x=some .local:=by first|show .inl rfl|show .inr rfl|assumption):wpAny M A (storeName X.env x u) Q E s :=
 jb_ I hN hi hx r (λs' I' _=>h s' I') hf
theorem Inv.call'{s':Shared}{ch:List Addr}(I:Inv X pins σ H s)(ho:s'.os=s.os)(u:Un (frs X.stack) ch H H' s.heap s'.heap)(hok:HOk X.prog X.w H' s'.heap)(hg:AllBare s'.gens)
  (hch:∀b∈ch,(b∈X.ex\/X.s₀.heap.objs.size<=b)/\b≠X.env.locals/\(∀x c,X.env.cells.lookup x=some c->c≠b)/\∀p∈X.pn++pins,p.1≠b):Inv X pins σ H' s':=by
 obtain⟨h',g',d',t',o'⟩:=s';have e:o'=s.os:=ho;subst e;show I.call (g':=g') (t':=t') (d':=d') u hok hg hch
abbrev XK:=Value->Option Addr->Hp->Prop
abbrev St:=List (Option V)
abbrev VK:=V->Hp->Prop
abbrev TE:=St->Hp->VK->Prop
abbrev TT:=St->Hp->(Bool->Hp->Prop)->Prop
abbrev TA:=St->Hp->(List V->Hp->Prop)->Prop
structure GZ_ where
 nx:St->Hp->Prop
 rt:VK
 bk:St->Hp->Prop:=λ_ _=>False
 ct:St->Hp->Prop:=λ_ _=>False
abbrev TS:=GZ_->St->Hp->Prop
def EP(X:Cx)(pins:List (Addr×Obj))(σ:St)(Q:VK)(u:Value)(s':Shared):Prop:=∃v H',Inv X pins σ H' s'/\Fm_ v u/\Q v H'
def TP(X:Cx)(pins:List (Addr×Obj))(σ:St)(Q:Bool->Hp->Prop)(b:Bool)(s':Shared):Prop:=∃H',Inv X pins σ H' s'/\Q b H'
def AP(X:Cx)(pins:List (Addr×Obj))(σ:St)(Q:List V->Hp->Prop)(us:List Value)(s':Shared):Prop:=∃vs H',Inv X pins σ H' s'/\Fe_ vs us/\Q vs H'
def SP(X:Cx)(pins:List (Addr×Obj))(D:GZ_)(f:Flow)(s':Shared):Prop :=
 match f with
 | .next=>∃σ' H',Inv X pins σ' H' s'/\D.nx σ' H'
 | .brk=>∃σ' H',Inv X pins σ' H' s'/\D.bk σ' H'
 | .cont=>∃σ' H',Inv X pins σ' H' s'/\D.ct σ' H'
 | .ret u=>∃v σ' H',Inv X pins σ' H' s'/\Fm_ v u/\D.rt v H'
def PE(X:Cx)(e:Expr)(t:TE):Prop :=
 ∀(pins:List (Addr×Obj))(s:Shared)(σ:St)(H:Hp)(Q:VK),Inv X pins σ H s->t σ H Q->wpAny (model X.prog X.w) X.A (eval e X.env) (EP X pins σ Q) X.xe s
def PT(X:Cx)(e:Expr)(t:TT):Prop :=
 ∀(pins:List (Addr×Obj))(s:Shared)(σ:St)(H:Hp)(Q:Bool->Hp->Prop),Inv X pins σ H s->t σ H Q->wpAny (model X.prog X.w) X.A (isTrue e X.env (eval e X.env)) (TP X pins σ Q) X.xe s
def PW(X:Cx)(e:Expr)(t:TT):Prop :=
 ∀(whole:Sem Value)(pins:List (Addr×Obj))(s:Shared)(σ:St)(H:Hp)(Q:Bool->Hp->Prop),Inv X pins σ H s->t σ H Q->wpAny (model X.prog X.w) X.A (isTrue e X.env whole) (TP X pins σ Q) X.xe s
theorem PW.pt{e:Expr}{t:TT}(h:PW X e t):PT X e t:=h _
def PA(X:Cx)(es:List Expr)(t:TA):Prop :=
 ∀(pos:Pos)(pins:List (Addr×Obj))(s:Shared)(σ:St)(H:Hp)(Q:List V->Hp->Prop),Inv X pins σ H s->t σ H Q->wpAny (model X.prog X.w) X.A (spliced (backTo pos (starEach es X.env))) (AP X pins σ Q) X.xe s
def PS(X:Cx)(st:Stmt)(t:TS):Prop :=
 ∀(pins:List (Addr×Obj))(s:Shared)(σ:St)(H:Hp)(D:GZ_),Inv X pins σ H s->t D σ H->wpAny (model X.prog X.w) X.A (exec st X.env) (SP X pins D) X.xe s
def PSs(X:Cx)(st:List Stmt)(t:TS):Prop :=
 ∀(pins:List (Addr×Obj))(s:Shared)(σ:St)(H:Hp)(D:GZ_),Inv X pins σ H s->t D σ H->wpAny (model X.prog X.w) X.A (execs st X.env) (SP X pins D) X.xe s
theorem thn{α:Type}{t:Sem α}{Q Q':α->Shared->Prop}{M:Model}{A:Around}{E:Value->Shared->Prop}(h:wpAny M A t Q E s)(hQ:∀a s,Q a s->Q' a s):wpAny M A t Q' E s:=Bl_ h hQ λ_ _ x=>x
section
def onV:Option (Option V)->(V->Prop)->Prop
 |some (some v),Q=>Q v
 |_,_=>False
def onI:V->(Int->Prop)->Prop
 | .int i,Q=>Q i
 |_,_=>False
def onB:V->(Bool->Prop)->Prop
 | .bl i,Q=>Q i
 |_,_=>False
def onR:V->(Addr->Prop)->Prop
 | .ref i,Q=>Q i
 |_,_=>False
def on1:List V->(V->Prop)->Prop
 |[x],Q=>Q x
 |_,_=>False
def on2:List V->(V->V->Prop)->Prop
 |[x,y],Q=>Q x y
 |_,_=>False
theorem o1_{o:Option (Option V)}{Q:V->Prop}(h:onV o Q):∃v,o=some (some v)/\Q v:=by
 match o,h with
 |some (some v),h=>show⟨v,rfl,h⟩
theorem dd_{x:V}{Q:Int->Prop}(h:onI x Q):∃i,x=.int i/\Q i:=by
 cases x <;> first|show⟨_,rfl,h⟩|show h.elim
theorem hk_{x:V}{Q:Bool->Prop}(h:onB x Q):∃i,x=.bl i/\Q i:=by
 cases x <;> first|show⟨_,rfl,h⟩|show h.elim
theorem dx_{x:V}{Q:Addr->Prop}(h:onR x Q):∃i,x=.ref i/\Q i:=by
 cases x <;> first|show⟨_,rfl,h⟩|show h.elim
theorem k1_{x:List V}{Q:V->Prop}(h:on1 x Q):∃i,x=[i]/\Q i:=by
 match x,h with
 |[v],h=>show⟨v,rfl,h⟩
theorem o2_{x:List V}{Q:V->V->Prop}(h:on2 x Q):∃i j,x=[i,j]/\Q i j:=by
 match x,h with
 |[v,w],h=>show⟨v,w,rfl,h⟩
theorem qM_{o:Option (Option V)}{Q:V->Prop}:onV o Q = ∃v,o=some (some v)/\Q v:=propext ⟨o1_,λ⟨_,e,h⟩=>by rw[e];show h⟩
theorem qN_{x:V}{Q:Int->Prop}:onI x Q = ∃i,x=.int i/\Q i:=propext ⟨dd_,λ⟨_,e,h⟩=>by rw[e];show h⟩
theorem qO_{x:V}{Q:Bool->Prop}:onB x Q = ∃i,x=.bl i/\Q i:=propext ⟨hk_,λ⟨_,e,h⟩=>by rw[e];show h⟩
theorem qP_{x:V}{Q:Addr->Prop}:onR x Q = ∃i,x=.ref i/\Q i:=propext ⟨dx_,λ⟨_,e,h⟩=>by rw[e];show h⟩
theorem qQ_{x:List V}{Q:V->Prop}:on1 x Q = ∃i,x=[i]/\Q i:=propext ⟨k1_,λ⟨_,e,h⟩=>by rw[e];show h⟩
theorem qR_{x:List V}{Q:V->V->Prop}:on2 x Q = ∃i j,x=[i,j]/\Q i j:=propext ⟨o2_,λ⟨_,_,e,h⟩=>by rw[e];show h⟩
def H2_(i:Nat):TE:=λσ H Q=>onV σ[i]? λv=>Q v H
def tC(v:V):TE:=λ_ H Q=>Q v H
variable{pos:Pos}
theorem o3_{i:Nat}{x:Str}(hN:X.N[i]?=some x)(hv:Vis X.env.scope x)(hd:(x == ("__debug__" : Str))=false:=by decide) (hcd:(x == ("__classdict__" : Str))=false:=by decide):PE X (.Name x pos) (H2_ i):=by
 intro pins s σ H Q I h;obtain⟨v,e,h⟩:=o1_ h;obtain⟨m,hn,hl⟩:=I.loc;obtain⟨u,r,l⟩:=hl i x v hN e hv;have fin:EP X pins σ Q u s:=⟨v,H,I,r,h⟩
 rcases l with⟨hk,hm⟩|⟨hk,c,hc,hcell⟩
 .show wpAny_Name (wpAny_loadName_local I.ok.kind hk hn hm fin) hd
 .rcases hk with hk|hk
  .show wpAny_Name (wpAny_loadName_cell I.ok.kind hk hc hcell fin) hd
  .show wpAny_Name (wpAny_loadName_free I.ok.kind hk hc hcell fin hcd) hd
theorem ac_{i j pos}:PE X (.Constant (.int i) j pos) (tC (.int i)):=λ_ _ _ H _ I h=>wpAny_Constant_int ⟨.int i,H,I.tok _,⟨_,rfl⟩,h⟩
theorem Gy_{b j pos}:PE X (.Constant (.bool b) j pos) (tC (.bl b)):=λ_ _ _ H _ I h=>Constant_bool ⟨.bl b,H,I,rfl,h⟩
theorem qS_{j pos}:PE X (.Constant .none j pos) (tC .non):=λ_ _ _ H _ I h=>DZ_ ⟨.non,H,I,rfl,h⟩
theorem bm_{x j pos}:PE X (.Constant (.str x) j pos) (tC (.str x)):=λ_ _ _ H _ I h=>Calls.Constant_str ⟨.str x,H,I.tok _,⟨_,rfl⟩,h⟩
def Gl(X:Cx)(x:Str):Prop:=X.env.kindOf x=some .globalImplicit
theorem ga_{E:Value->Shared->Prop}{pins:List (Addr×Obj)}{s:Shared}{σ:St}{H:Hp}{x:Str}{u:Value}{pos:Pos}{Q:Value->Shared->Prop}(I:Inv X pins σ H s)(hg:Gl X x)(hm:X.mg x=some u)(h:Q u s)
  (hd:(x == ("__debug__" : Str))=false:=by decide):wpAny (model X.prog X.w) X.A (eval (.Name x pos) X.env) Q E s :=
 CW_ I.ok.kind hg (Calls.loadGlobal_global (by rw[I.ok.glob];show I.mod.glob.keeps I.bk) hm h) hd
theorem fy_{E:Value->Shared->Prop}{pins:List (Addr×Obj)}{s:Shared}{σ:St}{H:Hp}{x:Str}{u:Value}{pos:Pos}{Q:Value->Shared->Prop}(I:Inv X pins σ H s)(hg:Gl X x)(hm:X.mg x=none)(hv:bootBuiltins x=some u)(h:Q u s)
  (hn:x ≠ "__name__" := by decide) (hd:(x == ("__debug__" : Str))=false:=by decide):wpAny (model X.prog X.w) X.A (eval (.Name x pos) X.env) Q E s:=by
 obtain⟨mb,h1,h2⟩:=I.mod.blt;show CW_ I.ok.kind hg (Calls.loadGlobal_builtin (by rw[I.ok.glob];show I.mod.glob.keeps I.bk) hm (by rw[I.ok.blt];show h1.keeps I.bk) ((h2 x hn).trans hv) h) hd
theorem kk_{x:Str}{v:V}{u:Value}(hg:Gl X x)(hm:X.mg x=some u)(r:Fm_ v u)(hd:(x == ("__debug__" : Str))=false:=by decide):PE X (.Name x pos) (tC v):=
 λ_ _ _ H _ I h=>ga_ I hg hm ⟨v,H,I,r,h⟩ hd
theorem pK_{x:Str}{v:V}{u:Value}(hg:Gl X x)(hm:X.mg x=none)(hv:bootBuiltins x=some u)(r:Fm_ v u)(hn:x ≠ "__name__" := by decide) (hd:(x == ("__debug__" : Str))=false:=by decide):PE X (.Name x pos) (tC v):=
 λ_ _ _ H _ I h=>fy_ I hg hm hv ⟨v,H,I,r,h⟩ hn hd
variable {a b:Expr}{ta tb:TE}{pos:Pos}
def PC(X:Cx)(op:CmpOp)(a b:Expr)(t:TE):Prop :=
 ∀(pins:List (Addr×Obj))(s:Shared)(σ:St)(H:Hp)(Q:VK),Inv X pins σ H s->t σ H Q ->
  wpAny (model X.prog X.w) X.A (eval a X.env) (λv s₁=>wpAny (model X.prog X.w) X.A (eval b X.env) (λu s₂=>wpAny (model X.prog X.w) X.A (compareOp op v u) (EP X pins σ Q) X.xe s₂) X.xe s₁) X.xe s
def tIsN(ta:TE):TE:=λσ H Q=>ta σ H λx H1=>Q (.bl (decide (x=.non))) H1
def K1_(ta:TE):TE:=λσ H Q=>ta σ H λx H1=>Q (.bl (!decide (x=.non))) H1
def tB(t:TE):TT:=λσ H Q=>t σ H λx H1=>onB x λc=>Q c H1
theorem jc_{op:CmpOp}{t:TE}(h:PC X op a b t)(h1:behindInMarks op b=false:=by first|show nobehind _ d_ d_|rfl):PT X (.Compare a [op] [b] pos) (tB t):=by intro pins s σ H Q I hw;show Dk_ (thn (h pins s σ H _ I hw) λv s1 h1=>thn h1 λu s2 h2=>thn h2 λc s3 ⟨x,H1,I1,r1,q1⟩=>?_) h1;obtain⟨d,rfl,q⟩:=hk_ q1;cases r1;show BB_ ⟨H1,I1,q⟩
theorem gH_{e:Expr}{t:TE}(h:PE X e t)(he:∀whole,isTrue e X.env whole=(do let v <-whole;standAt e.pos;holding [v] (truthy v)):=by intro _;rfl):PT X e (tB t):=by intro pins s σ H Q I hw;show isTrue_plain (thn (h pins s σ H _ I hw) λv s1 ⟨x,H1,I1,r1,q1⟩=>?_) (he _);obtain⟨d,rfl,q⟩:=hk_ q1;cases r1;show BB_ ⟨H1,I1,q⟩
variable {tA tB':TT}{rest:List Expr}
def Lt_(t u:TT):TT:=λσ H Q=>t σ H λc H1=>if c=true then u σ H1 Q else Q false H1
def tOr(t u:TT):TT:=λσ H Q=>t σ H λc H1=>if c=true then Q true H1 else u σ H1 Q
def Lr_(t:TT):TT:=λσ H Q=>t σ H λc H1=>Q (!c) H1
theorem pL_(ha:PT X a tA):PW X (.BoolOp .And [a] pos) tA:=by
 intro wh pins s σ H Q I h;show isTrue_and (thn (ha pins s σ H Q I h) λc s1 e=>?_);cases c with
 |true=>show isTrue_and_nil e
 |false=>show e
theorem o4_(ha:PT X a tA):PW X (.BoolOp .Or [a] pos) tA:=by
 intro wh pins s σ H Q I h;show isTrue_or (thn (ha pins s σ H Q I h) λc s1 e=>?_);cases c with
 |false=>show isTrue_or_nil e
 |true=>show e
theorem qT_(ha:PT X a tA)(hb:PW X (.BoolOp .And (b::rest) pos) tB'):PW X (.BoolOp .And (a::b::rest) pos) (Lt_ tA tB'):=by
 intro wh pins s σ H Q I h;show isTrue_and (thn (ha pins s σ H _ I h) λc s1 ⟨H1,I1,q1⟩=>?_);cases c with
 |true=>show hb wh pins s1 σ H1 Q I1 q1
 |false=>show⟨H1,I1,q1⟩
theorem KA_(ha:PT X a tA)(hb:PW X (.BoolOp .Or (b::rest) pos) tB'):PW X (.BoolOp .Or (a::b::rest) pos) (tOr tA tB'):=by
 intro wh pins s σ H Q I h;show isTrue_or (thn (ha pins s σ H _ I h) λc s1 ⟨H1,I1,q1⟩=>?_);cases c with
 |true=>show⟨H1,I1,q1⟩
 |false=>show hb wh pins s1 σ H1 Q I1 q1
theorem gI_(ha:PT X a tA):PT X (.UnaryOp .Not a pos) (Lr_ tA):=by intro pins s σ H Q I h;show isTrue_not (ha pins s σ H (λc H1=>Q (!c) H1) I h)
def JQ_(ta tb:TE):TE:=λσ H Q=>ta σ H λx H1=>onB x λc=>if c=true then tb σ H1 Q else Q (.bl false) H1
def tOrV(ta tb:TE):TE:=λσ H Q=>ta σ H λx H1=>onB x λc=>if c=true then Q (.bl true) H1 else tb σ H1 Q
def Kb_(ta:TE):TE:=λσ H Q=>ta σ H λx H1=>onB x λc=>Q (.bl (!c)) H1
theorem ms_{op} {t:TE} (h:PE X a t):PE X (.BoolOp op [a] pos) t:=λpins s σ H Q I hw=>BoolOp_one (h pins s σ H Q I hw)
theorem k2_(ha:PE X a ta)(hb:PE X (.BoolOp .And (b::rest) pos) tb):PE X (.BoolOp .And (a::b::rest) pos) (JQ_ ta tb):=by
 intro pins s σ H Q I h;show BoolOp_and (thn (ha pins s σ H _ I h) λv s1 ⟨x,H1,I1,r1,q1⟩=>?_);obtain⟨c,rfl,q1⟩:=hk_ q1;cases r1;show BB_ ?_;cases c with
 |true=>show hb pins s1 σ H1 Q I1 q1
 |false=>show⟨.bl false,H1,I1,rfl,q1⟩
theorem qU_(ha:PE X a ta):PE X (.UnaryOp .Not a pos) (Kb_ ta):=by intro pins s σ H Q I h;show UnaryOp_ (thn (ha pins s σ H _ I h) λv s1 ⟨x,H1,I1,r1,q1⟩=>?_);obtain⟨c,rfl,q1⟩:=hk_ q1;cases r1;show not_of (BB_ ⟨.bl (!c),H1,I1,rfl,q1⟩)
def tIf(t:TT)(ta tb:TE):TE:=λσ H Q=>t σ H λc H1=>if c=true then ta σ H1 Q else tb σ H1 Q
theorem nZ_{c:Expr}(hc:PT X c tA)(ha:PE X a ta)(hb:PE X b tb):PE X (.IfExp c a b pos) (tIf tA ta tb):=by
 intro pins s σ H Q I h;show wpAny_IfExp (thn (hc pins s σ H _ I h) λd s1 ⟨H1,I1,q1⟩=>?_);cases d with
 |true=>show ha pins s1 σ H1 Q I1 q1
 |false=>show hb pins s1 σ H1 Q I1 q1
end
def SqL(K:PySem.W.Frag)(H:Hp)(a:Addr)(xs:List V):Prop :=
 Rd H a (.lst xs) \/
  ∃(o:Obj)(its:Array Value)(n:Nat),K.lookup a=some o/\o.cls=.type "list" /\ o.dict=none/\o.data=.seq its n/\its.size<=sizeLine/\Fe_ xs its.toList
def SqT(K:PySem.W.Frag)(H:Hp)(a:Addr)(xs:List V):Prop :=
 Rd H a (.tup xs) \/
  ∃(o:Obj)(its:Array Value)(n:Nat),K.lookup a=some o/\o.cls=.type "tuple" /\ o.data=.seq its n/\its.size<=sizeLine/\Fe_ xs its.toList
def absV:Value->Option V
 | .none=>some .non
 | .bool b=>some (.bl b)
 | .int i _=>some (.int i)
 | .str x _=>some (.str x)
 | .bytes b _=>some (.byt b)
 | .float b _=>some (.flt b)
 | .ref a=>some (.ref a)
 | .type n=>some (.ty n)
 |_=>none
variable{u:Value}
theorem Fm_.abs{x:V}(r:Fm_ x u):absV u=some x:=by
 cases x with
 |non=>cases r;rfl
 |bl _=>cases r;rfl
 |int _=>obtain⟨t,rfl⟩:=r;rfl
 |str _=>obtain⟨t,rfl⟩:=r;rfl
 |byt _=>obtain⟨t,rfl⟩:=r;rfl
 |flt _=>obtain⟨t,rfl⟩:=r;rfl
 |ref _=>cases r;rfl
 |ty _=>cases r;rfl
theorem Fm_.inj{x y:V}(r:Fm_ x u)(q:Fm_ y u):x=y:=At_ (r.abs.symm.trans q.abs)
theorem Fe_.inj:∀{xs ys:List V}{us:List Value},Fe_ xs us->Fe_ ys us->xs=ys
 |_,_,_,.nil,.nil=>rfl
 |_,_,_,.cons r t,.cons r' t'=>by rw[r.inj r',Fe_.inj t t']
variable {σ:St}{xs ys:List V}
variable{K:PySem.W.Frag}
theorem SqL.of(h:H a=some (.lst xs)):SqL K H a xs:=.inl (.inl h)
theorem SqT.of(h:H a=some (.tup xs)):SqT K H a xs:=.inl (.inl h)
theorem Inv.list(I:Inv X pins σ H s)(h:SqL X.K H a xs):∃its:List Value,Fe_ xs its/\PlainL s.heap a its.toArray/\xs.length<=sizeLine:=by
 rcases h with h|⟨o,its,n,hk,hc,hd,hs,hz,r⟩
 .obtain⟨z,its,n,r,e⟩:=h.ok I.hok;show⟨its,r,⟨_,n,e,rfl,rfl,rfl⟩,z⟩
 .show⟨its.toList,r,⟨o,n,I.kIn a o hk,hc,hd,by simpa using hs⟩,?_⟩;have e:=r.length;simp only[CP_]at e;lia
theorem Inv.tuple(I:Inv X pins σ H s)(h:SqT X.K H a xs):∃its:List Value,Fe_ xs its/\IsTup s.heap a its.toArray/\xs.length<=sizeLine:=by
 rcases h with h|⟨o,its,n,hk,hc,hs,hz,r⟩
 .obtain⟨z,its,r,p⟩:=h.ok I.hok;show⟨its,r,p,z⟩
 .show⟨its.toList,r,⟨o,I.kIn a o hk,hc,n,by simpa using hs⟩,?_⟩;have e:=r.length;simp only[CP_]at e;lia
theorem Inv.list_inj(I:Inv X pins σ H s)(h:SqL X.K H a xs)(h':SqL X.K H a ys):xs=ys:=by
 obtain⟨its,r,⟨o,n,e,_,_,d⟩,_⟩:=I.list h;obtain⟨its',r',⟨o',n',e',_,_,d'⟩,_⟩:=I.list h';rw[e]at e';cases e';rw[d]at d';injection d' with d1 _
 have:its=its':=by simpa using congrArg Array.toList d1
 subst this;show r.inj r'
theorem Inv.tuple_inj(I:Inv X pins σ H s)(h:SqT X.K H a xs)(h':SqT X.K H a ys):xs=ys:=by
 obtain⟨its,r,⟨o,e,_,n,d⟩,_⟩:=I.tuple h;obtain⟨its',r',⟨o',e',_,n',d'⟩,_⟩:=I.tuple h';rw[e]at e';cases e';rw[d]at d';injection d' with d1 _
 have:its=its':=by simpa using congrArg Array.toList d1
 subst this;show r.inj r'
abbrev Cx.wish(X:Cx)(E:Value->Shared->Prop):Cx:={X with xe:=E}
abbrev Cx.nox(X:Cx):Cx:=X.wish λ_ _=>False
theorem Cx.Ok.wish(ok:X.Ok)(E:Value->Shared->Prop):(X.wish E).Ok :=
 ⟨ok.mod,ok.kind,ok.glob,ok.blt,ok.above,ok.inj,ok.has,ok.cab,ok.hd,ok.frames,ok.stk,ok.exf,ok.bs,ok.bsz,ok.noex,ok.exfs,ok.funs,ok.frf⟩
theorem Cx.Ok.unwish{E:Value->Shared->Prop}(ok:(X.wish E).Ok):X.Ok :=
 ⟨ok.mod,ok.kind,ok.glob,ok.blt,ok.above,ok.inj,ok.has,ok.cab,ok.hd,ok.frames,ok.stk,ok.exf,ok.bs,ok.bsz,ok.noex,ok.exfs,ok.funs,ok.frf⟩
variable {E:Value->Shared->Prop}
theorem Inv.wish(I:Inv X pins σ H s)(E:Value->Shared->Prop):Inv (X.wish E) pins σ H s:=⟨I.ok.wish E,I.os,I.bare,I.base,I.loc,I.cell,I.free,I.freeC,I.pin,I.hok,I.len⟩
theorem Inv.unwish(I:Inv (X.wish E) pins σ H s):Inv X pins σ H s:=⟨I.ok.unwish,I.os,I.bare,I.base,I.loc,I.cell,I.free,I.freeC,I.pin,I.hok,I.len⟩
theorem SP.unwish{D:GZ_}{f:Flow}{s':Shared}(h:SP (X.wish E) pins D f s'):SP X pins D f s':=by
 cases f with
 |next=>obtain⟨σ',H',I,q⟩:=h;show⟨σ',H',I.unwish,q⟩
 |brk=>obtain⟨σ',H',I,q⟩:=h;show⟨σ',H',I.unwish,q⟩
 |cont=>obtain⟨σ',H',I,q⟩:=h;show⟨σ',H',I.unwish,q⟩
 |ret u=>obtain⟨v,σ',H',I,r,q⟩:=h;show⟨v,σ',H',I.unwish,r,q⟩
theorem PSs.nox{st:List Stmt}{t:TS}(h:PSs X.nox st t):PSs X st t:=λpins s σ H D I hw =>Bl_ (h pins s σ H D (I.wish _) hw) (λ_ _ q=>q.unwish) λ_ _ z=>False.elim z
section
variable {st:Stmt}{rest:List Stmt}{t u:TS}{e:Expr}{te:TE}{pos:Pos}
def Jq_:TS:=λD σ H=>D.nx σ H
def KO_(t u:TS):TS:=λD σ H=>t {D with nx:=u D} σ H
theorem aJ_:PSs X [] Jq_:=λ_ _ σ H _ I h=>Cp_ ⟨σ,H,I,h⟩
theorem ad_(h1:PS X st t)(h2:PSs X rest u):PSs X (st::rest) (KO_ t u):=by
 intro pins s σ H D I h;show wpAny_execs_cons (thn (h1 pins s σ H {D with nx:=u D} I h) λf s1 q=>?_);cases f with
 |next =>
  obtain⟨σ',H',I',q⟩:=q;show h2 pins s1 σ' H' D I' q
 |ret v=>show q
 |brk=>show q
 |cont=>show q
theorem ag_(h1:PS X st t):PSs X [st] t:=by
 intro pins s σ H D I h;show wpAny_execs_cons (thn (h1 pins s σ H D I h) λf s1 q=>?_);cases f with
 |next=>show Cp_ q
 |ret v=>show q
 |brk=>show q
 |cont=>show q
theorem Inv.quiet(I:Inv X pins σ H s):interactive X.env=false:=by simp[interactive,I.ok.kind]
def Jk_(te:TE):TS:=λD σ H=>te σ H λ_ H1=>D.nx σ H1
theorem pM_(he:PE X e te)(hs:swapsWith e none pos.line X.env=pure false:=by rfl):PS X (.Expr e pos) (Jk_ te):=by intro pins s σ H D I h;show wpAny_Expr_any (thn (he pins s σ H _ I h) λv s1 ⟨x,H1,I1,r1,q1⟩=>⟨σ,H1,I1,q1⟩) I.quiet hs
def KL_(te:TE):TS:=λD σ H=>te σ H D.rt
theorem aB_(he:PE X e te):PS X (.Return (some e) pos) (KL_ te):=by intro pins s σ H D I h;show wpAny_Return_some (thn (he pins s σ H _ I h) λv s1 ⟨x,H1,I1,r1,q1⟩=>⟨x,σ,H1,I1,r1,q1⟩)
def K9_:TS:=λD _ H=>D.rt .non H
def K3_(c:TT)(t u:TS):TS:=λD σ H=>c σ H λb H1=>if b=true then t D σ H1 else u D σ H1
theorem Ft_{c:Expr}{a b:List Stmt}{tc:TT}(hc:PT X c tc)(ha:PSs X a t)(hb:PSs X b u):PS X (.If c a b pos) (K3_ tc t u):=by
 intro pins s σ H D I h;show wpAny_If (thn (hc pins s σ H _ I h) λd s1 ⟨H1,I1,q1⟩=>?_);cases d with
 |true=>show ha pins s1 σ H1 D I1 q1
 |false=>show hb pins s1 σ H1 D I1 q1
def JY_:TS:=λ_ _ _=>False
theorem mt_{sts:List Stmt}:PSs X sts JY_:=λ_ _ _ _ _ _ h=>h.elim
end
abbrev TG:=V->St->Hp->(St->Hp->Prop)->Prop
abbrev TGs:=List V->St->Hp->(St->Hp->Prop)->Prop
def PG(X:Cx)(target:Expr)(t:TG):Prop :=
 ∀(pins:List (Addr×Obj))(s:Shared)(σ:St)(H:Hp)(v:V)(u:Value)(Q:St->Hp->Prop),Inv X pins σ H s->Fm_ v u->t v σ H Q ->
  wpAny (model X.prog X.w) X.A (assign target X.env u) (λ_ s'=>∃σ' H',Inv X pins σ' H' s'/\Q σ' H') X.xe s
def PGs(X:Cx)(ts:List Expr)(t:TGs):Prop :=
 ∀(pins:List (Addr×Obj))(s:Shared)(σ:St)(H:Hp)(vs:List V)(us:List Value)(Q:St->Hp->Prop),Inv X pins σ H s->Fe_ vs us->t vs σ H Q ->
  wpAny (model X.prog X.w) X.A (assignInOrder ((assignEach ts X.env).map (·.2)) us) (λ_ s'=>∃σ' H',Inv X pins σ' H' s'/\Q σ' H') X.xe s
abbrev KU_:=V->V->V->Hp->(Hp->Prop)->Prop
def LL_(X:Cx)(t:KU_):Prop :=
 ∀(pins:List (Addr×Obj))(s:Shared)(σ:St)(H:Hp)(o i v:V)(ov iv u:Value)(Q:Hp->Prop),Inv X pins σ H s->Fm_ o ov->Fm_ i iv->Fm_ v u->t o i v H Q ->
  wpAny (model X.prog X.w) X.A (setItem ov iv u) (λ_ s'=>∃H',Inv X pins σ H' s'/\Q H') X.xe s
abbrev TIp:=V->V->Hp->VK->Prop
variable {pos:Pos}
def Gv_(i:Nat):TG:=λv σ H Q=>Q (σ.set i (some v)) H
theorem mu_{i:Nat}{x:Str}(hN:X.N.Nodup)(hi:X.N[i]?=some x)(hx:Loc X.env.scope x)(hf:X.fn x=true\/X.env.scope.names.lookup x=some .local:=by first|show .inl rfl|show .inr rfl|assumption):PG X (.Name x pos) (Gv_ i):=by intro pins s σ H v u Q I r h;show wpAny_assign_Name (fx_ I hN hi hx r (λs' I'=>⟨_,H,I',h⟩) hf)
def K7_:TGs:=λvs σ H Q=>vs=[]/\Q σ H
def IH_(t:TG)(u:TGs):TGs:=λvs σ H Q=>∃v r,vs=v::r/\t v σ H λσ' H'=>u r σ' H' Q
theorem bp_:PGs X [] K7_:=by intro pins s σ H vs us Q I r h;obtain⟨e,h⟩:=h;subst e;cases r;show assignInOrder_nil ⟨σ,H,I,h⟩
theorem ar_{e:Expr}{es:List Expr}{t:TG}{u:TGs}(h1:PG X e t)(h2:PGs X es u)
  (hs:(assignEach (e::es) X.env).map (·.2)=assign e X.env::(assignEach es X.env).map (·.2):=by rfl):PGs X (e::es) (IH_ t u):=by
 intro pins s σ H vs us Q I r h;obtain⟨v,vr,e1,h⟩:=h;subst e1;cases r with
 |cons r rr =>rw[hs];show CT_ (thn (h1 pins s σ H _ _ _ I r h) λ_ s1 ⟨σ1,H1,I1,q1⟩=>?_);show h2 pins s1 σ1 H1 _ _ Q I1 rr q1
def KJ_(K:PySem.W.Frag)(n:Nat)(t:TGs):TG:=λv σ H Q=>onR v λa=>∃xs,SqT K H a xs/\xs.length=n/\t xs σ H Q
theorem qV_{es:List Expr}{k:Nat}{t:TGs}{n:Nat}(hc:X.calm=true)(h:PGs X es t)
  (hn:(assignEach es X.env).length=n:=by rfl) (hst:(assignEach es X.env).findIdx? (·.1)=none:=by rfl):PG X (.Tuple es k pos) (KJ_ X.K n t):=by
 intro pins s σ H v u Q I r hw;have hw0:=dx_ hw;clear hw;obtain⟨a,e1,xs,hq,hl,hw⟩:=hw0;subst e1;cases r;obtain⟨its,rv,ht,hz⟩:=I.tuple hq;show assign_Tuple_tuple (I.ok.hd hc) ht (by simp[hn,<-hl,rv.length]) hst λh' hx=>?_;have I1:Inv X pins σ H {s with heap:=h'}:=I.kept (t':=s.toks) λb o e=>hx b o (AE_ (Au_ e)) e;show h pins _ σ H xs _ Q I1 (by simpa using rv) hw
def LM_(to ti:TE)(t:KU_):TG:=λv σ H Q=>to σ H λo H1=>ti σ H1 λi H2=>t o i v H2 λH3=>Q σ H3
theorem qW_{o i:Expr}{to ti:TE}{t:KU_}(ho:PE X o to)(hi:PE X i ti)(hs:LL_ X t)
  (ha:∀v,assign (.Subscript o i pos) X.env v=(do
   let ov <-holding [v] (eval o X.env)
   let iv <-holding [v,ov] (eval i X.env)
   standAt pos
   holding [v,ov,iv] (setItem ov iv v)
   release [v,ov,iv] []):=by intro _;rfl):PG X (.Subscript o i pos) (LM_ to ti t):=by
 intro pins s σ H v u Q I r h;rw[ha];show Af_ (Bj_ (thn (ho pins s σ H _ I h) λov s1 ⟨x,H1,I1,r1,q1⟩=>?_));show Af_ (Bj_ (thn (hi pins s1 σ H1 _ I1 q1) λiv s2 ⟨y,H2,I2,r2,q2⟩=>?_));show Af_ (CX_ (Af_ (Bj_ (thn (hs pins s2 σ H2 x y v ov iv u _ I2 r1 r2 r q2) λ_ s3 ⟨H3,I3,q3⟩=>?_))));show wpAny_release ⟨σ,H3,I3,q3⟩
def Jo_(te:TE)(g:TG):TS:=λD σ H=>te σ H λx H1=>g x σ H1 D.nx
theorem gJ_{tg e:Expr}{te:TE}{g:TG}(he:PE X e te)(hg:PG X tg g)(hs:swapsWithSole [tg] e pos.line X.env=pure false:=by rfl) (hw:swappedStores [tg] e X.env=pure none:=by rfl)
  (h1:(assignEach [tg] X.env).map (·.2)=[assign tg X.env]:=by rfl):PS X (.Assign [tg] e pos) (Jo_ te g):=by
 intro pins s σ H D I h;show wpAny_Assign_stores (thn (he pins s σ H _ I h) λv s1 ⟨x,H1,I1,r1,q1⟩=>?_) hs hw;rw[h1];show thn (hg pins s1 σ H1 x v _ I1 r1 q1) λ_ s2 q=>q
theorem o5_{i:Nat}{x:Str}{e:Expr}{te:TE}{pos':Pos}(hN:X.N.Nodup)(hi:X.N[i]?=some x)(hx:Loc X.env.scope x)(he:PE X e te)(hs:swapsWith e (some (.Name x pos')) pos.line X.env=pure false:=by rfl) (hf:X.fn x=true\/X.env.scope.names.lookup x=some .local:=by first|show .inl rfl|show .inr rfl|assumption):
  PS X (.Assign [.Name x pos'] e pos) (Jo_ te (Gv_ i)):=by
 intro pins s σ H D I h;show wpAny_Assign_Name (thn (he pins s σ H _ I h) λv s1 ⟨y,H1,I1,r1,q1⟩=>?_) hs;show fx_ I1 hN hi hx r1 (λs2 I2=>⟨_,H1,I2,q1⟩) hf
def Lq_(i j:Nat)(ta:TA):TS:=λD σ H=>ta σ H λvs H1=>∃v w,vs=[v,w]/\D.nx ((σ.set i (some v)).set j (some w)) H1
theorem o6_{i j:Nat}{x y:Str}{a b:Expr}{ta:TA}{px py pt:Pos}{kt k2 pt2} (hc:X.calm=true) (hN:X.N.Nodup) (hi:X.N[i]?=some x) (hj:X.N[j]?=some y) (hij:i≠j)
  (hx:X.env.scope.names.lookup x=some .local) (hy:X.env.scope.names.lookup y=some .local) (ha:PA X [a,b] ta)
  (hw:swappedStores [.Tuple [.Name x px,.Name y py] kt pt] (.Tuple [a,b] k2 pt2) X.env=pure (some [x,y]))
  (hs:swapsWithSole [.Tuple [.Name x px,.Name y py] kt pt] (.Tuple [a,b] k2 pt2) pos.line X.env=pure false:=by rfl):
  PS X (.Assign [.Tuple [.Name x px,.Name y py] kt pt] (.Tuple [a,b] k2 pt2) pos) (Lq_ i j ta):=by
 intro pins s σ H D I h;rw[exec_Assign_arm];show Af_ (CX_ ?_);rw[hs];show Af_ (Ax_ ?_);rw[if_neg d_];show Af_ (Tuple_ (thn (ha _ pins s σ H _ I h) λus s1 ⟨vs,H1,I1,r1,q1⟩=>?_));obtain⟨v,w,e1,q1⟩:=q1;subst e1
 obtain⟨u1,u2,rfl,rv,rw'⟩:∃u1 u2,us=[u1,u2]/\Fm_ v u1/\Fm_ w u2:=by
  cases r1 with
  |cons p q =>
   cases q with
   |cons p' q' =>
    cases q';show⟨_,_,rfl,p,p'⟩
 show Cf_ ?_ (by change 2<=sizeLine;decide);have I2:Inv X pins σ H1 {s1 with heap:=s1.heap.push {cls:=.type "tuple",data:=.seq [u1,u2].toArray}}:=I1.kept (t':=s1.toks) λb o e=>Aj_ _ e;rw[hw];show Af_ (Ax_ ?_);change wpAny (model X.prog X.w) X.A (do rule "assign.swapped-stores";let items <-unpackItems (.ref s1.heap.objs.size) 2 none;assignInOrder [λv=>bindName X.env y v,λv=>bindName X.env x v] items.reverse;pure Flow.next) _ _ _;show Af_ (CJ_ (Af_ (unpackItems_tuple (items:=#[u1,u2]) (I.ok.hd hc) (IsTup.new s1.heap _) λh' hx'=>?_)));have I3:=I2.kept (h':=h') (t':=s1.toks) λb o e=>hx' b o (AE_ (Au_ e)) e;change wpAny _ _ (assignInOrder [λv=>bindName X.env y v,λv=>bindName X.env x v] [u2,u1] >>= λ_=>pure Flow.next) _ _ _;show Af_ (CT_ (wpAny_bindName (fx_ I3 hN hj (.inl hy) rw' (λs2 I4=>?_) (.inr hy))));show CT_ (wpAny_bindName (fx_ I4 hN hi (.inl hx) rv (λs3 I5=>assignInOrder_nil (Ax_ ?_)) (.inr hx)));rw[List.set_comm _ _ (Ne.symm hij)]at I5;show⟨_,H1,I5,q1⟩
def tAug(i:Nat)(te:TE)(ti:TIp):TS:=λD σ H=>∃x,σ[i]?=some (some x)/\te σ H λy H1=>ti x y H1 λz H2=>D.nx (σ.set i (some z)) H2
def ipI(f:Int->Int->Int):TIp:=λx y H Q=>∃i j,x=.int i/\y=.int j/\Q (.int (f i j)) H
def Id_(c:TT)(tb:TS):TS:=λD σ H=>∃W:Nat->St->Hp->Prop,(∃m,W m σ H)/\∀m σ H,W m σ H ->
 c σ H λb H1=>if b=true then ∃N:St->Hp->Prop,(∀σ' H',N σ' H'->∃m',m'<m/\W m' σ' H')/\tb {D with nx:=N,ct:=N,bk:=D.nx} σ H1 else D.nx σ H1
theorem dQ_{c:Expr}{body:List Stmt}{tc:TT}{tb:TS}(hp:PassesOwn (model X.prog X.w) X.A X.env X.xe)(hc:PT X c tc)(hb:PSs X body tb):PS X (.While c body [] pos) (Id_ tc tb):=by
 intro pins s σ H D I h;obtain⟨W,⟨m0,w0⟩,turn⟩:=h;show wpAny_While (codeAny_whileLoop (λn s'=>∃σ' H',Inv X pins σ' H' s'/\W n σ' H') ?_ m0 ⟨σ,H,I,w0⟩);rintro n s1 ⟨σ1,H1,I1,w1⟩;show BX_ hp (thn (hc pins s1 σ1 H1 _ I1 (turn n σ1 H1 w1)) λb s2 ⟨H2,I2,q2⟩=>?_);cases b with
 |true =>
  obtain⟨N,hN,q2⟩:=q2;rw[if_pos rfl];show BX_ hp (thn (hb pins s2 σ1 H2 _ I2 q2) λf s3 q3=>?_);cases f with
  |next =>
   obtain⟨σ3,H3,I3,n3⟩:=q3;obtain⟨m',hm,w3⟩:=hN σ3 H3 n3;show⟨m',hm,σ3,H3,I3,w3⟩
  |cont =>
   obtain⟨σ3,H3,I3,n3⟩:=q3;obtain⟨m',hm,w3⟩:=hN σ3 H3 n3;show⟨m',hm,σ3,H3,I3,w3⟩
  |brk=>show q3
  |ret v=>show q3
 |false =>rw[if_neg AN_];show Cp_ ⟨σ1,H2,I2,q2⟩
structure It where
 go:Nat->Hp->Prop
 yld:Nat->Hp->V->Hp->Prop
 stop:Nat->Hp->Prop
def Hp_(X:Cx)(pins:List (Addr×Obj))(H:Hp)(b:Addr):Prop :=
 H b=none/\b≠X.env.locals/\b∉X.fs/\(b∈X.ex\/X.s₀.heap.objs.size<=b)/\(∀x c,X.env.cells.lookup x=some c->c≠b)/\∀p∈X.pn++pins,p.1≠b
theorem Inv.fpOk(I:Inv X pins σ H s)(hb:s.heap.objs.size<=b)(hn:H' b=none):Hp_ X pins H' b:=by
 show⟨hn,C3_ (AH_ I.lt hb),I.nofs hb,.inr (A7_ I.sz hb),λx c e z=>?_,λp hp z=>?_⟩
 .obtain⟨v,q⟩:=I.cell x c e;show absurd (AH_ q.lt (by rw[z];show hb)) (Bi_ _)
 .show absurd (AH_ (Au_ (I.pin p hp).1) (by rw[z];show hb)) (Bi_ _)
structure Jv_(P:Program)(w:World)(K:PySem.W.Frag)(tg:Expr)(J:It)(fp:List Addr)(it:Addr)(tn:Nat->Heap->Prop):Prop where
 mem:it∈fp
 obj:∀i h,tn i h->∀b∈fp,∃o,h.get? b=some o/\∀v,o.data≠.cell v
 keep:∀i h h',tn i h->(∀b∈fp,∀o,h.get? b=some o->h'.get? b=some o)->tn i h'
 item:∀(X:Cx),X.prog=P->X.w=w->X.K=K->X.calm=true->∀(i:Nat)(pins:List (Addr×Obj))(s:Shared)(σ:St)(H:Hp)(E:Value->Shared->Prop),Inv X pins σ H s->(∀b∈fp,Hp_ X pins H b)->tn i s.heap->J.go i H ->
  wpAny (model P w) X.A (pyNext (.ref it)) (λr s1=>∃u,r=some u /\
   wpAny (model P w) X.A (letOwnedTupleGo tg (.ref it) u) (λ_ s2=>∃x H',Inv X pins σ H' s2/\Fm_ x u/\J.yld i H x H'/\tn (i+1) s2.heap/\∀b∈fp,H' b=none) E s1) E s
 done:∀(X:Cx),X.prog=P->X.w=w->X.K=K->X.calm=true->∀(i:Nat)(pins:List (Addr×Obj))(s:Shared)(σ:St)(H:Hp)(E:Value->Shared->Prop),Inv X pins σ H s->(∀b∈fp,Hp_ X pins H b)->tn i s.heap->J.stop i H ->
  wpAny (model P w) X.A (pyNext (.ref it)) (λr s1=>r=none/\Inv X pins σ H s1) E s
 self:∀(A:Around)(i:Nat)(s:Shared)(Q:Value->Shared->Prop)(E:Value->Shared->Prop),tn i s.heap->Q (.ref it) s->wpAny (model P w) A (pyIter (.ref it)) Q E s
abbrev TI:=St->Hp->(It->Hp->Prop)->Prop
def PIE(X:Cx)(pins:List (Addr×Obj))(σ:St)(tg:Expr)(R:It->Hp->Prop)(itv:Value)(s2:Shared):Prop :=
 ∃(it:Addr)(fp:List Addr)(tn:Nat->Heap->Prop)(J:It)(H':Hp),itv=.ref it/\Inv X pins σ H' s2/\Jv_ X.prog X.w X.K tg J fp it tn/\tn 0 s2.heap/\(∀b∈fp,Hp_ X pins H' b)/\R J H'
def PI(X:Cx)(tg iter:Expr)(wi:TI):Prop :=
 ∀(pins:List (Addr×Obj))(s:Shared)(σ:St)(H:Hp)(R:It->Hp->Prop),Inv X pins σ H s->wi σ H R ->
  wpAny (model X.prog X.w) X.A (eval iter X.env) (λv s1=>wpAny (model X.prog X.w) X.A (pyIter v) (PIE X pins σ tg R) X.xe s1) X.xe s
theorem HQ_{M:Model}{A:Around}{E:Value->Shared->Prop}{s:Shared}{tg:Expr}{it:Addr}{u:Value}{o:Obj}{n:String}{vs:Array Value}{Q:Unit->Shared->Prop}(ho:s.heap.get? it=some o)(hc:o.cls=.type n)(hd:o.data=.fields vs)
    (hn:["enumerate","zip","dict_itemiterator","dict_reverseitemiterator","odict_iterator","itertools.zip_longest","itertools.pairwise"].contains n=false) (hQ:Q () s):wpAny M A (letOwnedTupleGo tg (.ref it) u) Q E s:=by
  unfold letOwnedTupleGo
  cases tg <;> first
    |show Ax_ hQ
    | (cases u <;> first
        |show Ax_ hQ
        | (show Af_ (wpAny_load ho ?_)
           rw[hc,hd];change wpAny M A (if(["enumerate","zip","dict_itemiterator","dict_reverseitemiterator","odict_iterator","itertools.zip_longest","itertools.pairwise"].contains n && vs[0]? == some (rawInt _))=true then _ else _) Q E s;rw[if_neg (by intro h;rw[hn,Bool.false_and]at h;cases h)];show Ax_ hQ))
def Itl(K:PySem.W.Frag)(a:Addr):It :=
 ⟨λi H=>∃xs x,SqL K H a xs/\xs[i]?=some x,λi H x H'=>H'=H/\∀xs,SqL K H a xs->xs[i]?=some x,λi H=>∃xs,SqL K H a xs/\xs.length<=i⟩
def Itt(K:PySem.W.Frag)(a:Addr):It :=
 ⟨λi H=>∃xs x,SqT K H a xs/\xs[i]?=some x,λi H x H'=>H'=H/\∀xs,SqT K H a xs->xs[i]?=some x,λi H=>∃xs,SqT K H a xs/\xs.length<=i⟩
def Itr(lo:Int)(n:Nat):It:=⟨λi _=>i<n,λi H x H'=>H'=H/\x=.int (lo+i),λi _=>n<=i⟩
theorem mv_{tg:Expr}(a it:Addr):Jv_ P w K tg (Itl K a) [it] it (λi h=>h.IsListIter it a i) where
 mem:=s_
 obj:=λi h st b hb=>by
  have e:b=it:=by simpa using hb
  subst e;obtain⟨o,e,c,d⟩:=st;show⟨o,e,λv z=>by rw[d]at z;cases z⟩
 keep:=λi h h' st k=>st.at λo e=>k it s_ o e
 item:=by intro X hP hw hK hc i pins s σ H E I hf st hg;subst hP hw hK;obtain⟨xs,x,hq,hx⟩:=hg;obtain⟨its,rv,p,hz⟩:=I.list hq;obtain⟨u,hu,ru⟩:=rv.get hx;obtain⟨f0,f1,f2,f3,f4,f5⟩:=hf it s_;show BV_ st p.isList (x:=u) (by simpa using hu) λh' st' sb=>?_;have I1:Inv X pins σ H {s with heap:=h'}:=I.turned (t':=s.toks) (λb o hb e=>(sb.2 b hb).trans e) f0 f1 f3 f4 f5;obtain⟨o,e,c,d⟩:=id st';show⟨u,rfl,HQ_ (s:={s with heap:=h'}) e c d d_ ⟨x,H,I1,ru,⟨rfl,λys hy=>by rw[I.list_inj hy hq];show hx⟩,st',λb hb=>(hf b hb).1⟩⟩
 done:=by intro X hP hw hK hc i pins s σ H E I hf st hg;subst hP hw hK;obtain⟨xs,hq,hx⟩:=hg;obtain⟨its,rv,p,hz⟩:=I.list hq;obtain⟨f0,f1,f2,f3,f4,f5⟩:=hf it s_;have hl:=rv.length;show Cg_ (I.ok.hd hc) st p.isList (by simp;lia) λh' eb=>⟨rfl,I.turned (t':=s.toks) (λb o hb e=>eb b o hb e) f0 f1 f3 f4 f5⟩
 self:=λ_ _ _ _ _ st h=>wpAny_pyIter_listiter st h
theorem lQ_{tg:Expr}(a it:Addr):Jv_ P w K tg (Itt K a) [it] it (λi h=>h.IsTupleIter it a i) where
 mem:=s_
 obj:=λi h st b hb=>by
  have e:b=it:=by simpa using hb
  subst e;obtain⟨o,e,c,d⟩:=st;show⟨o,e,λv z=>by rw[d]at z;cases z⟩
 keep:=λi h h' st k=>st.at λo e=>k it s_ o e
 item:=by intro X hP hw hK hc i pins s σ H E I hf st hg;subst hP hw hK;obtain⟨xs,x,hq,hx⟩:=hg;obtain⟨its,rv,p,hz⟩:=I.tuple hq;obtain⟨u,hu,ru⟩:=rv.get hx;obtain⟨f0,f1,f2,f3,f4,f5⟩:=hf it s_;show wpAny_pyNext_tuple_item st (show s.heap.IsTuple a its.toArray from p) (x:=u) (by simpa using hu) λh' st' sb=>?_;have I1:Inv X pins σ H {s with heap:=h'}:=I.turned (t':=s.toks) (λb o hb e=>(sb.2 b hb).trans e) f0 f1 f3 f4 f5;obtain⟨o,e,c,d⟩:=id st';show⟨u,rfl,HQ_ (s:={s with heap:=h'}) e c d d_ ⟨x,H,I1,ru,⟨rfl,λys hy=>by rw[I.tuple_inj hy hq];show hx⟩,st',λb hb=>(hf b hb).1⟩⟩
 done:=by intro X hP hw hK hc i pins s σ H E I hf st hg;subst hP hw hK;obtain⟨xs,hq,hx⟩:=hg;obtain⟨its,rv,p,hz⟩:=I.tuple hq;obtain⟨f0,f1,f2,f3,f4,f5⟩:=hf it s_;have hl:=rv.length;show wpAny_pyNext_tuple_end (I.ok.hd hc) st (show s.heap.IsTuple a its.toArray from p) (by simp;lia) λh' eb=>⟨rfl,I.turned (t':=s.toks) (λb o hb e=>eb b o hb e) f0 f1 f3 f4 f5⟩
 self:=λ_ _ _ _ _ st h=>wpAny_pyIter_tupleiter st h
theorem lR_{tg:Expr}(it:Addr)(lo:Int)(n:Nat):Jv_ P w K tg (Itr lo n) [it] it (λi h=>IsRangeIter h it (lo+(i:Nat)*1) ((n:Int)-(i:Nat)) 1) where
 mem:=s_
 obj:=λi h st b hb=>by
  have e:b=it:=by simpa using hb
  subst e;show⟨_,st,λv z=>by have z':Data.fields _=Data.cell v:=z;cases z'⟩
 keep:=λi h h' st k=>k it s_ _ st
 item:=by intro X hP hw hK hc i pins s σ H E I hf st hg;subst hP hw hK;obtain⟨f0,f1,f2,f3,f4,f5⟩:=hf it s_;have W:=Walks.range (prog:=X.prog) (w:=X.w) (I.ok.hd hc) it lo 1 n;show W.item i s _ _ hg st λv h' tk hv st' kk=>?_;obtain⟨t,rfl⟩:=hv;have I1:Inv X pins σ H {s with heap:=h',toks:=tk}:=I.turned (λb o hb e=>kk b o (by simpa using hb) e) f0 f1 f3 f4 f5;show⟨_,rfl,HQ_ (s:={s with heap:=h',toks:=tk}) (n := "range_iterator") st' rfl rfl d_ ⟨.int (lo+i),H,I1,⟨t,?_⟩,⟨rfl,rfl⟩,st',λb hb=>(hf b hb).1⟩⟩;rw[Int.mul_one]
 done:=by intro X hP hw hK hc i pins s σ H E I hf st hg;subst hP hw hK;obtain⟨f0,f1,f2,f3,f4,f5⟩:=hf it s_;show wpAny_pyNext_range_end (I.ok.hd hc) st (by have:n<=i:=hg;lia) λh' eb=>⟨rfl,I.turned (t':=s.toks) (λb o hb e=>eb b o hb e) f0 f1 f3 f4 f5⟩
 self:=λ_ _ _ _ _ st h=>wpAny_pyIter_rangeiter st h
variable {tg:Expr}
def IG_(K:PySem.W.Frag)(tl:TE):TI:=λσ H R=>tl σ H λx H1=>onR x λa=>(∃xs,SqL K H1 a xs)/\R (Itl K a) H1
def KQ_(K:PySem.W.Frag)(tl:TE):TI:=λσ H R=>tl σ H λx H1=>onR x λa=>(∃xs,SqT K H1 a xs)/\R (Itt K a) H1
theorem pN_{l:Expr}{tl:TE}(hl:PE X l tl):PI X tg l (IG_ X.K tl):=by
 intro pins s σ H R I h;show thn (hl pins s σ H _ I h) λv s1 ⟨x,H1,I1,r1,q1⟩=>?_;obtain⟨a,e,⟨xs,hq⟩,q⟩:=dx_ q1;subst e;cases r1;obtain⟨its,rv,p,hz⟩:=I1.list hq;show BT_ p.isList ?_;show⟨s1.heap.objs.size,[s1.heap.objs.size],_,_,H1,rfl,I1.kept (t':=s1.toks) λb o e=>Aj_ _ e,mv_ a _,⟨_,AC_ _ rfl,rfl,rfl⟩,λb hb=>?_,q⟩;have e:b=s1.heap.objs.size:=by simpa using hb
 subst e;show I1.fpOk (Ah_ _) (I1.hok.fresh (Ah_ _))
theorem qX_{l:Expr}{tl:TE}(hl:PE X l tl):PI X tg l (KQ_ X.K tl):=by
 intro pins s σ H R I h;show thn (hl pins s σ H _ I h) λv s1 ⟨x,H1,I1,r1,q1⟩=>?_;obtain⟨a,e,⟨xs,hq⟩,q⟩:=dx_ q1;subst e;cases r1;obtain⟨its,rv,p,hz⟩:=I1.tuple hq;show wpAny_pyIter_tuple (show s1.heap.IsTuple a its.toArray from p) ?_;show⟨s1.heap.objs.size,[s1.heap.objs.size],_,_,H1,rfl,I1.kept (t':=s1.toks) λb o e=>Aj_ _ e,lQ_ a _,⟨_,AC_ _ rfl,rfl,rfl⟩,λb hb=>?_,q⟩;have e:b=s1.heap.objs.size:=by simpa using hb
 subst e;show I1.fpOk (Ah_ _) (I1.hok.fresh (Ah_ _))
theorem k3_{pins:List (Addr×Obj)}{σ:St}{H:Hp}{s:Shared}{R:It->Hp->Prop}{E:Value->Shared->Prop}{lo hi:Int}{t u v:Tok}{tk:Nat}(I:Inv X pins σ H s)(h1:-(2 ^ 62)<=lo)(h2:lo<2 ^ 62)(h3:-(2 ^ 62)<=hi)(h4:hi<2 ^ 62)
  (q:R (Itr lo (hi-lo).toNat) H):wpAny (model X.prog X.w) X.A (pyIter (.ref s.heap.objs.size)) (PIE X pins σ tg R) E {s with heap:=s.heap.push {cls:=.type "range",data:=.fields #[.int lo t,.int hi u,.int 1 v]},toks:=tk}:=by
 show wpAny_pyIter_range (IsRange.new ..) (small_one h1 h2 h3 h4) ?_;have I1:Inv X pins σ H {s with heap:=s.heap.push {cls:=.type "range",data:=.fields #[.int lo t,.int hi u,.int 1 v]},toks:=tk}:=I.kept λb o e=>Aj_ _ e
 show⟨(s.heap.push {cls:=.type "range",data:=.fields #[.int lo t,.int hi u,.int 1 v]}).objs.size,[(s.heap.push {cls:=.type "range",data:=.fields #[.int lo t,.int hi u,.int 1 v]}).objs.size],_,_,H,rfl,
  I1.kept (t':=tk) λb o e=>Aj_ _ e,lR_ _ lo (hi-lo).toNat,?_,λb hb=>?_,q⟩
 .have e1:lo+((0:Nat):Int)*1=lo:=s_
  have e2:(((hi-lo).toNat:Nat):Int)-((0:Nat):Int)=Builtin.Range.rangeSize lo hi 1:=by rw[rangeSize_one];split <;> lia
  change IsRangeIter _ _ (lo+((0:Nat):Int)*1) ((((hi-lo).toNat:Nat):Int)-((0:Nat):Int)) 1;rw[e1,e2];show AC_ _ rfl
 .have e:b=(s.heap.push {cls:=.type "range",data:=.fields #[.int lo t,.int hi u,.int 1 v]}).objs.size:=by simpa using hb
  subst e;show I1.fpOk (Ah_ _) (I1.hok.fresh (Ah_ _))
def J3_(ta:TA):TI:=λσ H R=>ta σ H λvs H1=>on1 vs λx=>onI x λj=>-(2 ^ 62)<=j/\j<2 ^ 62/\R (Itr 0 j.toNat) H1
def JU_(ta:TA):TI:=λσ H R=>ta σ H λvs H1=>on2 vs λx y=>onI x λi=>onI y λj=>(-(2 ^ 62)<=i/\i<2 ^ 62 /\ -(2 ^ 62)<=j/\j<2 ^ 62)/\R (Itr i (j-i).toNat) H1
theorem aQ_{a:Expr}{ta:TA}{p:Pos}(hg:Gl X "range") (hm:X.mg "range"=none) (ha:PA X [a] ta) (hs:starEach [a] X.env=[(false,eval a X.env)]:=by rfl):PI X tg (.Call (.Name "range" p) [a] [] pos) (J3_ ta):=by
 intro pins s σ H R I h;show Call_ (fy_ I hg hm boot_range (Br_ (thn (ha pos pins s σ H _ I h) λus s1 ⟨vs,H1,I1,r1,q1⟩=>?_) hs rfl));obtain⟨_,e,q0⟩:=k1_ q1;clear q1;obtain⟨j,rfl,q1,q2,q⟩:=dd_ q0;subst e;cases r1 with
 |cons r rr =>
  cases rr;obtain⟨t,rfl⟩:=r;show call_range_1 (k3_ I1 o_ o_ q1 q2 (by simpa using q))
theorem mw_{a b:Expr}{ta:TA}{p:Pos}(hg:Gl X "range") (hm:X.mg "range"=none) (ha:PA X [a,b] ta) (hs:starEach [a,b] X.env=[(false,eval a X.env),(false,eval b X.env)]:=by rfl) (hs2:starEach [b] X.env=[(false,eval b X.env)]:=by rfl):
  PI X tg (.Call (.Name "range" p) [a,b] [] pos) (JU_ ta):=by
 intro pins s σ H R I h;show Call_ (fy_ I hg hm boot_range (Br_ (thn (ha pos pins s σ H _ I h) λus s1 ⟨vs,H1,I1,r1,q1⟩=>?_) (by rw[hs,hs2]) (by rw[hs2];rfl)));obtain⟨_,_,e,q0⟩:=o2_ q1;clear q1;obtain⟨i,rfl,q9⟩:=dd_ q0;clear q0;obtain⟨j,rfl,⟨q1,q2,q3,q4⟩,q⟩:=dd_ q9;subst e;cases r1 with
 |cons r rr =>
  cases rr with
  |cons r' rr =>
   cases rr;obtain⟨t,rfl⟩:=r;obtain⟨t',rfl⟩:=r';show call_range_2 (k3_ I1 q1 q2 q3 q4 q)
def LK_(wi:TI)(g:TG)(tb:TS):TS:=λD σ H=>wi σ H λJ H1=>∃W:Nat->Nat->St->Hp->Prop,(∃m,W 0 m σ H1)/\∀i m σ H,W i m σ H ->
 (J.stop i H/\D.nx σ H)\/(J.go i H/\∃N:St->Hp->Prop,(∀σ' H',N σ' H'->∃m',m'<m/\W (i+1) m' σ' H')/\∀x H',J.yld i H x H'->g x σ H' λσ2 H2=>tb {D with nx:=N,ct:=N,bk:=D.nx} σ2 H2)
def Ha_(fp:List Addr)(h:Heap):List (Addr×Obj):=fp.filterMap λb=>(h.get? b).map λo=>(b,o)
variable{fp:List Addr}
theorem eU_{o:Obj}(hb:b∈fp)(e:h.get? b=some o):(b,o)∈Ha_ fp h:=B7_.mpr ⟨b,hb,by rw[e];rfl⟩
theorem mx_{p:Addr×Obj}(hp:p∈Ha_ fp h):p.1∈fp/\h.get? p.1=some p.2:=by
 obtain⟨b,hb,e⟩:=B7_.mp hp;cases q:h.get? b with
 |none=>rw[q]at e;cases e
 |some o =>rw[q]at e;have e':(b,o)=p:=At_ e;subst e';show⟨hb,q⟩
theorem Inv.pinned(I:Inv X pins σ H s)(hf:∀b∈fp,Hp_ X pins H b)(ho:∀b∈fp,∃o,s.heap.get? b=some o/\∀v,o.data≠.cell v):Inv X (pins++Ha_ fp s.heap) σ H s :=
 I.pins_of λp hp=>(Ao_.mp hp).elim (λz=>I.pin p (Aw_ _ z)) λz=>by obtain⟨hb,e⟩:=mx_ z;obtain⟨f0,f1,f2,_⟩:=hf p.1 hb;obtain⟨o,e',d⟩:=ho p.1 hb;rw[e]at e';cases e';show⟨e,f0,f1,f2,d⟩
theorem Inv.unpinned{pl:List (Addr×Obj)}(I:Inv X (pins++pl) σ H s):Inv X pins σ H s:=I.pins_of λp hp=>I.pin p (Aw_ _ (AB_ _ hp))
theorem bT_{iter:Expr}{body:List Stmt}{wi:TI}{g:TG}{tb:TS}{pos:Pos}(hp:PassesOwn (model X.prog X.w) X.A X.env X.xe)(hc:X.calm=true)(hi:PI X tg iter wi)(hg:PG X tg g)(hb:PSs X body tb)
  (hs:∀x,foldedSetIterable iter X.env x=pure x:=by intro _;rfl):PS X (.For tg iter body [] pos) (LK_ wi g tb):=by
 intro pins s σ H D I h;show wpAny_For (thn (hi pins s σ H _ I h) λv s1 h1=>thn h1 λitv s2 h2=>?_) hs;obtain⟨it,fp,tn,J,H2,e,I2,T,st2,f2,W,⟨m0,w0⟩,turn⟩:=h2;subst e
 have stat:∀{H':Hp},(∀b∈fp,H' b=none)->∀b∈fp,Hp_ X pins H' b:=λhn b hb=>⟨hn b hb,(f2 b hb).2⟩;show codeAny_forLoop_any (λn s'=>∃i σ' H',Inv X pins σ' H' s'/\tn i s'.heap/\(∀b∈fp,H' b=none)/\W i n σ' H') ?_ m0 ⟨0,σ,H2,I2,st2,λb hb=>(f2 b hb).1,w0⟩;rintro n s3 ⟨i,σ3,H3,I3,st3,fr3,w3⟩
 rcases turn i n σ3 H3 w3 with⟨stop,qn⟩|⟨go,N,hN,step⟩
 .show BX_ hp (thn (T.done X rfl rfl rfl hc i pins s3 σ3 H3 X.xe I3 (stat fr3) st3 stop) λr s4 ⟨hr,I4⟩=>?_);subst hr;show Cp_ ⟨σ3,H3,I4,qn⟩
 .show BX_ hp (thn (T.item X rfl rfl rfl hc i pins s3 σ3 H3 X.xe I3 (stat fr3) st3 go) λr s4 ⟨u,hr,h4⟩=>?_);subst hr;show BX_ hp (thn h4 λ_ s5 ⟨x,H5,I5,r5,y5,st5,fr5⟩=>?_);have I5':=I5.pinned (stat fr5) (T.obj _ _ st5);show BX_ hp (thn (hg _ s5 σ3 H5 x u _ I5' r5 (step x H5 y5)) λ_ s6 ⟨σ6,H6,I6,q6⟩=>?_);show BX_ hp (thn (hb _ s6 σ6 H6 _ I6 q6) λf s7 q7=>?_);have again:∀{σ7:St}{H7:Hp},Inv X (pins++Ha_ fp s5.heap) σ7 H7 s7->N σ7 H7->∃m,m<n/\∃i σ' H',Inv X pins σ' H' s7/\tn i s7.heap/\(∀b∈fp,H' b=none)/\W i m σ' H':=λ{σ7 H7} I7 n7=>by obtain⟨m',hm,w7⟩:=hN σ7 H7 n7;show⟨m',hm,i+1,σ7,H7,I7.unpinned,T.keep _ _ _ st5 λb hb o e=>(I7.pin (b,o) (Aw_ _ (Aw_ _ (eU_ hb e)))).1,λb hb=>?_,w7⟩;obtain⟨o,e,d⟩:=T.obj _ _ st5 b hb;show(I7.pin (b,o) (Aw_ _ (Aw_ _ (eU_ hb e)))).2.1
  cases f with
  |next=>obtain⟨σ7,H7,I7,n7⟩:=q7;show again I7 n7
  |cont=>obtain⟨σ7,H7,I7,n7⟩:=q7;show again I7 n7
  |brk=>obtain⟨σ7,H7,I7,q7⟩:=q7;show⟨σ7,H7,I7.unpinned,q7⟩
  |ret v=>obtain⟨x7,σ7,H7,I7,r7,q7⟩:=q7;show⟨x7,σ7,H7,I7.unpinned,r7,q7⟩
theorem n0_{K:PySem.W.Frag}{a:Addr}{xs:List V}{g:TG}{tb:TS}{D:GZ_}{σ:St}{H:Hp}(Pv:Nat->St->Hp->Prop)(h0:Pv 0 σ H)(hl:∀i σ H,i<=xs.length->Pv i σ H->SqL K H a xs)
  (hs:∀i x σ H,xs[i]?=some x->Pv i σ H->g x σ H λσ2 H2=>tb {D with nx:=Pv (i+1),ct:=Pv (i+1),bk:=D.nx} σ2 H2) (hd:∀σ H,Pv xs.length σ H->D.nx σ H):
  ∃W:Nat->Nat->St->Hp->Prop,(∃m,W 0 m σ H)/\∀i m σ H,W i m σ H ->
   ((Itl K a).stop i H/\D.nx σ H)\/((Itl K a).go i H/\∃N:St->Hp->Prop,(∀σ' H',N σ' H'->∃m',m'<m/\W (i+1) m' σ' H')/\∀x H',(Itl K a).yld i H x H'->g x σ H' λσ2 H2=>tb {D with nx:=N,ct:=N,bk:=D.nx} σ2 H2):=by
 show⟨λi m σ H=>m=xs.length-i/\i<=xs.length/\Pv i σ H,⟨xs.length,s_,AP_ _,h0⟩,?_⟩;rintro i m σ H ⟨rfl,hi,p⟩;have q:=hl i σ H hi p;by_cases hlt:i<xs.length
 .show .inr ⟨⟨xs,xs[i],q,by simp[hlt]⟩,Pv (i+1),λσ' H' p'=>⟨xs.length-(i+1),o_,rfl,hlt,p'⟩,λx H' y=>?_⟩;obtain⟨e,y⟩:=y;subst e;show hs i x σ _ (y xs q) p
 .have e:i=xs.length:=o_
  subst e;show .inl ⟨⟨xs,q,Ah_ _⟩,hd σ H p⟩
theorem my_{lo:Int}{n:Nat}{g:TG}{tb:TS}{D:GZ_}{σ:St}{H:Hp}(Pv:Nat->St->Hp->Prop)(h0:Pv 0 σ H)
  (hs:∀i σ H,i<n->Pv i σ H->g (.int (lo+i)) σ H λσ2 H2=>tb {D with nx:=Pv (i+1),ct:=Pv (i+1),bk:=D.nx} σ2 H2) (hd:∀σ H,Pv n σ H->D.nx σ H):
  ∃W:Nat->Nat->St->Hp->Prop,(∃m,W 0 m σ H)/\∀i m σ H,W i m σ H ->
   ((Itr lo n).stop i H/\D.nx σ H)\/((Itr lo n).go i H/\∃N:St->Hp->Prop,(∀σ' H',N σ' H'->∃m',m'<m/\W (i+1) m' σ' H')/\∀x H',(Itr lo n).yld i H x H'->g x σ H' λσ2 H2=>tb {D with nx:=N,ct:=N,bk:=D.nx} σ2 H2):=by
 show⟨λi m σ H=>m=n-i/\i<=n/\Pv i σ H,⟨n,s_,AP_ _,h0⟩,?_⟩;rintro i m σ H ⟨rfl,hi,p⟩;by_cases hlt:i<n
 .show .inr ⟨hlt,Pv (i+1),λσ' H' p'=>⟨n-(i+1),o_,rfl,hlt,p'⟩,λx H' y=>?_⟩;obtain⟨e,y⟩:=y;subst e y;show hs i σ _ hlt p
 .have e:i=n:=o_
  subst e;show .inl ⟨Ah_ _,hd σ H p⟩
abbrev R2:=V->V->Hp->VK->Prop
def OpR(X:Cx)(f:Value->Value->Sem Value)(r:R2):Prop :=
 ∀(pins:List (Addr×Obj))(s:Shared)(σ:St)(H:Hp)(x y:V)(v u:Value)(Q:VK),Inv X pins σ H s->Fm_ x v->Fm_ y u->r x y H Q ->
  wpAny (model X.prog X.w) X.A (f v u) (EP X pins σ Q) X.xe s
def UnR(X:Cx)(f:Value->Sem Value)(r:V->Hp->VK->Prop):Prop :=
 ∀(pins:List (Addr×Obj))(s:Shared)(σ:St)(H:Hp)(x:V)(v:Value)(Q:VK),Inv X pins σ H s->Fm_ x v->r x H Q ->
  wpAny (model X.prog X.w) X.A (f v) (EP X pins σ Q) X.xe s
def FE_(X:Cx)(f:Value)(r:List V->Hp->VK->Prop):Prop :=
 ∀(pins:List (Addr×Obj))(s:Shared)(σ:St)(H:Hp)(xs:List V)(us:List Value)(Q:VK),Inv X pins σ H s->Fe_ xs us->r xs H Q ->
  wpAny (model X.prog X.w) X.A (call f us) (EP X pins σ Q) X.xe s
def tOp(r:R2)(ta tb:TE):TE:=λσ H Q=>ta σ H λx H1=>tb σ H1 λy H2=>r x y H2 Q
def tUn(r:V->Hp->VK->Prop)(ta:TE):TE:=λσ H Q=>ta σ H λx H1=>r x H1 Q
def rI(C:Int->Int->Prop)(g:Int->Int->V):R2:=λx y H Q=>onI x λi=>onI y λj=>C i j/\Q (g i j) H
def rI0(g:Int->Int->V):R2:=λx y H Q=>onI x λi=>onI y λj=>Q (g i j) H
def rU(g:Int->V):V->Hp->VK->Prop:=λx H Q=>onI x λi=>Q (g i) H
section
variable {a b c:Expr}{ta tb tc:TE}
theorem binT(ha:PE X a ta)(hb:PE X b tb){pins:List (Addr×Obj)}{s:Shared}{σ:St}{H:Hp}{R:V->V->Hp->Prop}(I:Inv X pins σ H s)
  (h:ta σ H λx H1=>tb σ H1 λy H2=>R x y H2) {Q:Value->Shared->Prop} {f:Value->Value->Sem Value}
  (hf:∀v u s2 x y H2,Inv X pins σ H2 s2->Fm_ x v->Fm_ y u->R x y H2->wpAny (model X.prog X.w) X.A (f v u) Q X.xe s2):
  wpAny (model X.prog X.w) X.A (eval a X.env) (λv s₁=>wpAny (model X.prog X.w) X.A (eval b X.env) (λu s₂=>wpAny (model X.prog X.w) X.A (f v u) Q X.xe s₂) X.xe s₁) X.xe s:=by
 show thn (ha pins s σ H _ I h) λv s1 ⟨x,H1,I1,r1,q1⟩=>?_;show thn (hb pins s1 σ H1 _ I1 q1) λu s2 ⟨y,H2,I2,r2,q2⟩=>?_;show hf v u s2 x y H2 I2 r1 r2 q2
theorem EO_{op:Operator}{r:R2}(ho:OpR X (binaryOp op) r)(ha:PE X a ta)(hb:PE X b tb):PE X (.BinOp a op b pos) (tOp r ta tb):=by intro pins s σ H Q I h;show wpAny_BinOp (binT ha hb I h λv u s2 x y H2 I2 rx ry q=>ho pins s2 σ H2 x y v u Q I2 rx ry q)
theorem Ky_{op:UnaryOp}{r:V->Hp->VK->Prop}(ho:UnR X (unaryOp op) r)(ha:PE X a ta):PE X (.UnaryOp op a pos) (tUn r ta):=by intro pins s σ H Q I h;show UnaryOp_ (thn (ha pins s σ H _ I h) λv s1 ⟨x,H1,I1,r1,q1⟩=>ho pins s1 σ H1 x v Q I1 r1 q1)
theorem opI{f:Value->Value->Sem Value}{C:Int->Int->Prop}{g:Int->Int->Int}
  (rule:∀(i j:Int)(t u:Tok)(s:Shared)(Q:Value->Shared->Prop)(E:Value->Shared->Prop),C i j->Q (.int (g i j) s.toks) {s with toks:=s.toks+1}->wpAny (model X.prog X.w) X.A (f (.int i t) (.int j u)) Q E s):
  OpR X f (rI C λi j=>.int (g i j)):=by
 intro pins s σ H x y v u Q I rx ry h;obtain⟨i,rfl,h1⟩:=dd_ h;clear h;obtain⟨j,rfl,hc,q⟩:=dd_ h1;obtain⟨t,rfl⟩:=rx;obtain⟨t',rfl⟩:=ry;show rule i j t t' s _ _ hc ⟨.int (g i j),H,I.tok _,⟨_,rfl⟩,q⟩
theorem opI0{f:Value->Value->Sem Value}{g:Int->Int->Int}
  (rule:∀(i j:Int)(t u:Tok)(s:Shared)(Q:Value->Shared->Prop)(E:Value->Shared->Prop),Q (.int (g i j) s.toks) {s with toks:=s.toks+1}->wpAny (model X.prog X.w) X.A (f (.int i t) (.int j u)) Q E s):
  OpR X f (rI0 λi j=>.int (g i j)):=by
 intro pins s σ H x y v u Q I rx ry h;obtain⟨i,rfl,h1⟩:=dd_ h;clear h;obtain⟨j,rfl,q⟩:=dd_ h1;obtain⟨t,rfl⟩:=rx;obtain⟨t',rfl⟩:=ry;show rule i j t t' s _ _ ⟨.int (g i j),H,I.tok _,⟨_,rfl⟩,q⟩
theorem opB0{f:Value->Value->Sem Value}{g:Int->Int->Bool}
  (rule:∀(i j:Int)(t u:Tok)(s:Shared)(Q:Value->Shared->Prop)(E:Value->Shared->Prop),Q (.bool (g i j)) s->wpAny (model X.prog X.w) X.A (f (.int i t) (.int j u)) Q E s):
  OpR X f (rI0 λi j=>.bl (g i j)):=by
 intro pins s σ H x y v u Q I rx ry h;obtain⟨i,rfl,h1⟩:=dd_ h;clear h;obtain⟨j,rfl,q⟩:=dd_ h1;obtain⟨t,rfl⟩:=rx;obtain⟨t',rfl⟩:=ry;show rule i j t t' s _ _ ⟨.bl (g i j),H,I,rfl,q⟩
def LA_(i j:Int):Prop:=0<=j/\j<=1000000/\i.natAbs<2 ^ 64
def KG_(i j:Int):Prop:=(-(2 ^ 64)<i/\i<2 ^ 64)\/(-(2 ^ 64)<j/\j<2 ^ 64)
theorem KG_.ok{i j:Int}(h:KG_ i j):IntMulOk i j:=by
 rcases h with⟨h1,h2⟩|⟨h1,h2⟩
 .show .of_left (intBits_le_64 h1 h2)
 .show .of_right (intBits_le_64 h1 h2)
theorem aO_:OpR X (binaryOp .Add) (rI0 λi j=>.int (i+j)):=opI0 λ_ _ _ _ _ _ _ q=>add_int q
theorem mz_:OpR X (binaryOp .Sub) (rI0 λi j=>.int (i-j)):=opI0 λ_ _ _ _ _ _ _ q=>sub_int q
theorem jd_:OpR X (binaryOp .Mult) (rI KG_ λi j=>.int (i*j)):=opI λ_ _ _ _ _ _ _ hc q=>mul_int q hc.ok
theorem aL_:OpR X (binaryOp .Mod) (rI (λ_ j=>0<j) λi j=>.int (i%j)):=opI λi j _ _ _ _ _ hc q=>by have h1:(0:Int)<j:=hc;show mod_int' o_ (by rw[Int.fmod_eq_emod_of_nonneg i o_];show q)
theorem o7_:OpR X (binaryOp .Pow) (rI LA_ λi j=>.int (i ^ j.toNat)):=opI λ_ _ _ _ _ _ _ hc q=>pow_int_small hc.1 hc.2.1 hc.2.2 q
theorem unI{f:Value->Sem Value}{g:Int->Int}
  (rule:∀(i:Int)(t:Tok)(s:Shared)(Q:Value->Shared->Prop)(E:Value->Shared->Prop),Q (.int (g i) s.toks) {s with toks:=s.toks+1}->wpAny (model X.prog X.w) X.A (f (.int i t)) Q E s):
  UnR X f (rU λi=>.int (g i)):=by
 intro pins s σ H x v Q I rx h;obtain⟨i,rfl,q⟩:=dd_ h;obtain⟨t,rfl⟩:=rx;show rule i t s _ _ ⟨.int (g i),H,I.tok _,⟨_,rfl⟩,q⟩
theorem o8_:UnR X (unaryOp .USub) (rU λi=>.int (-i)):=unI λ_ _ _ _ _ q=>neg_int q
end
def scal:V->V->Bool
 | .non,.non=>true | .non,.int _=>true | .int _,.non=>true | .non,.bl _=>true | .bl _,.non=>true | .non,.str _=>true | .str _,.non=>true
 | .int _,.int _=>true | .bl _,.bl _=>true | .str _,.str _=>true | .byt _,.byt _=>true
 | .int _,.str _=>true | .str _,.int _=>true | .bl _,.str _=>true | .str _,.bl _=>true
 |_,_=>false
def rEq:R2:=λx y H Q=>scal x y=true/\Q (.bl (decide (x=y))) H
def rNe:R2:=λx y H Q=>scal x y=true/\Q (.bl (!decide (x=y))) H
theorem mA_{i j:Int}:decide (V.int i=V.int j)=(i == j):=by rw[B9_];simp
theorem o9_{i j:Bool}:decide (V.bl i=V.bl j)=(i == j):=by rw[B9_];simp
theorem mB_{i j:Str}:decide (V.str i=V.str j)=(i == j):=by rw[B9_];simp
theorem mC_{i j:Array UInt8}:decide (V.byt i=V.byt j)=(i.toList == j.toList):=by rw[B9_];cases i;cases j;simp
section
variable {a b c:Expr}{ta tb tc:TE}
theorem aW_{Q:VK}{k k':Bool}(I:Inv X pins σ H s)(q:Q (.bl k) H)(e:k=k'):EP X pins σ Q (.bool k') s:=by subst e;show⟨.bl k,H,I,rfl,q⟩
theorem Gh_:OpR X (compareOp .Eq) rEq:=by
 intro pins s σ H x y v u Q I rx ry h;obtain⟨hs,q⟩:=h;cases x with
 |non =>
  cases rx;cases y with
  |non=>cases ry;show PySem.EqNone.eq_none_none (aW_ I q s_)
  |bl j=>cases ry;show PySem.EqNone.eq_none_bool (aW_ I q s_)
  |int j=>obtain⟨t',rfl⟩:=ry;show PySem.EqNone.eq_none_int (aW_ I q s_)
  |str j=>obtain⟨t',rfl⟩:=ry;show PySem.EqNone.eq_none_str (aW_ I q s_)
  |_=>show absurd (show false=true from hs) AN_
 |bl i =>
  cases rx;cases y with
  |non=>cases ry;show PySem.EqNone.eq_bool_none (aW_ I q s_)
  |bl j=>cases ry;show eq_bool (aW_ I q o9_)
  |str j=>obtain⟨t',rfl⟩:=ry;show PySem.EqMixed.eq_bool_str (aW_ I q s_)
  |_=>show absurd (show false=true from hs) AN_
 |int i =>
  obtain⟨t,rfl⟩:=rx;cases y with
  |non=>cases ry;show PySem.EqNone.eq_int_none (aW_ I q s_)
  |int j=>obtain⟨t',rfl⟩:=ry;show eq_int (aW_ I q mA_)
  |str j=>obtain⟨t',rfl⟩:=ry;show PySem.EqMixed.eq_int_str (aW_ I q s_)
  |_=>show absurd (show false=true from hs) AN_
 |str i =>
  obtain⟨t,rfl⟩:=rx;cases y with
  |non=>cases ry;show PySem.EqNone.eq_str_none (aW_ I q s_)
  |bl j=>cases ry;show PySem.EqMixed.eq_str_bool (aW_ I q s_)
  |int j=>obtain⟨t',rfl⟩:=ry;show PySem.EqMixed.eq_str_int (aW_ I q s_)
  |str j=>obtain⟨t',rfl⟩:=ry;show eq_str (aW_ I q mB_)
  |_=>show absurd (show false=true from hs) AN_
 |byt i =>
  obtain⟨t,rfl⟩:=rx;cases y with
  |byt j=>obtain⟨t',rfl⟩:=ry;show PySem.W.eq_bytes (aW_ I q mC_)
  |_=>show absurd (show false=true from hs) AN_
 |_=>cases y <;> show absurd (show false=true from hs) AN_
theorem Hq_:OpR X (compareOp .NotEq) rNe:=by
 intro pins s σ H x y v u Q I rx ry h;obtain⟨hs,q⟩:=h;cases x with
 |non =>
  cases rx;cases y with
  |non=>cases ry;show PySem.EqNone.ne_none_none (aW_ I q s_)
  |bl j=>cases ry;show PySem.EqNone.ne_none_bool (aW_ I q s_)
  |int j=>obtain⟨t',rfl⟩:=ry;show PySem.EqNone.ne_none_int (aW_ I q s_)
  |str j=>obtain⟨t',rfl⟩:=ry;show PySem.EqNone.ne_none_str (aW_ I q s_)
  |_=>show absurd (show false=true from hs) AN_
 |bl i =>
  cases rx;cases y with
  |non=>cases ry;show PySem.EqNone.ne_bool_none (aW_ I q s_)
  |bl j=>cases ry;show ne_bool (aW_ I q (congrArg not o9_))
  |str j=>obtain⟨t',rfl⟩:=ry;show PySem.EqMixed.ne_bool_str (aW_ I q s_)
  |_=>show absurd (show false=true from hs) AN_
 |int i =>
  obtain⟨t,rfl⟩:=rx;cases y with
  |non=>cases ry;show PySem.EqNone.ne_int_none (aW_ I q s_)
  |int j=>obtain⟨t',rfl⟩:=ry;show ne_int (aW_ I q (congrArg not mA_))
  |str j=>obtain⟨t',rfl⟩:=ry;show PySem.EqMixed.ne_int_str (aW_ I q s_)
  |_=>show absurd (show false=true from hs) AN_
 |str i =>
  obtain⟨t,rfl⟩:=rx;cases y with
  |non=>cases ry;show PySem.EqNone.ne_str_none (aW_ I q s_)
  |bl j=>cases ry;show PySem.EqMixed.ne_str_bool (aW_ I q s_)
  |int j=>obtain⟨t',rfl⟩:=ry;show PySem.EqMixed.ne_str_int (aW_ I q s_)
  |str j=>obtain⟨t',rfl⟩:=ry;show ne_str (aW_ I q (congrArg not mB_))
  |_=>show absurd (show false=true from hs) AN_
 |byt i =>
  obtain⟨t,rfl⟩:=rx;cases y with
  |byt j=>obtain⟨t',rfl⟩:=ry;show PySem.W.ne_bytes (aW_ I q (congrArg not mC_))
  |_=>show absurd (show false=true from hs) AN_
 |_=>cases y <;> show absurd (show false=true from hs) AN_
theorem HN_:OpR X (compareOp .Lt) (rI0 λi j=>.bl (decide (i<j))):=opB0 λ_ _ _ _ _ _ _ q=>lt_int q
theorem Kx_:OpR X (compareOp .LtE) (rI0 λi j=>.bl (decide (i<=j))):=opB0 λ_ _ _ _ _ _ _ q=>le_int q
theorem HO_:OpR X (compareOp .Gt) (rI0 λi j=>.bl (decide (j<i))):=opB0 λ_ _ _ _ _ _ _ q=>gt_int q
theorem Lk_:OpR X (compareOp .GtE) (rI0 λi j=>.bl (decide (j<=i))):=opB0 λ_ _ _ _ _ _ _ q=>ge_int q
theorem mD_:OpR X (compareOp .In) (λx y H Q=>∃i j,x=.str i/\y=.str j/\Q (.bl (!(Builtin.Str.occurrences j i 0 j.length 1).isEmpty)) H):=by intro pins s σ H x y v u Q I rx ry h;obtain⟨i,j,rfl,rfl,q⟩:=h;obtain⟨t,rfl⟩:=rx;obtain⟨t',rfl⟩:=ry;show in_str (aW_ I q rfl)
variable{op:CmpOp}
theorem E5_(b:Expr)(h:op≠.In:=by decide) (h2:op≠.NotIn:=by decide):behindInMarks op b=false:=by
 have e1:(op == CmpOp.In)=false:=by cases op <;> first|rfl|show absurd rfl h
 have e2:(op == CmpOp.NotIn)=false:=by cases op <;> first|rfl|show absurd rfl h2
 cases b <;> simp[behindInMarks,e1,e2]
theorem cM_{r:R2}(ho:OpR X (compareOp op) r)(ha:PE X a ta)(hb:PE X b tb)(hm:behindInMarks op b=false):PE X (.Compare a [op] [b] pos) (tOp r ta tb):=by intro pins s σ H Q I h;show wpAny_Compare1 (binT ha hb I h λv u s2 x y H2 I2 rx ry q=>ho pins s2 σ H2 x y v u Q I2 rx ry q) hm
def IL_(t:TE):TT:=λσ H Q=>t σ H λx H'=>onB x λk=>Q k H'
theorem aE_{r:R2}(ho:OpR X (compareOp op) r)(ha:PE X a ta)(hb:PE X b tb)(hm:behindInMarks op b=false):PT X (.Compare a [op] [b] pos) (IL_ (tOp r ta tb)):=by
 intro pins s σ H Q I h;show Dk_ (thn (ha pins s σ H _ I h) λv s1 ⟨x,H1,I1,r1,q1⟩=>thn (hb pins s1 σ H1 _ I1 q1) λu s2 ⟨y,H2,I2,r2,q2⟩ =>thn (ho pins s2 σ H2 x y v u _ I2 r1 r2 q2) λc s3 ⟨z,H3,I3,r3,q0⟩=>?_) hm;obtain⟨k,e,q3⟩:=hk_ q0;subst e;cases r3;show BB_ ⟨H3,I3,q3⟩
def Jb_(r r':R2)(ta tb tc:TE):TE:=λσ H Q=>ta σ H λx H1=>tb σ H1 λy H2=>r x y H2 λz H3=>∃k,z=.bl k /\
 (if k=true then tc σ H3 λw' H4=>r' y w' H4 Q else Q (.bl false) H3)
theorem n1_{op op':CmpOp}{r r':R2}(ho:OpR X (compareOp op) r)(ho':OpR X (compareOp op') r')(ha:PE X a ta)(hb:PE X b tb)(hc:PE X c tc)
  (hm:lastMarks [op,op'] [b,c]=false:=by with_unfolding_all rfl):PT X (.Compare a [op,op'] [b,c] pos) (IL_ (Jb_ r r' ta tb tc)):=by
 intro pins s σ H Q I h;show isTrue_chain (thn (ha pins s σ H _ I h) λv s1 ⟨x,H1,I1,r1,q1⟩=>test_link (thn (hb pins s1 σ H1 _ I1 q1) λu s2 ⟨y,H2,I2,r2,q2⟩ =>thn (ho pins s2 σ H2 x y v u _ I2 r1 r2 q2) λd s3 ⟨z,H3,I3,r3,k,e,q3⟩=>?_)) hm;subst e;cases r3;show BB_ ?_;cases k with
 |false =>
  show ite_ff ⟨H3,I3,q3⟩
 |true =>show ite_tt (test_last (thn (hc pins s3 σ H3 _ I3 q3) λw' s4 ⟨z',H4,I4,r4,q4⟩=>thn (ho' pins s4 σ H4 y z' u w' _ I4 r2 r4 q4) λd' s5 ⟨z2,H5,I5,r5,q6⟩=>?_));obtain⟨k2,e2,q5⟩:=hk_ q6;subst e2;cases r5;show BB_ ⟨H5,I5,q5⟩
theorem GM_:(sizeLine:Nat)<2 ^ 63:=by rw[B0_];decide
theorem dy_:OpR X (binaryOp .Add) (λx y H Q=>∃i j,x=.str i/\y=.str j/\i.length+j.length<=sizeLine/\Q (.str (i++j)) H):=by intro pins s σ H x y v u Q I rx ry h;obtain⟨i,j,rfl,rfl,hz,q⟩:=h;obtain⟨t,rfl⟩:=rx;obtain⟨t',rfl⟩:=ry;show add_str (λt' tk=>⟨.str (i++j),H,I.tok _,⟨_,rfl⟩,q⟩) hz
theorem FU_{x:V}(r:Fe_ [x] us):∃u,us=[u]/\Fm_ x u:=by
 cases r with
 |cons r1 r2=>cases r2;show⟨_,rfl,r1⟩
theorem Gz_{x y:V}(r:Fe_ [x,y] us):∃u w',us=[u,w']/\Fm_ x u/\Fm_ y w':=by
 cases r with
 |cons r1 r2 =>
  cases r2 with
  |cons r3 r4=>cases r4;show⟨_,_,rfl,r1,r3⟩
theorem n2_:FE_ X (.builtin "abs") (λxs H Q=>∃i,xs=[.int i]/\Q (.int (if i<0 then -i else i)) H):=by intro pins s σ H xs us Q I r h;obtain⟨i,rfl,q⟩:=h;obtain⟨u,rfl,t,rfl⟩:=FU_ r;show call_abs_int λu tk=>⟨.int (if i<0 then -i else i),H,I.tok _,⟨_,rfl⟩,q⟩
theorem mE_(hc:X.calm=true):FE_ X (.builtin "max") (λxs H Q=>∃i j,xs=[.int i,.int j]/\Q (.int (if j > i then j else i)) H):=by
 intro pins s σ H xs us Q I r h;obtain⟨i,j,rfl,q⟩:=h;obtain⟨u,w',rfl,⟨t,rfl⟩,⟨t',rfl⟩⟩:=Gz_ r;show max_two_ints (I.ok.hd hc) λh' tk k=>⟨_,H,I.kept k,?_,q⟩;by_cases hj:j > i
 .rw[if_pos hj,if_pos hj];show⟨_,rfl⟩
 .rw[if_neg hj,if_neg hj];show⟨_,rfl⟩
theorem mF_(hc:X.calm=true):FE_ X (.builtin "min") (λxs H Q=>∃i j,xs=[.int i,.int j]/\Q (.int (if j<i then j else i)) H):=by
 intro pins s σ H xs us Q I r h;obtain⟨i,j,rfl,q⟩:=h;obtain⟨u,w',rfl,⟨t,rfl⟩,⟨t',rfl⟩⟩:=Gz_ r;show min_two_ints (I.ok.hd hc) λh' tk k=>⟨_,H,I.kept k,?_,q⟩;by_cases hj:j<i
 .rw[if_pos hj,if_pos hj];show⟨_,rfl⟩
 .rw[if_neg hj,if_neg hj];show⟨_,rfl⟩
theorem hl_:FE_ X (.type "int") (λxs H Q=>(∃i,xs=[.int i]/\Q (.int i) H)\/∃k,xs=[.bl k]/\Q (.int (if k then 1 else 0)) H):=by
 intro pins s σ H xs us Q I r h
 rcases h with⟨i,rfl,q⟩|⟨k,rfl,q⟩
 .obtain⟨u,rfl,t,rfl⟩:=FU_ r;show call_int_int ⟨.int i,H,I,⟨_,rfl⟩,q⟩
 .obtain⟨u,rfl,r1⟩:=FU_ r;cases r1;show call_int_bool ⟨.int (if k then 1 else 0),H,I.tok _,⟨_,rfl⟩,q⟩
theorem je_:FE_ X (.type "str") (λxs H Q=>∃i,xs=[.int i]/\i.natAbs.log2<1920/\Q (.str (toString i)) H):=by intro pins s σ H xs us Q I r h;obtain⟨i,rfl,hz,q⟩:=h;obtain⟨u,rfl,t,rfl⟩:=FU_ r;show PySem.P.str_of_int hz ⟨.str _,H,I.tok _,⟨_,rfl⟩,q⟩
end
structure Jm_(h:Heap)(x dx C:Addr)(mA:Str->Option Value):Prop where
 obj:h.get? x=some (PySem.W.instObj C dx)
 ns:h.Ns1 dx mA
 ne:dx≠x
theorem mG_{dx:Addr}{mA:Str->Option Value}(n:h.Ns1 dx mA):∃od,h.get? dx=some od/\∀name,PySem.W.lookIn name od=some (mA name):=by
 obtain⟨o,es,ep,ho,hd,hk,_,hm⟩:=n;show⟨o,ho,λname=>?_⟩;have e:=hm name;unfold nsFind findBy at e;rw[<-Array.find?_toList]at e;unfold PySem.W.lookIn;rw[hd]
 dsimp only
 split
 .rename_i y q;rw[q]at e;show congrArg some e
 .rename_i q;rw[q]at e;have a:es.toList.any (·.refKey)=false:=by rw[List.any_eq_false];intro y hy;obtain⟨z,t,hkey⟩:=hk y (Array.mem_toList_iff.mp hy);simp[DictEntry.refKey,hkey]
  have a':¬ es.toList.any (·.refKey)=true:=by rw[a];show AN_
  rw[if_neg a'];show congrArg some e
theorem Jm_.look{dx C:Addr}{mA:Str->Option Value}(I:Jm_ h x dx C mA):∃od,PySem.W.InstAt h x (PySem.W.instObj C dx) C (some od)/\∀name,PySem.W.lookIn name od=some (mA name):=
 let⟨od,ho,hl⟩:=mG_ I.ns
 ⟨od,⟨I.obj,rfl,rfl,ho⟩,hl⟩
variable {prog:Program}{A:Around}{K:PySem.W.Frag}{dx C f:Addr}{mA:Str->Option Value}{name:Str}{v:Value}
theorem pO_{expr:Bool}{Q:Value->Shared->Prop}(X:K.In s.heap)(I:Jm_ s.heap x dx C mA)(hg:PySem.W.plainGet K C name=true)(hh:PySem.W.hasDictIn K C=true)
  (ha:PySem.W.findIn K (.ref C) name=some none) (hv:mA name=some v) (hv':PySem.W.handedIn v=true) (h:Q v {s with toks:=s.toks+1}):
  wpAny (model prog w) A (getAttr (.ref x) name expr) Q E s:=by
 obtain⟨od,J,hl⟩:=I.look;show PySem.W.get_value X J (PySem.W.plainGet_of hg).1 (PySem.W.findObj_own hh ha rfl (by rw[hl,hv])) hv' h
theorem n3_{pl:Sem Bool}{Q:Value×List Value->Shared->Prop}(X:K.In s.heap)(I:Jm_ s.heap x dx C mA)(hg:PySem.W.plainGet K C name=true)
  (hf:PySem.W.findIn K (.ref C) name=some (some (.ref f))) (ht:PySem.W.isFn K (.ref f)=true) (hv:mA name=none) (h:Q (.ref f,[.ref x]) s):
  wpAny (model prog w) A (getMethod (.ref x) name pl) Q E s:=by
 obtain⟨od,J,hl⟩:=I.look;show PySem.W.method_fn X J (PySem.W.plainGet_of hg).1 (PySem.W.plainGet_of hg).2 hf (beq_iff_eq.mp ht) (by change(PySem.W.lookIn name od).map (·.isSome)=some false;rw[hl,hv];rfl) h
theorem pP_{ns:List Str}{Q:Unit->Shared->Prop}(X:K.In s.heap)(I:Jm_ s.heap x dx C mA)
  (hs:PySem.W.findIn K (.ref C) "__setattr__"=some (some (.builtin "object.__setattr__"))) (hp:PySem.W.plainOver K C=true) (ht:PySem.W.takerIn K C name=some none) (hh:PySem.W.hasDictIn K C=true)
  (hw:PySem.Within mA ns) (hsz:ns.length<=sizeLine)
  (h:∀h',Jm_ h' x dx C (λy=>if y=name then some v else mA y)->Heap.SameBut dx s.heap h'->Q () {s with heap:=h',toks:=s.toks+2}):
  wpAny (model prog w) A (setAttr (.ref x) name v) Q E s:=by
 obtain⟨od,J,hl⟩:=I.look;show PySem.W.set_plain X J hs (PySem.W.osa_open (s:={s with toks:=s.toks+1}) (r:=none) X J hp ht λb=>?_);obtain⟨cd,hc,hd'⟩:=PySem.W.any_some hh;have hx:s.heap.get? x=some ⟨.ref C,some dx,.plain,#[]⟩:=I.obj;show Af_ (Ax_ (Af_ (Af_ (wpAny_loadPart hx (Af_ (PySem.W.Looks.here (s:={s with toks:=s.toks+1}) (PySem.W.looks_clsIn X hc) ?_))))));rw[hd'];show Ax_ (a:=some dx) (Af_ (Ax_ (Af_ ?_)));show wpAny_nsSet1 (s:={s with toks:=s.toks+1}) I.ns λh' hn2 hs2=>?_;obtain⟨oD,esD,epD,hoD,hdD,hcD⟩:=hn2.count (PySem.Within.cons name v hw);show Af_ (wpAny_lookBehind hoD (by rw[hdD];show pastItsLine_dict (A7_ hcD (by rw[AF_];lia))) ?_);show Ax_ (h _ ⟨(hs2.2 _ (Ne.symm I.ne)).trans I.obj,hn2,I.ne⟩ hs2)
theorem k4_{R:Result->Shared->Prop}{vs:List Value}{kw:List (Str×Value)}(X:K.In s.heap)(hm:PySem.W.makesIn K C=true)
  (hi:PySem.W.findIn K (.ref C) "__init__"=some (some (.ref f))) (hf:PySem.W.typeIn K (.ref f)=some (.type "function"))
  (h:codeAny (model prog w) (A.under (.builtin "type.__call__" ⟨.ref C::vs,kw⟩)) (.call (.ref f) ⟨.ref (s.heap.objs.size+1)::vs,kw⟩) (PySem.W.InitBack (s.heap.objs.size+1) R)
   {s with heap:=(s.heap.push PySem.W.emptyDict).push (PySem.W.instObj C s.heap.objs.size)}):
  codeAny (model prog w) A (.call (.ref C) ⟨vs,kw⟩) R s:=by
 obtain⟨hh,g,d,t,os⟩:=s;show PySem.W.make_core (PySem.W.makes_of X hm) (PySem.W.looks_findIn X hi) (λself=>PySem.W.bind_fn X self hf) (.inl rfl) h
def putF(f:Str)(v:V):List (Str×V)->List (Str×V)
 |[]=>[(f,v)]
 | (g,x)::r=>if g=f then(g,v)::r else(g,x)::putF f v r
theorem hm_(f g:Str)(v:V):∀fs:List (Str×V),(putF f v fs).lookup g=if g=f then some v else fs.lookup g
 |[]=>by
  change List.lookup g [(f,v)]=_;by_cases h:g=f
  .have hb:(g == f)=true:=beq_iff_eq.mpr h;simp only[List.lookup,hb,if_pos h]
  .have hb:(g == f)=false:=Bv_.mpr h;simp only[List.lookup,hb,if_neg h]
 | (k,x)::r=>by
  have ih:=hm_ f g v r;rw[show putF f v ((k,x)::r)=(if k=f then(k,v)::r else(k,x)::putF f v r)from rfl];by_cases hk:k=f
  .rw[if_pos hk];by_cases h:g=k
   .have hb:(g == k)=true:=beq_iff_eq.mpr h;simp only[List.lookup,hb,if_pos (h.trans hk)]
   .have hb:(g == k)=false:=Bv_.mpr h;simp only[List.lookup,hb,if_neg (λe:g=f=>h (e.trans hk.symm))]
  .rw[if_neg hk];by_cases h:g=k
   .have hb:(g == k)=true:=beq_iff_eq.mpr h;simp only[List.lookup,hb,if_neg (λe:g=f=>hk (h.symm.trans e))]
   .have hb:(g == k)=false:=Bv_.mpr h;simp only[List.lookup,hb];show ih
theorem hn_(f:Str)(v:V):∀fs:List (Str×V),f∈(putF f v fs).map (·.1)/\∀g,g∈fs.map (·.1)->g∈(putF f v fs).map (·.1)
 |[]=>⟨by simp[putF],λg h=>by simp at h⟩
 | (k,x)::r=>by
  obtain⟨i1,i2⟩:=hn_ f v r;rw[show putF f v ((k,x)::r)=(if k=f then(k,v)::r else(k,x)::putF f v r)from rfl];by_cases hk:k=f
  .rw[if_pos hk];subst hk;show⟨s_,λg h=>by simpa using h⟩
  .rw[if_neg hk];show⟨?_,λg h=>?_⟩
   .rw[Az_];show Ak_ _ i1
   .rw[Az_]at h⊢
    rcases Aq_.mp h with e|e
    .show Aq_.mpr (.inl e)
    .show Ak_ _ (i2 g e)
theorem ho_(f:Str)(v:V):∀fs:List (Str×V),(putF f v fs).length<=fs.length+1
 |[]=>by simp[putF]
 | (k,x)::r=>by
  have ih:=ho_ f v r;rw[show putF f v ((k,x)::r)=(if k=f then(k,v)::r else(k,x)::putF f v r)from rfl];by_cases hk:k=f
  .rw[if_pos hk,AF_,AF_];lia
  .rw[if_neg hk,AF_,AF_];lia
theorem GY_.some_of{v:V}{o:Option Value}(r:GY_ (some v) o):∃u,o=some u/\Fm_ v u:=by
 cases o with
 |none=>show(show False from r).elim
 |some u=>show⟨u,rfl,r⟩
theorem GY_.none_of{o:Option Value}(r:GY_ none o):o=none:=by
 cases o with
 |none=>rfl
 |some u=>show(show False from r).elim
theorem mH_{v:V}(r:Fm_ v u):PySem.W.handedIn u=true:=by
 cases v with
 |non=>cases(show u=Value.none from r);rfl
 |bl b=>cases(show u=Value.bool b from r);rfl
 |int i=>obtain⟨t,e⟩:=(show ∃t,u=Value.int i t from r);cases e;rfl
 |str x=>obtain⟨t,e⟩:=(show ∃t,u=Value.str x t from r);cases e;rfl
 |byt b=>obtain⟨t,e⟩:=(show ∃t,u=Value.bytes b t from r);cases e;rfl
 |flt b=>obtain⟨t,e⟩:=(show ∃t,u=Value.float b t from r);cases e;rfl
 |ref a=>cases(show u=Value.ref a from r);rfl
 |ty n=>cases(show u=Value.type n from r);rfl
section
variable {fs fs':List (Str×V)}
theorem kl_(hok:HOk P w H h)(e:H a=some (.ins C dx fs)):∃mA,Jm_ h a dx C mA/\(∀f,GY_ (fs.lookup f) (mA f))/\PySem.Within mA (fs.map (·.1))/\fs.length<=1000/\H dx=some (.own a):=by obtain⟨d,z,ne,ob,mA,n,r,q⟩:=(show Fr_ P w H h a (.ins C dx fs)from hok a _ e);show⟨mA,⟨ob,n,ne⟩,r,q,z,d⟩
end
structure Cls(K:PySem.W.Frag)(C:Addr):Prop where
 pg:PySem.W.plainGet K C Str.empty=true
 hd:PySem.W.hasDictIn K C=true
 po:PySem.W.plainOver K C=true
 sa:PySem.W.findIn K (.ref C) "__setattr__"=some (some (.builtin "object.__setattr__"))
theorem Cls.get(c:Cls K C)(f:Str):PySem.W.plainGet K C f=true:=c.pg
def Gj_(K:PySem.W.Frag)(C:Addr)(f:Str):Prop:=PySem.W.findIn K (.ref C) f=some none
theorem Gj_.taker{f:Str}(n:Gj_ K C f):PySem.W.takerIn K C f=some none:=by unfold PySem.W.takerIn;rw[show PySem.W.findIn K (.ref C) f=some none from n];rfl
structure KH_(K:PySem.W.Frag)(C:Addr)(m:Str)(f:Addr):Prop where
 at_:PySem.W.findIn K (.ref C) m=some (some (.ref f))
 fn:PySem.W.isFn K (.ref f)=true
 kp:PySem.W.keepIn K (.ref f)=true
section
variable {fs:List (Str×V)}{f:Str}{v:V}
theorem lS_{b:Bool}{Q:Value->Shared->Prop}(I:Inv X pins σ H s)(e:H a=some (.ins C dx fs))(c:Cls X.K C)(n:Gj_ X.K C f)(l:fs.lookup f=some v)
  (h:∀u s',Inv X pins σ H s'->Fm_ v u->Q u s'):wpAny (model X.prog X.w) A (getAttr (.ref a) f b) Q E s:=by
 obtain⟨mA,O,r,_,_,_⟩:=kl_ I.hok e;obtain⟨u,hu,ru⟩:=GY_.some_of (v:=v) (o:=mA f) (by rw[<-l];show r f);show pO_ I.kIn O (c.get f) c.hd n hu (mH_ ru) (h u _ (I.tok _) ru)
theorem lT_{m:Str}{g:Addr}{pl:Sem Bool}{Q:Value×List Value->Shared->Prop}(I:Inv X pins σ H s)(e:H a=some (.ins C dx fs))(c:Cls X.K C)(k:KH_ X.K C m g)(l:fs.lookup m=none)
  (h:Q (.ref g,[.ref a]) s):wpAny (model X.prog X.w) A (getMethod (.ref a) m pl) Q E s:=by
 obtain⟨mA,O,r,_,_,_⟩:=kl_ I.hok e;have hn:mA m=none:=GY_.none_of (by rw[<-l];show r m);show n3_ I.kIn O (c.get m) k.at_ k.fn hn h
theorem lU_{y:V}{u:Value}{Q:Unit->Shared->Prop}(I:Inv X pins σ H s)(e:H a=some (.ins C dx fs))(c:Cls X.K C)(n:Gj_ X.K C f)(hl:fs.length<1000)(ry:Fm_ y u)
  (h:∀s',Inv X pins σ (upd H a (.ins C dx (putF f y fs))) s'->Q () s'):wpAny (model X.prog X.w) A (setAttr (.ref a) f u) Q E s:=by
 obtain⟨mA,O,r,wi,_,ho⟩:=kl_ I.hok e;have hz:(fs.map (·.1)).length<=sizeLine:=by rw[Ab_,B0_];lia
 show pP_ I.kIn O c.sa c.po n.taker c.hd wi hz λh' O' sb=>h _ ?_;have hd:∃o,h'.get? dx=some o:=let⟨o,_,_,e',_⟩:=O'.ns;⟨o,e'⟩;show I.write (x:=a) (e:=dx) (by rw[e];show True.intro) (.inr ho) (λb q hb z=>(sb.2 b hb).trans z) hd ?_;show⟨by rw[af_ O.ne];show ho,?_,O.ne,O'.obj,_,O'.ns,λg=>?_,λg hg=>?_⟩
 .have:=ho_ f y fs;lia
 .change GY_ ((putF f y fs).lookup g) (if g=f then some u else mA g);rw[hm_];by_cases q:g=f
  .rw[if_pos q,if_pos q];show ry
  .rw[if_neg q,if_neg q];show r g
 .by_cases q:g=f
  .rw[q];show(hn_ f y fs).1
  .show(hn_ f y fs).2 g (wi g λz=>hg ?_);change(if g=f then some u else mA g)=none;rw[if_neg q];show z
theorem Inv.made(I:Inv X pins σ H s):Inv X pins σ (upd (upd H s.heap.objs.size (.own (s.heap.objs.size+1))) (s.heap.objs.size+1) (.ins C s.heap.objs.size []))
  {s with heap:=(s.heap.push PySem.W.emptyDict).push (PySem.W.instObj C s.heap.objs.size)}:=by
 have e1:(s.heap.push PySem.W.emptyDict).get? s.heap.objs.size=some PySem.W.emptyDict:=AC_ s.heap rfl
 have e2:((s.heap.push PySem.W.emptyDict).push (PySem.W.instObj C s.heap.objs.size)).get? (s.heap.objs.size+1)=some (PySem.W.instObj C s.heap.objs.size):=by
  have:=AC_ (s.heap.push PySem.W.emptyDict) (o:=PySem.W.instObj C s.heap.objs.size) rfl
  rwa[BL_]at this
 have e3:(s.heap.push PySem.W.emptyDict).Ns s.heap.objs.size (λ_=>none):=⟨PySem.W.emptyDict,#[],_,e1,rfl,(λe he=>absurd he s_),λ_=>rfl⟩;have I1:=I.laid (a:=s.heap.objs.size) (o:=.own (s.heap.objs.size+1)) (h':=s.heap.push PySem.W.emptyDict) (t':=s.toks) (λb u q=>Aj_ _ q) (Ah_ _) ⟨_,e1⟩;show I1.laid (a:=s.heap.objs.size+1) (o:=.ins C s.heap.objs.size []) (t':=s.toks) (λb u q=>Aj_ _ q) (Nat.le_of_eq (BL_ _ _)) ?_;have ne:s.heap.objs.size≠s.heap.objs.size+1:=AE_ (B3_ _);show⟨by rw[af_ ne,ab_],AP_ _,ne,e2,λ_=>none,(Heap.Ns1.of_empty e3).at λo q=>Aj_ _ q,λ_=>True.intro,λy hy=>absurd rfl hy⟩
theorem pQ_{prog:Program}{w:World}{env:Env}{e:Expr}{f:Str}{pos:Pos}{s:Shared}{Q:Value->Shared->Prop}(hb:attributeBase e f env (eval e env)=eval e env)
  (h:wpAny (model prog w) A (eval e env) (λo s₁=>wpAny (model prog w) A (getAttr o f true) Q E s₁) E s):wpAny (model prog w) A (eval (.Attribute e f pos) env) Q E s :=
 Attribute_any_ h (by rw[arm_eval_Attribute,hb])
end
def LF_(K:PySem.W.Frag)(ta:TE)(f:Str):TE:=λσ H Q=>ta σ H λx H1=>∃a C dx fs v,x=.ref a/\H1 a=some (.ins C dx fs)/\Cls K C/\Gj_ K C f/\fs.lookup f=some v/\Q v H1
def Lo_(K:PySem.W.Frag)(ta tv:TE)(f:Str):TS:=λD σ H=>tv σ H λy H1=>ta σ H1 λx H2=>∃a C dx fs,x=.ref a/\H2 a=some (.ins C dx fs)/\Cls K C/\Gj_ K C f/\fs.length<1000 /\
 D.nx σ (upd H2 a (.ins C dx (putF f y fs)))
variable {o e value:Expr}{f:Str}{pos' tpos:Pos}{ta tv:TE}
theorem qY_(he:PE X e ta)(hb:attributeBase e f X.env (eval e X.env)=eval e X.env):PE X (.Attribute e f pos) (LF_ X.K ta f):=by intro pins s σ H Q I h;show pQ_ hb (thn (he pins s σ H _ I h) λu s1 ⟨x,H1,I1,rx,a,C,dx,fs,v,ex,ea,c,n,l,q⟩=>?_);subst ex;obtain rfl:u=Value.ref a:=rx;show lS_ I1 ea c n l λu' s2 I2 ru=>⟨v,H1,I2,ru,q⟩
theorem qZ_(ha:PE X o ta)(hv:PE X value tv)(hs:swapsWith value (some (.Attribute o f pos')) pos.line X.env=pure false):PS X (.Assign [.Attribute o f pos'] value pos) (Lo_ X.K ta tv f):=by intro pins s σ H D I h;show plainObj_wpAny_Assign_Attribute (thn (hv pins s σ H _ I h) λu s1 ⟨y,H1,I1,ry,q⟩=>thn (ha pins s1 σ H1 _ I1 q) λov s2 ⟨x,H2,I2,rx,a,C,dx,fs,ex,ea,c,n,l,q2⟩=>?_) hs;subst ex;obtain rfl:ov=Value.ref a:=rx;show lU_ I2 ea c n l ry λs3 I3=>⟨σ,_,I3,q2⟩
structure F3_(k:Nat)(A:Around):Prop where
 hd:A.handled=none
 dp:A.depth+3*k+5<recursionLimit
 un:A.units+16*k+200<cLine
theorem F3_.mono{j k:Nat}(r:F3_ k A)(h:j<=k):F3_ j A:=⟨r.hd,by have:=r.dp;lia,by have:=r.un;lia⟩
theorem F3_.deeper{k:Nat}(r:F3_ (k+1) A)(env:Env):F3_ k (A.deeper env):=
 ⟨r.hd,by have:=r.dp;change A.depth+1+3*k+5<_;lia,by have:=r.un;change A.units+3+16*k+200<_;lia⟩
theorem lV_{kw:List (Str×Value)}:(A.under (.builtin "type.__call__" ⟨.ref C::us,kw⟩)).depth=A.depth+1:=by first|rfl|simp[Around.under,Code.weight,Code.isCreation,Code.isGuard,Code.isCaller,Code.frames,Code.isFrame,guardIds]
theorem lW_{kw:List (Str×Value)}:(A.under (.builtin "type.__call__" ⟨.ref C::us,kw⟩)).units=A.units+1:=by first|rfl|simp[Around.under,Code.cUnits,Code.frames,Code.isFrame]
theorem F3_.make{k:Nat}(r:F3_ (k+1) A)(C:Addr)(us:List Value)(kw:List (Str×Value)):F3_ k (A.under (.builtin "type.__call__" ⟨.ref C::us,kw⟩)):=
 ⟨r.hd,by have:=r.dp;rw[lV_];lia,by have:=r.un;rw[lW_];lia⟩
theorem F3_.depth{k:Nat}(r:F3_ k A):A.depth<recursionLimit:=by have:=r.dp;lia
theorem F3_.units{k:Nat}(r:F3_ k A):A.units+64<cLine:=by have:=r.un;lia
def Jl_:TA:=λ_ H Q=>Q [] H
def GE_(ta:TE)(tr:TA):TA:=λσ H Q=>ta σ H λx H1=>tr σ H1 λxs H2=>Q (x::xs) H2
section
variable {es:List Expr}{te:TE}{t:TA}
theorem aa_:PA X [] Jl_:=λ_ _ _ _ H Q I h=>Calls.spliced_nil ⟨[],H,I,.nil,h⟩
theorem pR_(ha:PE X e te)(hr:PA X es t)(hs:starEach (e::es) X.env=(false,eval e X.env)::starEach es X.env:=by rfl):PA X (e::es) (GE_ te t):=by intro pos pins s σ H Q I h;rw[hs];change wpAny _ _ (spliced ((false,eval e X.env)::backTo pos (starEach es X.env))) _ _ s;show Calls.spliced_cons (thn (ha pins s σ H _ I h) λu s1 ⟨x,H1,I1,r1,q1⟩=>?_);show thn (hr pos pins s1 σ H1 _ I1 q1) λus s2 ⟨xs,H2,I2,r2,q2⟩=>⟨x::xs,H2,I2,.cons r1 r2,q2⟩
def Ls_(t:TA):TE:=λσ H Q=>t σ H λxs H1=>xs.length<=sizeLine/\∀p,H1 p=none->Q (.ref p) (upd H1 p (.tup xs))
def LE_(t:TA):TE:=λσ H Q=>t σ H λxs H1=>xs.length<=sizeLine/\∀p,H1 p=none->Q (.ref p) (upd H1 p (.lst xs))
theorem au_{x1} (h:PA X es t):PE X (.Tuple es x1 pos) (Ls_ t):=by intro pins s σ H Q I hq;show wpAny_Tuple_spliced (thn (h pos pins s σ H _ I hq) λus s1 ⟨xs,H1,I1,r,z,q⟩=>⟨by rw[<-r.length];show z,?_⟩);have hf:H1 s1.heap.objs.size=none:=I1.hok.fresh (Ah_ _);show⟨.ref s1.heap.objs.size,upd H1 s1.heap.objs.size (.tup xs),I1.laid (t':=s1.toks) (λb u e=>Aj_ _ e) (Ah_ _) ?_,rfl,q _ hf⟩;show⟨z,us,r,⟨_,AC_ _ rfl,rfl,_,rfl⟩⟩
theorem bH_(h:PA X es t):PE X (.List es pos) (LE_ t):=by intro pins s σ H Q I hq;show wpAny_List_spliced (thn (h pos pins s σ H _ I hq) λus s1 ⟨xs,H1,I1,r,z,q⟩=>⟨by rw[<-r.length];show z,?_⟩);have hf:H1 s1.heap.objs.size=none:=I1.hok.fresh (Ah_ _);show⟨.ref s1.heap.objs.size,upd H1 s1.heap.objs.size (.lst xs),I1.laid (t':=s1.toks) (λb u e=>Aj_ _ e) (Ah_ _) ?_,rfl,q _ hf⟩;show⟨z,us,0,r,AC_ _ rfl⟩
end
abbrev Sp:=List V->Hp->VK->XK->Prop
abbrev CXT:=List Env->Hp->Shared->XK->Value->Shared->Prop
structure Jx_(P:Program)(w:World)(K:PySem.W.Frag)(mg:Str->Option Value)(base:Heap)(A:Around)(outer:List Env)(s:Shared)(H:Hp):Prop where
 frames:A.frames=some outer
 mod:Mod K mg base
 bs:∀b o,base.get? b=some o->s.heap.get? b=some o/\H b=none
 bsz:base.objs.size<=s.heap.objs.size
 funs:s.heap.FunFrames base outer
 frf:∀b∈frs outer,H b=none
 hok:HOk P w H s.heap
 bare:AllBare s.gens
def CE(outer:List Env)(P:Program)(w:World)(H:Hp)(s:Shared)(Q:VK)(u:Value)(s':Shared):Prop :=
 ∃v H',s'.os=s.os/\AllBare s'.gens/\Un (frs outer) [] H H' s.heap s'.heap/\HOk P w H' s'.heap/\Fm_ v u/\Q v H'
def CR(CX:CXT)(outer:List Env)(P:Program)(w:World)(H:Hp)(s:Shared)(Q:VK)(E:XK)(r:Result)(s':Shared):Prop :=
 match r with
 | .ok (.ret u)=>CE outer P w H s Q u s'
 | .ok _=>False
 | .error e=>CX outer H s E e s'
structure GU_(P:Program)(w:World)(K:PySem.W.Frag)(mg:Str->Option Value)(base:Heap)(CX:CXT)(k:Nat)(f:Addr)(fd:FuncData)(ps:List Str)(sp:Sp):Prop where
 len:∀vs H Q E,sp vs H Q E->vs.length=ps.length
 run:∀(A:Around)(outer:List Env)(s:Shared)(H:Hp)(args:Args)(us:List Value)(vs:List V)(Q:VK)(E:XK),F3_ k A->Jx_ P w K mg base A outer s H->BindsTo s fd args (ps.zip us)->Fe_ vs us->sp vs H Q E ->
  codeAny (model P w) A (.call (.ref f) args) (CR CX outer P w H s Q E) s
theorem Jx_.make{mg:Str->Option Value}{base:Heap}{outer:List Env}(e:Jx_ P w K mg base A outer s H)(C:Addr)(us:List Value)(kw:List (Str×Value)):
  Jx_ P w K mg base (A.under (.builtin "type.__call__" ⟨.ref C::us,kw⟩)) outer s H:=⟨by first|show e.frames|(simpa[Around.under,Code.envs,Code.isFrame,pushEnvs]using e.frames),e.mod,e.bs,e.bsz,e.funs,e.frf,e.hok,e.bare⟩
variable {s':Shared}
theorem Inv.env0(I:Inv X pins σ H s):Jx_ X.prog X.w X.K X.mg X.base X.A X.stack s H :=
 ⟨I.ok.frames,I.ok.mod,I.bs,A7_ I.ok.bsz I.sz,I.stack,I.stkFree,I.hok,I.bare⟩
theorem Inv.after{Q:VK}(I:Inv X pins σ H s)(h:CE X.stack X.prog X.w H s Q u s'):EP X pins σ Q u s':=by obtain⟨v,H',os,bare,un,hok,r,q⟩:=h;obtain⟨hh,g,d,t,os'⟩:=s';obtain rfl:os'=s.os:=os;show⟨v,H',I.call (h':=hh) (g':=g) (d':=d) (t':=t) (ch:=[]) un hok bare (λb z=>absurd z s_),r,q⟩
def GQ_(sp:Sp)(dvs:List V)(E:XK)(t:TA):TE:=λσ H Q=>t σ H λvs H1=>sp (vs++dvs) H1 Q E
def KZ_(C:Addr)(m:Str)(sp:Sp)(dvs:List V)(E:XK)(ta:TE)(t:TA):TE:=λσ H Q=>ta σ H λx H1=>∃a dx fs,x=.ref a/\H1 a=some (.ins C dx fs)/\fs.lookup m=none /\
 t σ H1 λvs H2=>sp (x::(vs++dvs)) H2 Q E
def KY_(C:Addr)(sp:Sp)(dvs:List V)(E:XK)(t:TA):TE:=λσ H Q=>t σ H λvs H1=>∀x dx,H1 x=none->H1 dx=none->dx≠x ->
 sp (.ref x::(vs++dvs)) (upd (upd H1 dx (.own x)) x (.ins C dx [])) (λv H2=>v=.non/\Q (.ref x) H2) E
def Gl_(K:PySem.W.Frag)(fd:FuncData)(ps:List Str)(ds:List Value):Prop :=
 ∀(s:Shared)(us:List Value),K.In s.heap->(us++ds).length=ps.length->BindsTo s fd ⟨us,[]⟩ (ps.zip (us++ds))
theorem Gl_.all{fd:FuncData}{ps:List Str}(h:∀us:List Value,us.length=ps.length->bindArgs fd ⟨us,[]⟩=pure (ps.zip us)):Gl_ K fd ps []:=λs us _ hl=>by rw[A6_]at hl⊢;show .of_eq (h us hl)
def Gi_(CX:CXT)(X:Cx)(E:XK):Prop:=∀(pins:List (Addr×Obj))(σ:St)(H:Hp)(s:Shared)(e:Value)(s':Shared),Inv X pins σ H s->CX X.stack H s E e s'->X.xe e s'
section
variable {CX:CXT}{k:Nat}{f:Addr}{fd:FuncData}{ps:List Str}{sp:Sp}{dvs:List V}{ds:List Value}{E:XK}{x m:Str}{p apos:Pos}{es:List Expr}{t:TA}
theorem pa_{pins:List (Addr×Obj)}{σ:St}{H:Hp}{s:Shared}{Q:VK}{us:List Value}{vs:List V}(F:GU_ X.prog X.w X.K X.mg X.base CX k f fd ps sp)(hr:F3_ k X.A)(hb:Gl_ X.K fd ps ds)(hd:Fe_ dvs ds)(hx:Gi_ CX X E)
  (I:Inv X pins σ H s) (r:Fe_ vs us) (h:sp (vs++dvs) H Q E):wpAny (model X.prog X.w) X.A (call (.ref f) us) (EP X pins σ Q) X.xe s:=by
 have r2:Fe_ (vs++dvs) (us++ds):=r.append hd;have hl:(us++ds).length=ps.length:=by rw[<-r2.length];show F.len _ _ _ _ h
 show wpAny_call (B1_ (F.run X.A X.stack s H ⟨us,[]⟩ (us++ds) (vs++dvs) Q E hr I.env0 (hb s us I.kIn hl) r2 h) λr s' hq=>?_);cases r with
 |error e=>show hx pins σ H s e s' I hq
 |ok fl =>
  cases fl with
  |ret u=>show I.after hq
  |next=>show False.elim hq
  |brk=>show False.elim hq
  |cont=>show False.elim hq
theorem mI_(F:GU_ X.prog X.w X.K X.mg X.base CX k f fd ps sp)(hr:F3_ k X.A)(hg:Gl X x)(hm:X.mg x=some (.ref f))(hk:PySem.W.keepIn X.K (.ref f)=true)(hb:Gl_ X.K fd ps ds)(hd:Fe_ dvs ds)(hx:Gi_ CX X E)
  (ha:PA X (e::es) t) (hdb:(x == ("__debug__" : Str))=false:=by decide) (he:starEach (e::es) X.env=(false,eval e X.env)::starEach es X.env:=by rfl) (hpl:(backTo pos (starEach es X.env)).any (·.1)=false:=by rfl):
  PE X (.Call (.Name x p) (e::es) [] pos) (GQ_ sp dvs E t):=by
 intro pins s σ H Q I h;show BK_ (ga_ I hg hm ?_ hdb);show PySem.W.callWith_K (h₀:=X.base) I.ok.mod.kin hk (thn (ha pos pins s σ H _ I h) λus s1 ⟨vs,H1,I1,r,q⟩=>⟨I1.kIn,?_⟩) he hpl;show pa_ F hr hb hd hx I1 r q
theorem n4_{pl:Sem Bool}(he:PE X o ta)(c:Cls X.K C)(hm:KH_ X.K C m f)(F:GU_ X.prog X.w X.K X.mg X.base CX k f fd ps sp)(hr:F3_ k X.A)(hb:Gl_ X.K fd ps ds)(hd:Fe_ dvs ds)(hx:Gi_ CX X E)
  (ht:eval (.Call (.Attribute o m apos) [] [] pos) X.env=(do
   let ov <-eval o X.env
   standAt apos.atName
   let(f,first) <-holding [ov] (getMethod ov m pl)
   callWith pos f first (backTo pos (starEach [] X.env)) (backToKw pos (keywordEach [] X.env))):=by rfl):
  PE X (.Call (.Attribute o m apos) [] [] pos) (KZ_ C m sp dvs E ta Jl_):=by
 intro pins s σ H Q I h;show PySem.W.methodCall_KW (pl:=pl) (thn (he pins s σ H _ I h) λu s1 ⟨x,H1,I1,rx,a,dx,fs,ex,ea,l,q⟩=>?_) ht;subst ex;obtain rfl:u=Value.ref a:=rx;show lT_ I1 ea c hm l ?_;show PySem.W.callWith_K0 (first:=[.ref a]) I1.kIn hm.kp (pa_ (us:=[.ref a]) (vs:=[.ref a]) F hr hb hd hx I1 (.cons rfl .nil) q)
structure Mk(K:PySem.W.Frag)(C f:Addr):Prop where
 makes:PySem.W.makesIn K C=true
 init:PySem.W.findIn K (.ref C) "__init__"=some (some (.ref f))
 fn:PySem.W.isFn K (.ref f)=true
 kp:PySem.W.keepIn K (.ref C)=true
theorem n5_{pins:List (Addr×Obj)}{σ:St}{H:Hp}{s:Shared}{Q:VK}{us:List Value}{vs:List V}(M:Mk X.K C f)(F:GU_ X.prog X.w X.K X.mg X.base CX k f fd ps sp)(hr:F3_ (k+1) X.A)(hb:Gl_ X.K fd ps ds)(hd:Fe_ dvs ds)
  (hx:Gi_ CX X E) (I:Inv X pins σ H s) (r:Fe_ vs us)
  (h:∀x dx,H x=none->H dx=none->dx≠x->sp (.ref x::(vs++dvs)) (upd (upd H dx (.own x)) x (.ins C dx [])) (λv H2=>v=.non/\Q (.ref x) H2) E):
  wpAny (model X.prog X.w) X.A (call (.ref C) us) (EP X pins σ Q) X.xe s:=by
 have hq:=h (s.heap.objs.size+1) s.heap.objs.size (I.hok.fresh (Cn_ _)) (I.hok.fresh (Ah_ _)) (AE_ (B3_ _));have I2:=Inv.made (C:=C) I;have r2:Fe_ (V.ref (s.heap.objs.size+1)::(vs++dvs)) (Value.ref (s.heap.objs.size+1)::(us++ds)):=.cons rfl (r.append hd);have hl:(Value.ref (s.heap.objs.size+1)::us++ds).length=ps.length:=by have e:=r2.length;rw[F.len _ _ _ _ hq]at e;show e.symm
 show wpAny_call (k4_ (f:=f) I.kIn M.makes M.init (beq_iff_eq.mp M.fn) (B1_ (F.run _ X.stack _ _ ⟨Value.ref (s.heap.objs.size+1)::us,[]⟩ (Value.ref (s.heap.objs.size+1)::(us++ds)) _ _ E (hr.make C us [])
  (I2.env0.make C us []) (hb _ (Value.ref (s.heap.objs.size+1)::us) I2.kIn hl) r2 hq) λr s' hq'=>?_))
 cases r with
 |error e=>show hx pins σ _ _ e s' I2 hq'
 |ok fl =>
  cases fl with
  |ret u =>
   obtain⟨v,H',I3,rv,ev,q3⟩:=I2.after hq';subst ev;show⟨rv,⟨V.ref (s.heap.objs.size+1),H',I3,rfl,q3⟩⟩
  |next=>show False.elim hq'
  |brk=>show False.elim hq'
  |cont=>show False.elim hq'
theorem pS_(M:Mk X.K C f)(F:GU_ X.prog X.w X.K X.mg X.base CX k f fd ps sp)(hr:F3_ (k+1) X.A)(hg:Gl X x)(hm:X.mg x=some (.ref C))(hb:Gl_ X.K fd ps ds)(hd:Fe_ dvs ds)(hx:Gi_ CX X E)
  (ha:PA X (e::es) t) (hdb:(x == ("__debug__" : Str))=false:=by decide) (he:starEach (e::es) X.env=(false,eval e X.env)::starEach es X.env:=by rfl) (hpl:(backTo pos (starEach es X.env)).any (·.1)=false:=by rfl):
  PE X (.Call (.Name x p) (e::es) [] pos) (KY_ C sp dvs E t):=by
 intro pins s σ H Q I h;show BK_ (ga_ I hg hm ?_ hdb);show PySem.W.callWith_K (h₀:=X.base) I.ok.mod.kin M.kp (thn (ha pos pins s σ H _ I h) λus s1 ⟨vs,H1,I1,r,q⟩=>⟨I1.kIn,?_⟩) he hpl;show n5_ M F hr hb hd hx I1 r q
end
structure EU_(N P:List Str)(sc:Scope):Prop where
 kind:sc.kind=.function
 co:sc.isCoroutine=false
 gen:sc.isGenerator=false
 nd:N.Nodup
 pre:N.take P.length=P
 par:∀x∈P,sc.names.lookup x=some .local\/sc.names.lookup x=some .cell
 nofree:∀y∈sc.names,y.2≠.free
theorem jf_{kindOf:Str->Option NameKind}{x:Str}:∀{binds:List (Str×Value)}{m:Str->Option Value},(∀v,(x,v)∉binds)->bindL kindOf binds m x=m x
 |[],_,_=>rfl
 | (n,v)::r,m,h=>by
  unfold bindL;rw[jf_ λw hw=>h w (Ak_ _ hw)];split
  .have:x≠n:=by rintro rfl;show h v An_
   simp[this]
  .rfl
theorem jg_{kindOf:Str->Option NameKind}{x:Str}:∀{binds:List (Str×Value)}{m:Str->Option Value},(∀v,(x,v)∉binds)->bindC kindOf binds m x=m x
 |[],_,_=>rfl
 | (n,v)::r,m,h=>by
  unfold bindC;rw[jg_ λw hw=>h w (Ak_ _ hw)];split
  .rfl
  .have:x≠n:=by rintro rfl;show h v An_
   simp[this]
theorem jh_{kindOf:Str->Option NameKind}{x:Str}{v:Value}:∀{P:List Str}{vs:List Value}{i:Nat}{m:Str->Option Value},P.Nodup->P[i]?=some x->vs[i]?=some v->kindOf x=some .local ->
  bindL kindOf (P.zip vs) m x=some v
 |[],_,_,_,_,h,_,_=>by simp at h
 |_::_,[],_,_,_,_,h,_=>by simp at h
 |p::P,w::vs,0,m,nd,h1,h2,hk=>by
  simp at h1 h2;subst h1;subst h2;change bindL kindOf ((p,w)::P.zip vs) m p=_;unfold bindL;rw[jf_ λv hv=>(AM_.mp nd).1 (Dd_ hv).1,if_pos hk];simp
 |p::P,w::vs,i+1,m,nd,h1,h2,hk=>by change bindL kindOf ((p,w)::P.zip vs) m x=_;unfold bindL;show jh_ (i:=i) (AM_.mp nd).2 (by simpa using h1) (by simpa using h2) hk
theorem ji_{kindOf:Str->Option NameKind}{x:Str}{v:Value}:∀{P:List Str}{vs:List Value}{i:Nat}{m:Str->Option Value},P.Nodup->P[i]?=some x->vs[i]?=some v->kindOf x≠some .local ->
  bindC kindOf (P.zip vs) m x=some v
 |[],_,_,_,_,h,_,_=>by simp at h
 |_::_,[],_,_,_,_,h,_=>by simp at h
 |p::P,w::vs,0,m,nd,h1,h2,hk=>by
  simp at h1 h2;subst h1;subst h2;change bindC kindOf ((p,w)::P.zip vs) m p=_;unfold bindC;rw[jg_ λv hv=>(AM_.mp nd).1 (Dd_ hv).1,if_neg hk];simp
 |p::P,w::vs,i+1,m,nd,h1,h2,hk=>by change bindC kindOf ((p,w)::P.zip vs) m x=_;unfold bindC;show ji_ (i:=i) (AM_.mp nd).2 (by simpa using h1) (by simpa using h2) hk
def start(N:List Str)(vs:List V):St:=vs.map some++List.replicate (N.length-vs.length) none
def Hj_(CX:CXT)(P:Program)(w:World)(K:PySem.W.Frag)(mg:Str->Option Value)(base:Heap)(N:List Str)(qual:Str)(scope:Scope)(f:Addr)(cd:Value)(A:Around)(outer:List Env)(s:Shared)(H:Hp)(E:XK):Cx where
 prog:=P
 w:=w
 K:=K
 mg:=mg
 base:=base
 A:=A.deeper (envOfC qual scope s.heap.objs.size f cd)
 N:=N
 s₀:=s
 H₀:=H
 env:=envOfC qual scope s.heap.objs.size f cd
 outer:=outer
 stack:=envOfC qual scope s.heap.objs.size f cd::outer
 ex:=[]
 calm:=true
 fn:=λ_=>true
 pn:=[]
 xe:=λe s'=>wpAny (model P w) (A.deeper (envOfC qual scope s.heap.objs.size f cd)) (leaving (envOfC qual scope s.heap.objs.size f cd) e) (λ_ s''=>CX outer H s E e s'') (λe' s''=>CX outer H s E e' s'') s'
theorem k5_{sc:Scope}{n:Nat}{x:Str}(h:sc.names.lookup x=some .cell):∃c,(cellsFrom n sc.names []).lookup x=some c:=by have q:=Df_ sc.names n [] (.inl h);show C4_.mp q
theorem mJ_{CX:CXT}{P:Program}{w:World}{K:PySem.W.Frag}{mg:Str->Option Value}{base:Heap}{N ps:List Str}{qual:Str}{scope:Scope}{f:Addr}{cd:Value}{A:Around}{outer:List Env}{s s1:Shared}{H:Hp}{E:XK}{us:List Value}{vs:List V}
  (S:EU_ N ps scope) (hd:A.handled=none) (e0:Jx_ P w K mg base A outer s H) (hl:vs.length=ps.length) (r:Fe_ vs us)
  (x:InCallC s s.heap.objs.size (bindL (envOfC qual scope s.heap.objs.size f cd).kindOf (ps.zip us) λ_=>none) (cellsFrom (s.heap.objs.size+1) scope.names []) (bindC (envOfC qual scope s.heap.objs.size f cd).kindOf (ps.zip us) λ_=>none) s1):
  Inv (Hj_ CX P w K mg base N qual scope f cd A outer s H E) [] (start N vs) H s1:=by
 have hpl:ps.length<=N.length:=by have:=congrArg List.length S.pre;rw[AW_]at this;lia
 obtain⟨h1,tk,rfl,hk⟩:=x.done;have noA:∀b:Addr,b∉(Hj_ CX P w K mg base N qual scope f cd A outer s H E).ex:=λb z=>absurd (show b∈([]:List Addr)from z) s_
 show⟨⟨e0.mod,S.kind,rfl,rfl,Ah_ _,λy z c h1 h2=>?_,λy hy=>?_,λy c _ h=>?_,λ_=>hd,Around.frames_deeper e0.frames,.inr ⟨rfl,rfl⟩,λb z=>absurd z (noA b),e0.bs,e0.bsz,λb _ _=>noA b,λb z=>absurd z (noA b),e0.funs,e0.frf⟩,
  rfl,e0.bare,Un.kept hk,⟨_,x.toInCall.ns,λi y v h1 h2 h3=>?_⟩,λy c h=>⟨_,x.cell y c h⟩,e0.hok.fresh (Ah_ _),λy c h=>?_,λp hp=>absurd (show p∈([]:List (Addr×Obj))from hp) s_,e0.hok.kept hk,?_⟩
 .show name_of_addr x.apart (Bm_ h1) (Bm_ h2)
 .have hy:scope.names.lookup y=some .cell\/scope.names.lookup y=some .free:=hy
  rcases hy with hy|hy
  .show k5_ hy
  .show absurd rfl (S.nofree _ (Bm_ hy))
 .show AO_ (x.above y c (Bm_ h))
 .have hi:i<vs.length:=by
   unfold start at h2;by_cases hi:i<vs.length
   .show hi
   .rw[AK_ (by simpa using hi)]at h2;rw[Ct_]at h2;split at h2 <;> cases h2
  have ha:vs[i]?=some v:=by
   unfold start at h2;rw[Ay_ (by simpa using hi),Ag_]at h2;cases e:vs[i]? with
   |none=>rw[e]at h2;cases h2
   |some a=>rw[e]at h2;cases h2;rfl
  obtain⟨u,hu,rv⟩:=r.get ha;have hp:ps[i]?=some y:=by rw[<-S.pre,DI_ o_];show h1
  have ndP:ps.Nodup:=by rw[<-S.pre];show S.nd.sublist (List.take_sublist _ _)
  show⟨u,rv,?_⟩
  rcases S.par y (Am_ hp)with k|k
  .show .inl ⟨k,jh_ ndP hp hu k⟩
  .obtain⟨c,e⟩:=k5_ (n:=s.heap.objs.size+1) k;show .inr ⟨.inl k,c,e,?_⟩;have q:=x.cell y c e;rw[ji_ ndP hp hu (by change scope.names.lookup y≠_;rw[k];decide)]at q;show q
 .show e0.hok.fresh (AO_ (x.above y c (Bm_ h)))
 .unfold start;change _=N.length;rw[Ae_,Ab_,Ch_];lia
theorem Jz_{CX:CXT}{P:Program}{w:World}{K:PySem.W.Frag}{mg:Str->Option Value}{base:Heap}{k:Nat}{f:Addr}{name qual:Str}{params:Arguments}{body:List Stmt}{scope:Scope}{dV kV doc pm cdv ct oc:Value}{an od:Option Addr}
  {osl:Array (Option Value)} {N ps:List Str} {sp:Sp} (lk:K.lookup f=some ⟨oc,od,.func (PySem.W.fnOf name qual params body scope dV kV doc pm an cdv ct),osl⟩) (hcd:PySem.W.codeIn K cdv qual=true) (S:EU_ N ps scope)
  (len:∀vs H Q E,sp vs H Q E->vs.length=ps.length)
  (hbody:∀(A:Around)(outer:List Env)(s:Shared)(H:Hp)(vs:List V)(Q:VK)(E:XK),F3_ k (A.deeper (envOfC qual scope s.heap.objs.size f cdv))->sp vs H Q E ->
   ∃t,PSs (Hj_ CX P w K mg base N qual scope f cdv A outer s H E) body t/\t {nx:=λ_ H'=>Q .non H',rt:=Q} (start N vs) H):
  GU_ P w K mg base CX (k+1) f (PySem.W.fnOf name qual params body scope dV kV doc pm an cdv ct) ps sp:=by
 show⟨len,λA outer s H args us vs Q E hr e0 hb r hsp=>?_⟩;have hl:=len _ _ _ _ hsp;have KX:K.In s.heap:=e0.mod.kin.keeps λb o e=>(e0.bs b o e).1;have lim:s.heap.NoLimit:=e0.mod.nolimit.keeps λb o e=>(e0.bs b o e).1
 have hkind:∀y∈ps.zip us,scope.names.lookup y.1=some .local\/(scope.names.lookup y.1=some .cell/\((cellsFrom (s.heap.objs.size+1) scope.names []).lookup y.1).isSome=true):=λ⟨n,v⟩ hy=>by
  rcases S.par n (Dd_ hy).1 with q|q
  .show .inl q
  .show .inr ⟨q,Df_ _ _ _ (.inl q)⟩
 show codeAny_call_function hr.depth (KX _ _ lk) rfl S.co S.gen rfl (PySem.W.codeRec_of KX hcd) (hb _ _ _ _ ?_);show wpAny_newFunctionEnv_cells S.kind hkind λenv he s1 x=>?_;subst he;show⟨lim.keeps x.toInCall.keep,codeAny_func ?_⟩;obtain⟨t,ht,hq⟩:=hbody A outer s H vs Q E (hr.deeper _) hsp;have I:Inv (Hj_ CX P w K mg base N qual scope f cdv A outer s H E) [] (start N vs) H s1:=mJ_ S hr.hd e0 hl r x;show Bl_ (ht [] s1 (start N vs) H _ I hq) (λfl s' hs=>?_) λe s' hs=>hs
 have fin:∀{σ':St}{H':Hp}{v:V}{u:Value},Inv (Hj_ CX P w K mg base N qual scope f cdv A outer s H E) [] σ' H' s'->Fm_ v u->Q v H'->CE outer P w H s Q u s' :=
  λ{σ' H' v u} J rv q=>⟨v,H',J.os,J.bare,J.base,J.hok,rv,q⟩
 cases fl with
 |ret u =>
  obtain⟨v,σ',H',J,rv,q⟩:=hs;show fin J rv q
 |next =>
  obtain⟨σ',H',J,q⟩:=hs;show fin (v:=V.non) (u:=Value.none) J rfl q
 |brk =>
  obtain⟨_,_,_,q⟩:=hs;show False.elim q
 |cont =>obtain⟨_,_,_,q⟩:=hs;show False.elim q
section
variable {x:Str}{p:Pos}{es:List Expr}{t:TA}{id T:String}{r:List V->Hp->VK->Prop}
def tCB(r:List V->Hp->VK->Prop)(t:TA):TE:=λσ H Q=>t σ H λvs H1=>r vs H1 Q
theorem n6_(hc:FE_ X (.builtin id) r)(hg:Gl X x)(hm:X.mg x=none)(hv:bootBuiltins x=some (.builtin id))(ha:PA X (e::es) t)(hn:x ≠ "__name__" := by decide) (hdb:(x == ("__debug__" : Str))=false:=by decide)
  (he:starEach (e::es) X.env=(false,eval e X.env)::starEach es X.env:=by rfl) (hpl:(backTo pos (starEach es X.env)).any (·.1)=false:=by rfl):PE X (.Call (.Name x p) (e::es) [] pos) (tCB r t):=by
 intro pins s σ H Q I h;show BK_ (fy_ I hg hm hv ?_ hn hdb);show PyProof.Rows.callWith_builtin1 (thn (ha pos pins s σ H _ I h) λus s1 ⟨vs,H1,I1,r1,q1⟩=>hc pins s1 σ H1 vs us Q I1 r1 q1) he hpl
theorem mK_(hc:FE_ X (.type T) r)(hg:Gl X x)(hm:X.mg x=none)(hv:bootBuiltins x=some (.type T))(ha:PA X (e::es) t)(hn:x ≠ "__name__" := by decide) (hdb:(x == ("__debug__" : Str))=false:=by decide)
  (he:starEach (e::es) X.env=(false,eval e X.env)::starEach es X.env:=by rfl) (hpl:(backTo pos (starEach es X.env)).any (·.1)=false:=by rfl):PE X (.Call (.Name x p) (e::es) [] pos) (tCB r t):=by
 intro pins s σ H Q I h;show BK_ (fy_ I hg hm hv ?_ hn hdb);show Br_ (thn (ha pos pins s σ H _ I h) λus s1 ⟨vs,H1,I1,r1,q1⟩=>hc pins s1 σ H1 vs us Q I1 r1 q1) he hpl
end
end L2
namespace HT
open PySem PyProof.Rows
open PySem.SeqAt
open PySem.AutoSeq1 (wpAny_loadPart')
open PySem.MeetsSeq PySem.MeetsSeq2 PySem.MeetsSeq3
variable {prog:Program}{w:World}{A:Around}{E:Value->Shared->Prop}{s:Shared}
def sIx(n d:Nat):Option Int->Nat
 |none=>d
 |some v=>if v<0 then(v+(n:Int)).toNat else min v.toNat n
theorem sIx_none(n d:Nat):sIx n d none=d:=rfl
theorem sIx_nat(n d k:Nat):sIx n d (some (k:Int))=min k n:=by change(if(k:Int)<0 then((k:Int)+(n:Int)).toNat else min (k:Int).toNat n)=min k n;rw[if_neg o_,AD_]
end HT
namespace L2
open PySem PySem.Spec PyProof.Rows
abbrev TO:=St->Hp->(Option Int->Hp->Prop)->Prop
def PO(X:Cx)(e:Option Expr)(t:TO):Prop :=
 ∀(pins:List (Addr×Obj))(s:Shared)(σ:St)(H:Hp)(Q:Option Int->Hp->Prop),Inv X pins σ H s->t σ H Q ->
  wpAny (model X.prog X.w) X.A (evalPart e X.env) (λu s'=>∃o H',Inv X pins σ H' s'/\IsPart u o/\Q o H') X.xe s
def Il_:TO:=λ_ H Q=>Q none H
def Kg_(t:TE):TO:=λσ H Q=>t σ H λx H1=>onI x λi=>Q (some i) H1
theorem lX_{ns:List Int}:∀{us:List Value},Fe_ (ns.map V.int) us->IntsAre us ns:=by
 induction ns with
 |nil=>intro us r;rw[CK_]at r;cases r;show .nil
 |cons n ns ih =>
  intro us r;rw[Az_]at r;cases r with
  |cons r1 r2 =>obtain⟨t,e⟩:=r1;subst e;show .cons n t (ih r2)
variable {X:Cx}{e:Expr}{te:TE}{lo hi:Option Expr}{tl th:TO}{pos p2:Pos}
theorem hp_:PO X none Il_:=by intro pins s σ H Q I h;rw[evalPart_none];show Ax_ ⟨none,H,I,.none,h⟩
theorem hq_(h:PE X e te):PO X (some e) (Kg_ te):=by intro pins s σ H Q I hw;rw[evalPart_some];show thn (h pins s σ H _ I hw) λu s1 ⟨x,H1,I1,r1,q1⟩=>?_;obtain⟨i,rfl,q⟩:=dd_ q1;obtain⟨t,rfl⟩:=r1;show⟨some i,H1,I1,.int i t,q⟩
def SlR(X:Cx)(r:V->Option Int->Option Int->Hp->VK->Prop):Prop :=
 ∀(pins:List (Addr×Obj))(s:Shared)(σ:St)(H:Hp)(x:V)(v vl vu:Value)(lo hi:Option Int)(sl:Addr)(Q:VK),Inv X pins σ H s->Fm_ x v->s.heap.IsSliceOf sl vl vu .none->IsPart vl lo->IsPart vu hi->r x lo hi H Q ->
  ∃T id,typeLookup (.type T) "__getitem__"=pure (some (.builtin id))/\s.TypeIs v T/\wpAny (model X.prog X.w) X.A (getItem v (.ref sl)) (EP X pins σ Q) X.xe s
def tSl(r:V->Option Int->Option Int->Hp->VK->Prop)(te:TE)(tl th:TO):TE:=λσ H Q=>te σ H λx H1=>tl σ H1 λl H2=>th σ H2 λu H3=>r x l u H3 Q
theorem fz_{r:V->Option Int->Option Int->Hp->VK->Prop}(hr:SlR X r)(he:PE X e te)(hl:PO X lo tl)(hu:PO X hi th):PE X (.Subscript e (.Slice lo hi none p2) pos) (tSl r te tl th):=by intro pins s σ H Q I h;show Subscript_ (thn (he pins s σ H _ I h) λv s1 ⟨x,H1,I1,r1,q1⟩=>?_);show wpAny_Slice (thn (hl pins s1 σ H1 _ I1 q1) λvl s2 ⟨l,H2,I2,pl,q2⟩=>thn (hu pins s2 σ H2 _ I2 q2) λvu s3 ⟨u,H3,I3,pu,q3⟩=>?_);rw[evalPart_none];show Ax_ ?_;have I4:Inv X pins σ H3 {s3 with heap:=s3.heap.push {cls:=.type "slice",data:=.fields #[vl,vu,.none]}}:=I3.kept (t':=s3.toks) λb ob q=>Aj_ _ q;obtain⟨T,id,hT,ht,hg⟩:=hr pins {s3 with heap:=s3.heap.push {cls:=.type "slice",data:=.fields #[vl,vu,.none]}} σ H3 x v vl vu l u s3.heap.objs.size Q I4 r1 (Heap.IsSliceOf.new ..) pl pu q3;change wpAny (model X.prog X.w) X.A (subscriptTail e (.Slice lo hi none p2) v (.ref s3.heap.objs.size)) (EP X pins σ Q) X.xe {s3 with heap:=s3.heap.push {cls:=.type "slice",data:=.fields #[vl,vu,.none]}};show tail_any (ops:=[.ref s3.heap.objs.size,v]) ht hT hg (by with_unfolding_all rfl)
def H0_(xs:List V)(lo hi:Option Int):List V:=(xs.drop (HT.sIx xs.length 0 lo)).take (HT.sIx xs.length xs.length hi-HT.sIx xs.length 0 lo)
theorem km_(xs:List V)(lo hi:Option Int):(H0_ xs lo hi).length<=xs.length:=by unfold H0_;rw[AW_,By_];lia
def ixN(n:Nat)(i:Int):Option Nat:=if 0<=i then(if i<n then some i.toNat else none)else if -(n:Int)<=i then some (i+n).toNat else none
def atI{α:Type}(xs:List α)(i:Int):Option α:=(ixN xs.length i).bind λj=>xs[j]?
theorem mL_{n:Nat}{i:Int}{j:Nat}(h:ixN n i=some j):seqIndex? i n=some j/\j<n /\ -(n:Int)<=i/\i<n:=by
 unfold ixN at h;by_cases h0:0<=i
 .rw[if_pos h0]at h;by_cases h1:i<n
  .rw[if_pos h1]at h;have e:i.toNat=j:=At_ h;show⟨by rw[Dg_ h0 h1,e],o_,o_,h1⟩
  .rw[if_neg h1]at h;cases h
 .rw[if_neg h0]at h;by_cases h1:-(n:Int)<=i
  .rw[if_pos h1]at h;have e:(i+n).toNat=j:=At_ h;show⟨by rw[Dx_ o_ h1,e],o_,h1,o_⟩
  .rw[if_neg h1]at h;cases h
theorem kn_{α:Type}{xs:List α}{i:Int}{v:α}(h:atI xs i=some v):∃j,seqIndex? i xs.length=some j/\xs[j]?=some v/\j<xs.length /\ -(xs.length:Int)<=i/\i<xs.length:=by
 unfold atI at h;cases e:ixN xs.length i with
 |none=>rw[e]at h;cases h
 |some j =>rw[e]at h;obtain⟨h1,h2,h3,h4⟩:=mL_ e;show⟨j,h1,h,h2,h3,h4⟩
def Jp_(b:Expr):Prop:=∀o i,subscripted b false o i=operate [o,i] (getItem o i)
def IxR(X:Cx)(r:R2):Prop :=
 ∀(value slice:Expr)(pins:List (Addr×Obj))(s:Shared)(σ:St)(H:Hp)(x y:V)(v u:Value)(Q:VK),Inv X pins σ H s->Fm_ x v->Fm_ y u->r x y H Q ->
  subscripted slice false v u=operate [v,u] (getItem v u)->wpAny (model X.prog X.w) X.A (subscriptTail value slice v u) (EP X pins σ Q) X.xe s
def MtR(X:Cx)(id:String)(r:V->List V->Hp->VK->Prop):Prop :=
 ∀(pins:List (Addr×Obj))(s:Shared)(σ:St)(H:Hp)(x:V)(xs:List V)(v:Value)(us:List Value)(Q:VK),Inv X pins σ H s->Fm_ x v->Fe_ xs us->r x xs H Q ->
  wpAny (model X.prog X.w) X.A (call (.builtin id) (v::us)) (EP X pins σ Q) X.xe s
section
variable {a b:Expr}{ta tb:TE}
theorem ES_{r:R2}(hr:IxR X r)(ha:PE X a ta)(hb:PE X b tb)(hs:Jp_ b:=by intro _ _;rfl):PE X (.Subscript a b pos) (tOp r ta tb):=by intro pins s σ H Q I h;show Subscript_ (binT ha hb I h λv u s2 x y H2 I2 rx ry q=>hr a b pins s2 σ H2 x y v u Q I2 rx ry q (hs _ _))
def LH_(K:PySem.W.Frag):R2:=λx y H Q=>∃p xs i v,x=.ref p/\y=.int i/\SqL K H p xs/\atI xs i=some v/\Q v H
def Lv_(K:PySem.W.Frag):R2:=λx y H Q=>∃p xs i v,x=.ref p/\y=.int i/\SqT K H p xs/\atI xs i=some v/\Q v H
def LI_:R2:=λx y H Q=>∃z i c,x=.str z/\y=.int i/\z.length<=sizeLine/\atI z.cps.toList i=some c/\Q (.str ⟨#[c]⟩) H
theorem mM_:IxR X (LH_ X.K):=by
 intro value slice pins s σ H x y v u Q I rx ry h hs;obtain⟨p,xs,i,z,rfl,rfl,hq,he,q⟩:=h;cases rx;obtain⟨t,rfl⟩:=ry;obtain⟨its,r,pl,hz⟩:=I.list hq;obtain⟨j,h1,h2,h3,h4,h5⟩:=kn_ he;obtain⟨w,ew,rw'⟩:=r.get h2;have hl:=r.length;have hn:=GM_;have fin:EP X pins σ Q w s:=⟨z,H,I,rw',q⟩;by_cases h0:0<=i
 .have hj:i.toNat=j:=by rw[Dg_ h0 h5]at h1;show At_ h1
  show item_listR pl.isList h0 o_ (by rw[hj];simpa using ew) fin hs
 .have hj:(i+(its.toArray.size:Int)).toNat=j:=by rw[Dx_ o_ h4]at h1;rw[Ap_,<-hl];show At_ h1
  show Dh_ (x:=w) pl.isList.typeIs slot_list_getitem.lookup
   (wpAny_getItem_list_neg (Q:=λr s'=>r=w/\EP X pins σ Q r s') pl.isList o_ (by rw[Ap_] <;> lia) o_ (by rw[hj];simpa using ew) ⟨rfl,fin⟩) hs
theorem q0_:IxR X (Lv_ X.K):=by
 intro value slice pins s σ H x y v u Q I rx ry h hs;obtain⟨p,xs,i,z,rfl,rfl,hq,he,q⟩:=h;cases rx;obtain⟨t,rfl⟩:=ry;obtain⟨its,r,pl,hz⟩:=I.tuple hq;obtain⟨j,h1,h2,h3,h4,h5⟩:=kn_ he;obtain⟨w,ew,rw'⟩:=r.get h2;have hl:=r.length;have hn:=GM_;have fin:EP X pins σ Q w s:=⟨z,H,I,rw',q⟩
 show Dh_ (x:=w) pl.typeIs slot_tuple_getitem.lookup
  (getItem_tuple (j:=j) (Q:=λr s'=>r=w/\EP X pins σ Q r s') pl o_ o_ (by rw[Ap_,<-hl];show h1) (by simpa using ew) ⟨rfl,fin⟩) hs
theorem k6_:IxR X LI_:=by
 intro value slice pins s σ H x y v u Q I rx ry h hs;obtain⟨z,i,c,rfl,rfl,hz,he,q⟩:=h;obtain⟨t,rfl⟩:=rx;obtain⟨t',rfl⟩:=ry;obtain⟨j,h1,h2,h3,h4,h5⟩:=kn_ he;have hl:z.cps.toList.length=z.length:=by simp[Str.length]
 rw[hl]at h1 h4 h5;have hn:=GM_;show tail_any (DD_ s z t) slot_str_getitem.lookup (getItem_str (c:=c) (by have e1:decide (i < -(2 ^ 63:Int))=false:=AI_ o_;have e2:decide (i ≥ 2 ^ 63)=false:=AI_ o_;rw[e1,e2,Bool.or_false]) (by rw[h1];simpa using h2) ⟨.str ⟨#[c]⟩,H,I.tok _,⟨_,rfl⟩,q⟩) hs
theorem lY_(its:List Value)(n j:Nat)(u:Value):Obj.mapSeq (·.setIfInBounds j u) {cls:=.type "list",data:=.seq its.toArray n}={cls:=.type "list",data:=.seq (its.set j u).toArray n}:=by simp[Obj.mapSeq]
theorem Inv.lst{pins:List (Addr×Obj)}{σ:St}{H:Hp}{s:Shared}{p:Addr}{xs:List V}(I:Inv X pins σ H s)(h:H p=some (.lst xs)):
  ∃(its:List Value)(n:Nat),Fe_ xs its/\s.heap.get? p=some {cls:=.type "list",data:=.seq its.toArray n}/\xs.length<=sizeLine:=by
 obtain⟨z,its,n,r,e⟩:=I.hok p _ h;show⟨its,n,r,e,z⟩
theorem Inv.lstUpd{pins:List (Addr×Obj)}{σ:St}{H:Hp}{s:Shared}{p:Addr}{xs ys:List V}{its its':List Value}{n n':Nat}{f:Obj->Obj}(I:Inv X pins σ H s)(h:H p=some (.lst xs))
  (ho:s.heap.get? p=some {cls:=.type "list",data:=.seq its.toArray n}) (hf:f {cls:=.type "list",data:=.seq its.toArray n}={cls:=.type "list",data:=.seq its'.toArray n'}) (r:Fe_ ys its') (hz:ys.length<=sizeLine) (t:Nat):
  Inv X pins σ (upd H p (.lst ys)) {s with heap:=s.heap.update p f,toks:=t}:=by
 have e:(s.heap.update p f).get? p=some {cls:=.type "list",data:=.seq its'.toArray n'}:=by rw[Ci_ f ho (by rw[hf] <;> rfl),hf]
 show I.write (x:=p) (e:=p) (by rw[h];trivial) (.inl rfl) (λb u hb q=>(A8_ _ _ (Ne.symm hb)).trans q) ⟨_,e⟩ ?_;show⟨hz,its',n',r,e⟩
def Kh_:V->V->V->Hp->(Hp->Prop)->Prop:=λo i v H Q=>∃p xs k j,o=.ref p/\i=.int k/\H p=some (.lst xs)/\ixN xs.length k=some j/\Q (upd H p (.lst (xs.set j v)))
theorem n7_:LL_ X Kh_:=by
 intro pins s σ H o i v ov iv u Q I ro ri rv h;obtain⟨p,xs,k,j,rfl,rfl,hp,hj,q⟩:=h;cases ro;obtain⟨t,rfl⟩:=ri;obtain⟨its,n,r,ho,hz⟩:=I.lst hp;obtain⟨h1,h2,h3,h4⟩:=mL_ hj;have hl:=r.length;have hn:=GM_
 have I':Inv X pins σ (upd H p (.lst (xs.set j v))) {s with heap:=s.heap.update p (Obj.mapSeq (·.setIfInBounds j u))} :=
  I.lstUpd hp ho (lY_ its n j u) (r.set rv j) (by rw[Be_];show hz) s.toks
 by_cases h0:0<=k
 .have hk:k.toNat=j:=by rw[Dg_ h0 h4]at h1;show At_ h1
  show PySem.W.ki_setAt ho h0 o_ (by rw[Ap_,<-hl];show h4) (by rw[hk];show⟨_,I',q⟩)
 .have hk:(k+(its.toArray.size:Int)).toNat=j:=by rw[Dx_ o_ h3]at h1;rw[Ap_,<-hl];show At_ h1
  show PySem.W.ki_setBack ho o_ (by rw[Ap_,<-hl];show h3) o_ (by rw[hk];show⟨_,I',q⟩)
theorem jj_(lo hi:Option Int)(n:Nat):(sliceBounds lo hi none n).1=((HT.sIx n 0 lo:Nat):Int)/\(sliceBounds lo hi none n).2.1=((HT.sIx n n hi:Nat):Int)/\(sliceBounds lo hi none n).2.2=1:=by
 show⟨?_,?_,rfl⟩
 .cases lo with
  |none=>simp[sliceBounds,HT.sIx]
  |some i =>
   simp only[sliceBounds,HT.sIx,Option.getD_none,show(1:Int) > 0 by decide,if_true];by_cases h:i<0
   .simp only[h,if_true] <;> lia
   .simp only[h,Dn_] <;> lia
 .cases hi with
  |none=>simp[sliceBounds,HT.sIx]
  |some i =>
   simp only[sliceBounds,HT.sIx,Option.getD_none,show(1:Int) > 0 by decide,if_true];by_cases h:i<0
   .simp only[h,if_true] <;> lia
   .simp only[h,Dn_] <;> lia
theorem iw_(its:List Value)(lo hi:Option Int):slicePick its.toArray lo hi none=((its.drop (HT.sIx its.length 0 lo)).take (HT.sIx its.length its.length hi-HT.sIx its.length 0 lo)).toArray:=by obtain⟨h1,h2,h3⟩:=jj_ lo hi its.toArray.size;unfold slicePick;rw[h1,h2,h3];simp only[sliceRange_one,pick_run,Ap_] <;> rfl
def rSlL(K:PySem.W.Frag):V->Option Int->Option Int->Hp->VK->Prop:=λx lo hi H Q=>∃a xs,x=.ref a/\SqL K H a xs/\∀p,H p=none->Q (.ref p) (upd H p (.lst (H0_ xs lo hi)))
theorem pT_:SlR X (rSlL X.K):=by intro pins s σ H x v vl vu lo hi sl Q I rx hs pl pu h;obtain⟨a,xs,rfl,hx,q⟩:=h;cases rx;obtain⟨its,r,ht,hz⟩:=I.list hx;have hlen:=r.length;show⟨"list",_,slot_list_getitem.lookup,ht.isList.typeIs,?_⟩;show wpAny_getItem_list_slice ht.isList hs pl pu .none s_ ?_ (by rw[Ap_] <;> lia);rw[iw_,<-hlen];show⟨.ref s.heap.objs.size,_,I.laid (t':=s.toks) (o:=.lst (H0_ xs lo hi)) (λb ob q=>Aj_ _ q) (Ah_ _) ?_,rfl,q _ (I.hok.fresh (Ah_ _))⟩;show⟨A7_ (km_ xs lo hi) hz,_,0,(r.drop (HT.sIx xs.length 0 lo)).take (HT.sIx xs.length xs.length hi-HT.sIx xs.length 0 lo),AC_ _ rfl⟩
def F9_:V->Bool
 | .non=>true
 | .bl _=>true
 | .int _=>true
 | .str _=>true
 |_=>false
def eqV:V->V->Bool
 | .non,.non=>true
 | .bl a,.bl b=>a == b
 | .bl a,.int b=>(if a then 1 else 0)== b
 | .int a,.bl b=>a == (if b then 1 else 0)
 | .int a,.int b=>a == b
 | .str a,.str b=>a == b
 |_,_=>false
theorem q1_{A:Around}{s:Shared}{y x:V}{u v:Value}(ry:Fm_ y u)(rx:Fm_ x v)(fy:F9_ y=true)(fx:F9_ x=true):SeqAt.EqAt A s u v (eqV y x):=by
 cases y with
 |non =>
  cases ry;cases x with
  |non=>cases rx;show CL_ _
  |bl b=>cases rx;show SeqAt.EqAt.none_bool b
  |int b=>obtain⟨t,rfl⟩:=rx;show SeqAt.EqAt.none_int b t
  |str b=>obtain⟨t,rfl⟩:=rx;show SeqAt.EqAt.none_str b t
  |_=>show absurd (show false=true from fx) AN_
 |bl a =>
  cases ry;cases x with
  |non=>cases rx;show SeqAt.EqAt.bool_none a
  |bl b=>cases rx;show Do_ a b
  |int b=>obtain⟨t,rfl⟩:=rx;show SeqAt.EqAt.bool_int a b t
  |str b=>obtain⟨t,rfl⟩:=rx;show SeqAt.EqAt.bool_str a b t
  |_=>show absurd (show false=true from fx) AN_
 |int a =>
  obtain⟨t',rfl⟩:=ry;cases x with
  |non=>cases rx;show SeqAt.EqAt.int_none a t'
  |bl b=>cases rx;show SeqAt.EqAt.int_bool a t' b
  |int b=>obtain⟨t,rfl⟩:=rx;show SeqAt.EqAt.int_int a t' b t
  |str b=>obtain⟨t,rfl⟩:=rx;show SeqAt.EqAt.int_str a t' b t
  |_=>show absurd (show false=true from fx) AN_
 |str a =>
  obtain⟨t',rfl⟩:=ry;cases x with
  |non=>cases rx;show SeqAt.EqAt.str_none a t'
  |bl b=>cases rx;show SeqAt.EqAt.str_bool a t' b
  |int b=>obtain⟨t,rfl⟩:=rx;show SeqAt.EqAt.str_int a t' b t
  |str b=>obtain⟨t,rfl⟩:=rx;show Dy_ a t' b t
  |_=>show absurd (show false=true from fx) AN_
 |_=>show absurd (show false=true from fy) AN_
def eqU(x:V)(u:Value):Bool:=match u with
 | .none=>eqV .non x
 | .bool b=>eqV (.bl b) x
 | .int i _=>eqV (.int i) x
 | .str z _=>eqV (.str z) x
 |_=>false
theorem mN_{x y:V}{u:Value}(r:Fm_ y u)(f:F9_ y=true):eqU x u=eqV y x:=by
 cases y with
 |non=>cases r;rfl
 |bl b=>cases r;rfl
 |int i=>obtain⟨t,rfl⟩:=r;rfl
 |str z=>obtain⟨t,rfl⟩:=r;rfl
 |_=>show absurd (show false=true from f) AN_
theorem hr_{x:V}:∀{xs:List V}{us:List Value},Fe_ xs us->xs.all F9_=true->us.any (eqU x)=xs.any λy=>eqV y x
 |_,_,.nil,_=>rfl
 |y::xs,u::us,.cons r t,f=>by rw[Dr_,Bz_]at f;rw[B6_,B6_,mN_ r f.1,hr_ t f.2]
theorem eV_{A:Around}{s:Shared}{x:V}{v:Value}(rx:Fm_ x v)(fx:F9_ x=true):∀{xs:List V}{us:List Value},Fe_ xs us->xs.all F9_=true->∀u∈us,SeqAt.EqAt A s u v (eqU x u)
 |_,_,.nil,_=>λu hu=>by cases hu
 |y::xs,u::us,.cons r t,f=>λu' hu=>by
  rw[Dr_,Bz_]at f
  rcases Aq_.mp hu with rfl|hu
  .rw[mN_ r f.1];show q1_ r rx f.1 fx
  .show eV_ rx fx t f.2 u' hu
def inV(x:V)(xs:List V):Bool:=xs.any λy=>eqV y x
def rIn(K:PySem.W.Frag)(neg:Bool):R2:=λx y H Q=>∃p xs,y=.ref p/\(SqL K H p xs\/SqT K H p xs)/\F9_ x=true/\xs.all F9_=true/\Q (.bl (if neg then !inV x xs else inV x xs)) H
theorem mO_:OpR X (compareOp .In) (rIn X.K false):=by
 intro pins s σ H x y v u Q I rx ry h;obtain⟨p,xs,rfl,hq,fx,fs,q⟩:=h;cases ry
 rcases hq with hq|hq
 .obtain⟨its,r,pl,hz⟩:=I.list hq;show SeqAt.in_listAt (eqU x) pl.isList (λw hw=>eV_ rx fx r fs w (by simpa using hw)) ⟨.bl _,H,I,rfl,?_⟩;rw[show its.toArray.any (eqU x)=its.any (eqU x) by simp,hr_ r fs];show q
 .obtain⟨its,r,pl,hz⟩:=I.tuple hq;show SeqAt.in_tupleAt (eqU x) pl (λw hw=>eV_ rx fx r fs w (by simpa using hw)) ⟨.bl _,H,I,rfl,?_⟩;rw[show its.toArray.any (eqU x)=its.any (eqU x) by simp,hr_ r fs];show q
theorem jk_:OpR X (compareOp .NotIn) (rIn X.K true):=by
 intro pins s σ H x y v u Q I rx ry h;obtain⟨p,xs,rfl,hq,fx,fs,q⟩:=h;cases ry
 rcases hq with hq|hq
 .obtain⟨its,r,pl,hz⟩:=I.list hq;show SeqAt.notIn_listAt (eqU x) pl.isList (λw hw=>eV_ rx fx r fs w (by simpa using hw)) ⟨.bl _,H,I,rfl,?_⟩;rw[show its.toArray.any (eqU x)=its.any (eqU x) by simp,hr_ r fs];show q
 .obtain⟨its,r,pl,hz⟩:=I.tuple hq;show SeqAt.notIn_tupleAt (eqU x) pl (λw hw=>eV_ rx fx r fs w (by simpa using hw)) ⟨.bl _,H,I,rfl,?_⟩;rw[show its.toArray.any (eqU x)=its.any (eqU x) by simp,hr_ r fs];show q
theorem gK_:FE_ X (.builtin "len") (λxs H Q=>∃p ys,xs=[.ref p]/\(SqL X.K H p ys\/SqT X.K H p ys)/\Q (.int ys.length) H):=by
 intro pins s σ H xs us Q I r h;obtain⟨p,ys,rfl,hq,q⟩:=h;obtain⟨u,rfl,rx⟩:=FU_ r;cases rx;have hn:=GM_
 rcases hq with hq|hq
 .obtain⟨its,r',pl,hz⟩:=I.list hq;have hlen:=r'.length;show Calls.call_len_list pl.isList (by simp only[Ap_] <;> lia) ⟨.int ys.length,H,I.tok _,⟨s.toks+1,by rw[Ap_,hlen]⟩,q⟩
 .obtain⟨its,r',pl,hz⟩:=I.tuple hq;have hlen:=r'.length;show len_tuple pl (by simp only[Ap_] <;> lia) ⟨.int ys.length,H,I.tok _,⟨s.toks+1,by rw[Ap_,hlen]⟩,q⟩
theorem jl_:FE_ X (.builtin "len") (λxs H Q=>∃z,xs=[.str z]/\z.length<=sizeLine/\Q (.int z.length) H):=by intro pins s σ H xs us Q I r h;obtain⟨z,rfl,hz,q⟩:=h;obtain⟨u,rfl,t,rfl⟩:=FU_ r;have hn:=GM_;show len_str o_ ⟨.int z.length,H,I.tok _,⟨_,rfl⟩,q⟩
theorem jm_:FE_ X (.type "list") (λxs H Q=>∃p ys,xs=[.ref p]/\(SqL X.K H p ys\/SqT X.K H p ys)/\∀l,H l=none->Q (.ref l) (upd H l (.lst ys))):=by
 intro pins s σ H xs us Q I r h;obtain⟨p,ys,rfl,hq,q⟩:=h;obtain⟨u,rfl,rx⟩:=FU_ r;cases rx
 have fin:∀(its:List Value),Fe_ ys its->ys.length<=sizeLine->∀(h':Heap)(c':Nat),(∀b o',s.heap.get? b=some o'->h'.get? b=some o') ->
   h'.get? s.heap.objs.size=some {cls:=.type "list",dict:=none,data:=.seq its.toArray c',slots:=#[]}->EP X pins σ Q (.ref s.heap.objs.size) {s with heap:=h'}:=λits r' hz h' c' kp e =>
  ⟨.ref s.heap.objs.size,_,I.laid (t':=s.toks) kp (Ah_ _) (show Fr_ X.prog X.w _ h' _ (.lst ys)from⟨hz,its,c',r',e⟩),rfl,q _ (I.hok.fresh (Ah_ _))⟩
 rcases hq with hq|hq
 .obtain⟨its,r',pl,hz⟩:=I.list hq;have hlen:=r'.length;obtain⟨o,ho,hc,n,hd⟩:=pl.isList;show call_list_seq p (.inl rfl) ho hc hd (λh' c' kp e=>fin its r' hz h' c' kp e) (by simp only[Ap_] <;> lia)
 .obtain⟨its,r',pl,hz⟩:=I.tuple hq;have hlen:=r'.length;obtain⟨o,ho,hc,n,hd⟩:=pl;show call_list_seq p (.inr rfl) ho hc hd (λh' c' kp e=>fin its r' hz h' c' kp e) (by simp only[Ap_] <;> lia)
def tyV(K:PySem.W.Frag)(T:String)(x:V)(H:Hp):Prop:=match x with
 | .str _=>T = "str"
 | .int _=>T = "int"
 | .ref p=>(T = "list" /\ ∃xs,SqL K H p xs)\/(T = "tuple" /\ ∃o,K.lookup p=some o/\o.cls=.type "tuple" /\ o.dict=none) \/
   (T = "dict" /\ ((∃kvs,H p=some (.dK kvs))\/∃kvs,H p=some (.dT kvs)))\/(T = "set" /\ ∃S n,H p=some (.set S n))
 |_=>False
theorem pb_{pins:List (Addr×Obj)}{σ:St}{H:Hp}{s:Shared}{T:String}{x:V}{v:Value}(I:Inv X pins σ H s)(r:Fm_ x v)(ty:tyV X.K T x H):
  s.TypeIs v T/\∀a,v=.ref a->∃ob,s.heap.get? a=some ob/\ob.dict=none:=by
 cases x with
 |str z =>
  obtain⟨t,rfl⟩:=r;cases(show T = "str"from ty);show⟨DD_ s z t,λ_ e=>nomatch e⟩
 |int i =>
  obtain⟨t,rfl⟩:=r;cases(show T = "int"from ty);show⟨typeIs_int s i t,λ_ e=>nomatch e⟩
 |ref p =>
  cases r
  rcases ty with⟨rfl,xs,hq⟩|⟨rfl,o,hk,hc,hd⟩|⟨rfl,hk⟩|⟨rfl,S,n,hk⟩
  .obtain⟨its,_,pl,_⟩:=I.list hq;show⟨pl.isList.typeIs,λa e=>?_⟩;cases e;obtain⟨o,n,e,c,hd,_⟩:=pl;show⟨o,e,hd⟩
  .show⟨⟨o,I.kIn p o hk,hc⟩,λa e=>?_⟩;cases e;show⟨o,I.kIn _ o hk,hd⟩
  .have z:∃o,s.heap.get? p=some o/\o.ExactDict:=by
    rcases hk with⟨kvs,hk⟩|⟨kvs,hk⟩
    .obtain⟨_,_,_,_,o,_,_,e,ex,_⟩:=I.hok p _ hk;show⟨o,e,ex⟩
    .obtain⟨_,_,_,_,o,_,_,e,ex,_⟩:=I.hok p _ hk;show⟨o,e,ex⟩
   obtain⟨o,e,ex⟩:=z;show⟨⟨o,e,ex.1⟩,λa e2=>?_⟩;cases e2;show⟨o,e,ex.2.1⟩
  .obtain⟨o,_,_,_,e,ex,_⟩:=I.hok p _ hk;show⟨⟨o,e,ex.1⟩,λa e2=>?_⟩;cases e2;show⟨o,e,ex.2.1⟩
 |_=>show False.elim ty
def LD_(K:PySem.W.Frag)(T:String)(r:V->List V->Hp->VK->Prop)(to:TE):TE:=λσ H Q=>to σ H λx H1=>tyV K T x H1/\r x [] H1 Q
def tBM(K:PySem.W.Frag)(T:String)(r:V->List V->Hp->VK->Prop)(to:TE)(t:TA):TE:=λσ H Q=>to σ H λx H1=>tyV K T x H1/\t σ H1 λxs H2=>r x xs H2 Q
variable {o:Expr}{es:List Expr}{to:TE}{t:TA}{name:Str}{apos cpos:Pos}{T id:String}{r:V->List V->Hp->VK->Prop}
theorem jn_(pa:PlainAttrs T)(slot:Slot T name id)(hty:typeOf (.builtin id)=pure (.type "method_descriptor")) (hm:MtR X id r) (ho:PE X o to)
  (hbase:attributeBase o name X.env (eval o X.env)=eval o X.env:=by rfl) (hline:(apos.endLine == cpos.line)=true:=by rfl):PE X (.Call (.Attribute o name apos) [] [] cpos) (LD_ X.K T r to):=by
 intro pins s σ H Q I h;show C9_ hbase hline (thn (ho pins s σ H _ I h) λv s1 ⟨x,H1,I1,r1,ty,q1⟩=>?_);obtain⟨h1,h2⟩:=pb_ I1 r1 ty;show⟨T,id,pa,slot,hty,h1,h2,Cx_ rfl (Dt_ (hm pins s1 σ H1 x [] v [] Q I1 r1 .nil q1))⟩
theorem FM_(pa:PlainAttrs T)(slot:Slot T name id)(hty:typeOf (.builtin id)=pure (.type "method_descriptor")) (hm:MtR X id r) (ho:PE X o to) (ha:PA X (e::es) t)
  (hbase:attributeBase o name X.env (eval o X.env)=eval o X.env:=by rfl)
  (hfew:((backTo cpos (starEach (e::es) X.env)).all (λx=>!x.1) && (backToKw cpos (keywordEach [] X.env)).all (λx=>x.1.isSome)
   && decide ((e::es).length+([]:List Keyword).length+(if([]:List Keyword).isEmpty then 0 else 1)<30))=true:=by rfl)
  (hline:(apos.endLine == cpos.line)=true:=by rfl) (hs:starEach (e::es) X.env=(false,eval e X.env)::starEach es X.env:=by rfl) (hplain:(backTo cpos (starEach es X.env)).any (·.1)=false:=by rfl):
  PE X (.Call (.Attribute o name apos) (e::es) [] cpos) (tBM X.K T r to t):=by
 intro pins s σ H Q I h;show wpAny_Call_method_late hbase hfew hline rfl (thn (ho pins s σ H _ I h) λv s1 ⟨x,H1,I1,r1,ty,q1⟩=>?_);obtain⟨h1,h2⟩:=pb_ I1 r1 ty;show⟨T,id,pa,slot,hty,h1,h2,?_⟩;have hA:=ha cpos pins s1 σ H1 _ I1 q1;rw[hs]at hA⊢;show Cx_ (by change(false ||(backTo cpos (starEach es X.env)).any (·.1))=false;rw[hplain] <;> rfl) (Calls.evalArgs_plain ?_);show thn hA λus s2 ⟨vs,H2,I2,r2,q2⟩=>hm pins s2 σ H2 x vs v us Q I2 r1 r2 q2
end
def MtM(X:Cx)(id:String)(r:V->List V->Hp->VK->Prop):Prop :=
 ∀(pins:List (Addr×Obj))(s:Shared)(σ:St)(H:Hp)(x:V)(xs:List V)(v:Value)(us:List Value)(Q:VK),Inv X pins σ H s->Fm_ x v->Fe_ xs us->r x xs H Q ->
  wpAny (model X.prog X.w) X.A (call (.builtin id) (v::us)) (EP X pins σ Q) X.xe s
theorem Fe_.one:∀{x:V}{us:List Value},Fe_ [x] us->∃u,us=[u]/\Fm_ x u
 |_,_,.cons r .nil=>⟨_,rfl,r⟩
theorem Fe_.two:∀{x y:V}{us:List Value},Fe_ [x,y] us->∃u v,us=[u,v]/\Fm_ x u/\Fm_ y v
 |_,_,_,.cons r (.cons q .nil)=>⟨_,_,rfl,r,q⟩
theorem Fe_.zero:∀{us:List Value},Fe_ [] us->us=[]
 |_,.nil=>rfl
theorem Fe_.dropLast{xs:List V}{us:List Value}(h:Fe_ xs us):Fe_ xs.dropLast us.dropLast:=by
 induction h with
 |nil=>show .nil
 |cons r t ih =>
  cases t with
  |nil=>show .nil
  |cons q t'=>show .cons r ih
theorem Fe_.eraseIdx:∀{xs:List V}{us:List Value}(i:Nat),Fe_ xs us->Fe_ (xs.eraseIdx i) (us.eraseIdx i)
 |_,_,_,.nil=>.nil
 |_,_,0,.cons _ t=>t
 |_,_,i+1,.cons r t=>.cons r (Fe_.eraseIdx i t)
theorem Fe_.reverse{xs:List V}{us:List Value}(h:Fe_ xs us):Fe_ xs.reverse us.reverse:=by
 induction h with
 |nil=>show .nil
 |cons r t ih=>rw[Dz_,Dz_];show Fe_.append ih (.cons r .nil)
theorem lZ_{α:Type}(l:List α):l.eraseIdx (l.length-1)=l.dropLast:=by
 induction l with
 |nil=>rfl
 |cons a r ih =>
  cases r with
  |nil=>rfl
  |cons b r =>
   have e:(a::b::r).length-1=((b::r).length-1)+1:=by have h1:(a::b::r).length=r.length+2:=rfl;have h2:(b::r).length=r.length+1:=rfl;lia
   rw[e,List.eraseIdx_cons_succ,ih]
   all_goals rfl
theorem jo_{α:Type}:∀(l:List α)(i:Nat),(l.eraseIdx i).length<=l.length
 |[],_=>Ah_ _
 |_::_,0=>Cn_ _
 |_::r,i+1=>B2_ (jo_ r i)
variable {pins:List (Addr×Obj)}{σ:St}{H:Hp}{s:Shared}{l b:Addr}{xs ys zs:List V}
theorem Inv.lset{its its':List Value}{n:Nat}{f:Array Value->Array Value}{t':Nat}(I:Inv X pins σ H s)(hH:H l=some (.lst xs))
  (e:s.heap.get? l=some {cls:=.type "list",data:=.seq its.toArray n}) (hf:f its.toArray=its'.toArray) (hv:Fe_ ys its') (hz:ys.length<=sizeLine):
  Inv X pins σ (upd H l (.lst ys)) {s with heap:=s.heap.update l (Obj.mapSeq f),toks:=t'}:=by
 have q:=PySem.IsL.update e f;rw[hf]at q;show I.write (x:=l) (e:=l) (by rw[hH];show trivial) (.inl rfl) (λb' u hb hu=>(A8_ s.heap (Obj.mapSeq f) (Ne.symm hb)).trans hu) ⟨_,q⟩ ?_;show⟨hz,its',_,hv,q⟩
theorem Inv.lnew{its:List Value}{t':Nat}(I:Inv X pins σ H s)(hv:Fe_ ys its)(hz:ys.length<=sizeLine):
  Inv X pins σ (upd H s.heap.objs.size (.lst ys)) {s with heap:=s.heap.push {cls:=.type "list",data:=.seq its.toArray},toks:=t'} :=
 I.laid (λ_ _ q=>Aj_ _ q) (Ah_ _) ⟨hz,its,0,hv,AC_ _ rfl⟩
theorem Inv.fresh(I:Inv X pins σ H s):H s.heap.objs.size=none:=I.hok.fresh (Ah_ _)
theorem Inv.lstM(I:Inv X pins σ H s)(hH:H l=some (.lst xs)):xs.length<=sizeLine/\∃(its:List Value)(n:Nat),Fe_ xs its/\xs.length=its.length/\s.heap.get? l=some {cls:=.type "list",data:=.seq its.toArray n}:=by obtain⟨z,its,n,r,e⟩:=I.hok l _ hH;show⟨z,its,n,r,r.length,e⟩
theorem IR_{n:Nat}(h:n<=sizeLine):Builtin.List.listTooLong n=false:=by unfold Builtin.List.listTooLong;show AI_ o_
def If_:V->List V->Hp->VK->Prop:=λx vs H Q=>onR x λl=>∃xs,on1 vs λy=>H l=some (.lst xs)/\xs.length<sizeLine/\Q .non (upd H l (.lst (xs++[y])))
theorem aY_:MtM X "list.append" If_:=by intro pins s σ H x vs v us Q I rx rv h;obtain⟨l,rfl,xs,h1⟩:=dx_ h;clear h;obtain⟨y,rfl,hH,hz,q⟩:=k1_ h1;cases rx;obtain⟨u,rfl,ru⟩:=rv.one;obtain⟨z,its,n,r,hl,e⟩:=I.lstM hH;show Ca_ F.slot_list_append ⟨_,e,rfl⟩ F.entry_list_append (F.args_list_append_2 _ _) (PySem.list_append l its.toArray n u (by rw[Ap_];lia)) ⟨e,?_⟩;show⟨.non,_,I.lset (its':=its++[u]) hH e s_ (r.append (.cons ru .nil)) ?_,rfl,q⟩;rw[Ae_,AL_];lia
def Ih_:V->List V->Hp->VK->Prop:=λx vs H Q=>∃l b xs zs,x=.ref l/\vs=[.ref b]/\H l=some (.lst xs)/\H b=some (.lst zs)/\xs.length+zs.length<=sizeLine/\Q .non (upd H l (.lst (xs++zs)))
theorem mP_:MtM X "list.extend" Ih_:=by
 intro pins s σ H x vs v us Q I rx rv h;obtain⟨l,b,xs,zs,rfl,rfl,hH,hB,hz,q⟩:=h;cases rx;obtain⟨u,rfl,ru⟩:=rv.one;cases ru;obtain⟨z,its,n,r,hl,e⟩:=I.lstM hH;obtain⟨z2,its2,n2,r2,hl2,e2⟩:=I.lstM hB;have hsz:its.toArray.size+its2.toArray.size<=sizeLine:=by rw[Ap_,Ap_];lia
 have hlong:¬ (!its.toArray.isEmpty && Builtin.List.listTooLong (its.toArray.size+its2.toArray.size))=true:=by rw[IR_ hsz,Bool.and_false];show AN_
 show Ca_ F.slot_list_extend ⟨_,e,rfl⟩ F.entry_list_extend (F.args_list_extend_2 _ _)
  (AutoSeq1.list_extend_list_list_0 l its.toArray n b its2.toArray n2 hlong (by rw[Ap_];lia) o_) ⟨e,e2,?_⟩
 show⟨.non,_,I.lset (its':=its++its2) hH e s_ (r.append r2) ?_,rfl,q⟩;rw[Ae_];lia
def Lp_:V->List V->Hp->VK->Prop:=λx vs H Q=>∃l xs y,x=.ref l/\vs=[]/\H l=some (.lst xs)/\xs[xs.length-1]?=some y/\Q y (upd H l (.lst xs.dropLast))
theorem q2_:MtM X "list.pop" Lp_:=by
 intro pins s σ H x vs v us Q I rx rv h;obtain⟨l,xs,y,rfl,rfl,hH,hy,q⟩:=h;cases rx;have hus:=rv.zero;subst hus;obtain⟨z,its,n,r,hl,e⟩:=I.lstM hH;obtain⟨u,hu,ru⟩:=r.get hy;have hy':its.toArray[its.toArray.size-1]?=some u:=by change its.toArray[its.length-1]?=some u;rw[<-CE_,<-hl];show hu
 show Ca_ F.slot_list_pop ⟨_,e,rfl⟩ F.entry_list_pop (F.args_list_pop_1 _) (MeetsSeq.list_pop_last l its.toArray n u hy' (by rw[Ap_];lia)) ⟨e,?_⟩;show⟨y,_,I.lset (its':=its.dropLast) hH e ?_ r.dropLast ?_,ru,q⟩
 .change its.toArray.eraseIdxIfInBounds (its.toArray.size-1)=its.dropLast.toArray;rw[Ap_,List.eraseIdxIfInBounds_toArray,lZ_]
 .rw[List.length_dropLast];lia
def I9_:V->List V->Hp->VK->Prop:=λx vs H Q=>∃l xs i k y,x=.ref l/\vs=[.int i]/\H l=some (.lst xs) /\ -(2 ^ 63)<=i/\i<2 ^ 63/\seqIndex? i xs.length=some k/\xs[k]?=some y/\Q y (upd H l (.lst (xs.eraseIdx k)))
theorem n8_:MtM X "list.pop" I9_:=by
 intro pins s σ H x vs v us Q I rx rv h;obtain⟨l,xs,i,k,y,rfl,rfl,hH,h1,h2,hk,hy,q⟩:=h;cases rx;obtain⟨u,rfl,ru⟩:=rv.one;obtain⟨t,rfl⟩:=ru;obtain⟨z,its,n,r,hl,e⟩:=I.lstM hH;obtain⟨w,hw,rw'⟩:=r.get hy
 show Ca_ F.slot_list_pop ⟨_,e,rfl⟩ F.entry_list_pop (F.args_list_pop_2 _ _)
  (MeetsSeq.list_pop_at l its.toArray n i t k w (fitsIndex_both h1 h2) (by rw[Ap_,<-hl];show hk) (by rw[<-CE_];show hw) (by rw[Ap_];lia)) ⟨e,?_⟩
 show⟨y,_,I.lset (its':=its.eraseIdx k) hH e ?_ (r.eraseIdx k) ?_,rw',q⟩
 .change its.toArray.eraseIdxIfInBounds k=(its.eraseIdx k).toArray;rw[List.eraseIdxIfInBounds_toArray]
 .have:=jo_ xs k;lia
def Hz_:V->List V->Hp->VK->Prop:=λx vs H Q=>∃l xs,x=.ref l/\vs=[]/\H l=some (.lst xs)/\Q .non (upd H l (.lst xs.reverse))
theorem l0_:MtM X "list.reverse" Hz_:=by intro pins s σ H x vs v us Q I rx rv h;obtain⟨l,xs,rfl,rfl,hH,q⟩:=h;cases rx;have hus:=rv.zero;subst hus;obtain⟨z,its,n,r,hl,e⟩:=I.lstM hH;show Ca_ F.slot_list_reverse ⟨_,e,rfl⟩ F.entry_list_reverse (F.args_list_reverse_1 _) (AutoSeq1.list_reverse_list_0 l its.toArray n (by rw[Ap_];lia)) ⟨e,?_⟩;show⟨.non,_,I.lset (its':=its.reverse) hH e s_ r.reverse ?_,rfl,q⟩;rw[CQ_];lia
def Jf_:V->List V->Hp->VK->Prop:=λx vs H Q=>∃l xs,x=.ref l/\vs=[]/\H l=some (.lst xs)/\Q .non (upd H l (.lst []))
theorem k7_:MtM X "list.clear" Jf_:=by intro pins s σ H x vs v us Q I rx rv h;obtain⟨l,xs,rfl,rfl,hH,q⟩:=h;cases rx;have hus:=rv.zero;subst hus;obtain⟨z,its,n,r,hl,e⟩:=I.lstM hH;show Ca_ F.slot_list_clear ⟨_,e,rfl⟩ F.entry_list_clear (F.args_list_clear_1 _) (AutoSeq1.list_clear_list_0 l its.toArray n (by rw[Ap_];lia)) ⟨e,?_⟩;show⟨.non,_,I.lset (its':=[]) (ys:=[]) hH e rfl .nil (AP_ _),rfl,q⟩
def LO_:R2:=λx y H Q=>∃l b xs zs,x=.ref l/\y=.ref b/\H l=some (.lst xs)/\H b=some (.lst zs)/\xs.length+zs.length<=sizeLine/\∀p,H p=none->Q (.ref p) (upd H p (.lst (xs++zs)))
theorem e5_:OpR X (binaryOp .Add) LO_:=by
 intro pins s σ H x y v u Q I rx ry h;obtain⟨l,b,xs,zs,rfl,rfl,hH,hB,hz,q⟩:=h;cases rx;cases ry;obtain⟨z,its,n,r,hl,e⟩:=I.lstM hH;obtain⟨z2,its2,n2,r2,hl2,e2⟩:=I.lstM hB;show PySem.P.add_list e e2 ?_ (by rw[Ap_,Ap_];lia);have ea:its.toArray++its2.toArray=(its++its2).toArray:=s_
 rw[ea];show⟨.ref _,_,I.lnew (t':=s.toks) (r.append r2) (by rw[Ae_];lia),rfl,q _ I.fresh⟩
def rRep:R2:=λx y H Q=>∃l k xs,x=.ref l/\y=.int k/\H l=some (.lst xs) /\ -(2 ^ 63)<=k/\k<2 ^ 63/\xs.length*k.toNat<=sizeLine /\
 ∀p,H p=none->Q (.ref p) (upd H p (.lst (List.replicate k.toNat xs).flatten))
variable {prog:Program}{w:World}{A:Around}{E:Value->Shared->Prop}
end L2
namespace Att
open PySem PySem.W PySem.Calls PyProof.Rows
theorem hs_{P:Params}{h:Heap}:∀(ns:List Int)(vs:List Value),WellAll P h vs (ns.map WData.int)->IntsAre vs ns:=by
 intro ns
 induction ns with
 |nil =>
  intro vs w;rw[CK_]at w;cases w;show .nil
 |cons n ns ih =>
  intro vs w;rw[Az_]at w;cases w with
  |cons a b =>
   cases a;show .cons _ _ (ih _ b)
theorem mQ_{l:OpenLaw}{n:Nat}(hn:l.most=some n){P:Params}{h:Heap}{args:List WData}{vals:List Value}
  (hpre:l.row.toRowW.claim.pre args=true) (hwl:WellAll P h vals args):
  ∃a vs ns,vals=[Value.ref a]/\args=[WData.list (ns.map WData.int)]/\h.get? a=some {cls:=.type "list",data:=.seq vs.toArray}/\IntsAre vs ns/\ns.length<=n:=by
 have hsh:WShape.hasAll [] args [.list .int]=true:=(pre_splitW hpre).1;have hc:l.pre.holds [] {args:=args}=true:=(pre_splitW hpre).2;obtain⟨d,r,rfl,h1,h2⟩:=hasAllW_cons hsh;obtain rfl:=hasAllW_nil h2;obtain⟨xs,rfl,h3⟩:=hasW_list h1;obtain⟨ns,rfl⟩:=items_int h3
 have hlen:ns.length<=n:=by
  unfold OpenLaw.pre at hc;have h4:(WTm.not (.lt (.lit (.int (n:Int))) (.len (.arg 0)))).holds [] {args:=[.list (ns.map .int)]}=true:=by have h4:=(holds_andW hc).1;rw[hn]at h4;show h4
  have h5:=condW_of h4 (w_not (w_lt w_lit (w_len_list (w_arg rfl))));rw[Ab_]at h5;show Nat.le_of_not_lt λq=>?_;have q':(n:Int)<((ns.length:Nat):Int):=o_
  first
   | (rw[AG_ q']at h5;show absurd h5 d_)
   | (simp at h5;lia)
 cases hwl with
 |cons w1 w2 =>
  cases w2;cases w1 with
  |list ho hall=>show⟨_,_,ns,rfl,rfl,ho,hs_ ns _ hall,hlen⟩
theorem mR_(l:OpenLaw)(args:List WData):l.row.toRowW.claim.post args (.bool true) args=true :=
 postW_of (r:=l.row.toRowW) (X:=(true == true))
  (show WShape.has [] (.bool true) .bool=true by first|rfl|decide|simp[WShape.has,WShape.arms,WShape.armsAll])
  (show(WTm.eq .res (.lit (.bool true))).value [] {args:=args,res:=some (.bool true),after:=args}=some (.bool (true == true))from w_eq_bool (w_res rfl) w_lit) rfl
theorem attach_call{l:OpenLaw}{n:Nat}{q:Program}{loose:List Str}{XP:(Str->Option Value)->Heap->Prop}{YP:World->Heap->Prop}{d:DefRec}
  (hn:l.most=some n) (hdf:d.params.defaults=[])
  (call:∀(w:World)(s₀ s₁:Shared)(mg mb:Str->Option Value)(fa:Addr)(o:Obj)(pm cd doc:Value)(a:Addr)(vs:List Value)(ns:List Int),
   Ground q loose [] XP w s₀ mg mb s₁.heap->YP w s₁.heap ->
   s₁.heap.get? fa=some o->o.data=.func (docDef d.name d.params d.body d.scope pm cd doc)->s₁.heap.CodeRec cd d.name->mg d.name=some (.ref fa) ->
   s₁.heap.get? a=some {cls:=.type "list",data:=.seq vs.toArray}->IntsAre vs ns->ns.length<=n->s₁.gens = #[] ->
   codeAny (model l.prog w) callerA (.call (.ref fa) ⟨[.ref a],[]⟩) (λr s'=>r=.ok (.ret (.bool true))/\OldK s₁.heap s'.heap/\s'.os=s₁.os/\AllBare s'.gens) s₁):
  WalkO q loose XP YP l.row.toRowW d [] (λf vs=>PySem.call f vs):=by
 intro w s₀ s₁ mg mb G Y fa o pm cd doc dV kV ho hd hcd hD hmg hg args vals as hpre hlay hrd hwl hlo;obtain rfl:dV=.none:=Dflts.none hD hdf;obtain rfl:kV=.none:=Dflts.noKw hD;obtain⟨a,vs,ns,rfl,rfl,hobj,hints,hlen⟩:=mQ_ hn hpre hwl;show enter_call (B1_ (call w s₀ s₁ mg mb fa o pm cd doc a vs ns G Y ho (fd_plain hd) hcd hmg hobj hints hlen hg) λr s' hq=>?_);obtain⟨rfl,h2,h3,h4⟩:=hq;show⟨.inl ⟨.bool true,.bool true,[],rfl,λ_=>rfl,.bool true,mR_ l _,λ_=>⟨List.Pairwise.nil,λ_ hm=>(nomatch hm)⟩⟩,h2,h3,h4⟩
variable {prog:Program}{w:World}{A:Around}{E:Value->Shared->Prop}{s:Shared}{K:Frag}
end Att
namespace L2
open PySem PySem.Spec PyProof.Rows
theorem jp_:∀{vs:List Value}{ns:List Int},IntsAre vs ns->Fe_ (ns.map V.int) vs
 |_,_,.nil=>.nil
 |_,_,.cons n t h=>.cons ⟨t,rfl⟩ (jp_ h)
def K2_(H:Hp):Prop:=∀b,H b=none\/∃o xs,H b=some (.frz o (.lst xs))
theorem n9_{P:Program}{w:World}{K:PySem.W.Frag}{mg mb:Str->Option Value}{CX:CXT}{k:Nat}{fa a:Addr}{fd:FuncData}{x:Str}{sp:Sp}{s₁:Shared}{vs:List Value}{ns:List Int}
  (KX:K.In s₁.heap) (hns:s₁.heap.Ns mainGlobals mg) (hb:s₁.heap.Ns builtinsNs mb) (hbb:∀x:Str,x ≠ "__name__" -> mb x=bootBuiltins x) (hlim:s₁.heap.NoLimit) (hg:s₁.gens = #[])
  (ha:s₁.heap.get? a=some {cls:=.type "list",data:=.seq vs.toArray}) (hi:IntsAre vs ns) (hl:ns.length<=sizeLine) (hr:F3_ k callerA)
  (F:∀base:Heap,K.In base->base.Ns mainGlobals mg->GU_ P w K mg base CX k fa fd [x] sp) (hbind:∀(s:Shared)(u:Value),BindsTo s fd ⟨[u],[]⟩ [(x,u)])
  (hsp:∀H:Hp,K2_ H->SqL K H a (ns.map V.int)->sp [.ref a] H (λv _=>v=.bl true) λ_ _ _=>False)
  (hCX:∀H e s',CX [] H s₁ (λ_ _ _=>False) e s'->False):
  codeAny (model P w) callerA (.call (.ref fa) ⟨[.ref a],[]⟩) (λr s'=>r=.ok (.ret (.bool true))/\OldK s₁.heap s'.heap/\s'.os=s₁.os/\AllBare s'.gens) s₁:=by
 have rv:=jp_ hi;have lenV:=hi.length
 have core:∀H:Hp,K2_ H->SqL K H a (ns.map V.int)->HOk P w H s₁.heap->(∀b,H b≠none->b=a)->(H a≠none->K.lookup a=none) ->
   codeAny (model P w) callerA (.call (.ref fa) ⟨[.ref a],[]⟩) (λr s'=>r=.ok (.ret (.bool true))/\OldK s₁.heap s'.heap/\s'.os=s₁.os/\AllBare s'.gens) s₁:=by
  intro H hO hS hok hA hK;have base_of:∀{b:Addr}{o:Obj},s₁.heap.get? b=some o->H b=none->(IK_ s₁.heap H).get? b=some o:=λe n=>nY_ e n
  have noA:∀{b:Addr}{o:Obj}{es:Array DictEntry}{ep:Nat},s₁.heap.get? b=some o->o.data=.dict es ep->H b=none:=λ{b o es ep} e d=>by
   cases q:H b with
   |none=>rfl
   |some u =>have e':b=a:=hA b (by rw[q];simp);subst e';rw[ha]at e;cases e;have d':Data.seq vs.toArray _=Data.dict es ep:=d;cases d'
  have nsK:∀{b:Addr}{m:Str->Option Value},s₁.heap.Ns b m->(IK_ s₁.heap H).Ns b m:=λ{b m} ⟨o,es,ep,e,d,r⟩=>⟨o,es,ep,base_of e (noA e d),d,r⟩
  have hKb:K.In (IK_ s₁.heap H):=λb o e=>base_of (KX b o e) (by
   cases q:H b with
   |none=>rfl
   |some u =>have e':b=a:=hA b (by rw[q];simp);subst e';rw[hK (by rw[q];simp)]at e;cases e)
  have hM:Mod K mg (IK_ s₁.heap H):=⟨hKb,nsK hns,⟨mb,nsK hb,hbb⟩,let⟨mc,h1,h2⟩:=hlim;⟨mc,nsK h1,h2⟩⟩;have e0:Jx_ P w K mg (IK_ s₁.heap H) callerA [] s₁ H:=⟨rfl,hM,λb o e=>pJ_ e,Nat.le_of_eq (mr_ _ _),trivial,λb hb=>absurd (show b∈([]:List Addr)from hb) s_,hok,.of_eq hg⟩;show B1_ ((F _ hKb (nsK hns)).run callerA [] s₁ H ⟨[.ref a],[]⟩ [.ref a] [.ref a] _ _ hr e0 (hbind s₁ (.ref a)) (.cons rfl .nil) (hsp H hO hS)) λr s' h=>?_;cases r with
  |error e=>show(hCX H e s' h).elim
  |ok fl =>
   cases fl with
   |next=>show False.elim h
   |brk=>show False.elim h
   |cont=>show False.elim h
   |ret u =>
    obtain⟨v,H',os,bare,un,hok',r',q⟩:=h;have q':v=.bl true:=q;subst q';obtain rfl:u=Value.bool true:=r';show⟨rfl,OldK.of_keep λb o e=>?_,os,bare⟩;cases q:H b with
    |none=>show un.keep b o e q (by intro z;show absurd (show b∈([]:List Addr)from z) s_) s_
    |some u =>
     rcases hO b with z|⟨ob,xs,z⟩
     .rw[q]at z;cases z
     .have z2:=un.frzs b ob _ z;obtain⟨e1,_⟩:=hok b _ z;obtain⟨e2,_⟩:=hok' b _ z2;rw[e]at e1;cases e1;show e2
 cases hk:K.lookup a with
 |some o =>
  have e:=KX a o hk;rw[ha]at e;cases e;show core (λ_=>none) (λ_=>.inl rfl) (.inr ⟨_,vs.toArray,_,hk,rfl,rfl,rfl,by rw[Ap_,lenV];show hl,by simpa using rv⟩) (λb u z=>by have z':(none:Option HO)=some u:=z;cases z') (λb z=>absurd rfl z) λz=>absurd rfl z
 |none =>
  show core (λb=>if b=a then some (.frz {cls:=.type "list",data:=.seq vs.toArray} (.lst (ns.map V.int)))else none) (λb=>?_) (.inl (.inr ⟨{cls:=.type "list",data:=.seq vs.toArray},if_pos rfl⟩)) (λb u z=>?_) (λb z=>?_) λ_=>hk
  .by_cases hb:b=a
   .show .inr ⟨_,_,if_pos hb⟩
   .show .inl (if_neg hb)
  .by_cases hb:b=a
   .have z':=(if_pos hb).symm.trans z;cases z';subst hb;show⟨ha,by rw[Ab_];show hl,vs,_,rv,ha⟩
   .have z':=(if_neg hb).symm.trans z;cases z'
  .by_cases hb:b=a
   .show hb
   .show absurd (if_neg hb) z
theorem pU_{l:PySem.W.OpenLaw}{n k:Nat}{q:Program}{loose:List Str}{XP:(Str->Option Value)->Heap->Prop}{YP:World->Heap->Prop}{d:DefRec}{K:Params->PySem.W.Frag}{CX:World->CXT}{sp:World->Sp}{x:Str}
  (hn:l.most=some n) (hn2:n<=sizeLine) (hdf:d.params.defaults=[]) (hr:F3_ k callerA)
  (hY:∀(w:World)(h:Heap),YP w h->(K w.params).In h)
  (F:∀(w:World)(mg:Str->Option Value)(fa:Addr)(h:Heap),(K w.params).In h->h.Ns mainGlobals mg->mg d.name=some (.ref fa) ->
   ∃fd:FuncData,(∀(s:Shared)(u:Value),BindsTo s fd ⟨[u],[]⟩ [(x,u)]) /\
    ∀base:Heap,(K w.params).In base->base.Ns mainGlobals mg->GU_ l.prog w (K w.params) mg base (CX w) k fa fd [x] (sp w))
  (hsp:∀(w:World)(H:Hp)(a:Addr)(ns:List Int),ns.length<=n->K2_ H->SqL (K w.params) H a (ns.map V.int)->sp w [.ref a] H (λv _=>v=.bl true) λ_ _ _=>False)
  (hCX:∀(w:World)(H:Hp)(s:Shared)(e:Value)(s':Shared),CX w [] H s (λ_ _ _=>False) e s'->False):
  PySem.W.WalkO q loose XP YP l.row.toRowW d [] (λf vs=>PySem.call f vs):=by
 show Att.attach_call hn hdf λw s₀ s₁ mg mb fa o pm cd doc a vs ns G Y ho hd hcd hmg hobj hints hlen hg=>?_;have KX:=hY w _ Y;obtain⟨fd,hb,hF⟩:=F w mg fa _ KX G.T.g hmg;show n9_ KX G.T.g G.T.b G.T.builtins G.T.nolimit hg hobj hints (A7_ hlen hn2) hr hF hb (λH hO hS=>hsp w H a ns hlen hO hS) λH e s'=>hCX w H s₁ e s'
def H8_(s:Stmt)(j:Nat):Stmt:=match s with
 | .ClassDef _ _ _ body _ _ _ _ _ _ _=>body.getD j (.Pass ⟨0,0,0,0⟩)
 |_=>.Pass ⟨0,0,0,0⟩
def FR_(s:Stmt):Arguments:=match s with
 | .FunctionDef _ a _ _ _ _ _ _ _ _=>a
 |_=>{posonlyargs:=[],args:=[],vararg:=none,kwonlyargs:=[],kw_defaults:=[],kwarg:=none,defaults:=[]}
def Fs_(s:Stmt):List Stmt:=match s with
 | .FunctionDef _ _ b _ _ _ _ _ _ _=>b
 |_=>[]
def EL_(s:Stmt):Scope:=match s with
 | .FunctionDef _ _ _ _ _ _ sc _ _ _=>sc
 |_=>{kind:=.function,names:=[],isGenerator:=false,isCoroutine:=false}
abbrev CX0:CXT:=λ_ _ _ _ _ _=>False
abbrev E0:XK:=λ_ _ _=>False
theorem JF_{X:Cx}:Gi_ CX0 X E0:=λ_ _ _ _ _ _ _ h=>h.elim
structure Fun(K:PySem.W.Frag)(x qual:Str)(st:Stmt)(f:Addr)(fd:FuncData):Prop where
 ex:∃(oc:Value)(od:Option Addr)(kV doc pm:Value)(an:Option Addr)(cdv ct:Value)(osl:Array (Option Value)),
  fd=PySem.W.fnOf x qual (FR_ st) (Fs_ st) (EL_ st) .none kV doc pm an cdv ct/\K.lookup f=some ⟨oc,od,.func fd,osl⟩/\PySem.W.codeIn K cdv qual=true
 kp:PySem.W.keepIn K (.ref f)=true
variable {P:Program}{w:World}{K:PySem.W.Frag}{mg:Str->Option Value}{base:Heap}
theorem Fun.ok{x qual:Str}{st:Stmt}{f:Addr}{fd:FuncData}{N ps:List Str}{k:Nat}{sp:Sp}(F:Fun K x qual st f fd)(S:EU_ N ps (EL_ st))(len:∀vs H Q E,sp vs H Q E->vs.length=ps.length)
  (hbody:∀(cdv:Value)(A:Around)(outer:List Env)(s:Shared)(H:Hp)(vs:List V)(Q:VK)(E:XK),F3_ k (A.deeper (envOfC qual (EL_ st) s.heap.objs.size f cdv))->sp vs H Q E ->
   ∃t,PSs (Hj_ CX0 P w K mg base N qual (EL_ st) f cdv A outer s H E).nox (Fs_ st) t/\t {nx:=λ_ H'=>Q .non H',rt:=Q} (start N vs) H):GU_ P w K mg base CX0 (k+1) f fd ps sp:=by
 obtain⟨oc,od,kV,doc,pm,an,cdv,ct,osl,rfl,lk,hcd⟩:=F.ex;show Jz_ lk hcd S len λA outer s H vs Q E hr hsp=>?_;obtain⟨t,h,q⟩:=hbody cdv A outer s H vs Q E hr hsp;show⟨t,h.nox,q⟩
theorem Fun.binds{x qual:Str}{st:Stmt}{f:Addr}{fd:FuncData}{ps:List Str}(F:Fun K x qual st f fd)
  (h:∀(kV doc pm:Value)(an:Option Addr)(cdv ct:Value)(us:List Value),us.length=ps.length->bindArgs (PySem.W.fnOf x qual (FR_ st) (Fs_ st) (EL_ st) .none kV doc pm an cdv ct) ⟨us,[]⟩=pure (ps.zip us)):Gl_ K fd ps []:=by
 obtain⟨oc,od,kV,doc,pm,an,cdv,ct,osl,rfl,lk,hcd⟩:=F.ex;show .all (h kV doc pm an cdv ct)
theorem mS_{x qual:Str}{st:Stmt}{f:Addr}{oc:Value}{od an:Option Addr}{osl:Array (Option Value)}{kV doc pm cdv ct:Value}(l:K.lookup f=some ⟨oc,od,.func (PySem.W.fnOf x qual (FR_ st) (Fs_ st) (EL_ st) .none kV doc pm an cdv ct),osl⟩)
  (c:PySem.W.codeIn K cdv qual=true) (k:PySem.W.keepIn K (.ref f)=true):Fun K x qual st f (PySem.W.fnOf x qual (FR_ st) (Fs_ st) (EL_ st) .none kV doc pm an cdv ct):=⟨⟨oc,od,kV,doc,pm,an,cdv,ct,osl,rfl,l,c⟩,k⟩
theorem EN_{n:Nat}(h:n<=1000):n<sizeLine:=Bn_ h d_
variable {X:Cx}
theorem ite2{c A B:Prop}[Decidable c](h1:c->A)(h2:¬ c->B):if c then A else B:=by
 by_cases h:c
 .rw[if_pos h];show h1 h
 .rw[if_neg h];show h2 h
def EM_(H H':Hp):Prop:=∀b o,H b=some o->H' b=some o
theorem EM_.refl(H:Hp):EM_ H H:=λ_ _ h=>h
theorem EM_.trans{H H1 H2:Hp}(a:EM_ H H1)(b:EM_ H1 H2):EM_ H H2:=λc o h=>b c o (a c o h)
variable{H':Hp}
theorem EM_.free{H:Hp}(e:EM_ H H'){l:Addr}(h:H' l=Option.none):H l=Option.none:=by
 cases q:H l with
 |none=>rfl
 |some o =>rw[e l o q]at h;cases h
variable{a:Addr}
theorem EM_.seq{H:Hp}{xs:List V}(e:EM_ H H')(h:SqL K H a xs):SqL K H' a xs:=by
 rcases h with(h|⟨o,h⟩)|h
 .show .inl (.inl (e _ _ h))
 .show .inl (.inr ⟨o,e _ _ h⟩)
 .show .inr h
def HK_(H:Hp):V->Option String
 | .non=>some "NoneType"
 | .bl _=>some "bool"
 | .int _=>some "int"
 | .str _=>some "str"
 | .ref p=>match H p with
  |some (.lst _)=>some "list"
  |some (.tup _)=>some "tuple"
  |_=>none
 |_=>none
def Lx_(a b:String):Bool:=a == b ||(a == "bool" && b == "int")
def GK_(T:String):Prop:=T = "int" \/ T = "bool" \/ T = "tuple" \/ T = "list" \/ T = "str"
theorem ix_:FE_ X (.builtin "isinstance") (λxs H Q=>∃x T k,xs=[x,.ty T]/\GK_ T/\HK_ H x=some k/\Q (.bl (Lx_ k T)) H):=by
 intro pins s σ H xs us Q I r h;obtain⟨x,T,k,rfl,hT,hk,q⟩:=h;obtain⟨u,w',rfl,rx,ry⟩:=Gz_ r;cases(show w'=Value.type T from ry);have fin:∀{b:Bool}{s':Shared},b=Lx_ k T->Inv X pins σ H s'->EP X pins σ Q (.bool b) s':=λ{b s'} e J=>⟨.bl b,H,J,rfl,by rw[e];show q⟩;cases x with
 |non =>
  cases(show u=Value.none from rx);cases hk
  rcases hT with rfl|rfl|rfl|rfl|rfl
  .show IsiPair.NoneType_int (fin d_ (I.tok _))
  .show IsiPair.NoneType_bool (fin d_ (I.tok _))
  .show IsiPair.NoneType_tuple (fin d_ (I.tok _))
  .show IsiPair.NoneType_list (fin d_ (I.tok _))
  .show IsiPair.NoneType_str (fin d_ (I.tok _))
 |bl b =>
  cases(show u=Value.bool b from rx);cases hk
  rcases hT with rfl|rfl|rfl|rfl|rfl
  .show IsiPair.bool_int (fin d_ I)
  .show IsiPair.bool_bool (fin d_ I)
  .show IsiPair.bool_tuple (fin d_ (I.tok _))
  .show IsiPair.bool_list (fin d_ (I.tok _))
  .show IsiPair.bool_str (fin d_ (I.tok _))
 |int i =>
  obtain⟨t,rfl⟩:=(show ∃t,u=Value.int i t from rx);cases hk
  rcases hT with rfl|rfl|rfl|rfl|rfl
  .show IsiPair.int_int (fin d_ I)
  .show IsiPair.int_bool (fin d_ (I.tok _))
  .show IsiPair.int_tuple (fin d_ (I.tok _))
  .show IsiPair.int_list (fin d_ (I.tok _))
  .show IsiPair.int_str (fin d_ (I.tok _))
 |str z =>
  obtain⟨t,rfl⟩:=(show ∃t,u=Value.str z t from rx);cases hk
  rcases hT with rfl|rfl|rfl|rfl|rfl
  .show IsiPair.str_int (fin d_ (I.tok _))
  .show IsiPair.str_bool (fin d_ (I.tok _))
  .show IsiPair.str_tuple (fin d_ (I.tok _))
  .show IsiPair.str_list (fin d_ (I.tok _))
  .show IsiPair.str_str (fin d_ I)
 |ref p =>
  cases(show u=Value.ref p from rx);cases e:H p with
  |none=>simp[HK_,e]at hk
  |some o =>
   cases o with
   |lst ys =>
    have hk':k = "list" := by simp[HK_,e]at hk;show hk.symm
    subst hk';obtain⟨its,n,rr,ho,hz⟩:=I.lst e
    rcases hT with rfl|rfl|rfl|rfl|rfl
    .show IsiPair.list_int ho rfl (fin d_ (I.tok _))
    .show IsiPair.list_bool ho rfl (fin d_ (I.tok _))
    .show IsiPair.list_tuple ho rfl (fin d_ (I.tok _))
    .show IsiPair.list_list ho rfl (fin d_ I)
    .show IsiPair.list_str ho rfl (fin d_ (I.tok _))
   |tup ys =>
    have hk':k = "tuple" := by simp[HK_,e]at hk;show hk.symm
    subst hk';obtain⟨its,rr,⟨ob,ho,hc,_⟩,hz⟩:=I.tuple (xs:=ys) (.inl (.inl e))
    rcases hT with rfl|rfl|rfl|rfl|rfl
    .show IsiPair.tuple_int ho hc (fin d_ (I.tok _))
    .show IsiPair.tuple_bool ho hc (fin d_ (I.tok _))
    .show IsiPair.tuple_tuple ho hc (fin d_ I)
    .show IsiPair.tuple_list ho hc (fin d_ (I.tok _))
    .show IsiPair.tuple_str ho hc (fin d_ (I.tok _))
   |_=>simp[HK_,e]at hk
 |_=>cases hk
def JR_:V->List V->Hp->VK->Prop:=λx xs H Q=>∃i,x=.int i/\xs=[]/\Q (.int (Builtin.Int.intBits i:Nat)) H
theorem pV_:MtR X "int.bit_length" JR_:=by intro pins s σ H x xs v us Q I rx rs h;obtain⟨i,rfl,rfl,q⟩:=h;obtain⟨t,rfl⟩:=rx;cases rs;show call_gives F.slot_int_bit_length (typeIs_int s i t) F.entry_int_bit_length (F.args_int_bit_length_1 _) (AutoIntG2.int_bit_length_int_0 i t) ⟨.int (Builtin.Int.intBits i:Nat),H,I.tok _,⟨_,rfl⟩,q⟩
def KM_(i j:Int):Prop:=Builtin.Int.intBits i+Builtin.Int.intBits j<=134217728
def J9_(i j:Int):Prop:=0<j/\j.natAbs.log2<9000
theorem av_:OpR X (binaryOp .FloorDiv) (rI J9_ λi j=>.int (i/j)):=opI λi j _ _ _ _ _ hc q=>by have h1:(0:Int)<j:=hc.1;show floordiv_int o_ (by rw[Int.fdiv_eq_ediv_of_nonneg i o_];show q) (.inl (PyProof.noPylong_of_log2 hc.2))
def KX_(i j:Int):Prop:=j≠0/\j.natAbs.log2<9000
def LJ_:List V->List V->Bool
 |[],[]=>true
 |x::xs,y::ys=>eqV x y && LJ_ xs ys
 |_,_=>false
def Fn0(K:PySem.W.Frag)(mg:Str->Option Value)(x:Str)(st:Stmt):Prop:=∃f fd,Fun K x x st f fd/\mg x=some (.ref f)
theorem q3_{K:PySem.W.Frag}{mg:Str->Option Value}{h:Heap}(X:K.In h)(G:h.Ns mainGlobals mg){x:Str}{st:Stmt}{f:Addr}{oc:Value}{od an:Option Addr}{osl:Array (Option Value)}{kV doc pm cdv ct:Value}
  (a:PySem.W.nsIn K mainGlobals x=some (some (.ref f))) (l:K.lookup f=some ⟨oc,od,.func (PySem.W.fnOf x x (FR_ st) (Fs_ st) (EL_ st) .none kV doc pm an cdv ct),osl⟩) (c:PySem.W.codeIn K cdv x=true) (k:PySem.W.keepIn K (.ref f)=true):Fn0 K mg x st :=
 ⟨f,_,mS_ l c k,PySem.W.mg_of X G a⟩
def Cal(P:Program)(w:World)(K:PySem.W.Frag)(mg:Str->Option Value)(base:Heap)(x:Str)(ps:List Str)(k:Nat)(sp:Sp):Prop :=
 ∃f fd,mg x=some (.ref f)/\PySem.W.keepIn K (.ref f)=true/\Gl_ K fd ps []/\GU_ P w K mg base CX0 k f fd ps sp
theorem aZ_{P:Program}{w:World}{K:PySem.W.Frag}{mg:Str->Option Value}{base:Heap}{x:Str}{st:Stmt}{N ps:List Str}{k:Nat}{sp:Sp}(F:Fn0 K mg x st)(S:EU_ N ps (EL_ st))
  (hbody:∀(f:Addr)(cdv:Value)(A:Around)(outer:List Env)(s:Shared)(H:Hp)(vs:List V)(Q:VK)(E:XK),F3_ k (A.deeper (envOfC x (EL_ st) s.heap.objs.size f cdv))->sp vs H Q E ->
   ∃t,PSs (Hj_ CX0 P w K mg base N x (EL_ st) f cdv A outer s H E).nox (Fs_ st) t/\t {nx:=λ_ H'=>Q .non H',rt:=Q} (start N vs) H)
  (hb:∀(kV doc pm:Value)(an:Option Addr)(cdv ct:Value)(us:List Value),us.length=ps.length->bindArgs (PySem.W.fnOf x x (FR_ st) (Fs_ st) (EL_ st) .none kV doc pm an cdv ct) ⟨us,[]⟩=pure (ps.zip us):=by first|show λ_ _ _ _ _ _=>byL1 λ_=>rfl|show λ_ _ _ _ _ _=>byL2 λ_ _=>rfl|show λ_ _ _ _ _ _=>byL3 λ_ _ _=>rfl|show λ_ _ _ _ _ _=>byL4 λ_ _ _ _=>rfl)
  (len:∀vs H Q E,sp vs H Q E->vs.length=ps.length:=by intro vs H Q E h;repeat (first|(obtain⟨rfl,_⟩:=h;rfl)|obtain⟨_,h⟩:=h)):Cal P w K mg base x ps (k+1) sp:=by
 obtain⟨f,fd,F,m⟩:=F;show⟨f,fd,m,F.kp,F.binds hb,F.ok S len λcdv A outer s H vs Q E=>hbody f cdv A outer s H vs Q E⟩
section
variable {x:Str}{ps:List Str}{k:Nat}{sp:Sp}{e:Expr}{es:List Expr}{t:TA}{p pos:Pos}
theorem oa_(C:Cal X.prog X.w X.K X.mg X.base x ps k sp)(hr:F3_ k X.A)(hg:Gl X x)(ha:PA X (e::es) t)(hdb:(x == ("__debug__" : Str))=false:=by decide)
  (he:starEach (e::es) X.env=(false,eval e X.env)::starEach es X.env:=by rfl) (hpl:(backTo pos (starEach es X.env)).any (·.1)=false:=by rfl):PE X (.Call (.Name x p) (e::es) [] pos) (GQ_ sp [] E0 t):=by
 obtain⟨f,fd,m,kp,b,F⟩:=C;show mI_ F hr hg m kp b .nil JF_ ha hdb he hpl
theorem mT_{i:Int}(hm:∃t,X.mg x=some (.int i t))(hg:Gl X x)(hd:(x == ("__debug__" : Str))=false:=by decide):PE X (.Name x pos) (tC (.int i)):=by obtain⟨t,hm⟩:=hm;show kk_ hg hm ⟨t,rfl⟩ hd
end
variable{h:Heap}{x:Str}{i:Int}
theorem pc_(X:K.In h)(G:h.Ns mainGlobals mg){t:Tok}(a:PySem.W.nsIn K mainGlobals x=some (some (.int i t))):∃t,mg x=some (.int i t):=⟨t,PySem.W.mg_of X G a⟩
variable{o:HO}
theorem EM_.upd{H:Hp}(e:EM_ H H')(h:H a=none):EM_ H (upd H' a o):=λb o' q=>by rw[af_ (ae_ q h)];show e b o' q
theorem EM_.new{H:Hp}(h:H a=none):EM_ H (L2.upd H a o):=(EM_.refl H).upd h
def Kl_:R2:=λx y H Q=>onR x λp=>∃xs,onI y λi=>H p=some (.tup xs)/\∃v,atI xs i=some v/\Q v H
def JS_:R2:=λx y H Q=>onR x λp=>∃xs,onI y λi=>H p=some (.lst xs)/\∃v,atI xs i=some v/\Q v H
theorem ao_:IxR X Kl_:=by intro value slice pins s σ H x y v u Q I rx ry h hs;obtain⟨p,e1,xs,h⟩:=dx_ h;obtain⟨i,e2,hp,z,ha,q⟩:=dd_ h;show q0_ value slice pins s σ H x y v u Q I rx ry ⟨p,xs,i,z,e1,e2,.inl (.inl hp),ha,q⟩ hs
theorem ap_:IxR X JS_:=by intro value slice pins s σ H x y v u Q I rx ry h hs;obtain⟨p,e1,xs,h⟩:=dx_ h;obtain⟨i,e2,hp,z,ha,q⟩:=dd_ h;show mM_ value slice pins s σ H x y v u Q I rx ry ⟨p,xs,i,z,e1,e2,.inl (.inl hp),ha,q⟩ hs
def KR_:R2:=λx y H Q=>∃a b xs ys,x=.ref a/\y=.ref b/\H a=some (.tup xs)/\H b=some (.tup ys)/\xs.all F9_=true/\ys.all F9_=true/\Q (.bl (LJ_ xs ys)) H
def Kf_:List V->Hp->VK->Prop:=λxs H Q=>on1 xs λx=>onR x λp=>∃ys,(H p=some (.lst ys)\/H p=some (.tup ys))/\Q (.int ys.length) H
theorem aq_:FE_ X (.builtin "len") Kf_:=by intro pins s σ H xs us Q I r h;obtain⟨_,e,h⟩:=k1_ h;obtain⟨p,rfl,ys,hp,q⟩:=dx_ h;show gK_ pins s σ H xs us Q I r ⟨p,ys,e,hp.imp (λz=>.inl (.inl z)) (λz=>.inl (.inl z)),q⟩
theorem mU_{n:String}{pos:Pos}(hg:Gl X x)(hm:X.mg x=none)(hv:bootBuiltins x=some (.type n))(hn:x ≠ "__name__" := by decide) (hd:(x == ("__debug__" : Str))=false:=by decide):PE X (.Name x pos) (tC (.ty n)):=
 pK_ hg hm hv rfl hn hd
theorem FL_{α:Type}{x:α}{xs:List α}:atI (x::xs) 0=some x:=by simp[atI,ixN]
theorem FX_{α:Type}{x y:α}{xs:List α}:atI (x::y::xs) 1=some y:=by
 have h:(1:Int)<(xs.length:Int)+1+1:=o_
 simp[atI,ixN,h]
theorem GG_{α:Type}{x y z:α}{xs:List α}:atI (x::y::z::xs) 2=some z:=by
 have h:(2:Int)<(xs.length:Int)+1+1+1:=o_
 simp[atI,ixN,h]
theorem cN_{α:Type}{xs:List α}{v:α}(h0:0<=i)(h:xs[i.toNat]?=some v):atI xs i=some v:=by
 have hl:i.toNat<xs.length:=(Al_.mp h).1;have hl':i<xs.length:=o_
 unfold atI ixN;rw[if_pos h0,if_pos hl'];show h
theorem q4_(n:Nat):ixN (n+1) 0=some 0:=by
 have:(0:Int)<(n:Int)+1:=o_
 simp[ixN,this]
theorem fa_{c:TT}{tb:TS}{D:GZ_}{σ:St}{H:Hp}(Pv:St->Hp->Prop)(μ:St->Hp->Nat)(h0:Pv σ H)
  (hs:∀σ H,Pv σ H->c σ H λb H1=>if b=true then ∃N:St->Hp->Prop,(∀σ' H',N σ' H'->∃m',m'<μ σ H/\m'=μ σ' H'/\Pv σ' H')/\tb {D with nx:=N,ct:=N,bk:=D.nx} σ H1 else D.nx σ H1):Id_ c tb D σ H :=
 ⟨λm σ H=>m=μ σ H/\Pv σ H,⟨_,rfl,h0⟩,by rintro m σ H ⟨rfl,p⟩;show hs σ H p⟩
theorem N_ok{Pv:St->Hp->Prop}{μ:St->Hp->Nat}{k:Nat}:∀σ' H',(Pv σ' H'/\μ σ' H'<k)->∃m',m'<k/\m'=μ σ' H'/\Pv σ' H':=λ_ _ ⟨a,b⟩=>⟨_,b,rfl,a⟩
def GT_(J:It)(g:TG)(tb:TS)(D:GZ_)(σ:St)(H:Hp):Prop:=∃W:Nat->Nat->St->Hp->Prop,(∃m,W 0 m σ H)/\∀i m σ H,W i m σ H ->
 (J.stop i H/\D.nx σ H)\/(J.go i H/\∃N:St->Hp->Prop,(∀σ' H',N σ' H'->∃m',m'<m/\W (i+1) m' σ' H')/\∀x H',J.yld i H x H'->g x σ H' λσ2 H2=>tb {D with nx:=N,ct:=N,bk:=D.nx} σ2 H2)
theorem pW_{wi:TI}{g:TG}{tb:TS}{D:GZ_}{σ:St}{H:Hp}:LK_ wi g tb D σ H=wi σ H λJ H1=>GT_ J g tb D σ H1:=rfl
theorem de_{lo:Int}{n:Nat}{g:TG}{tb:TS}{D:GZ_}{σ:St}{H:Hp}(Pv:Nat->St->Hp->Prop)(h0:Pv 0 σ H)
  (hs:∀i σ H,i<n->Pv i σ H->g (.int (lo+i)) σ H λσ2 H2=>tb {D with nx:=Pv (i+1),ct:=Pv (i+1),bk:=D.nx} σ2 H2) (hd:∀σ H,Pv n σ H->D.nx σ H):GT_ (Itr lo n) g tb D σ H:=my_ Pv h0 hs hd
theorem ht_{K:PySem.W.Frag}{a:Addr}{xs:List V}{g:TG}{tb:TS}{D:GZ_}{σ:St}{H:Hp}(Pv:Nat->St->Hp->Prop)(h0:Pv 0 σ H)(hl:∀i σ H,i<=xs.length->Pv i σ H->SqL K H a xs)
  (hs:∀i x σ H,xs[i]?=some x->Pv i σ H->g x σ H λσ2 H2=>tb {D with nx:=Pv (i+1),ct:=Pv (i+1),bk:=D.nx} σ2 H2) (hd:∀σ H,Pv xs.length σ H->D.nx σ H):GT_ (Itl K a) g tb D σ H:=n0_ Pv h0 hl hs hd
def FJ_:Expr->Bool
 | .Starred .. => false
 |_=>true
theorem ax_{e:Expr}{es:List Expr}{env:Env}(h:FJ_ e=true):starEach (e::es) env=(false,eval e env)::starEach es env:=by
 cases e <;> first|rfl|show absurd (show false=true from h) AN_
def EY_:List Expr->Bool
 |[]=>true
 |e::es=>FJ_ e && EY_ es
theorem bu_{pos:Pos}{env:Env}:∀{es:List Expr},EY_ es=true->(backTo pos (starEach es env)).any (·.1)=false
 |[],_=>rfl
 |e::es,h=>by
  have h':FJ_ e=true/\EY_ es=true:=by simpa[EY_]using h
  rw[ax_ h'.1];change(false ||(backTo pos (starEach es env)).any (·.1))=false;rw[bu_ h'.2];rfl
def H6_:Expr->Bool
 | .ListComp .. => true
 | .SetComp .. => true
 | .DictComp .. => true
 |_=>false
variable{env:Env}
theorem hu_{e:Expr}{t:Option Expr}{n:Nat}(h:H6_ e=false):swapsWith e t n env=pure false:=by
 cases e <;> first|rfl|show absurd (show true=false from h) Bool.noConfusion
section
variable {x:Str}{ps:List Str}{k:Nat}{sp:Sp}{e:Expr}{es:List Expr}{te:TE}{t:TA}{p pos:Pos}{id:String}{r:List V->Hp->VK->Prop}
theorem pa_c(ha:PE X e te)(hr:PA X es t)(hs:FJ_ e=true:=by rfl):PA X (e::es) (GE_ te t):=pR_ ha hr (ax_ hs)
theorem an_(C:Cal X.prog X.w X.K X.mg X.base x ps k sp)(hr:F3_ k X.A)(hg:Gl X x)(ha:PA X (e::es) t)(hs:EY_ (e::es)=true:=by rfl) (hdb:(x == ("__debug__" : Str))=false:=by decide):
  PE X (.Call (.Name x p) (e::es) [] pos) (GQ_ sp [] E0 t):=
 have h':FJ_ e=true/\EY_ es=true:=by simpa[EY_]using hs
 oa_ C hr hg ha hdb (ax_ h'.1) (bu_ h'.2)
theorem aj_(hc:FE_ X (.builtin id) r)(hg:Gl X x)(hm:X.mg x=none)(hv:bootBuiltins x=some (.builtin id))(ha:PA X (e::es) t)(hs:EY_ (e::es)=true:=by rfl) (hn:x ≠ "__name__" := by decide) (hdb:(x == ("__debug__" : Str))=false:=by decide):
  PE X (.Call (.Name x p) (e::es) [] pos) (tCB r t):=
 have h':FJ_ e=true/\EY_ es=true:=by simpa[EY_]using hs
 n6_ hc hg hm hv ha hn hdb (ax_ h'.1) (bu_ h'.2)
theorem ah_{i:Nat}{pos':Pos}(hN:X.N.Nodup)(hi:X.N[i]?=some x)(hx:X.env.scope.names.lookup x=some .local)(he:PE X e te)(hs:H6_ e=false:=by rfl):PS X (.Assign [.Name x pos'] e pos) (Jo_ te (Gv_ i)):=
 o5_ hN hi (.inl hx) he (hu_ hs) (.inr hx)
theorem ai_{i:Nat}(hN:X.N.Nodup)(hi:X.N[i]?=some x)(hx:X.env.scope.names.lookup x=some .local):PG X (.Name x pos) (Gv_ i):=mu_ hN hi (.inl hx) (.inr hx)
theorem aw_(he:PE X e te)(hs:H6_ e=false:=by rfl):PS X (.Expr e pos) (Jk_ te):=pM_ he (hu_ hs)
theorem pv1(i:Nat)(hN:X.N[i]?=some x:=by rfl) (hv:X.env.scope.names.lookup x=some .local:=by rfl) (hd:(x == ("__debug__" : Str))=false:=by decide) (hcd:(x == ("__classdict__" : Str))=false:=by decide):PE X (.Name x pos) (H2_ i):=o3_ hN (.inl hv) hd hcd
end
def tCut(t:TS):TS:=λD σ H=>∃M:St->Hp->Prop,t {D with nx:=M} σ H/\∀σ' H',M σ' H'->D.nx σ' H'
theorem ih_{st:Stmt}{t:TS}(h:PS X st t):PS X st (tCut t):=by
 intro pins s σ H D I hq;obtain⟨M,h1,h2⟩:=hq;show thn (h pins s σ H _ I h1) λf s' q=>?_;cases f with
 |next=>obtain⟨σ',H',I',m⟩:=q;show⟨σ',H',I',h2 _ _ m⟩
 |brk=>show q
 |cont=>show q
 |ret u=>show q
theorem aK_:bootBuiltins "len"=some (.builtin "len"):=r_
theorem q5_:bootBuiltins "abs"=some (.builtin "abs"):=r_
theorem q6_:bootBuiltins "max"=some (.builtin "max"):=r_
theorem q7_:bootBuiltins "min"=some (.builtin "min"):=r_
theorem bA_:bootBuiltins "isinstance"=some (.builtin "isinstance"):=r_
theorem cO_:bootBuiltins "sorted"=some (.builtin "sorted"):=r_
theorem jq_:bootBuiltins "all"=some (.builtin "all"):=r_
theorem k8_:bootBuiltins "int"=some (.type "int"):=r_
theorem pX_:bootBuiltins "bool"=some (.type "bool"):=r_
theorem ob_:bootBuiltins "tuple"=some (.type "tuple"):=r_
theorem dR_:bootBuiltins "list"=some (.type "list"):=r_
theorem q8_:bootBuiltins "str"=some (.type "str"):=r_
theorem jr_:bootBuiltins "enumerate"=some (.type "enumerate"):=r_
def GX_(cells:List (Str×Addr)):List (Str×NameKind)->List (Str×Addr)->List (Str×Addr)
 |[],acc=>acc
 | (n,k)::r,acc=>if k == .free then GX_ cells r ((n,(cells.lookup n).getD 0)::acc)else GX_ cells r acc
theorem l1_:∀(names:List (Str×NameKind))(acc:List (Str×Addr)),(∀p∈names,p.2=.free->∃c,env.cells.lookup p.1=some c) ->
  (forIn (m:=Sem) names acc λx r=>(match x with|(name,kind)=>if(kind == NameKind.free)=true then do let a <-cellOf env name;pure (ForInStep.yield ((name,a)::r))else pure (ForInStep.yield r)))=pure (GX_ env.cells names acc):=by
 intro names
 induction names with
 |nil=>intro acc _;rfl
 |cons p r ih =>
  intro acc h;obtain⟨n,k⟩:=p;rw[DW_];by_cases hk:(k == NameKind.free)=true
  .obtain⟨c,hc⟩:=h (n,k) An_ (by simpa using hk);have e1:cellOf env n=pure c:=by unfold cellOf;rw[hc]
   simp only[hk,if_true,e1];have:=ih ((n,c)::acc) λp hp=>h p (Ak_ _ hp);change _=pure (GX_ env.cells ((n,k)::r) acc);rw[GX_,if_pos hk,hc];show this
  .simp only[hk];have:=ih acc λp hp=>h p (Ak_ _ hp);change _=pure (GX_ env.cells ((n,k)::r) acc);rw[GX_,if_neg hk];show this
theorem gb_{scope:Scope}(h:∀p∈scope.names,p.2=.free->∃c,env.cells.lookup p.1=some c):closureFor scope env=pure (GX_ env.cells scope.names []):=by unfold closureFor;show Eq.trans (congrArg (λz=>z >>= λs=>pure s) (l1_ (env:=env) scope.names [] h)) rfl
theorem iy_{cells:List (Str×Addr)}:∀(names:List (Str×NameKind))(acc:List (Str×Addr)),(∀p∈names,p.2=.free->∃c,cells.lookup p.1=some c)->(∀q∈acc,cells.lookup q.1=some q.2)->∀q∈GX_ cells names acc,cells.lookup q.1=some q.2
 |[],acc,_,h=>h
 | (n,k)::r,acc,h1,h2=>by
  rw[GX_];by_cases hk:(k == NameKind.free)=true
  .rw[if_pos hk];show iy_ r _ (λp hp=>h1 p (Ak_ _ hp)) λq hq=>?_
   rcases Aq_.mp hq with rfl|hq
   .obtain⟨c,hc⟩:=h1 (n,k) An_ (by simpa using hk);rw[hc];rfl
   .show h2 q hq
  .rw[if_neg hk];show iy_ r _ (λp hp=>h1 p (Ak_ _ hp)) h2
theorem iz_{cells:List (Str×Addr)}{x:Str}:∀(names:List (Str×NameKind))(acc:List (Str×Addr)),((x,NameKind.free)∈names\/∃c,(x,c)∈acc)->∃c,(x,c)∈GX_ cells names acc
 |[],acc,h=>h.elim (λz=>absurd z s_) id
 | (n,k)::r,acc,h=>by
  rw[GX_];by_cases hk:(k == NameKind.free)=true
  .rw[if_pos hk];show iz_ r _ ?_
   rcases h with h|⟨c,hc⟩
   .rcases Aq_.mp h with e|h
    .cases e;show .inr ⟨_,An_⟩
    .show .inl h
   .show .inr ⟨c,Ak_ _ hc⟩
  .rw[if_neg hk];show iz_ r _ ?_
   rcases h with h|h
   .rcases Aq_.mp h with e|h
    .cases e;show absurd rfl hk
    .show .inl h
   .show .inr h
theorem df_{x:Str}{c:Addr}:∀{l:List (Str×Addr)},(x,c)∈l->∃c',l.lookup x=some c'
 | (n,d)::r,h=>by
  rw[BH_];cases e:x == n with
  |true=>show⟨d,rfl⟩
  |false =>
   rcases Aq_.mp h with z|h
   .cases z;simp at e
   .show df_ h
theorem hv_{cells:List (Str×Addr)}{q:Str×Addr}:∀(names:List (Str×NameKind))(acc:List (Str×Addr)),q∈GX_ cells names acc->(q.1,NameKind.free)∈names\/q∈acc
 |[],acc,h=>.inr h
 | (n,k)::r,acc,h=>by
  rw[GX_]at h;by_cases hk:(k == NameKind.free)=true
  .rw[if_pos hk]at h;have hk':k=.free:=by simpa using hk
   rcases hv_ r _ h with h|h
   .show .inl (Ak_ _ h)
   .rcases Aq_.mp h with rfl|h
    .show .inl (by rw[hk'];show An_)
    .show .inr h
  .rw[if_neg hk]at h;show(hv_ r _ h).imp (Ak_ _) id
theorem do_{x:Str}{c:Addr}:∀(names:List (Str×NameKind))(h:Heap)(acc:List (Str×Addr)),(x,c)∈cellsFrom h.objs.size names acc->(x,c)∈acc\/(h.objs.size<=c/\(pushCells h names).IsCell c none/\(x,NameKind.cell)∈names)
 |[],_,_,h=>.inl h
 | (n,k)::r,hp,acc,h=>by
  unfold cellsFrom at h;unfold pushCells;by_cases hk:(k == NameKind.cell)=true
  .rw[if_pos hk]at h⊢;have hk':k=.cell:=by simpa using hk
   have h':(x,c)∈cellsFrom (hp.push {cls:=.type "cell",data:=.cell none}).objs.size r ((n,hp.objs.size)::acc):=by rw[BL_];show h
   rcases do_ r _ _ h' with h|⟨h1,h2,h3⟩
   .rcases Aq_.mp h with e|h
    .cases e;show .inr ⟨Ah_ _,⟨_,CM_ r _ _ _ (AC_ _ rfl),rfl⟩,by rw[hk'];show An_⟩
    .show .inl h
   .rw[BL_]at h1;show .inr ⟨o_,h2,Ak_ _ h3⟩
  .rw[if_neg hk]at h⊢;show(do_ r hp acc h).imp id λ⟨h1,h2,h3⟩=>⟨h1,h2,Ak_ _ h3⟩
theorem dS_{x:Str}:∀(names:List (Str×NameKind))(n:Nat)(acc:List (Str×Addr)),((x,NameKind.cell)∈names\/∃c,(x,c)∈acc)->∃c,(x,c)∈cellsFrom n names acc
 |[],_,acc,h=>h.elim (λz=>absurd z s_) id
 | (y,k)::r,n,acc,h=>by
  unfold cellsFrom;by_cases hk:(k == NameKind.cell)=true
  .rw[if_pos hk];show dS_ r _ _ ?_
   rcases h with h|⟨c,hc⟩
   .rcases Aq_.mp h with e|h
    .cases e;show .inr ⟨_,An_⟩
    .show .inl h
   .show .inr ⟨c,Ak_ _ hc⟩
  .rw[if_neg hk];show dS_ r _ _ ?_
   rcases h with h|h
   .rcases Aq_.mp h with e|h
    .cases e;show absurd rfl hk
    .show .inl h
   .show .inr h
theorem dT_{lo:Nat}:∀(names:List (Str×NameKind))(n:Nat)(acc:List (Str×Addr)),(∀x c,(x,c)∈acc->c<n)->(∀x y c,lo<=c->(x,c)∈acc->(y,c)∈acc->x=y)->∀x y c,lo<=c->(x,c)∈cellsFrom n names acc->(y,c)∈cellsFrom n names acc->x=y
 |[],_,_,_,h=>h
 | (z,k)::r,n,acc,h1,h2=>by
  unfold cellsFrom;by_cases hk:(k == NameKind.cell)=true
  .rw[if_pos hk];show dT_ r _ _ (λx c hm=>?_) λx y c hc hx hy=>?_
   .rcases Aq_.mp hm with e|hm
    .cases e;show B3_ _
    .show BC_ (h1 x c hm)
   .rcases Aq_.mp hx with e|hx <;> rcases Aq_.mp hy with e'|hy
    .cases e;cases e';rfl
    .cases e;show absurd (h1 _ _ hy) (Bi_ _)
    .cases e';show absurd (h1 _ _ hx) (Bi_ _)
    .show h2 x y c hc hx hy
  .rw[if_neg hk];show dT_ r n acc h1 h2
def F8_(scope:Scope)(env:Env)(n:Nat):List (Str×Addr):=cellsFrom (n+1) scope.names (GX_ env.cells scope.names [])
def cxC(X:Cx)(N':List Str)(scope:Scope)(s:Shared)(H:Hp)(ex:List Addr):Cx :=
 {X with N:=N',s₀:=s,H₀:=H,env:=compEnvC scope (F8_ scope X.env s.heap.objs.size) s.heap.objs.size X.env,outer:=X.stack,ex:=ex,fn:=λx=>decide ((x,NameKind.cell)∈scope.names)}
def pick(σ:St)(ix:List (Option Nat)):St:=ix.map λo=>match o with|some i=>(match σ[i]? with|some v=>v|none=>none)|none=>none
structure Scp(psc:Scope)(PN N':List Str)(ix:List (Option Nat))(scope:Scope):Prop where
 kind:scope.kind=.function
 names:∀x∈scope.names,x.2=.local->scope.names.lookup x.1=some .local
 uni:∀x∈scope.names,x.2=.free->scope.names.lookup x.1=some .free
 apart:∀x∈scope.names,x.2=.cell->(x.1,NameKind.free)∉scope.names
 free:∀x∈scope.names,x.2=.free->psc.names.lookup x.1=some .cell\/psc.names.lookup x.1=some .free
 len:ix.length=N'.length
 at_:∀(j i:Nat)(x:Str),N'[j]?=some x->ix[j]?=some (some i)->PN[i]?=some x/\(x,NameKind.free)∈scope.names
variable {pins:List (Addr×Obj)}{σ:St}{H:Hp}{s:Shared}{N':List Str}{ix:List (Option Nat)}{scope:Scope}{fp:List Addr}
theorem dg_{env:Env}:∀{names:List (Str×NameKind)}{x:Str},names.lookup x=some .free ->
  (names.map λ(n,k)=>if(k == NameKind.free && env.scope.kind == .function && env.kindOf n == some .cell)then(n,NameKind.cell)else(n,k)).lookup x=some .cell \/
  (names.map λ(n,k)=>if(k == NameKind.free && env.scope.kind == .function && env.kindOf n == some .cell)then(n,NameKind.cell)else(n,k)).lookup x=some .free
 |[],_,h=>by simp at h
 | (n,k)::r,x,h=>by
  have ih:=@dg_ env r x;simp only[Az_];cases hx:x == n with
  |true =>
   simp only[BH_,hx]at h;cases h;by_cases hc:(NameKind.free == NameKind.free && env.scope.kind == .function && env.kindOf n == some .cell)=true
   .rw[if_pos hc];simp[BH_,hx]
   .rw[if_neg hc];simp[BH_,hx]
  |false =>
   simp only[BH_,hx]at h;by_cases hc:(k == NameKind.free && env.scope.kind == .function && env.kindOf n == some .cell)=true
   .rw[if_pos hc];simp only[BH_,hx];show ih h
   .rw[if_neg hc];simp only[BH_,hx];show ih h
theorem hw_(h:scope.names.lookup x=some .free):(relabel scope env).names.lookup x=some .cell\/(relabel scope env).names.lookup x=some .free:=dg_ h
theorem js_(h:(relabel scope env).names.lookup x=some .cell\/(relabel scope env).names.lookup x=some .free):(x,NameKind.cell)∈scope.names\/(x,NameKind.free)∈scope.names:=by
 have:∃k,(x,k)∈(relabel scope env).names/\(k=.cell\/k=.free):=by
  rcases h with h|h
  .show⟨_,Bm_ h,.inl rfl⟩
  .show⟨_,Bm_ h,.inr rfl⟩
 obtain⟨k,hm,hk⟩:=this;obtain⟨⟨n,k'⟩,hm',e⟩:=Ai_.mp hm
 dsimp only at e
 split at e
 .rename_i hc;cases e;have:k'=.free:=by simp at hc;show hc.1.1
  rw[this]at hm';show .inr hm'
 .cases e
  rcases hk with rfl|rfl
  .show .inl hm'
  .show .inr hm'
theorem oc_(I:Inv X pins σ H s)(S:Scp X.env.scope X.N N' ix scope)(hf:∀b∈fp,Hp_ X pins H b)(hfl:∀b∈fp,b<s.heap.objs.size)(t':Nat):
  Inv (cxC X N' scope s H fp) [] (pick σ ix) H {s with heap:=pushCells (s.heap.push {cls:=.type "dict",data:=.dict #[]}) scope.names,toks:=t'}:=by
 have hn:(pushCells (s.heap.push {cls:=.type "dict",data:=.dict #[]}) scope.names).Ns s.heap.objs.size λ_=>none:=(Heap.Ns.new s.heap (.type "dict")).keeps (CM_ _ _);have hk:∀b o,s.heap.get? b=some o->(pushCells (s.heap.push {cls:=.type "dict",data:=.dict #[]}) scope.names).get? b=some o:=λb o e=>CM_ _ _ b o (Aj_ _ e);have hfr:∀p∈scope.names,p.2=NameKind.free->∃c,X.env.cells.lookup p.1=some c:=λp hp e=>I.ok.has p.1 (S.free p hp e);have clm:∀q∈GX_ X.env.cells scope.names [],X.env.cells.lookup q.1=some q.2:=iy_ scope.names [] hfr s_
 have spec:∀x c,(F8_ scope X.env s.heap.objs.size).lookup x=some c->(X.env.cells.lookup x=some c/\(x,NameKind.free)∈scope.names) \/
   (s.heap.objs.size<c/\(pushCells (s.heap.push {cls:=.type "dict",data:=.dict #[]}) scope.names).IsCell c none/\(x,NameKind.cell)∈scope.names):=λx c e=>by
  have hm:(x,c)∈cellsFrom (s.heap.push {cls:=.type "dict",data:=.dict #[]}).objs.size scope.names (GX_ X.env.cells scope.names []):=by rw[BL_];show Bm_ e
  rcases do_ scope.names _ _ hm with h|⟨h1,h2,h3⟩
  .show .inl ⟨clm _ h,(hv_ scope.names [] h).elim id (λz=>absurd z s_)⟩
  .rw[BL_]at h1;show .inr ⟨h1,h2,h3⟩
 have hasC:∀x,((relabel scope X.env).names.lookup x=some .cell\/(relabel scope X.env).names.lookup x=some .free)->∃c,(F8_ scope X.env s.heap.objs.size).lookup x=some c:=λx hx=>by have:∃c,(x,c)∈F8_ scope X.env s.heap.objs.size:=dS_ scope.names _ _ ((js_ hx).imp id λz=>iz_ scope.names [] (.inl z));obtain⟨c,hc⟩:=this;show df_ hc
 have cold:∀x c,X.env.cells.lookup x=some c->c<s.heap.objs.size:=λx c e=>let⟨v,q⟩:=I.cell x c e;q.lt
 show⟨⟨I.ok.mod,S.kind,I.ok.glob,I.ok.blt,Ah_ _,λx y c e1 e2=>?_,hasC,λx c z e=>?_,I.ok.hd,I.ok.frames,.inl rfl,
  λb hb=>⟨AE_ (hfl b hb),λx c e=>?_⟩,I.bs,A7_ I.ok.bsz I.sz,λb o e hb=>?_,λb hb z=>?_,I.stack,I.stkFree⟩,
  rfl,I.bare,Un.kept hk,⟨_,hn,λj x v e1 e2 e3=>?_⟩,λx c e=>?_,I.hok.fresh (Ah_ _),λx c e=>?_,λp hp=>?pn,I.hok.kept hk,?_⟩
 case pn =>obtain⟨q1,q2,q3,q4,q5⟩:=I.pin p (AB_ _ (show p∈X.pn from(Ao_.mp hp).elim id λz=>nomatch z));show⟨hk _ _ q1,q2,AE_ (Au_ q1),λz=>(Aq_.mp (I.stkSub _ z)).elim q3 q4,q5⟩
 .by_cases hc:c<s.heap.objs.size+1
  .rcases spec x c e1 with⟨q1,_⟩|⟨q1,_⟩
   .rcases spec y c e2 with⟨q2,_⟩|⟨q2,_⟩
    .show I.ok.inj x y c q1 q2
    .show absurd q2 (BZ_.mpr (Nat.le_of_lt_succ hc))
   .show absurd q1 (BZ_.mpr (Nat.le_of_lt_succ hc))
  .show dT_ (lo:=s.heap.objs.size+1) scope.names _ _ (λx c hm=>BC_ (cold x c (clm _ hm))) (λx y c hc hx _=>absurd (cold x c (clm _ hx)) (BZ_.mpr (A7_ (Cn_ _) hc))) x y c (BZ_.mp hc) (Bm_ e1) (Bm_ e2)
 .have z':(x,NameKind.cell)∈scope.names:=AU_ z
  rcases spec x c e with⟨_,q⟩|⟨q,_⟩
  .show absurd q (S.apart _ z' rfl)
  .show AO_ q
 .rcases spec x c e with⟨q,_⟩|⟨q,_⟩
  .show(hf b hb).2.2.2.2.1 x c q
  .show λz=>absurd (hfl b hb) (BZ_.mpr (z▸AO_ q))
 .show(hf b hb).2.2.2.1.elim (λz=>I.ok.noex b o e z) λz=>absurd (AH_ (Au_ e) I.ok.bsz) (BZ_.mpr z)
 .have hb2:=hf b hb
  rcases Aq_.mp (I.stkSub b z)with q|q
  .show hb2.2.1 q
  .show hb2.2.2.1 q
 .have e4:∃i,ix[j]?=some (some i)/\σ[i]?=some (some v):=by
   have e2':(pick σ ix)[j]?=some (some v):=e2;unfold pick at e2';rw[Ag_]at e2';cases q:ix[j]? with
   |none=>rw[q]at e2';cases e2'
   |some o =>
    rw[q]at e2';cases o with
    |none=>cases e2'
    |some i =>
     show⟨i,rfl,?_⟩;cases z:σ[i]? with
     |none=>simp[z]at e2'
     |some y=>simp[z]at e2';rw[e2']
  obtain⟨i,e4,e5⟩:=e4;obtain⟨a1,a2⟩:=S.at_ j i x e1 e4;have a3:=S.free _ a2 rfl;obtain⟨m0,hn0,hl0⟩:=I.loc;obtain⟨u,r,l⟩:=hl0 i x v a1 e5 (.inr a3);show⟨u,r,?_⟩
  rcases l with⟨k1,_⟩|⟨k1,c,hcl,hce⟩
  .have k1':X.env.scope.names.lookup x=some .local:=k1
   rcases a3 with z|z <;> (rw[k1']at z;cases z)
  .
   have e3':(relabel scope X.env).names.lookup x=some .local\/(relabel scope X.env).names.lookup x=some .cell\/(relabel scope X.env).names.lookup x=some .free:=e3;have k3:=hw_ (env:=X.env) (S.uni _ a2 rfl);obtain⟨c',hc'⟩:=hasC x k3
   rcases spec x c' hc' with⟨q,_⟩|⟨_,_,q⟩
   .rw[hcl]at q;cases q;show .inr ⟨k3,c,hc',hce.keeps hk⟩
   .show absurd a2 (S.apart _ q rfl)
 .rcases spec x c e with⟨q,_⟩|⟨q,q2,_⟩
  .obtain⟨v,q'⟩:=I.cell x c q;show⟨v,q'.keeps hk⟩
  .show⟨none,q2⟩
 .rcases spec x c e with⟨q,_⟩|⟨q,_⟩
  .show I.freeC x c q
  .show I.hok.fresh (AO_ q)
 .change(pick σ ix).length=N'.length;unfold pick;rw[Ab_];show S.len
variable {prog:Program}{A:Around}{R:Result->Shared->Prop}
def Ij_(ifs:List Expr)(env:Env):Sem Bool:=forIn ifs true λc r=>if r=true then do let ok <-isTrue c env (eval c env);pure (ForInStep.yield ok)else pure (ForInStep.yield r)
theorem jt_{elt target iter:Expr}{ifs:List Expr}{scope:Scope}{pos:Pos}{it acc:Value}{env:Env}(I:Nat->Shared->Prop)
  (turn:∀n s,I n s->wpAny (model prog w) A (pyNext it) (λr s₁=>match r with
   |none=>R (.ok .next) s₁
   |some v=>wpAny (model prog w) A (letOwnedTupleGo target it v) (λ_ s₁'=>wpAny (model prog w) A (assign target env v) (λ_ s₂=>wpAny (model prog w) A (Ij_ ifs env) (λok s₃ =>
     if ok=true then wpAny (model prog w) A (eval elt env) (λx s₄=>wpAny (model prog w) A (call (.builtin "list.append") [acc,x]) (λ_ s₅=>∃m,m<n/\I m s₅) (λ_ _=>False) s₄) (λ_ _=>False) s₃
     else ∃m,m<n/\I m s₃) (λ_ _=>False) s₂) (λ_ _=>False) s₁') (λ_ _=>False) s₁) (λ_ _=>False) s)
  (n:Nat) (h:I n s):codeAny (model prog w) A (.compLoop (.ListComp elt [⟨target,iter,ifs,0⟩] scope pos) 0 it acc env) R s:=by
 show codeAny_loop rfl I (λn s hI=>?_) n h;change wpAny _ _ ((compTurn (.ListComp elt [⟨target,iter,ifs,0⟩] scope pos) 0 it acc env).onRaise (λx=>do noteFrame x env;theTreesLotGoes x)) _ _ s;show wpAny_noted ?_;rw[compTurn_list];show Af_ (CX_ (Af_ (Bl_ (turn n s hI) (λr s₁ h₁=>?_) λ_ _ h'=>h'.elim)));cases r with
 |none=>show Ax_ h₁
 |some v =>
  show Af_ (Bl_ h₁ (λ_ s₁' h₁'=>?_) λ_ _ h'=>h'.elim);show Af_ (Bl_ h₁' (λ_ s₂ h₂=>Af_ (Bl_ h₂ (λok s₃ h₃=>?_) λ_ _ h'=>h'.elim)) λ_ _ h'=>h'.elim);cases ok with
  |false=>show Ax_ ⟨rfl,h₃⟩
  |true =>show Af_ (Af_ (Bl_ h₃ (λx s₄ h₄=>Af_ (Bl_ h₄ (λ_ s₅ h₅=>Ax_ (Ax_ ⟨rfl,h₅⟩)) λ_ _ h'=>h'.elim)) λ_ _ h'=>h'.elim))
theorem ko_{M:Model}{A:Around}{E:Value->Shared->Prop}{s:Shared}{scope:Scope}{globals:Addr}{cl:List (Str×Addr)}{qual:Str}{env:Env}{Q:Env->Shared->Prop}
  (hQ:Q {scope:=scope,locals:=s.heap.objs.size,globals:=globals,cells:=cellsFrom (s.heap.objs.size+1) scope.names cl,qual:=qual,func:=none,code:=env.code,frame:=env.frame,builtins:=env.builtins} {s with heap:=pushCells (s.heap.push {cls:=.type "dict",data:=.dict #[]}) scope.names}):
  wpAny M A (newFunctionEnv scope globals cl [] qual none .none (some env)) Q E s:=by
 simp only[newFunctionEnv,Option.isSome_some,if_true];show Af_ (wpAny_alloc ?_);show Af_ (wpAny_layCells _ (λname kind cells=>by cases hkc:kind == NameKind.cell <;> simp[hkc]) _ _ _ _ ?_);rw[show({s with heap:=s.heap.push {cls:=.type "dict",data:=.dict #[]}}:Shared).heap.objs.size=s.heap.objs.size+1 from BL_ ..];show Af_ (Ax_ (Ax_ hQ))
def PF(X:Cx)(ifs:List Expr)(t:TT):Prop :=
 ∀(pins:List (Addr×Obj))(s:Shared)(σ:St)(H:Hp)(Q:Bool->Hp->Prop),Inv X pins σ H s->t σ H Q->wpAny (model X.prog X.w) X.A (Ij_ ifs X.env) (TP X pins σ Q) X.xe s
def KK_:TT:=λ_ H Q=>Q true H
theorem bU_:PF X [] KK_:=λ_ _ _ H _ I h=>wpAny_tests_nil ⟨H,I,h⟩
theorem pd_{c:Expr}{t:TT}(h:PT X c t):PF X [c] t:=λpins s σ H Q I q=>wpAny_tests_one (h pins s σ H Q I q)
def Hy_(J:It)(g:TG)(tt:TT)(te:TE)(σ:St)(H:Hp)(Q:VK):Prop:=∀D,H D=none->∃W:Nat->Nat->St->Hp->Prop,(∃m,W 0 m σ (upd H D (.lst [])))/\∀i m σ H,W i m σ H ->
 (J.stop i H/\Q (.ref D) H)\/(J.go i H/\∃N:St->Hp->Prop,(∀σ' H',N σ' H'->∃m',m'<m/\W (i+1) m' σ' H')/\∀x H',J.yld i H x H'->g x σ H' λσ2 H2=>tt σ2 H2 λb H3 =>if b=true then te σ2 H3 λv H4=>∃xs,H4 D=some (.lst xs)/\xs.length<sizeLine/\N σ2 (upd H4 D (.lst (xs++[v])))else N σ2 H3)
def H7_(ix:List (Option Nat))(wi:TI)(g:TG)(tt:TT)(te:TE):TE:=λσ H Q=>wi σ H λJ H1=>Hy_ J g tt te (pick σ ix) H1 Q
section
variable {tg iter elt:Expr}{ifs:List Expr}{wi:TI}{g:TG}{tt:TT}{te:TE}{pos:Pos}
structure Ki_(C:Cx->Prop)(P:Program)(w:World)(K:PySem.W.Frag)(tg:Expr)(J:It)(fp:List Addr)(it:Addr)(tn:Nat->Heap->Prop):Prop where
 obj:∀i h,tn i h->∀b∈fp,∃o,h.get? b=some o/\∀v,o.data≠.cell v
 keep:∀i h h',tn i h->(∀b∈fp,∀o,h.get? b=some o->h'.get? b=some o)->tn i h'
 item:∀(X:Cx),X.prog=P->X.w=w->X.K=K->C X->∀(i:Nat)(pins:List (Addr×Obj))(s:Shared)(σ:St)(H:Hp)(E:Value->Shared->Prop),Inv X pins σ H s->(∀b∈fp,Hp_ X pins H b)->tn i s.heap->J.go i H ->
  wpAny (model P w) X.A (pyNext (.ref it)) (λr s1=>∃u,r=some u/\wpAny (model P w) X.A (letOwnedTupleGo tg (.ref it) u) (λ_ s2=>∃x H',Inv X pins σ H' s2/\Fm_ x u/\J.yld i H x H'/\tn (i+1) s2.heap/\∀b∈fp,H' b=none) E s1) E s
 done:∀(X:Cx),X.prog=P->X.w=w->X.K=K->C X->∀(i:Nat)(pins:List (Addr×Obj))(s:Shared)(σ:St)(H:Hp)(E:Value->Shared->Prop),Inv X pins σ H s->(∀b∈fp,Hp_ X pins H b)->tn i s.heap->J.stop i H ->
  wpAny (model P w) X.A (pyNext (.ref it)) (λr s1=>r=none/\Inv X pins σ H s1) E s
 self:∀(A:Around)(i:Nat)(s:Shared)(Q:Value->Shared->Prop)(E:Value->Shared->Prop),tn i s.heap->Q (.ref it) s->wpAny (model P w) A (pyIter (.ref it)) Q E s
def PIc(C:Cx->Prop)(X:Cx)(tg iter:Expr)(wi:TI):Prop:=∀(pins:List (Addr×Obj))(s:Shared)(σ:St)(H:Hp)(R:It->Hp->Prop),Inv X pins σ H s->wi σ H R ->
 wpAny (model X.prog X.w) X.A (eval iter X.env) (λv s1=>wpAny (model X.prog X.w) X.A (pyIter v) (λitv s2=>∃(it:Addr)(fp:List Addr)(tn:Nat->Heap->Prop)(J:It)(H':Hp),itv=.ref it/\Inv X pins σ H' s2/\Ki_ C X.prog X.w X.K tg J fp it tn/\tn 0 s2.heap/\(∀b∈fp,Hp_ X pins H' b)/\R J H') X.xe s1) X.xe s
theorem PI.c(h:PI X tg iter wi):PIc (λX=>X.calm=true) X tg iter wi:=λpins s σ H R I q=>thn (h pins s σ H R I q) λ_ _ h1=>thn h1 λ_ _ ⟨it,fp,tn,J,H',e,I2,T,z⟩=>⟨it,fp,tn,J,H',e,I2,⟨T.obj,T.keep,T.item,T.done,T.self⟩,z⟩
theorem hx_{C:Cx->Prop}(hc:∀s H ex,C (cxC X N' scope s H ex))(hxe:X.xe=λ_ _=>False)(S:Scp X.env.scope X.N N' ix scope)(hi:PIc C X tg iter wi)(hg:∀s H ex,PG (cxC X N' scope s H ex) tg g)(ht:∀s H ex,PF (cxC X N' scope s H ex) ifs tt)(he:∀s H ex,PE (cxC X N' scope s H ex) elt te)
  {pins:List (Addr×Obj)} {s:Shared} {σ:St} {H:Hp} {Q:VK} (I:Inv X pins σ H s) (h:H7_ ix wi g tt te σ H Q) {Post:Value->Addr->Result->Shared->Prop}
  (fin':∀(D C:Addr)(H':Hp)(s':Shared),Inv X pins σ H' s'->Hp_ X pins H' C->(∃m,s'.heap.Ns C m)->Q (.ref D) H'->Post (.ref D) C (.ok .next) s'):
  wpAny (model X.prog X.w) X.A (eval iter X.env) (λx s₁=>wpAny (model X.prog X.w) X.A (pyIter x) (λit s₂=>wpAny (model X.prog X.w) X.A (newList []) (λacc s₃ =>wpAny (model X.prog X.w) X.A (newFunctionEnv scope X.env.globals (GX_ X.env.cells scope.names []) [] X.env.qual none .none (some X.env)) (λcenv s₄ =>codeAny (model X.prog X.w) X.A (.compStart (.ListComp elt [⟨tg,iter,ifs,0⟩] scope pos) 0 it acc {cenv with scope:=relabel scope X.env}) (Post acc cenv.locals) s₄) X.xe s₃) X.xe s₂) X.xe s₁) X.xe s:=by
 show thn (hi pins s σ H _ I h) λv s1 h1=>thn h1 λitv s2 h2=>?_;obtain⟨it,fp,tn,J,H2,e,I2,T,st2,f2,go⟩:=h2;subst e;show Cf_ ?_;have hD:H2 s2.heap.objs.size=none:=I2.hok.fresh (Ah_ _)
 have I3:Inv X pins σ (upd H2 s2.heap.objs.size (.lst [])) {s2 with heap:=s2.heap.push {cls:=.type "list",dict:=none,data:=.seq ([]:List Value).toArray}} :=
  I2.laid (t':=s2.toks) (λb u e=>Aj_ _ e) (Ah_ _) ⟨AP_ _,[],0,.nil,AC_ _ rfl⟩
 obtain⟨W,⟨m0,w0⟩,turn⟩:=go s2.heap.objs.size hD;have fpl:∀b∈fp,b<s2.heap.objs.size:=λb hb=>let⟨o,e,_⟩:=T.obj _ _ st2 b hb;Au_ e;have tF:∀{α:Type}{t:Sem α}{Q':α->Shared->Prop}{s':Shared},wpAny (model X.prog X.w) X.A t Q' X.xe s'->wpAny (model X.prog X.w) X.A t Q' (λ_ _=>False) s':=λhw=>hxe▸hw;generalize hH3:upd H2 s2.heap.objs.size (.lst [])=H3 at I3 w0;generalize hs3:({s2 with heap:=s2.heap.push {cls:=.type "list",dict:=none,data:=.seq ([]:List Value).toArray}}:Shared)=s3 at I3⊢;have h23:∀b o,s2.heap.get? b=some o->s3.heap.get? b=some o:=λb o e=>by rw[<-hs3];show Aj_ _ e
 have sz3:s2.heap.objs.size<=s3.heap.objs.size:=by rw[<-hs3];change _<=(s2.heap.push _).objs.size;rw[BL_];show Cn_ _
 have fpl3:∀b∈fp,b<s3.heap.objs.size:=λb hb=>AH_ (fpl b hb) sz3;have f3:∀b∈fp,Hp_ X pins H3 b:=λb hb=>⟨by rw[<-hH3,af_ (AE_ (fpl b hb))];show(f2 b hb).1,(f2 b hb).2⟩;show ko_ ?_;generalize hh1:pushCells (s3.heap.push {cls:=.type "dict",data:=.dict #[]}) scope.names=h1;have hk:∀b o,s3.heap.get? b=some o->h1.get? b=some o:=λb o e=>by rw[<-hh1];show CM_ _ _ b o (Aj_ _ e)
 have I4:Inv (cxC X N' scope s3 H3 fp) [] (pick σ ix) H3 {s3 with heap:=h1}:=by rw[<-hh1];show oc_ I3 S f3 fpl3 s3.toks
 have st4:tn 0 h1:=T.keep _ _ _ st2 λb hb o e=>hk b o (h23 b o e);have fin:∀{σ':St}{H':Hp}{s':Shared},Inv (cxC X N' scope s3 H3 fp) [] σ' H' s'->Q (.ref s2.heap.objs.size) H'->Post (.ref s2.heap.objs.size) s3.heap.objs.size (.ok .next) s':=λ{σ' H' s'} J q=>by obtain⟨m,hn,_⟩:=J.loc;have K1:Inv X pins σ H' s':=I3.call' J.os J.base J.hok J.bare λb hb=>⟨(f3 b hb).2.2.2.1,(f3 b hb).2.1,(f3 b hb).2.2.2.2.1,(f3 b hb).2.2.2.2.2⟩;show fin' _ _ H' s' K1 (I3.fpOk (b:=s3.heap.objs.size) (Ah_ _) (show H' s3.heap.objs.size=none from J.free)) ⟨m,hn⟩ q
 have loop:codeAny (model X.prog X.w) X.A (.compLoop (.ListComp elt [⟨tg,iter,ifs,0⟩] scope pos) 0 (.ref it) (.ref s2.heap.objs.size) (compEnvC scope (F8_ scope X.env s3.heap.objs.size) s3.heap.objs.size X.env)) (Post (.ref s2.heap.objs.size) s3.heap.objs.size) {s3 with heap:=h1}:=by
  show jt_ (λn s'=>∃i σ' H',Inv (cxC X N' scope s3 H3 fp) [] σ' H' s'/\tn i s'.heap/\(∀b∈fp,H' b=none)/\W i n σ' H') ?_ m0 ⟨0,_,H3,I4,st4,λb hb=>(f3 b hb).1,w0⟩;rintro n s5 ⟨i,σ5,H5,I5,st5,fr5,w5⟩;have stat:∀{H':Hp},(∀b∈fp,H' b=none)->∀b∈fp,Hp_ (cxC X N' scope s3 H3 fp) [] H' b:=λhn b hb=>⟨hn b hb,(I5.ok.exf b hb).1,I5.ok.exfs b hb,.inl hb,(I5.ok.exf b hb).2,λp hp=>(f3 b hb).2.2.2.2.2 p (AB_ _ (show p∈X.pn from(Ao_.mp hp).elim id λz=>nomatch z))⟩
  rcases turn i n σ5 H5 w5 with⟨stop,qn⟩|⟨go,N,hN,step⟩
  .show thn (tF (T.done (cxC X N' scope s3 H3 fp) rfl rfl rfl (hc _ _ _) i [] s5 σ5 H5 X.xe I5 (stat fr5) st5 stop)) λr s6 ⟨hr,I6⟩=>?_;subst hr;show fin I6 qn
  .show thn (tF (T.item (cxC X N' scope s3 H3 fp) rfl rfl rfl (hc _ _ _) i [] s5 σ5 H5 X.xe I5 (stat fr5) st5 go)) λr s6 ⟨u,hr,h6⟩=>?_;subst hr;show thn (tF h6) λ_ s7 ⟨x,H7,I7,r7,y7,st7,fr7⟩=>?_;have I7':=I7.pinned (stat fr7) (T.obj _ _ st7);have again:∀{σ':St}{H':Hp}{s':Shared},Inv (cxC X N' scope s3 H3 fp) ([]++Ha_ fp s7.heap) σ' H' s'->N σ' H'->∃m,m<n/\∃i σ' H',Inv (cxC X N' scope s3 H3 fp) [] σ' H' s'/\tn i s'.heap/\(∀b∈fp,H' b=none)/\W i m σ' H':=λ{σ' H' s'} J n10=>by obtain⟨m',hm,w10⟩:=hN σ' H' n10;show⟨m',hm,i+1,σ',H',J.unpinned,T.keep _ _ _ st7 λb hb o e=>(J.pin (b,o) (Aw_ _ (Aw_ _ (eU_ hb e)))).1,λb hb=>?_,w10⟩;obtain⟨o,e,d⟩:=T.obj _ _ st7 b hb;show(J.pin (b,o) (Aw_ _ (Aw_ _ (eU_ hb e)))).2.1
   show thn (tF (hg s3 H3 fp _ s7 σ5 H7 x u _ I7' r7 (step x H7 y7))) λ_ s8 ⟨σ8,H8,I8,q8⟩=>?_;show thn (tF (ht s3 H3 fp _ s8 σ8 H8 _ I8 q8)) λok s8' ⟨H8',I8',q8'⟩=>?_;cases ok with
   |false=>show again I8' (by simpa using q8')
   |true =>rw[if_pos rfl]at q8'⊢;show thn (tF (he s3 H3 fp _ s8' σ8 H8' _ I8' q8')) λv s9 ⟨y,H9,I9,r9,xs,hl9,hz9,n9⟩=>?_;show thn (tF (aY_ (X:=cxC X N' scope s3 H3 fp) _ s9 σ8 H9 (.ref s2.heap.objs.size) [y] (.ref s2.heap.objs.size) [v] (λ_ H'=>N σ8 H') I9 rfl (.cons r9 .nil) ⟨xs,hl9,hz9,n9⟩)) λ_ s10 ⟨_,H10,I10,_,n10⟩=>again I10 n10
 show codeAny_compStart_list loop (T.self _ 0 _ _ _ st4 loop)
theorem bb_(hc:X.calm=true)(hxe:X.xe=λ_ _=>False)(S:Scp X.env.scope X.N N' ix scope)(hi:PI X tg iter wi)(hg:∀s H ex,PG (cxC X N' scope s H ex) tg g)(ht:∀s H ex,PF (cxC X N' scope s H ex) ifs tt)(he:∀s H ex,PE (cxC X N' scope s H ex) elt te)
  (hs:∀x,foldedSetIterable iter X.env x=pure x:=by intro _;rfl):PE X (.ListComp elt [⟨tg,iter,ifs,0⟩] scope pos) (H7_ ix wi g tt te):=by
 intro pins s σ H Q I h;rw[eval_ListComp];show Cq_ (use:=none) rfl hs (gb_ λp hp e=>I.ok.has p.1 (S.free p hp e)) S.kind S.names (hx_ (C:=λX=>X.calm=true) (λ_ _ _=>hc) hxe S hi.c hg ht he I h λD C H' s' K1 F ⟨m,hn⟩ q=>?_);show⟨m,hn,λh' sb=>?_⟩;obtain⟨g0,g1,g2,g3,g4,g5⟩:=F;show⟨.ref D,H',K1.turned (t':=s'.toks) (λb o hb e=>sb.extBut b o hb e) g0 g1 g3 g4 g5,rfl,q⟩
theorem mV_{i:Nat}{y:Str}{py spos:Pos}(hc:X.calm=true)(hxe:X.xe=λ_ _=>False)(hN:X.N.Nodup)(hy:X.N[i]?=some y)(hl:X.env.scope.names.lookup y=some .local)
  (hsw:swapsWith (.ListComp elt [⟨tg,iter,ifs,0⟩] scope pos) (some (.Name y py)) spos.line X.env=pure true)
  (S:Scp X.env.scope X.N N' ix scope) (hi:PI X tg iter wi) (hg:∀s H ex,PG (cxC X N' scope s H ex) tg g) (ht:∀s H ex,PF (cxC X N' scope s H ex) ifs tt) (he:∀s H ex,PE (cxC X N' scope s H ex) elt te)
  (hs:∀x,foldedSetIterable iter X.env x=pure x:=by intro _;rfl):PS X (.Assign [.Name y py] (.ListComp elt [⟨tg,iter,ifs,0⟩] scope pos) spos) (Jo_ (H7_ ix wi g tt te) (Gv_ i)):=by
 intro pins s σ H D I h;rw[exec_Assign_Name_used _ _ _ _ hsw];show Af_ (CX_ (Af_ ?_));change wpAny _ X.A (do let _ <-comprehension (.ListComp elt [⟨tg,iter,ifs,0⟩] scope pos) scope X.env _ (newList []) false (eval iter X.env) (some (assign (.Name y py) X.env))) _ _ s
 show Af_ (Bl_ (Cq_ (use:=some (assign (.Name y py) X.env)) (Q:=λ_ s'=>SP X pins D .next s') rfl hs (gb_ λp hp e=>I.ok.has p.1 (S.free p hp e)) S.kind S.names
  (hx_ (C:=λX=>X.calm=true) (λ_ _ _=>hc) hxe S hi.c hg ht he I h λL C H' s' K1 F ⟨m,hn⟩ q=>?_)) (λ_ s' hq=>Ax_ (Ax_ hq)) λ_ _ e=>e)
 change wpAny _ X.A (assign (.Name y py) X.env (.ref L)) _ _ _;obtain⟨g0,g1,g2,g3,g4,g5⟩:=F;show wpAny_assign_Name (jb_ K1 hN hy (.inl hl) (v:=.ref L) rfl (λs2 I2 ⟨a,sb,ha⟩=>?_) (.inr hl))
 have hCa:C≠a:=by
  rcases ha with rfl|ha
  .show g1
  .show λz=>g4 _ _ ha z.symm
 show⟨m,hn.sameBut sb hCa,λh' sb'=>?_⟩;show⟨_,H',I2.turned (t':=s2.toks) (λb o hb e=>sb'.extBut b o hb e) g0 g1 g3 g4 g5,q⟩
end
def Gr_(psc:Scope)(PN N':List Str)(ix:List (Option Nat))(scope:Scope):Bool :=
 scope.kind == .function &&
 scope.names.all (λx=>x.2 != .local ||scope.names.lookup x.1 == some .local) &&
 scope.names.all (λx=>x.2 != .free ||scope.names.lookup x.1 == some .free) &&
 scope.names.all (λx=>x.2 != .cell || !scope.names.contains (x.1,NameKind.free)) &&
 scope.names.all (λx=>x.2 != .free ||(psc.names.lookup x.1 == some .cell ||psc.names.lookup x.1 == some .free)) &&
 ix.length == N'.length &&
 (List.range N'.length).all (λj=>match ix[j]?,N'[j]? with|some (some i),some x=>PN[i]? == some x && scope.names.contains (x,NameKind.free)|_,_=>true)
theorem bG_{psc:Scope}{PN:List Str}(h:Gr_ psc PN N' ix scope=true):Scp psc PN N' ix scope:=by
 unfold Gr_ at h;simp only[Bz_,List.all_eq_true,beq_iff_eq,Bool.or_eq_true,Dp_,ne_eq,CF_,Bool.not_eq_true',AJ_]at h;obtain⟨⟨⟨⟨⟨⟨h1,h2⟩,h3⟩,h4⟩,h5⟩,h6⟩,h7⟩:=h;show⟨h1,λx hx e=>(h2 x hx).resolve_left λz=>z e,λx hx e=>(h3 x hx).resolve_left λz=>z e,λx hx e hm=>?_,λx hx e=>(h5 x hx).resolve_left λz=>z e,h6,λj i x e1 e2=>?_⟩
 .have:=(h4 x hx).resolve_left λz=>z e;rw[CF_.mpr hm]at this;cases this
 .have hj:j<N'.length:=(Al_.mp e1).1;have:=h7 j hj;rw[e1,e2]at this;simp only[Bz_,beq_iff_eq,CF_]at this;show this
variable {x:Str}{pos:Pos}{i:Nat}{e:Expr}{te:TE}
theorem pvc(i:Nat)(hN:X.N[i]?=some x:=by rfl) (hv:X.env.scope.names.lookup x=some .cell:=by rfl) (hd:(x == ("__debug__" : Str))=false:=by decide) (hcd:(x == ("__classdict__" : Str))=false:=by decide):PE X (.Name x pos) (H2_ i):=o3_ hN (.inr (.inl hv)) hd hcd
theorem hy_{pos':Pos}(hN:X.N.Nodup)(hi:X.N[i]?=some x)(hx:X.env.scope.names.lookup x=some .cell)(hf:X.fn x=true)(he:PE X e te)(hs:swapsWith e (some (.Name x pos')) pos.line X.env=pure false):PS X (.Assign [.Name x pos'] e pos) (Jo_ te (Gv_ i)):=
 o5_ hN hi (.inr hx) he hs (.inl hf)
theorem g9_(hN:X.N.Nodup)(hi:X.N[i]?=some x)(hx:X.env.scope.names.lookup x=some .cell)(hf:X.fn x=true):PG X (.Name x pos) (Gv_ i):=mu_ hN hi (.inr hx) (.inl hf)
theorem aS_{tg l:Expr}{tl:TE}(hK:X.K=K)(hl:PE X l tl):PI X tg l (IG_ K tl):=hK▸pN_ hl
theorem pY_{tg l:Expr}{tl:TE}(hK:X.K=K)(hl:PE X l tl):PI X tg l (KQ_ K tl):=hK▸qX_ hl
theorem od_(hK:X.K=K):IxR X (LH_ K):=hK▸mM_
inductive Dt where
 |non|bl (b:Bool)|int (i:Int)|str (x:Str)|tup (xs:List Dt)|lst (xs:List Dt)
mutual
def Rep(H:Hp):V->Dt->Prop
 |v,.non=>v=.non
 |v,.bl b=>v=.bl b
 |v,.int i=>v=.int i
 |v,.str x=>v=.str x
 |v,.tup ds=>∃p xs,v=.ref p/\H p=some (.tup xs)/\E7_ H xs ds
 |v,.lst ds=>∃p xs,v=.ref p/\H p=some (.lst xs)/\E7_ H xs ds
def E7_(H:Hp):List V->List Dt->Prop
 |xs,[]=>xs=[]
 |xs,d::ds=>∃x r,xs=x::r/\Rep H x d/\E7_ H r ds
end
mutual
theorem Rep.mono{H H':Hp}(e:EM_ H H'):∀{v:V}(d:Dt),Rep H v d->Rep H' v d
 |v,.non,h=>h
 |v,.bl b,h=>h
 |v,.int i,h=>h
 |v,.str x,h=>h
 |v,.tup ds,⟨p,xs,h1,h2,h3⟩=>⟨p,xs,h1,e _ _ h2,E7_.mono e ds h3⟩
 |v,.lst ds,⟨p,xs,h1,h2,h3⟩=>⟨p,xs,h1,e _ _ h2,E7_.mono e ds h3⟩
theorem E7_.mono{H H':Hp}(e:EM_ H H'):∀{xs:List V}(ds:List Dt),E7_ H xs ds->E7_ H' xs ds
 |xs,[],h=>h
 |xs,d::ds,⟨x,r,h1,h2,h3⟩=>⟨x,r,h1,Rep.mono e d h2,E7_.mono e ds h3⟩
end
mutual
theorem Rep.inj{H:Hp}:∀{v:V}(d e:Dt),Rep H v d->Rep H v e->d=e
 |v,.non,e,h,h'=>by
  cases h;cases e <;> first|rfl|(simp[Rep]at h')
 |v,.bl b,e,h,h'=>by
  cases h;cases e <;> simp[Rep]at h' <;> simp[h']
 |v,.int i,e,h,h'=>by
  cases h;cases e <;> simp[Rep]at h' <;> simp[h']
 |v,.str x,e,h,h'=>by
  cases h;cases e <;> simp[Rep]at h' <;> simp[h']
 |v,.tup ds,e,⟨p,xs,h1,h2,h3⟩,h'=>by
  subst h1;cases e with
  |tup es =>
   obtain⟨p',xs',g1,g2,g3⟩:=h';cases g1;rw[h2]at g2;cases g2;rw[E7_.inj ds es h3 g3]
  |lst es =>
   obtain⟨p',xs',g1,g2,g3⟩:=h';cases g1;rw[h2]at g2;cases g2
  |_=>simp[Rep]at h'
 |v,.lst ds,e,⟨p,xs,h1,h2,h3⟩,h'=>by
  subst h1;cases e with
  |tup es =>
   obtain⟨p',xs',g1,g2,g3⟩:=h';cases g1;rw[h2]at g2;cases g2
  |lst es =>
   obtain⟨p',xs',g1,g2,g3⟩:=h';cases g1;rw[h2]at g2;cases g2;rw[E7_.inj ds es h3 g3]
  |_=>simp[Rep]at h'
theorem E7_.inj{H:Hp}:∀{xs:List V}(ds es:List Dt),E7_ H xs ds->E7_ H xs es->ds=es
 |xs,[],es,h,h'=>by
  cases h;cases es with
  |nil=>rfl
  |cons e es=>obtain⟨x,r,g,_⟩:=h';cases g
 |xs,d::ds,es,⟨x,r,h1,h2,h3⟩,h'=>by
  subst h1;cases es with
  |nil=>cases h'
  |cons e es =>obtain⟨x',r',g1,g2,g3⟩:=h';cases g1;rw[Rep.inj d e h2 g2,E7_.inj ds es h3 g3]
end
theorem E7_.length{H:Hp}:∀{xs:List V}{ds:List Dt},E7_ H xs ds->xs.length=ds.length
 |xs,[],h=>by cases h;rfl
 |xs,d::ds,⟨x,r,h1,h2,h3⟩=>by subst h1;simp[E7_.length h3]
theorem E7_.get{H:Hp}:∀{xs:List V}{ds:List Dt}{i:Nat}{d:Dt},E7_ H xs ds->ds[i]?=some d->∃x,xs[i]?=some x/\Rep H x d
 |xs,[],i,d,h,e=>by simp at e
 |xs,d'::ds,0,d,⟨x,r,h1,h2,h3⟩,e=>by
  subst h1;simp at e;subst e;show⟨x,rfl,h2⟩
 |xs,d'::ds,i+1,d,⟨x,r,h1,h2,h3⟩,e=>by subst h1;obtain⟨y,hy,hr⟩:=E7_.get (i:=i) (d:=d) h3 (by simpa using e);show⟨y,by simpa using hy,hr⟩
theorem E7_.append{H:Hp}:∀{xs:List V}{ds:List Dt}{ys:List V}{es:List Dt},E7_ H xs ds->E7_ H ys es->E7_ H (xs++ys) (ds++es)
 |xs,[],ys,es,h,g=>by cases h;show g
 |xs,d::ds,ys,es,⟨x,r,h1,h2,h3⟩,g=>by subst h1;show⟨x,r++ys,rfl,h2,E7_.append h3 g⟩
mutual
def deq:Dt->Dt->Option Bool
 | .non,.non=>some true
 | .bl a,.bl b=>some (a == b)
 | .int a,.int b=>some (a == b)
 | .str a,.str b=>some (a == b)
 | .tup xs,.tup ys=>deqs xs ys
 | .lst xs,.lst ys=>if xs.length=ys.length then deqs xs ys else some false
 |_,_=>none
def deqs:List Dt->List Dt->Option Bool
 |[],[]=>some true
 |x::xs,y::ys=>match deq x y,deqs xs ys with
  |some a,some b=>some (a && b)
  |_,_=>none
 |_,_=>some false
end
mutual
def dep:Dt->Nat
 | .tup ds=>deps ds+1
 | .lst ds=>deps ds+1
 |_=>0
def deps:List Dt->Nat
 |[]=>0
 |d::ds=>max (dep d) (deps ds)
end
def eAt(ds es:List Dt)(j:Nat):Bool:=match ds[j]?,es[j]? with
 |some d,some e=>(deq d e).getD false
 |_,_=>false
theorem b6_:∀(ds es:List Dt)(b:Bool),deqs ds es=some b->((List.range (min ds.length es.length)).all (eAt ds es) && ds.length == es.length)=b
 |[],[],b,h=>by cases h;rfl
 |[],_::_,b,h=>by cases h;simp
 |_::_,[],b,h=>by cases h;simp
 |d::ds,e::es,b,h=>by
  rw[deqs]at h;cases h1:deq d e with
  |none=>rw[h1]at h;cases h
  |some a =>
   cases h2:deqs ds es with
   |none=>rw[h1,h2]at h;cases h
   |some c =>
    rw[h1,h2]at h;cases h;rw[<-b6_ ds es c h2];simp only[AF_,Nat.succ_min_succ,List.range_succ_eq_map,Dr_,List.all_map,Bool.and_assoc];congr 1
    .simp[eAt,h1]
    .congr 1;simp
mutual
theorem iA_:∀(d:Dt)(b:Bool),deq d d=some b->b=true
 | .non,b,h=>by cases h;rfl
 | .bl a,b,h=>by simp[deq]at h;show h
 | .int a,b,h=>by simp[deq]at h;show h
 | .str a,b,h=>by simp[deq]at h;show h
 | .tup xs,b,h=>hz_ xs b h
 | .lst xs,b,h=>by rw[deq,if_pos rfl]at h;show hz_ xs b h
theorem hz_:∀(ds:List Dt)(b:Bool),deqs ds ds=some b->b=true
 |[],b,h=>by cases h;rfl
 |d::ds,b,h=>by
  rw[deqs]at h;cases h1:deq d d with
  |none=>rw[h1]at h;cases h
  |some a =>
   cases h2:deqs ds ds with
   |none=>rw[h1,h2]at h;cases h
   |some c =>rw[h1,h2]at h;cases h;rw[iA_ d a h1,hz_ ds c h2];rfl
end
def Vw(K:PySem.W.Frag)(H J:Hp):Prop:=(∀q xs,J q=some (.tup xs)->SqT K H q xs)/\∀q xs,J q=some (.lst xs)->SqL K H q xs
theorem Vw.refl:Vw K H H:=⟨λ_ _ h=>.inl (.inl h),λ_ _ h=>.inl (.inl h)⟩
mutual
theorem mW_(I:Inv X pins σ H s){J:Hp}(hJ:Vw X.K H J):∀(d e:Dt){A:Around}{x y:V}{u v:Value}{b:Bool},Rep J x d->Rep J y e->Fm_ x u->Fm_ y v->deq d e=some b->A.units+dep d<cLine->SeqAt.EqAt A s u v b
 | .non,e,A,x,y,u,v,b,hx,hy,rx,ry,hb,hu=>by
  cases e <;> first|(cases hb;cases hx;cases hy;cases rx;cases ry;show CL_ _)|(simp[deq]at hb)
 | .bl a,e,A,x,y,u,v,b,hx,hy,rx,ry,hb,hu=>by
  cases e <;> first|(cases hb;cases hx;cases hy;cases rx;cases ry;show Do_ _ _)|(simp[deq]at hb)
 | .int a,e,A,x,y,u,v,b,hx,hy,rx,ry,hb,hu=>by
  cases e <;> first|(cases hb;cases hx;cases hy;obtain⟨t,rfl⟩:=rx;obtain⟨t',rfl⟩:=ry;show SeqAt.EqAt.int_int _ _ _ _)|(simp[deq]at hb)
 | .str a,e,A,x,y,u,v,b,hx,hy,rx,ry,hb,hu=>by
  cases e <;> first|(cases hb;cases hx;cases hy;obtain⟨t,rfl⟩:=rx;obtain⟨t',rfl⟩:=ry;show Dy_ _ _ _ _)|(simp[deq]at hb)
 | .tup ds,e,A,x,y,u,v,b,hx,hy,rx,ry,hb,hu=>by
  cases e with
  |tup es =>
   obtain⟨p,xs,e1,hp,hr⟩:=id hx;obtain⟨q,ys,e2,hq,hs⟩:=id hy;subst e1 e2;cases rx;cases ry;by_cases hpq:p=q
   .subst hpq;have:=Rep.inj _ _ hx hy;cases this;rw[iA_ _ b hb];show CL_ _
   .obtain⟨its,r1,pl1,_⟩:=I.tuple (hJ.1 _ _ hp);obtain⟨its',r2,pl2,_⟩:=I.tuple (hJ.1 _ _ hq);have l1:=r1.length;have l2:=r2.length;have g1:=hr.length;have g2:=hs.length;have hu':A.in1.units+deps ds<cLine:=by have:A.units+(deps ds+1)<cLine:=hu;rw[Bg_];lia
    have hb':deqs ds es=some b:=hb;rw[<-b6_ ds es b hb'];have:=SeqAt.RcAt.tuples (e:=eAt ds es) (A:=A) (s:=s) pl1 pl2 (Bn_ (BI_ _ _) hu) (λj h1 h2=>by have:=fb_ I hJ ds es hr hs r1 r2 hb' hu' j (by simpa using h1) (by simpa using h2);simpa using this);simp only[Ap_,<-l1,<-l2,g1,g2]at this;show CU_ hpq this
  |_=>simp[deq]at hb
 | .lst ds,e,A,x,y,u,v,b,hx,hy,rx,ry,hb,hu=>by
  cases e with
  |lst es =>
   obtain⟨p,xs,e1,hp,hr⟩:=id hx;obtain⟨q,ys,e2,hq,hs⟩:=id hy;subst e1 e2;cases rx;cases ry;by_cases hpq:p=q
   .subst hpq;have:=Rep.inj _ _ hx hy;cases this;rw[iA_ _ b hb];show CL_ _
   .obtain⟨its,r1,pl1,_⟩:=I.list (hJ.2 _ _ hp);obtain⟨its',r2,pl2,_⟩:=I.list (hJ.2 _ _ hq);have l1:=r1.length;have l2:=r2.length;have g1:=hr.length;have g2:=hs.length;have hu0:A.units<cLine:=Bn_ (BI_ _ _) hu;have hu':A.in1.units+deps ds<cLine:=by have:A.units+(deps ds+1)<cLine:=hu;rw[Bg_];lia
    rw[deq]at hb;by_cases hl:ds.length=es.length
    .rw[if_pos hl]at hb;rw[<-b6_ ds es b hb];have:=SeqAt.RcAt.lists (e:=eAt ds es) (A:=A) (s:=s) pl1.isList pl2.isList (by simp only[Ap_];lia) hu0 (λj h1 h2=>by have:=fb_ I hJ ds es hr hs r1 r2 hb hu' j (by simpa using h1) (by simpa using h2);simpa using this);simp only[Ap_,<-l1,g1]at this;show CU_ hpq ?_;have e3:min ds.length es.length=ds.length:=o_
     rw[e3,hl];simpa[hl]using this
    .rw[if_neg hl]at hb;cases hb;show CU_ hpq (SeqAt.RcAt.lists_lengths pl1.isList pl2.isList (by simp only[Ap_,Dp_,ne_eq];lia) hu0)
  |_=>simp[deq]at hb
theorem fb_(I:Inv X pins σ H s){J:Hp}(hJ:Vw X.K H J):∀(ds es:List Dt){A:Around}{xs ys:List V}{us vs:List Value}{b:Bool},E7_ J xs ds->E7_ J ys es->Fe_ xs us->Fe_ ys vs->deqs ds es=some b->A.units+deps ds<cLine ->
  ∀(j:Nat)(h1:j<us.length)(h2:j<vs.length),SeqAt.EqAt A s us[j] vs[j] (eAt ds es j)
 |[],es,A,xs,ys,us,vs,b,hx,hy,rx,ry,hb,hu,j,h1,h2=>by
  cases hx;cases rx;show absurd h1 (DE_ _)
 |d::ds,es,A,xs,ys,us,vs,b,⟨x,r,e1,hd,hr⟩,hy,rx,ry,hb,hu,j,h1,h2=>by
  subst e1;cases es with
  |nil =>
   cases hy;cases ry;show absurd h2 (DE_ _)
  |cons e es =>
   obtain⟨y,r',e2,he,hs⟩:=hy;subst e2;cases rx with
   |cons rx rxs =>
    cases ry with
    |cons ry rys =>
     rw[deqs]at hb;cases g1:deq d e with
     |none=>rw[g1]at hb;cases hb
     |some a =>
      cases g2:deqs ds es with
      |none=>rw[g1,g2]at hb;cases hb
      |some c =>
       have hm:A.units+max (dep d) (deps ds)<cLine:=hu;cases j with
       |zero =>
        have:=mW_ I hJ d e (A:=A) hd he rx ry g1 o_;simpa[eAt,g1]using this
       |succ j =>have:=fb_ I hJ ds es (A:=A) hr hs rxs rys g2 o_ j (by simpa using h1) (by simpa using h2);simpa[eAt]using this
end
def LQ_(K:PySem.W.Frag):R2:=λx y H Q=>∃J p q d e b,Vw K H J/\x=.ref p/\y=.ref q/\Rep J x d/\Rep J y e/\deq d e=some b/\dep d<=60/\Q (.bl b) H
theorem q9_(hK:X.K=K)(hu:X.A.units+64<cLine):OpR X (compareOp .Eq) (LQ_ K):=by
 subst hK;intro pins s σ H x y v u Q I rx ry h;obtain⟨J,p,q,d,e,b,hJ,e1,e2,hx,hy,hb,hd,k⟩:=h;subst e1 e2;cases rx;cases ry;have fin:EP X pins σ Q (.bool b) s:=⟨.bl b,H,I,rfl,k⟩;cases d with
 |tup ds =>
  cases e with
  |tup es =>
   obtain⟨_,xs,z,hp,hr⟩:=hx;cases z;obtain⟨_,ys,z,hq,hs⟩:=hy;cases z;obtain⟨its,r1,pl1,_⟩:=I.tuple (hJ.1 _ _ hp);obtain⟨its',r2,pl2,_⟩:=I.tuple (hJ.1 _ _ hq);have l1:=r1.length;have l2:=r2.length;have g1:=hr.length;have g2:=hs.length;have hd':deps ds+1<=60:=hd;have hu':X.A.in1.units+deps ds<cLine:=by rw[Bg_];lia
   have hb':deqs ds es=some b:=hb;show SeqAt.eq_tupleAt (e:=eAt ds es) pl1 pl2 o_ (λj h1 h2=>by have:=fb_ I hJ ds es hr hs r1 r2 hb' hu' j (by simpa using h1) (by simpa using h2);simpa using this) ?_;simp only[Ap_,<-l1,<-l2,g1,g2];rw[b6_ ds es b hb'];show fin
  |_=>simp[deq]at hb
 |lst ds =>
  cases e with
  |lst es =>
   obtain⟨_,xs,z,hp,hr⟩:=hx;cases z;obtain⟨_,ys,z,hq,hs⟩:=hy;cases z;obtain⟨its,r1,pl1,_⟩:=I.list (hJ.2 _ _ hp);obtain⟨its',r2,pl2,_⟩:=I.list (hJ.2 _ _ hq);have l1:=r1.length;have l2:=r2.length;have g1:=hr.length;have g2:=hs.length;have hd':deps ds+1<=60:=hd;have hu':X.A.in1.units+deps ds<cLine:=by rw[Bg_];lia
   rw[deq]at hb;by_cases hl:ds.length=es.length
   .rw[if_pos hl]at hb;show SeqAt.eq_listAt (e:=eAt ds es) pl1.isList pl2.isList (by simp only[Ap_];lia) o_ (λj h1 h2=>by have:=fb_ I hJ ds es hr hs r1 r2 hb hu' j (by simpa using h1) (by simpa using h2);simpa using this) ?_;have e3:=b6_ ds es b hb;have e4:min ds.length es.length=ds.length:=o_
    rw[e4,hl]at e3;simp only[C5_,Bool.and_true]at e3;simp only[Ap_,<-l1,g1,hl,e3];show fin
   .rw[if_neg hl]at hb;cases hb;show SeqAt.eq_list_lengthsAt pl1.isList pl2.isList (by simp only[Ap_,Dp_,ne_eq];lia) o_ fin
  |_=>simp[deq]at hb
 |_=>simp[Rep]at hx
def K6_:R2:=λx y H Q=>∃p q d e b,x=.ref p/\y=.ref q/\Rep H x d/\Rep H y e/\deq d e=some b/\dep d<=60/\Q (.bl b) H
theorem ra_(hu:X.A.units+64<cLine):OpR X (compareOp .Eq) K6_:=λpins s σ H x y v u Q I rx ry ⟨p,q,d,e,b,h⟩=>q9_ rfl hu pins s σ H x y v u Q I rx ry ⟨H,p,q,d,e,b,Vw.refl,h⟩
def LC_(K:PySem.W.Frag):R2:=λx y H Q=>∃J p q d e b,Vw K H J/\x=.ref p/\y=.ref q/\Rep J x d/\Rep J y e/\deq d e=some b/\dep d<=60/\Q (.bl (!b)) H
theorem rb_(hK:X.K=K)(hu:X.A.units+64<cLine):OpR X (compareOp .NotEq) (LC_ K):=by
 subst hK;intro pins s σ H x y v u Q I rx ry h;obtain⟨J,p,q,d,e,b,hJ,e1,e2,hx,hy,hb,hd,k⟩:=h;subst e1 e2;cases rx;cases ry;have fin:EP X pins σ Q (.bool (!b)) s:=⟨.bl (!b),H,I,rfl,k⟩;cases d with
 |tup ds =>
  cases e with
  |tup es =>
   obtain⟨_,xs,z,hp,hr⟩:=hx;cases z;obtain⟨_,ys,z,hq,hs⟩:=hy;cases z;obtain⟨its,r1,pl1,_⟩:=I.tuple (hJ.1 _ _ hp);obtain⟨its',r2,pl2,_⟩:=I.tuple (hJ.1 _ _ hq);have l1:=r1.length;have l2:=r2.length;have g1:=hr.length;have g2:=hs.length;have hd':deps ds+1<=60:=hd;have hu':X.A.in1.units+deps ds<cLine:=by rw[Bg_];lia
   have hb':deqs ds es=some b:=hb;show SeqAt.RcNeAt.tuples (e:=eAt ds es) pl1 pl2 o_ (λj h1 h2=>by have:=fb_ I hJ ds es hr hs r1 r2 hb' hu' j (by simpa using h1) (by simpa using h2);simpa using this) _ _ _ _ ?_;simp only[Ap_,<-l1,<-l2,g1,g2];rw[b6_ ds es b hb'];show fin
  |_=>simp[deq]at hb
 |lst ds =>
  cases e with
  |lst es =>
   obtain⟨_,xs,z,hp,hr⟩:=hx;cases z;obtain⟨_,ys,z,hq,hs⟩:=hy;cases z;obtain⟨its,r1,pl1,_⟩:=I.list (hJ.2 _ _ hp);obtain⟨its',r2,pl2,_⟩:=I.list (hJ.2 _ _ hq);have l1:=r1.length;have l2:=r2.length;have g1:=hr.length;have g2:=hs.length;have hd':deps ds+1<=60:=hd;have hu':X.A.in1.units+deps ds<cLine:=by rw[Bg_];lia
   rw[deq]at hb;by_cases hl:ds.length=es.length
   .rw[if_pos hl]at hb;show SeqAt.RcNeAt.lists (e:=eAt ds es) pl1.isList pl2.isList (by simp only[Ap_];lia) o_ (λj h1 h2=>by have:=fb_ I hJ ds es hr hs r1 r2 hb hu' j (by simpa using h1) (by simpa using h2);simpa using this) _ _ _ _ ?_;have e3:=b6_ ds es b hb;have e4:min ds.length es.length=ds.length:=o_
    rw[e4,hl]at e3;simp only[C5_,Bool.and_true]at e3;simp only[Ap_,<-l1,g1,hl,e3];show fin
   .rw[if_neg hl]at hb;cases hb;show SeqAt.RcNeAt.lists_lengths pl1.isList pl2.isList (by simp only[Ap_,Dp_,ne_eq];lia) o_ _ _ _ _ fin
  |_=>simp[deq]at hb
 |_=>simp[Rep]at hx
def LP_:R2:=λx y H Q=>∃p q d e b,x=.ref p/\y=.ref q/\Rep H x d/\Rep H y e/\deq d e=some b/\dep d<=60/\Q (.bl (!b)) H
theorem ju_(hu:X.A.units+64<cLine):OpR X (compareOp .NotEq) LP_:=λpins s σ H x y v u Q I rx ry ⟨p,q,d,e,b,h⟩=>rb_ rfl hu pins s σ H x y v u Q I rx ry ⟨H,p,q,d,e,b,Vw.refl,h⟩
variable {h':Heap}
theorem Inv.turnedL{t':Nat}{ch:List Addr}(I:Inv X pins σ H s)(k:∀b o,b∉ch->s.heap.get? b=some o->h'.get? b=some o)(hf:∀b∈ch,Hp_ X pins H b):Inv X pins σ H {s with heap:=h',toks:=t'}:=by
 have nit:∀b u,H b=some u->b∉ch:=λb u e z=>by rw[(hf b z).1]at e;cases e
 show I.step (g':=s.gens) (d':=s.drawn) (ch:=ch) (λb hb=>?_) (λb o _ _ hc e _=>k b o hc e) (λb o _ _ hc e _=>⟨o.slots,k b o hc e⟩) (λ_ _ _ _ n=>n)
  (λb o hc e=>⟨o,k b o hc e⟩) (λ_ _ e=>e) (λ_ _ _ e=>e) (λb ps e=>⟨#[],by rw[e];simp⟩) (λm hm=>?_) (λb u e=>?_) I.bare
 .obtain⟨g0,g1,g2,g3,g4,g5⟩:=hf b hb;show⟨g3,g1,g4,g5⟩
 .obtain⟨o,es,ep,ho,r⟩:=hm;show⟨o,es,ep,k _ o (λz=>(hf _ z).2.1 rfl) ho,r⟩
 .show(I.hok b u e).stay (λc v hc q=>k c v ?_ q) (λ_ q=>q) λ_ _ q=>q
  rcases hc with z|z
  .rw[z];show nit b u e
  .show nit c _ z
def Itz(K:PySem.W.Frag)(a b:Addr):It :=
  ⟨λi H=>∃xs ys x y,SqL K H a xs/\SqL K H b ys/\xs[i]?=some x/\ys[i]?=some y,
   λi H v H'=>∃T x y,v=.ref T/\H T=none/\H'=upd H T (.tup [x,y])/\(∀xs,SqL K H a xs->xs[i]?=some x)/\(∀ys,SqL K H b ys->ys[i]?=some y),
   λi H=>∃xs ys,SqL K H a xs/\SqL K H b ys/\(xs.length<=i\/ys.length<=i)⟩
def iZip(K:PySem.W.Frag)(ta:TA):TI:=λσ H R=>ta σ H λvs H1=>∃a b,vs=[.ref a,.ref b]/\(∃xs,SqL K H1 a xs)/\(∃ys,SqL K H1 b ys)/\R (Itz K a b) H1
variable {elts:List Expr}{kt:Nat}{tpos:Pos}
def rSum(K:PySem.W.Frag):List V->Hp->VK->Prop:=λxs H Q=>∃(p:Addr)(ns:List Int),xs=[V.ref p]/\SqL K H p (ns.map V.int)/\Q (.int ns.sum) H
def I3_:List V->Hp->VK->Prop:=λxs H Q=>∃p ys,xs=[V.ref p]/\(H p=some (.lst ys)\/H p=some (.tup ys))/\∀l,H l=none->Q (.ref l) (upd H l (.lst ys))
theorem b7_:FE_ X (.type "list") I3_:=by intro pins s σ H xs us Q I r h;obtain⟨p,ys,e,hp,q⟩:=h;show jm_ pins s σ H xs us Q I r ⟨p,ys,e,hp.imp (λz=>.inl (.inl z)) (λz=>.inl (.inl z)),q⟩
theorem a0_{es:List Expr}{t:TA}{p:Pos}{n:String}{r:List V->Hp->VK->Prop}(hc:FE_ X (.type n) r)(hg:Gl X x)(hm:X.mg x=none)(hv:bootBuiltins x=some (.type n))(ha:PA X (e::es) t)(hs:EY_ (e::es)=true:=by rfl) (hn:x ≠ "__name__" := by decide) (hdb:(x == ("__debug__" : Str))=false:=by decide):
  PE X (.Call (.Name x p) (e::es) [] pos) (tCB r t):=
 have h':FJ_ e=true/\EY_ es=true:=by simpa[EY_]using hs
 mK_ hc hg hm hv ha hn hdb (ax_ h'.1) (bu_ h'.2)
def G0_(B H:Hp):Hp:=λb=>match B b with|some _=>none|none=>H b
def HG_(B:Hp)(D:Addr)(H:Hp):Hp:=λb=>if b=D then none else G0_ B H b
variable{B:Hp}{b:Addr}
theorem bq_(h:G0_ B H b=some o):B b=none/\H b=some o:=by
 unfold G0_ at h;cases e:B b with
 |some z=>rw[e]at h;cases h
 |none=>rw[e]at h;show⟨rfl,h⟩
theorem dU_(h:B b=none):G0_ B H b=H b:=by unfold G0_;rw[h]
theorem mX_{D:Addr}(h:HG_ B D H b=some o):b≠D/\B b=none/\H b=some o:=by
 unfold HG_ at h;by_cases e:b=D
 .rw[if_pos e]at h;cases h
 .rw[if_neg e]at h;show⟨e,bq_ h⟩
theorem dV_{D:Addr}(e:b≠D)(h:B b=none):HG_ B D H b=H b:=by unfold HG_;rw[if_neg e,dU_ h]
theorem ci_:EM_ (G0_ B H) H:=λb o h=>(bq_ h).2
theorem k9_{D:Addr}:EM_ (HG_ B D H) (G0_ B H):=λb o h=>by obtain⟨h1,h2,h3⟩:=mX_ h;rw[dU_ h2];show h3
theorem jv_{D:Addr}(e:EM_ H H'):EM_ (HG_ B D H) (HG_ B D H'):=λb o h=>by obtain⟨h1,h2,h3⟩:=mX_ h;rw[dV_ h1 h2];show e _ _ h3
theorem jw_(e:EM_ H H'):EM_ (G0_ B H) (G0_ B H'):=λb o h=>by obtain⟨h1,h2⟩:=bq_ h;rw[dU_ h1];show e _ _ h2
theorem la_{D:Addr}:HG_ B D (upd H D o)=HG_ B D H:=by
 funext b;unfold HG_ G0_;by_cases e:b=D
 .rw[if_pos e,if_pos e]
 .rw[if_neg e,if_neg e,af_ e]
theorem cc_{J:It}{g:TG}{te:TE}{σ:St}{H:Hp}{Q:VK}(n:Nat)(B:Hp)(Pσ:St->Prop)(ds:List Dt)(hB:EM_ B H)(h0:Pσ σ)(hlen:ds.length=n)(hz:n<=1000)
  (hgo:∀i H',i<n->EM_ H H'->J.go i H') (hst:∀H',EM_ H H'->J.stop n H')
  (hs:∀D i x d σ' H' H'',H D=none->(∃o,H' D=some o)->EM_ H H'->i<n->ds[i]?=some d->J.yld i H' x H''->Pσ σ'->∀R:St->V->Hp->Prop,
   (∀σ2 v H3,Pσ σ2->EM_ H' H3->Rep (HG_ B D H3) v d->R σ2 v H3)->g x σ' H'' λσ2 H2=>te σ2 H2 λv H3=>R σ2 v H3)
  (hd:∀D H',H D=none->EM_ H H'->Rep (G0_ B H') (.ref D) (.lst ds)->Q (.ref D) H'):Hy_ J g KK_ te σ H Q:=by
 intro D hD;have hBD:B D=none:=hB.free hD;show⟨λi m σ' H'=>m=n-i/\i<=n/\Pσ σ'/\EM_ H H'/\∃ys,H' D=some (.lst ys)/\E7_ (HG_ B D H') ys (ds.take i)/\ys.length=i,⟨n,s_,AP_ _,h0,EM_.new hD,[],ab_,rfl,rfl⟩,?_⟩;rintro i m σ' H' ⟨rfl,hi,hp,hs',ys,hys,hr,hl⟩;by_cases hlt:i<n
 .show .inr ⟨hgo i H' hlt hs',λσ2 H2=>Pσ σ2/\EM_ H H2/\∃ys,H2 D=some (.lst ys)/\E7_ (HG_ B D H2) ys (ds.take (i+1))/\ys.length=i+1,λσ2 H2 ⟨a,b,c⟩=>⟨n-(i+1),o_,rfl,hlt,a,b,c⟩,λx H'' hy=>?_⟩;have hdi:ds[i]?=some ds[i]:=by simp[hlen,hlt]
  simp only[KK_,if_true];show hs D i x ds[i] σ' H' H'' hD ⟨_,hys⟩ hs' hlt hdi hy hp _ λσ2 v H3 hp2 s3 hv=>?_;show⟨ys,s3 _ _ hys,by rw[hl];show EN_ o_,hp2,(hs'.trans s3).upd hD,ys++[v],ab_,?_,by simp[hl]⟩;rw[la_];have e:ds.take (i+1)=ds.take i++[ds[i]]:=by rw[Bp_,hdi];rfl
  rw[e];show(E7_.mono (jv_ s3) _ hr).append ⟨v,[],rfl,hv,rfl⟩
 .have e:i=n:=o_
  subst e;show .inl ⟨hst H' hs',hd D H' hD hs' ⟨D,ys,rfl,?_,?_⟩⟩
  .rw[dU_ hBD];show hys
  .rw[A4_ o_]at hr;show E7_.mono k9_ _ hr
theorem E7_.of_get{xs:List V}{ds:List Dt}{x:V}(h:E7_ H xs ds)(e:xs[i]?=some x):∃d,ds[i]?=some d/\Rep H x d:=by
 have hi:i<xs.length:=(Al_.mp e).1;have hi':i<ds.length:=by rw[<-h.length];show hi
 obtain⟨y,hy,hr⟩:=h.get (i:=i) (d:=ds[i]) (by simp[hi']);rw[e]at hy;cases hy;show⟨ds[i],by simp[hi'],hr⟩
theorem br_{X:Cx}{K:PySem.W.Frag}{es:List Expr}{k:Nat}{t:TGs}{n:Nat}{pos:Pos}(hK:X.K=K)(hc:X.calm=true)(h:PGs X es t)
  (hn:(assignEach es X.env).length=n:=by rfl) (hst:(assignEach es X.env).findIdx? (·.1)=none:=by rfl):PG X (.Tuple es k pos) (KJ_ K n t):=hK▸qV_ hc h hn hst
def Pl2(h:Heap)(e:Addr):Prop:=∃o vs,h.get? e=some o/\o.data=.fields vs/\vs[2]?=some .none
def GF_(base:Heap)(l:List Env)(e:Addr)(cls a0 fl:Value)(h:Heap):Prop:=base.StaysIn h/\base.get? e=none/\h.FunFrames base l/\h.TracedAtW base e cls a0 fl/\Pl2 h e
abbrev Fly(base:Heap)(l:List Env)(e:Addr)(cls a0:Value)(h:Heap):Prop:=GF_ base l e cls a0 .none h
variable{cls a0:Value}
theorem GF_.there{l:List Env}{e:Addr}{fl:Value}(x:GF_ base l e cls a0 fl h):∃ob,h.get? e=some ob/\ob.cls=cls:=x.2.2.2.1.there
variable {M:Model}{E:Value->Shared->Prop}{env:Env}{outer:List Env}{L e:Addr}{Q:Unit->Shared->Prop}
theorem jx_{oe:Obj}{vs:Array Value}{head a0:Value}{hn:Bool}(fr:A.frames=some (env::outer))(ff:s.heap.FunFrames base (env::outer))(ef:env.frame=some L)(he:s.heap.get? e=some oe)(kb:base.StaysIn s.heap)(en:base.get? e=none)
  (hd:oe.data=.fields vs) (sz:1<vs.size) (h0:vs[0]?=some a0) (h2:vs[2]?=some .none) (k:∀g,GF_ base (env::outer) e oe.cls a0 (rawInt L) g->s.heap.UpToSlots g->Q () {s with heap:=g}):
  wpAny M A (do let a <-frameOf env;let pl <-entryPlaceOf L hn;let b <-EntryCells.newEntry head a .none (rawInt L) .none pl;setField (.ref e) 1 b) Q E s:=by
 have out:e∉(env::outer).filterMap (·.frame):=λz=>by obtain⟨_,o,q,nf⟩:=ff.mem z;cases he.symm.trans q;show nf _ hd
 show Af_ (wpAny_frameOf_fun fr ff ef λg sg=>Af_ (wpAny_entryPlaceOf λpl hp=>?_));unfold EntryCells.newEntry newFields;show Af_ (Cf_ ?_ (hp.sizeOk5 _ _ _ _ _));generalize hob:({cls:=.type "traceback",dict:=none,data:=.fields ([head,Value.ref L,.none,rawInt L,.none]++(if pl.isEmpty then List.replicate 6 Value.none else pl)).toArray}:Obj)=ob;have ge:g.get? e=some oe:=(sg.2.1 e out).trans he;have Te:g.objs.size≠e:=C3_ (Au_ ge);have pe:=Aj_ ob ge;show wpAny_setField pe hd sz ?_;have d3:=Obj.data_mapFields hd (·.setIfInBounds 1 (Value.ref g.objs.size));have e3:=Ci_ (Obj.mapFields (·.setIfInBounds 1 (Value.ref g.objs.size))) pe (Obj.isFreed_of_fields d3);have fo:ob.isFreed=false:=by rw[<-hob];rfl
 have T3:=(A8_ (g.push ob) (Obj.mapFields (·.setIfInBounds 1 (Value.ref g.objs.size))) (Ne.symm Te)).trans (AC_ g fo);have kp:∀b o,b≠e->g.get? b=some o->((g.push ob).update e (Obj.mapFields (·.setIfInBounds 1 (Value.ref g.objs.size)))).get? b=some o:=λb o ne q=>by rw[A8_ _ _ (Ne.symm ne)];show Aj_ ob q
 have nr:∀b o,s.heap.get? b=some o->(∀us,o.data≠.fields us)->b≠e:=λb o q nf z=>by rw[z]at q;cases he.symm.trans q;show nf _ hd
 have kbg:base.StaysIn g:=λb o q=>(sg.2.1 b λz=>by rw[(ff.mem z).1]at q;cases q).trans (kb b o q);have up:s.heap.UpToSlots ((g.push ob).update e (Obj.mapFields (·.setIfInBounds 1 (Value.ref g.objs.size)))):=λb o q nf=>(sg.2.2 b o q).elim λsl z=>⟨sl,kp b _ (nr b o q nf) z⟩;show k _ ⟨λb o q=>kp b o (λz=>by rw[z,en]at q;cases q) (kbg b o q),en,ff.of_keeps λb o q nf=>(up b o q nf).elim λsl z=>⟨_,z,rfl⟩,⟨_,_,g.objs.size,ob,_,e3,⟨Obj.cls_mapFields _ _,?_⟩,d3,?_,kbg.fresh,Te,T3,by rw[<-hob],?_⟩,_,_,e3,d3,?_⟩ up
 .rw[Array.getElem?_setIfInBounds_ne d_];show h0
 .simp[sz]
 .first|(simp;done)|(rcases hp with rfl|⟨_,_,_,_,_,_,_,rfl⟩ <;> simp)
 .rw[Array.getElem?_setIfInBounds_ne d_];show h2
theorem lb_{oe:Obj}{vs:Array Value}{a0:Value}(fr:A.frames=some (env::outer))(ef:env.frame=some L)(kb:base.StaysIn s.heap)(en:base.get? e=none)(ff:s.heap.FunFrames base (env::outer))(he:s.heap.get? e=some oe)(hd:oe.data=.fields vs)(h0:vs[0]?=some a0)(h2:vs[2]?=some .none)
  (h1:vs[1]?=some .none\/∃T oT ts,vs[1]?=some (.ref T)/\base.get? T=none/\T≠e/\s.heap.get? T=some oT/\oT.data=.fields ts/\ts[3]?=some .none) (k:∀g,GF_ base (env::outer) e oe.cls a0 (rawInt L) g->s.heap.UpToSlots g->Q () {s with heap:=g}):
  wpAny M A (noteFrame (.ref e) env) Q E s:=by
 unfold noteFrame;simp only[ef]
 rcases h1 with h1|⟨T,oT,ts,h1,nT,Te,hT,dT,h3⟩
 .show Af_ (Co_ he hd h1 ?_);rw[if_neg d_];show jx_ fr ff ef he kb en hd (Array.getElem?_eq_some_iff.mp h1).1 h0 h2 k
 .show Af_ (Co_ he hd h1 ?_);rw[if_pos (show(Value.ref T != Value.none)=true by simp)];show Af_ (Co_ hT dT h3 ?_);rw[if_neg (show ¬ (Value.none == rawInt L)=true by simp[rawInt])];show Af_ (wpAny_setField hT dT (Array.getElem?_eq_some_iff.mp h3).1 ?_);have oth:∀b,b≠T->(s.heap.update T (Obj.mapFields (·.setIfInBounds 3 Value.none))).get? b=s.heap.get? b:=λb hb=>A8_ _ _ (Ne.symm hb);have nr:∀b o,s.heap.get? b=some o->(∀us,o.data≠.fields us)->b≠T:=λb o q nf z=>by rw[z]at q;cases hT.symm.trans q;show nf _ dT
  have up:s.heap.UpToSlots (s.heap.update T (Obj.mapFields (·.setIfInBounds 3 Value.none))):=λb o q nf=>⟨o.slots,(oth b (nr b o q nf)).trans q⟩;show jx_ fr (ff.of_keeps λb o q nf=>⟨o,(oth b (nr b o q nf)).trans q,rfl⟩) ef ((oth e (Ne.symm Te)).trans he) (λb o q=>(oth b λz=>by rw[z,nT]at q;cases q).trans (kb b o q)) en hd (Array.getElem?_eq_some_iff.mp h1).1 h0 h2 λg x1 x2=>k g x1 (up.trans x2)
theorem fA_{l:List Env}{fl:Value}(x:GF_ base l e cls a0 fl s.heap)(k:∀g,Fly base l e cls a0 g->s.heap.UpToSlots g->Q () {s with heap:=g}):wpAny M A (setFlight (.ref e) none) Q E s:=by
 obtain⟨kb,en,ff,⟨oe,vs,T,oT,ts,he,hc,hd,h1,nT,Te,hT,dT,h3⟩,p2⟩:=x;have s3:3<ts.size:=(Array.getElem?_eq_some_iff.mp h3).1;unfold setFlight;show Af_ (Co_ he hd h1 ?_);rw[if_pos (show(Value.ref T != Value.none)=true by simp)];show wpAny_setField hT dT s3 ?_;have oth:∀b,b≠T->(s.heap.update T (Obj.mapFields (·.setIfInBounds 3 ((none:Option Addr).elim Value.none λf=>rawInt f)))).get? b=s.heap.get? b:=λb hb=>A8_ _ _ (Ne.symm hb);have nr:∀b o,s.heap.get? b=some o->(∀us,o.data≠.fields us)->b≠T:=λb o q nf z=>by rw[z]at q;cases hT.symm.trans q;show nf _ dT
 show k _ ⟨λb o q=>(oth b λz=>by rw[z,nT]at q;cases q).trans (kb b o q),en,ff.of_keeps λb o q nf=>⟨o,(oth b (nr b o q nf)).trans q,rfl⟩,⟨oe,vs,T,_,_,(oth e (Ne.symm Te)).trans he,hc,hd,h1,nT,Te,Ci_ _ hT (Obj.isFreed_of_fields (Obj.data_mapFields dT _)),Obj.data_mapFields dT _,by simp[s3]⟩,?_⟩ λb o q nf=>⟨o.slots,(oth b (nr b o q nf)).trans q⟩;obtain⟨o,us,z1,z2,z3⟩:=p2;show⟨o,us,(oth e (Ne.symm Te)).trans z1,z2,z3⟩
theorem jy_(fr:A.frames=some (env::outer))(ef:env.frame=some L)(x:Fly base (env::outer) e cls a0 s.heap)(k:∀g,GF_ base (env::outer) e cls a0 (rawInt L) g->s.heap.UpToSlots g->Q () {s with heap:=g}):wpAny M A (noteFrame (.ref e) env) Q E s:=by obtain⟨kb,en,ff,⟨oe,vs,T,oT,ts,he,⟨hc,h0⟩,hd,h1,nT,Te,hT,dT,h3⟩,o,us,z1,z2,z3⟩:=x;subst hc;cases he.symm.trans z1;cases hd.symm.trans z2;show lb_ fr ef kb en ff he hd h0 z3 (.inr ⟨T,oT,ts,h1,nT,Te,hT,dT,h3⟩) k
theorem GF_.less{fl:Value}(x:GF_ base (env::outer) e cls a0 fl h):GF_ base outer e cls a0 fl h:=⟨x.1,x.2.1,x.2.2.1.2.2,x.2.2.2⟩
theorem rc_(fr:A.frames=some (env::outer))(ef:env.frame=some L)(x:Fly base (env::outer) e cls a0 s.heap)(k:∀g,Fly base outer e cls a0 g->s.heap.UpToSlots g->Q () {s with heap:=g}):wpAny M A (leaving env (.ref e)) Q E s:=by unfold leaving;show Af_ (jy_ fr ef x λg y1 y2=>fA_ (s:={s with heap:=g}) y1 λg2 z1 z2=>k g2 z1.less (y2.trans z2))
theorem oe_{h:Heap}{cls:Value}{args:List Value}(fr:A.frames=some (env::outer))(ef:env.frame=some L)(kb:base.StaysIn h)(ff:h.FunFrames base (env::outer))(x:Heap.MadeExcOf h s.heap e cls args)
  (k:∀g t,Fly base outer e cls (.ref t) g->s.heap.UpToSlots g->Q () {s with heap:=g}):wpAny M A (leaving env (.ref e)) Q E s:=by
 obtain⟨t,he,tn,ht⟩:=x.there
 have en:base.get? e=none:=by
  cases q:base.get? e with
  |none=>rfl
  |some o=>have:=kb e o q;rw[x.new]at this;cases this
 unfold leaving;show Af_ (lb_ fr ef (λb o q=>x.keeps b o (kb b o q)) en (ff.of_keeps λb o q _=>⟨o,x.keeps b o q,rfl⟩) he rfl rfl rfl (.inl rfl) λg y1 y2=>fA_ (s:={s with heap:=g}) y1 λg2 z1 z2=>k g2 t z1.less (y2.trans z2))
def CXR(P:Program)(w:World):CXT:=λouter H s E e s' =>
 ∃(ea:Addr)(C a0:Value)(B:Heap)(H':Hp),e=.ref ea/\s'.os=s.os/\AllBare s'.gens/\Un (frs outer) [] H H' s.heap s'.heap/\HOk P w H' s'.heap /\
  Fly B outer ea C a0 s'.heap/\s.heap.get? ea=none/\(∀b o,s.heap.get? b=some o->b∉frs outer->∃u,B.get? b=some u)/\(∀b o,H' b=some o->∃u,B.get? b=some u)/\E C none H'
theorem Fr_.obj(x:Fr_ P w H h a o):∃u,h.get? a=some u:=by
 cases o with
 |lst xs=>obtain⟨_,_,_,_,e⟩:=x;show⟨_,e⟩
 |tup xs=>obtain⟨_,_,_,ob,e,_⟩:=x;show⟨_,e⟩
 |dK kvs=>obtain⟨_,_,_,_,o,_,_,e,_⟩:=x;show⟨_,e⟩
 |dT kvs=>obtain⟨_,_,_,_,o,_,_,e,_⟩:=x;show⟨_,e⟩
 |set S n=>obtain⟨o,_,_,_,e,_⟩:=x;show⟨_,e⟩
 |ins C dx fs=>obtain⟨_,_,_,e,_⟩:=x;show⟨_,e⟩
 |own y=>show x
 |xd fs=>obtain⟨_,⟨_,_,_,e,_⟩,_⟩:=x;show⟨_,e⟩
 |rng lo hi=>obtain⟨_,_,_,e⟩:=x;show⟨_,e⟩
 |frz ob u=>obtain⟨e,_⟩:=x;show⟨_,e⟩
 |tbl ps=>show⟨_,show h.get? a=some _ from x⟩
 |met f y=>show⟨_,show h.get? a=some _ from x⟩
 |ext φ=>obtain⟨_,e,_⟩:=x;show e
theorem ha_{P:Program}{w:World}{l:List Env}{H H':Hp}{h h1 h2 B:Heap}(u:Un (frs l) [] H H' h h1)(hok:HOk P w H' h1)(s1:B.StaysIn h1)(s2:B.StaysIn h2)(ff:h1.FunFrames B l)(sm:h1.UpToSlots h2)
  (b1:∀b o,h.get? b=some o->b∉frs l->∃u,B.get? b=some u) (b2:∀b o,H' b=some o->∃u,B.get? b=some u):Un (frs l) [] H H' h h2/\HOk P w H' h2:=by
 have same:∀{b o},(∃v,B.get? b=some v)->h1.get? b=some o->h2.get? b=some o:=λ{b o} ⟨v,e⟩ q=>by have:=s1 b v e;rw[q]at this;cases this;show s2 b _ e
 show⟨⟨λb o q n hb hx=>same (b1 b o q hb) (u.keep b o q n hb hx),λb o q n hb hx=>?_,u.free,λb o q hx=>?_,u.tups,u.frzs,u.tbls⟩,λa o e=>?_⟩
 .obtain⟨sl,e⟩:=u.slot b o q n hb hx;obtain⟨_,ob,e2,nf⟩:=ff.mem hb;rw[e]at e2;cases e2;obtain⟨sl',e3⟩:=sm b _ e nf;show⟨sl',e3⟩
 .by_cases hb:b∈frs l
  .obtain⟨_,ob,e2,nf⟩:=ff.mem hb;obtain⟨sl',e3⟩:=sm b _ e2 nf;show⟨_,e3⟩
  .obtain⟨v,e⟩:=b1 b o q hb;show⟨v,s2 b v e⟩
 .show(hok a o e).stay (λb v hb q=>same ?_ q) (λ_ q=>q) λ_ _ q=>q
  rcases hb with rfl|hb
  .show b2 _ _ e
  .show b2 _ _ hb
structure ExC(K:PySem.W.Frag)(C:Addr):Prop where
 obj:∀{h:Heap},K.In h->∃bm N nm q bs hdct sn sub ab col dd k0 k1 k2 k3 k5 mN,h.get? C=some (excClassObj nm q C N bs bm hdct sn sub ab col dd k0 k1 k2 k3 k5 "ValueError.__new__")/\h.Ns N mN/\mN "__init__"=none /\
  OwnTail h [.type "ValueError",.type "Exception",.type "BaseException",.type "object"] bm
theorem mY_{C:Addr}(q:PySem.W.excIn K C [.type "ValueError",.type "Exception",.type "BaseException",.type "object"] "ValueError.__new__"=true):ExC K C:=by
 show⟨λ{h} XI=>?_⟩;unfold PySem.W.excIn at q;split at q
 .rename_i dd cd sl ho;split at q
  .rename_i C' bm k0 k1 k2 k3 n k5 hm hs;simp only[Bz_,beq_iff_eq,Bool.not_eq_true']at q;obtain⟨⟨⟨⟨⟨q1,q2⟩,q3⟩,q4⟩,q5⟩,q6⟩:=q;subst q1 q2;obtain⟨nm,bs,mro,ns,qn,hd,sn,sub,ab,col,del⟩:=cd
   dsimp only at hm q3 q5 q6
   subst hm q3;have hsl:sl = #[k0,k1,k2,k3,some (.builtin "ValueError.__new__"),k5]:=by obtain⟨l⟩:=sl;show congrArg Array.mk hs
   subst hsl;show⟨bm,ns,nm,qn,bs,hd,sn,sub,ab,col,dd,k0,k1,k2,k3,k5,_,XI _ _ ho,.of_isNs (PySem.W.isNs_of_in XI q5),PySem.W.nsMap_none_of_in XI q5 q6,PySem.W.tail_of_in XI q4⟩
  .cases q
 .cases q
theorem kp_{M:Model}{A:Around}{EE:Value->Shared->Prop}{s:Shared}{env:Env}{fv:Value}{e₀:Expr}{rest:List Expr}{cpos:Pos}{Q:Args->Shared->Prop}(he:starEach (e₀::rest) env=(false,eval e₀ env)::starEach rest env)
  (h:wpAny M A (spliced (backTo cpos (starEach (e₀::rest) env))) (λvs s'=>Q ⟨vs,[]⟩ s') EE s):wpAny M A (evalArgs fv true (backTo cpos (starEach (e₀::rest) env)) []) Q EE s:=by
 rw[he]at h⊢;show Calls.evalArgs_plain h
def JW_(C:Addr)(E:XK)(ta:TA):TS:=λ_ σ H=>ta σ H λvs H1=>vs.length<=sizeLine/\E (.ref C) none H1
variable {N:List Str}{qual:Str}{f:Addr}{cd:Value}{s₀:Shared}{H₀:Hp}{E:XK}
theorem cz_{x:Str}{C:Addr}{np cpos pos:Pos}{e₀:Expr}{rest:List Expr}{ta:TA}(OC:ExC K C)(hm:mg x=some (.ref C))(hh:A.handled=none)(hg:Gl (Hj_ (CXR P w) P w K mg base N qual scope f cd A outer s₀ H₀ E) x)
  (ha:PA (Hj_ (CXR P w) P w K mg base N qual scope f cd A outer s₀ H₀ E) (e₀::rest) ta) (hd:(x == ("__debug__" : Str))=false:=by decide)
  (he:starEach (e₀::rest) (envOfC qual scope s₀.heap.objs.size f cd)=(false,eval e₀ (envOfC qual scope s₀.heap.objs.size f cd))::starEach rest (envOfC qual scope s₀.heap.objs.size f cd):=by rfl)
  (hpl:(backTo cpos (starEach rest (envOfC qual scope s₀.heap.objs.size f cd))).any (·.1)=false:=by rfl):
  PS (Hj_ (CXR P w) P w K mg base N qual scope f cd A outer s₀ H₀ E) (.Raise (some (.Call (.Name x np) (e₀::rest) [] cpos)) none pos) (JW_ C E ta):=by
 intro pins s σ H D I h;obtain⟨bm,Nn,nm,q,bs,hdct,sn,sub,ab,col,dd,k0,k1,k2,k3,k5,mN,hC,hN,hni,TL⟩:=OC.obj I.mod.kin
 show wpAny_Raise_call_subT (C:=C) (nm:=nm) (q:=q) (N:=Nn) (bs:=bs) (bm:=bm) (hdct:=hdct) (sn:=sn) (sub:=sub) (ab:=ab) (col:=col) (dd:=dd) (k0:=k0) (k1:=k1) (k2:=k2) (k3:=k3) (k5:=k5)
  F.excBase_ValueError (mN:=mN) (TL.hasType F.excBase_ValueError.hasBase) hh ?_ hni (ga_ I hg hm ⟨rfl,?_⟩ hd)
 .change(backTo cpos (starEach (e₀::rest) (envOfC qual scope s₀.heap.objs.size f cd))).any (·.1)=false;rw[he];show hpl
 have z:=ha cpos pins s σ H _ I h;show kp_ he (thn z λus s2 ⟨vs,H1,I1,r,hz,hE⟩=>⟨rfl,by rw[<-r.length];show hz,I1.bk _ _ hC,hN.keeps I1.bk,TL.keeps I1.bk,λh' e hx=>?_⟩);have hin:∀env∈(envOfC qual scope s₀.heap.objs.size f cd::outer),∀b,env.frame=some b->b∈frs (envOfC qual scope s₀.heap.objs.size f cd::outer):=λenv he b hb=>B7_.mpr ⟨env,he,hb⟩;have stk:s2.heap.FunFrames base (envOfC qual scope s₀.heap.objs.size f cd::outer):=I1.stack;have hl:=PySem.W.funFrames_hide stk hin;show oe_ (base:=PySem.W.hideAll s2.heap (frs (envOfC qual scope s₀.heap.objs.size f cd::outer))) I1.ok.frames rfl (λb o q=>PySem.W.of_hideAll _ q) hl hx λh'' t x1 x4=>?_;have b2:∀b o,H1 b=some o->∃u,(PySem.W.hideAll s2.heap (frs (envOfC qual scope s₀.heap.objs.size f cd::outer))).get? b=some u:=λb o e=>by obtain⟨u,hu⟩:=(I1.hok b o e).obj;show⟨u,PySem.W.hideAll_get _ hu λz=>?_⟩;rw[I1.stkFree b z]at e;cases e
 have b1:∀b o,s₀.heap.get? b=some o->b∉frs outer->∃u,(PySem.W.hideAll s2.heap (frs (envOfC qual scope s₀.heap.objs.size f cd::outer))).get? b=some u:=λb o e nb=>by
  obtain⟨u,hu⟩:=I1.base.there b o e (λz=>nomatch z);show⟨u,PySem.W.hideAll_get _ hu λz=>?_⟩
  rcases Aq_.mp (I1.stkSub b z)with z|z
  .show absurd z (AE_ (AH_ (Au_ e) I1.ok.above))
  .show nb z
 obtain⟨un,ok⟩:=ha_ (l:=outer) I1.base I1.hok (λb o q=>PySem.W.of_hideAll _ q) x1.1 hl.2.2 ((Heap.UpToSlots.of_keeps hx.keeps).trans x4) b1 b2;show⟨e,.ref C,.ref t,_,H1,rfl,I1.os,I1.bare,un,ok,x1,?_,b1,b2,hE⟩;cases q:s₀.heap.get? e with
 |none=>rfl
 |some o =>obtain⟨u,hu⟩:=I1.base.there e o q (λz=>nomatch z);rw[hx.new]at hu;cases hu
theorem Iq_:Gi_ (CXR P w) (Hj_ (CXR P w) P w K mg base N qual scope f cd A outer s₀ H₀ E) E:=by
 intro pins σ H s e s' I ⟨ea,C,a0,B,H',e0,os,bare,un,hok,fl,new,b1,b2,hE⟩;subst e0;show rc_ (base:=B) I.ok.frames rfl fl λh'' x1 x2=>?_;obtain⟨un2,ok2⟩:=ha_ (l:=envOfC qual scope s₀.heap.objs.size f cd::outer) un hok fl.1 x1.1 fl.2.2.1 x2 b1 b2;have J:=I.call (h':=h'') (g':=s'.gens) (d':=s'.drawn) (t':=s'.toks) (ch:=[]) un2 ok2 bare (λb z=>nomatch z);show⟨ea,C,a0,B,H',rfl,os.trans I.os,bare,J.base,ok2,x1,?_,λb o e nb=>?_,b2,hE⟩
 .cases q:s₀.heap.get? ea with
  |none=>rfl
  |some o =>obtain⟨u,hu⟩:=I.base.there ea o q (λz=>nomatch z);rw[new]at hu;cases hu
 .obtain⟨u,hu⟩:=I.base.there b o e (λz=>nomatch z);show b1 b u hu λz=>?_
  rcases Aq_.mp (I.stkSub b z)with z|z
  .show absurd z (AE_ (AH_ (Au_ e) I.ok.above))
  .show nb z
def HX_(P:Program)(w:World)(K:PySem.W.Frag)(mg:Str->Option Value)(base:Heap)(x:Str)(ps:List Str)(k:Nat)(sp:Sp):Prop :=
 ∃f fd,mg x=some (.ref f)/\PySem.W.keepIn K (.ref f)=true/\Gl_ K fd ps []/\GU_ P w K mg base (CXR P w) k f fd ps sp
theorem hA_{P:Program}{w:World}{K:PySem.W.Frag}{mg:Str->Option Value}{base:Heap}{x:Str}{st:Stmt}{N ps:List Str}{k:Nat}{sp:Sp}(F:Fn0 K mg x st)(S:EU_ N ps (EL_ st))
  (hb:∀(kV doc pm:Value)(an:Option Addr)(cdv ct:Value)(us:List Value),us.length=ps.length->bindArgs (PySem.W.fnOf x x (FR_ st) (Fs_ st) (EL_ st) .none kV doc pm an cdv ct) ⟨us,[]⟩=pure (ps.zip us))
  (len:∀vs H Q E,sp vs H Q E->vs.length=ps.length)
  (hbody:∀(f:Addr)(cdv:Value)(A:Around)(outer:List Env)(s:Shared)(H:Hp)(vs:List V)(Q:VK)(E:XK),F3_ k (A.deeper (envOfC x (EL_ st) s.heap.objs.size f cdv))->sp vs H Q E ->
   ∃t,PSs (Hj_ (CXR P w) P w K mg base N x (EL_ st) f cdv A outer s H E) (Fs_ st) t/\t {nx:=λ_ H'=>Q .non H',rt:=Q} (start N vs) H):HX_ P w K mg base x ps (k+1) sp:=by
 obtain⟨f,fd,F,m⟩:=F;show⟨f,fd,m,F.kp,F.binds hb,?_⟩;obtain⟨oc,od,kV,doc,pm,an,cdv,ct,osl,rfl,lk,hcd⟩:=F.ex;show Jz_ lk hcd S len λA outer s H vs Q E hr hsp=>hbody f cdv A outer s H vs Q E hr hsp
abbrev Cx.suite(X:Cx)(e:Value):Cx:={X with A:=X.A.mark (some e),calm:=false,xe:=λ_ _=>False}
variable {σ:List (Option V)}
theorem Inv.suite(I:Inv X pins σ H s)(e:Value):Inv (X.suite e) pins σ H s :=
 ⟨⟨I.ok.mod,I.ok.kind,I.ok.glob,I.ok.blt,I.ok.above,I.ok.inj,I.ok.has,I.ok.cab,(λz=>nomatch z),I.ok.frames,I.ok.stk,I.ok.exf,I.ok.bs,I.ok.bsz,I.ok.noex,I.ok.exfs,I.ok.funs,I.ok.frf⟩,I.os,I.bare,I.base,I.loc,I.cell,I.free,I.freeC,I.pin,I.hok,I.len⟩
def exO(C:Value)(a:Addr):HO:=.ext λh=>∃o,h.get? a=some o/\o.cls=C
theorem iB_{M:Model}{A:Around}{EE:Value->Shared->Prop}{n:Str}{pos:Pos}{i:Nat}{Q:Unit->Shared->Prop}(I:Inv X pins σ H s)(hN:X.N.Nodup)(hi:X.N[i]?=some n)(hk:X.env.scope.names.lookup n=some .local)
  (h:∀s',Inv X pins (σ.set i none) H s'->Q () s'):wpAny M A (do bindName X.env n .none;unbindBehindTheSuite X.env n pos) Q EE s:=by
 obtain⟨m,hn,hl⟩:=id I.loc;have hcls:(X.env.scope.kind == .class ||(X.env.scope.kind == .module && X.env.locals != X.env.globals))=false:=by rw[I.ok.kind];rfl
 have hiσ:i<σ.length:=by rw[I.len];show(Al_.mp hi).1
 have cne:=I.cne;show wpAny_nameGoes_keeps hk hn hcls λh' v hn' hs=>?_;obtain⟨oL,_,_,hoL,_⟩:=id hn;have old:∀{b o},X.s₀.heap.get? b=some o->h'.get? b=s.heap.get? b:=λ{b o} e=>hs.2 b (AE_ (AH_ (Au_ e) I.ok.above));show h _ ⟨I.ok,I.os,I.bare,⟨λb o e n hb hx=>(old e).trans (I.base.keep b o e n hb hx),λb o e n hb hx=>?_,I.base.free,λb o e hx=>?_,I.base.tups,I.base.frzs,I.base.tbls⟩,⟨_,hn',λj y v' e1 e2 e3=>?_⟩,λy c e=>?_,I.free,I.freeC,λp hp=>?_,λb ob e=>?_,by simpa using I.len⟩
 .obtain⟨sl,e1⟩:=I.base.slot b o e n hb hx;show⟨sl,(old e).trans e1⟩
 .obtain⟨o',e1⟩:=I.base.there b o e hx;show⟨o',(old e).trans e1⟩
 .by_cases hj:j=i
  .subst hj;rw[Cw_ hiσ]at e2;cases e2
  .rw[CI_ (Ne.symm hj)]at e2;obtain⟨u',r',q⟩:=hl j y v' e1 e2 e3;show⟨u',r',?_⟩
   rcases q with⟨k,e⟩|⟨k,c,e,z⟩
   .show .inl ⟨k,?_⟩;have:y≠n:=λe=>hj (iv_ hN e1 (e▸hi));simp[this,e]
   .show .inr ⟨k,c,e,z.sameBut hs (cne y c e)⟩
 .obtain⟨w',z⟩:=I.cell y c e;show⟨w',z.sameBut hs (cne y c e)⟩
 .obtain⟨e,n,ne,nf,d⟩:=I.pin p hp;show⟨(hs.2 p.1 ne).trans e,n,ne,nf,d⟩
 .show(I.hok b ob e).stay (λc w' hc q=>(hs.2 c ?_).trans q) (λ_ q=>q) λ_ _ q=>q;intro z;have z2:=I.free;rw[<-z]at z2
  rcases hc with hc|hc
  .rw[hc,e]at z2;cases z2
  .rw[hc]at z2;cases z2
structure HnC(K:PySem.W.Frag)(C:Addr):Prop where
 ty:PySem.W.typeIn K (.ref C)=some (.type "type")
 cl:(PySem.W.clsIn K C).isSome=true
 ex:PySem.W.mroIn K C (.type "BaseException")=some true
theorem gL_{C:Addr}(X:K.In h)(e:(PySem.W.clsIn K C).isSome=true):PySem.W.Looks M h (isType (.ref C)) true:=by
 unfold PySem.W.clsIn at e;split at e
 .rename_i ho;intro A' Q' E' s' k q;unfold isType loadHead;show Af_ (wpAny_loadPart (k _ _ (X _ _ ho)) (Ax_ q))
 .cases e
theorem kq_{K:PySem.W.Frag}{prog:Program}{w:World}{A:Around}{EE:Value->Shared->Prop}{s:Shared}{ea C Py:Addr}{Q:Bool->Shared->Prop}(X:K.In s.heap)(HC:HnC K Py)(hsub:PySem.W.mroIn K C (.ref Py)=some true)
  (ho:∃o,s.heap.get? ea=some o/\o.cls=.ref C) (h:Q true s):wpAny (model prog w) A (excMatches (.ref ea) (.ref Py)) Q EE s:=by
 obtain⟨hh,g,d,t,os⟩:=s;obtain⟨ob,ho,hc⟩:=ho;have L1:=PySem.W.looks_typeIn (M:=model prog w) X HC.ty;have L2:=gL_ (M:=model prog w) X HC.cl;have L3:=PySem.W.looks_mroIn (M:=model prog w) X HC.ex;have L4:PySem.W.Looks (model prog w) hh (typeOf (.ref ea)) (.ref C):=hc▸(PySem.W.Looks.ld ho).andThen .now;have L5:=PySem.W.looks_mroIn (M:=model prog w) X hsub;have L6:PySem.W.Looks (model prog w) hh (isSubtype (.type "type") (.type "tuple")) false:=PySem.W.Looks.of_pure tc_notTuple;unfold excMatches isInstance isExcClass
 repeat lk
 show h
def GZ_.unb(D:GZ_)(i:Nat):GZ_:={nx:=λσ H=>D.nx (σ.set i none) H,rt:=D.rt,bk:=λσ H=>D.bk (σ.set i none) H,ct:=λσ H=>D.ct (σ.set i none) H}
def tTry(K:PySem.W.Frag)(Py:Addr)(sp:Sp)(ta:TA)(i:Nat)(ts:TS):TS:=λD σ H=>ta σ H λvs H1=>sp vs H1 (λ_ _=>False) λc _ H2 =>∃C,c=.ref C/\PySem.W.mroIn K C (.ref Py)=some true/\∀ea,H2 ea=none->ts (D.unb i) (σ.set i (some (.ref ea))) (upd H2 ea (exO (.ref C) ea))
section
variable {ps:List Str}{k:Nat}{sp:Sp}{e:Expr}{es:List Expr}{t:TA}{p:Pos}
theorem fB_(C:HX_ X.prog X.w X.K X.mg X.base x ps k sp)(hr:F3_ k X.A)(hx:Gi_ (CXR X.prog X.w) X E)(hg:Gl X x)(ha:PA X (e::es) t)(hs:EY_ (e::es)=true:=by rfl) (hdb:(x == ("__debug__" : Str))=false:=by decide):
  PE X (.Call (.Name x p) (e::es) [] pos) (GQ_ sp [] E t):=by
 obtain⟨f,fd,m,kp,b,F⟩:=C;have h':FJ_ e=true/\EY_ es=true:=by simpa[EY_]using hs
 show mI_ F hr hg m kp b .nil hx ha hdb (ax_ h'.1) (bu_ h'.2)
end
structure Js_(K:PySem.W.Frag)(C:Addr):Prop where
 cl:(PySem.W.clsIn K C).isSome=true
 ga:PySem.W.findIn K (.ref C) "__getattribute__"=some (some (.builtin "BaseException.__getattribute__"))
 gh:PySem.W.findIn K (.ref C) "__getattr__"=some none
 at_:PySem.W.findIn K (.ref C) "__class__"=some (some (.builtin "object.__class__"))
 get:PySem.W.specialIn K (.builtin "object.__class__") "__get__"=some (some (.builtin "getset_descriptor.__get__"))
 set:PySem.W.takesIn K (.builtin "object.__class__")=some true
 obj:PySem.W.mroIn K C (.type "object")=some true
 exc:PySem.W.mroIn K C (.type "BaseException")=some true
def Jn_(x:Addr)(D:Value)(h:Heap):Prop:=∃o,h.get? x=some o/\o.cls=D
theorem Jn_.ty{x:Addr}{D:Value}(p:Jn_ x D h):PySem.W.Looks M h (typeOf (.ref x)) D:=by obtain⟨o,h1,h2⟩:=p;show h2▸(PySem.W.Looks.ld h1).andThen .now
theorem og_{x D:Addr}{tp:Value}(KE:Js_ K D)(X:K.In s.heap)(p:Jn_ x (.ref D) s.heap)(h:R (.ok (.ret (.ref D))) s):
  codeAny (model prog w) A (.call (.builtin "getset_descriptor.__get__") ⟨[.builtin "object.__class__",.ref x,tp],[]⟩) R s:=by
 obtain⟨hp,gs,dr,tks,oss⟩:=s;have T0:=p.ty (M:=model prog w);have T6:=PySem.W.looks_mroIn (M:=model prog w) X KE.obj;show codeAny_call_builtin PySem.W.KF.slot_gs.plain PySem.W.KF.entry_gs (PySem.W.KF.slot_gs.check _ _ _ _ _ _ _ _ PySem.W.KF.type_class (PySem.W.KF.args_gs _ _ _) ?_);unfold Builtin.«getset_descriptor.__get__» Builtin.Getset_descriptor.descrGet;rw[PySem.W.dga_obj];show Af_ (Ax_ ?_);unfold Builtin.Getset_descriptor.descrGetter Builtin.Getset_descriptor.descrCheckInstance Builtin.Getset_descriptor.descrNameAndClass isInstance;simp only[PySem.W.KF.owner_class]
 repeat lk
 show⟨Code.quiet_builtin _ r_,BQ_ PySem.W.KF.entry_class ?_⟩;unfold Builtin.«object.__class__»;unfold shownTypeOf
 repeat lk
 show h
theorem oh_{x D:Addr}{tk:Tok}(KE:Js_ K D)(X:K.In s.heap)(p:Jn_ x (.ref D) s.heap)(h:R (.ok (.ret (.ref D))) s):
  codeAny (model prog w) A (.call (.builtin "BaseException.__getattribute__") ⟨[.ref x,.str "__class__" tk],[]⟩) R s:=by
 obtain⟨hp,gs,dr,tks,oss⟩:=s;have T0:=p.ty (M:=model prog w);have T3:=PySem.W.looks_findIn (M:=model prog w) X KE.at_;have T4:=PySem.W.looks_specialIn (M:=model prog w) X KE.get;have T5:=PySem.W.looks_takesIn (M:=model prog w) X KE.set;have T7:=PySem.W.looks_mroIn (M:=model prog w) X KE.exc;have kd:builtinKind "BaseException.__getattribute__"=some .slot:=r_
 have spl:splitId "BaseException.__getattribute__"=some ("BaseException","__getattribute__"):=r_
 have ha:=F.args_bexc_ga (.ref x) (.str "__class__" tk);show codeAny_call_builtin F.excAttr_ValueError.ga.plain F.entry_bexc_ga ?_;simp only[checkBuiltinCall,kd,spl];unfold isInstance
 repeat (first|with_reducible show wpAny_call (og_ KE X p ?_)|lk)
 show h
theorem mZ_{EE:Value->Shared->Prop}{x D:Addr}{Q:Option Value->Shared->Prop}(KE:Js_ K D)(X:K.In s.heap)(p:Jn_ x (.ref D) s.heap)(h:Q (some (.ref D)) {s with toks:=s.toks+1}):
  wpAny (model prog w) A (getAttr? (.ref x) "__class__") Q EE s:=by
 obtain⟨hp,gs,dr,tks,oss⟩:=s;have T0:=p.ty (M:=model prog w);have T1:=PySem.W.looks_findIn (M:=model prog w) X KE.ga;have T2:=PySem.W.looks_findIn (M:=model prog w) X KE.gh;have f3:=F.excAttr_ValueError.ga.bind (.ref x);have f5:(Value.builtin "BaseException.__getattribute__"== Value.builtin "object.__getattribute__")=false:=r_
 have f4:¬ (onTheHeap (Value.ref D) && Value.builtin "BaseException.__getattribute__"== Value.builtin "object.__getattribute__")=true:=by rw[f5,Bool.and_false];show AN_
 unfold getAttr? getAttrBy? getAttrBy;show Af_ (wpAny_mkText (Af_ (wpAny_attempt ?_)));show Bj_ (Af_ (T0.at (Af_ (T1.at ?_))))
 dsimp only
 rw[if_neg f4];unfold getAttrByItsOwn;show Af_ ?_;change wpAny _ _ (typeLookup (Value.ref D) "__getattr__") _ _ _;show T2.at ?_;show Af_ (wpAny_attempt (Bj_ ?_));change wpAny _ _ (boundAndCalled _ _ _) _ _ _;unfold boundAndCalled;rw[f3];show Af_ (Ax_ ?_);show wpAny_call (oh_ KE X p ?_);show Ax_ ?_;show Ax_ h
theorem oi_{x D:Addr}(KE:Js_ K D):PySem.W.KitX K (.ref x) (.ref D) (Jn_ x (.ref D)) where
 ty:=λ_ _ _ p=>p.ty
 it:=λ_ _ X _=>gL_ X KE.cl
 ne:=λh tp dd its n sl X htp=>by
  show Bool.eq_false_iff.mpr λq=>?_;have e:D=tp:=Value.ref.inj (beq_iff_eq.mp q);subst e;have c:=KE.cl;unfold PySem.W.clsIn at c;split at c
  .rename_i ho;have z:=(X _ _ ho).symm.trans htp;cases z
  .cases c
 ca:=λX p k=>mZ_ KE X p k
def KV_(K:PySem.W.Frag):List V->Hp->VK->Prop:=λxs H Q=>∃(ea C:Addr)(c:V)(b:Bool),xs=[.ref ea,c]/\H ea=some (exO (.ref C) ea)/\Js_ K C /\
 ((∃T,c=.ty T/\PySem.W.kitOne K (.ref C) (.type T)=some b)\/(∃D,c=.ref D/\PySem.W.kitOne K (.ref C) (.ref D)=some b)\/∃(tp:Addr)(ys:List Addr),c=.ref tp/\H tp=some (.tup (ys.map V.ref))/\PySem.W.kitAny K (.ref C) (ys.map Value.ref)=some b)/\Q (.bl b) H
def KP_(i j k:Nat)(ta:TA):TS:=λD σ H=>ta σ H λvs H1=>∃v w y,vs=[v,w,y]/\D.nx (((σ.set i (some v)).set j (some w)).set k (some y)) H1
def Itd(hi:Int)(n:Nat):It:=⟨λi _=>i<n,λi H x H'=>H'=H/\x=.int (hi-i),λi _=>n<=i⟩
def KT_(ta:TA):TI:=λσ H R=>ta σ H λvs H1=>∃i j:Int,vs=[.int i,.int j,.int (-1)]/\(0<=j/\j<=i/\i<2 ^ 30)/\R (Itd i (i-j).toNat) H1
def Lu_:V->Option Int->Option Int->Hp->VK->Prop:=λx lo hi H Q=>∃a xs,x=.ref a/\H a=some (.lst xs)/\∀p,H p=none->Q (.ref p) (upd H p (.lst (H0_ xs lo hi)))
theorem iC_:SlR X Lu_:=by intro pins s σ H x v vl vu lo hi sl Q I rx hs pl pu h;obtain⟨a,xs,e,hx,q⟩:=h;show pT_ pins s σ H x v vl vu lo hi sl Q I rx hs pl pu ⟨a,xs,e,.inl (.inl hx),q⟩
theorem oj_(xs:List V)(k:Nat)(h:k<=xs.length):H0_ xs (some (k:Int)) none=xs.drop k:=by unfold H0_;rw[HT.sIx_nat,HT.sIx_none,De_ h];show A4_ s_
theorem pe_(xs:List V)(k:Nat)(h:k<=xs.length):H0_ xs none (some (k:Int))=xs.take k:=by unfold H0_;rw[HT.sIx_nat,HT.sIx_none,De_ h];simp
theorem ok_{body:List Stmt}{h₀:ExceptHandler}{hs:List ExceptHandler}{t:TS}(hb:∀EE,PSs (X.wish EE) body t):PS X (.Try body (h₀::hs) [] [] pos) t:=by
 intro pins s σ H D I h;show wpAny_Try_except (Bl_ (hb (λ_ _=>False) pins s σ H D (I.wish _) h) (λf s1 q=>?_) λ_ _ x=>x.elim);have q':=SP.unwish q;cases f with
 |next=>show Cp_ q'
 |brk=>show q'
 |cont=>show q'
 |ret u=>show q'
theorem cA_{J:It}{g:TG}{tt:TT}{te:TE}{σ:St}{H:Hp}{Q:VK}(n:Nat)(Pσ:St->Prop)(bs:Nat->Bool)(val:Nat->V)(h0:Pσ σ)(hz:n<=1000)(hgo:∀i H',i<n->EM_ H H'->J.go i H')(hst:∀H',EM_ H H'->J.stop n H')
  (hs:∀D i x σ' H' H'',H D=none->(∃o,H' D=some o)->EM_ H H'->i<n->J.yld i H' x H''->Pσ σ'->∀(Y:St->V->Hp->Prop)(R:St->Hp->Prop),(bs i=true->∀σ2 H3,Pσ σ2->EM_ H' H3->Y σ2 (val i) H3)->(bs i=false->∀σ2 H3,Pσ σ2->EM_ H' H3->R σ2 H3) ->
   g x σ' H'' λσ2 H2=>tt σ2 H2 λb H3=>if b=true then te σ2 H3 λv H4=>Y σ2 v H4 else R σ2 H3)
  (hd:∀D H',H D=none->EM_ H H'->H' D=some (.lst (((List.range n).filter bs).map val))->Q (.ref D) H'):Hy_ J g tt te σ H Q:=by
 intro D hD;show⟨λi m σ' H'=>m=n-i/\i<=n/\Pσ σ'/\EM_ H H'/\H' D=some (.lst (((List.range i).filter bs).map val)),⟨n,s_,AP_ _,h0,EM_.new hD,ab_⟩,?_⟩;rintro i m σ' H' ⟨rfl,hi,hp,hs',hDD⟩;by_cases hlt:i<n
 .show .inr ⟨hgo i H' hlt hs',λσ2 H2=>Pσ σ2/\EM_ H H2/\H2 D=some (.lst (((List.range (i+1)).filter bs).map val)),λσ2 H2 ⟨a,b,c⟩=>⟨n-(i+1),o_,rfl,hlt,a,b,c⟩,λx H'' hy=>?_⟩;show hs D i x σ' H' H'' hD ⟨_,hDD⟩ hs' hlt hy hp _ _ (λhb σ2 H3 hp2 s3=>?_) λhb σ2 H3 hp2 s3=>?_
  .show⟨_,s3 _ _ hDD,?_,hp2,(hs'.trans s3).upd hD,?_⟩
   .rw[Ab_];have:=CH_ bs (List.range i);rw[A9_]at this;show EN_ o_
   .rw[ab_,BE_,Cr_,Ar_];simp[hb]
  .show⟨hp2,hs'.trans s3,?_⟩;rw[BE_,Cr_,Ar_];have e:[i].filter bs=[]:=by simp[hb]
   rw[e,CK_,A6_];show s3 _ _ hDD
 .have e:i=n:=o_
  subst e;show .inl ⟨hst H' hs',hd D H' hD hs' hDD⟩
def grow(S H H':Hp):Hp:=λb=>match H b with|some _=>S b|none=>H' b
variable{S:Hp}
theorem cB_(h:H b=some o):grow S H H' b=S b:=by unfold grow;rw[h]
theorem fc_(h:H b=none):grow S H H' b=H' b:=by unfold grow;rw[h]
theorem bY_(s:EM_ S H):EM_ S (grow S H H'):=λb o h=>by rw[cB_ (s _ _ h)];show h
theorem gc_(s:EM_ S H)(t:EM_ H H'):EM_ (grow S H H') H':=λb o h=>by
 unfold grow at h;cases e:H b with
 |some z=>rw[e]at h;show t _ _ (s _ _ h)
 |none=>rw[e]at h;show h
theorem aT_(s:EM_ S H)(h:S a=none):EM_ S (upd H a o):=λb z e=>by rw[af_ (ae_ e h)];show s _ _ e
theorem hb_(s:EM_ S H)(h:H a=none):EM_ (upd S a o) (upd H a o):=λb z e=>by
 by_cases q:b=a
 .subst q;rw[ab_]at e⊢;show e
 .rw[af_ q]at e⊢;show s _ _ e
theorem bn_(s:EM_ S H)(h:H a=none):EM_ S (upd S a o):=EM_.new (s.free h)
theorem rd_{st:Stmt}{t:TS}(h:PS X.nox st t):PS X st t:=λpins s σ H D I q=>Bl_ (h pins s σ H D (I.wish _) q) (λf s' z=>SP.unwish z) λ_ _ z=>z.elim
def In_:V->List V->Hp->VK->Prop:=λx vs H Q=>∃(l:Addr)(xs:List V)(i:Int)(y:V),x=.ref l/\vs=[.int i,y]/\H l=some (.lst xs)/\0<=i/\i.toNat<=xs.length/\xs.length<1000/\Q .non (upd H l (.lst (xs.take i.toNat++y::xs.drop i.toNat)))
theorem dz_:MtM X "list.insert" In_:=by
 intro pins s σ H x vs v us Q I rx rv h;obtain⟨l,xs,i,y,rfl,rfl,hH,h0,h1,h2,q⟩:=h;cases rx;obtain⟨u,w,rfl,ru,rw'⟩:=rv.two;obtain⟨t,rfl⟩:=ru;obtain⟨z,its,n,r,hl,e⟩:=I.lstM hH;show Ca_ F.slot_list_insert ⟨_,e,rfl⟩ F.entry_list_insert (F.args_list_insert_3 _ _ _) (AutoSeq1.list_insert_list_int_val_1 l its.toArray n i t w (by rw[fitsIndex_both (k:=i) o_ o_];decide) (by rw[Ap_];lia)) ⟨e,?_⟩;show⟨.non,_,I.lset (its':=its.take i.toNat++w::its.drop i.toNat) hH e ?_ ((r.take _).append (.cons rw' (r.drop _))) ?_,rfl,q⟩
 .dsimp only
  rw[if_neg o_,Ap_,De_ o_];simp;show A4_ s_
 .have:=EN_ h2;simp;lia
def Ite(K:PySem.W.Frag)(a:Addr):It :=
  ⟨λi H=>∃xs x,SqL K H a xs/\xs[i]?=some x,
   λi H v H'=>∃T x,v=.ref T/\H T=none/\H'=upd H T (.tup [.int i,x])/\(∀xs,SqL K H a xs->xs[i]?=some x),
   λi H=>∃xs,SqL K H a xs/\xs.length<=i⟩
def J2_(e it l:Addr)(i:Nat)(h:Heap):Prop:=(∃old,IsEnum h e it i old)/\h.IsListIter it l i
theorem m0_{it l:Addr}(hei:e≠it):
  Jv_ P w K (.Tuple elts kt tpos) (Ite K l) [e,it] e (J2_ e it l) where
 mem:=s_
 obj:=λi h st b hb=>by
  obtain⟨⟨old,s1⟩,⟨o4,s4,c4,d4⟩⟩:=st;simp only[Aq_,AQ_,Ck_]at hb
  rcases hb with rfl|rfl
  .show⟨_,s1,λv e=>by cases(show Data.fields _=Data.cell v from e)⟩
  .show⟨o4,s4,λv e=>by rw[d4]at e;cases e⟩
 keep:=λi h h' st k=>by obtain⟨⟨old,s1⟩,s4⟩:=st;show⟨⟨old,k e s_ _ s1⟩,s4.at λo q=>k it s_ o q⟩
 item:=by
  intro X hP hw hK hc i pins s σ H E I hf st hg;subst hP hw hK;obtain⟨xs,x,hq,hx⟩:=hg;obtain⟨its,rv,p1,z1⟩:=I.list hq;obtain⟨u,hu,ru⟩:=rv.get hx;obtain⟨⟨old,s1⟩,s4⟩:=id st;show wpAny_pyNext_enum_item s1 s4 p1.isList (x:=u) (by simpa using hu) hei λh' g1 g2 g3 g4 g5=>?_;show⟨_,rfl,wpAny_letOwnedTupleGo_enum g1 λh'' k1 k2=>?_⟩
  have lt:∀b∈[e,it],b<s.heap.objs.size:=λb hb=>by
   simp only[Aq_,AQ_,Ck_]at hb
   rcases hb with rfl|rfl
   .show Au_ s1
   .obtain⟨o,e,_⟩:=s4;show Au_ e
  have hT:H s.heap.objs.size=none:=I.hok.fresh (Ah_ _)
  have I1:Inv X pins σ (upd H s.heap.objs.size (.tup [.int i,x])) {s with heap:=s.heap.push {cls:=.type "tuple",data:=.seq #[.int i s.toks,u]}} :=
   I.laid (t':=s.toks) (λb u e=>Aj_ _ e) (Ah_ _) ⟨by change 2<=sizeLine;decide,[.int i s.toks,u],.cons ⟨_,rfl⟩ (.cons ru .nil),⟨_,AC_ _ rfl,rfl,_,rfl⟩⟩
  have f1:∀b∈[e,it],Hp_ X pins (upd H s.heap.objs.size (.tup [.int i,x])) b:=λb hb=>⟨by rw[af_ (AE_ (lt b hb))];show(hf b hb).1,(hf b hb).2⟩
  have I2:Inv X pins σ (upd H s.heap.objs.size (.tup [.int i,x])) {s with heap:=h'',toks:=s.toks+1}:=by
   show Inv.turnedL (s:={s with heap:=s.heap.push {cls:=.type "tuple",data:=.seq #[.int i s.toks,u]}}) (ch:=[e,it]) (t':=s.toks+1) I1 (λb o hb q=>?_) f1;simp only[Aq_,AQ_,Ck_,not_or]at hb;show(k2.2 b hb.1).trans ?_;by_cases hbT:b=s.heap.objs.size
   .subst hbT;have e':(s.heap.push {cls:=.type "tuple",data:=.seq #[.int i s.toks,u]}).get? s.heap.objs.size=some o:=q;rw[AC_ _ rfl]at e';cases e';show g3
   .have hb2:s.heap.get? b=some o:=by have e':(s.heap.push {cls:=.type "tuple",data:=.seq #[.int i s.toks,u]}).get? b=some o:=q;show(Heap.get?_push_ne _ _ _ hbT).symm.trans e'
    show g5 b o hb.1 hb.2 hb2
  show⟨.ref s.heap.objs.size,_,I2,rfl,⟨_,x,rfl,hT,rfl,λxs' h'=>by rw[I.list_inj h' hq];show hx⟩,?_,λb hb=>(f1 b hb).1⟩;show⟨⟨u,k1⟩,g2.at λo q=>(k2.2 it hei.symm).trans q⟩
 done:=by intro X hP hw hK hc i pins s σ H E I hf st hg;subst hP hw hK;obtain⟨xs,hq,he⟩:=hg;obtain⟨its,rv,p1,z1⟩:=I.list hq;obtain⟨⟨old,s1⟩,s4⟩:=id st;have l1:=rv.length;show wpAny_pyNext_enum_end (I.ok.hd hc) s1 s4 p1.isList (by simp;lia) λh' k=>⟨rfl,?_⟩;show Inv.turnedL (ch:=[e,it]) (t':=s.toks) I (λb o hb q=>?_) hf;simp only[Aq_,AQ_,Ck_,not_or]at hb;show k b o hb.2 q
 self:=λ_ _ _ _ _ st h=>by obtain⟨⟨old,s1⟩,_⟩:=st;show wpAny_pyIter_enum s1 h
def JN_(K:PySem.W.Frag)(ta:TA):TI:=λσ H R=>ta σ H λvs H1=>∃a,vs=[.ref a]/\(∃xs,SqL K H1 a xs)/\R (Ite K a) H1
theorem pZ_{a:Expr}{ta:TA}{p:Pos}(hK:X.K=K)(hg:Gl X "enumerate") (hm:X.mg "enumerate"=none) (ha:PA X [a] ta) (hs:EY_ [a]=true:=by rfl):PI X (.Tuple elts kt tpos) (.Call (.Name "enumerate" p) [a] [] pos) (JN_ K ta):=by
 subst hK;intro pins s σ H R I h;have h':FJ_ a=true/\EY_ []=true:=by simpa[EY_]using hs
 show Call_ (fy_ I hg hm jr_ (Br_ (thn (ha pos pins s σ H _ I h) λus s1 ⟨vs,H1,I1,r1,q1⟩=>?_) (ax_ h'.1) (bu_ h'.2)));obtain⟨l,e,⟨xs,hx⟩,q⟩:=q1;subst e;obtain⟨u1,rfl,e1⟩:=FU_ r1;cases e1;obtain⟨its1,rv1,p1,z1⟩:=I1.list hx;show call_enumerate_list p1.isList λh' g1 g2 g3 g4=>?_;have I2:Inv X pins σ H1 {s1 with heap:=h'}:=I1.kept (t':=s1.toks) g4;show wpAny_pyIter_enum g1 ⟨_,[s1.heap.objs.size+1,s1.heap.objs.size],_,Ite X.K l,H1,rfl,I2,m0_ (Nat.succ_ne_self _),⟨⟨_,g1⟩,g2⟩,λb hb=>?_,q⟩
 have hb':s1.heap.objs.size<=b:=by
  simp only[Aq_,AQ_,Ck_]at hb
  rcases hb with rfl|rfl <;> first|show BI_ _ _|show Ah_ _
 show I1.fpOk hb' (I1.hok.fresh hb')
section
variable {κ:Type}[DecidableEq κ]
def FH_(kvs:List (κ×V))(k:κ):Option V:=(kvs.find? λkv=>decide (kv.1=k)).map (·.2)
def FQ_(kvs:List (κ×V))(k:κ)(v:V):List (κ×V):=
 if(kvs.any λkv=>decide (kv.1=k))=true then kvs.map (λkv=>if kv.1=k then(kv.1,v)else kv)else kvs++[(k,v)]
theorem bB_{p:κ×V}{r:List (κ×V)}{k:κ}(e:p.1=k):FH_ (p::r) k=some p.2:=by simp[FH_,Cb_,e]
theorem bs_{p:κ×V}{r:List (κ×V)}{k:κ}(e:¬ p.1=k):FH_ (p::r) k=FH_ r k:=by simp[FH_,Cb_,e]
theorem dW_(k:κ):∀kvs:List (κ×V),(kvs.any λkv=>decide (kv.1=k))=(FH_ kvs k).isSome
 |[]=>rfl
 |p::r=>by
  rw[B6_];by_cases e:p.1=k
  .simp only[bB_ e,AG_ e,Bool.true_or,Option.isSome_some]
  .rw[bs_ e,AI_ e,Bool.false_or];show dW_ k r
theorem lc_(k j:κ)(y:V):∀kvs:List (κ×V),FH_ (kvs.map λkv=>if kv.1=k then(kv.1,y)else kv) j=(FH_ kvs j).map λx=>if j=k then y else x
 |[]=>rfl
 |p::r=>by
  have ih:=lc_ k j y r;rw[Az_];by_cases h:p.1=k
  .rw[if_pos h];by_cases e:p.1=j
   .rw[bB_ (p:=(p.1,y)) e,bB_ e,B8_,if_pos (e.symm.trans h)]
   .rw[bs_ (p:=(p.1,y)) e,bs_ e,ih]
  .rw[if_neg h];by_cases e:p.1=j
   .rw[bB_ (p:=p) e,bB_ e,B8_,if_neg (λz=>h (e.trans z))]
   .rw[bs_ (p:=p) e,bs_ e,ih]
theorem jz_(k j:κ)(y:V):∀kvs:List (κ×V),FH_ kvs k=none->FH_ (kvs++[(k,y)]) j=if j=k then some y else FH_ kvs j
 |[],_=>by
  by_cases e:k=j
  .rw[if_pos e.symm];show bB_ (p:=(k,y)) e
  .rw[if_neg (λz=>e z.symm)];show bs_ (p:=(k,y)) e
 |p::r,hn=>by
  rw[Bt_];have hk:¬ p.1=k:=λz=>by rw[bB_ z]at hn;cases hn
  rw[bs_ hk]at hn;have ih:=jz_ k j y r hn;by_cases e:p.1=j
  .rw[bB_ e,bB_ e,if_neg (λz=>hk (e.trans z))]
  .rw[bs_ e,bs_ e,ih]
theorem bt_(kvs:List (κ×V))(k j:κ)(y:V):FH_ (FQ_ kvs k y) j=if j=k then some y else FH_ kvs j:=by
 unfold FQ_;by_cases a:(kvs.any λkv=>decide (kv.1=k))=true
 .rw[if_pos a,lc_];rw[dW_]at a;by_cases e:j=k
  .obtain⟨x,hx⟩:=C4_.mp a;rw[if_pos e,e,hx,B8_,if_pos rfl]
  .rw[if_neg e];cases FH_ kvs j with
   |none=>rfl
   |some x=>rw[B8_,if_neg e]
 .rw[if_neg a];show jz_ k j y kvs ?_;rw[dW_]at a;cases q:FH_ kvs k with
  |none=>rfl
  |some x=>rw[q]at a;show(a rfl).elim
theorem bv_(kvs:List (κ×V))(k:κ)(v:V):(FQ_ kvs k v).length<=kvs.length+1:=by
 unfold FQ_;split
 .rw[Ab_];lia
 .rw[Ae_,AF_,BF_];lia
theorem GY_.isSome_eq{o:Option V}{u:Option Value}(r:GY_ o u):o.isSome=u.isSome:=by
 cases o with
 |none=>cases u with
  |none=>rfl
  |some _=>show(show False from r).elim
 |some _=>cases u with
  |none=>show(show False from r).elim
  |some _=>rfl
theorem GY_.getD{o:Option V}{u:Option Value}{d:V}{d':Value}(r:GY_ o u)(rd:Fm_ d d'):Fm_ (o.getD d) (u.getD d'):=by
 cases o with
 |none=>cases u with
  |none=>show rd
  |some _=>show(show False from r).elim
 |some _=>cases u with
  |none=>show(show False from r).elim
  |some _=>show r
theorem KV.val{kvs:List (κ×V)}{vs:List (κ×Value)}(r:KV kvs vs)(k:κ):GY_ (FH_ kvs k) (valueAt vs k):=by
 unfold KV at r
 induction r with
 |nil=>show True.intro
 | @cons p q ps qs h t ih =>
  obtain⟨h1,h2⟩:=h;by_cases e:p.1=k
  .have e':q.1=k:=h1.symm.trans e;have b:valueAt (q::qs) k=some q.2:=by simp[valueAt,Cb_,e']
   rw[bB_ e,b];show h2
  .have e':¬ q.1=k:=λz=>e (h1.trans z);have b:valueAt (q::qs) k=valueAt qs k:=by simp[valueAt,Cb_,e']
   rw[bs_ e,b];show ih
theorem KV.any{kvs:List (κ×V)}{vs:List (κ×Value)}(r:KV kvs vs)(k:κ):(kvs.any λkv=>decide (kv.1=k))=vs.any λkv=>decide (kv.1=k):=by
 unfold KV at r
 induction r with
 |nil=>rfl
 |cons h t ih=>rw[B6_,B6_,ih,h.1]
theorem KV.repl{kvs:List (κ×V)}{vs:List (κ×Value)}(r:KV kvs vs)(k:κ){y:V}{u:Value}(ry:Fm_ y u):
  KV (kvs.map λkv=>if kv.1=k then(kv.1,y)else kv) (vs.map λkv=>if kv.1=k then(kv.1,u)else kv):=by
 unfold KV at r⊢
 induction r with
 |nil=>show .nil
 | @cons p q ps qs h t ih =>
  rw[Az_,Az_];show .cons ?_ ih;obtain⟨h1,h2⟩:=h;by_cases e:p.1=k
  .rw[if_pos e,if_pos (h1.symm.trans e)];show⟨h1,ry⟩
  .rw[if_neg e,if_neg (λz=>e (h1.trans z))];show⟨h1,h2⟩
theorem KV.put{kvs:List (κ×V)}{vs:List (κ×Value)}(r:KV kvs vs)(k:κ){y:V}{u:Value}(ry:Fm_ y u):KV (FQ_ kvs k y) (stored vs k u):=by
 unfold FQ_ stored;rw[r.any k];by_cases e:(vs.any λkv=>decide (kv.1=k))=true
 .rw[if_pos e,if_pos e];show r.repl k ry
 .rw[if_neg e,if_neg e];show DP_ r ⟨rfl,ry⟩
theorem KV.length{kvs:List (κ×V)}{vs:List (κ×Value)}(r:KV kvs vs):kvs.length=vs.length:=Cl_ r
end
theorem Hb_{k:Key}{u:Value}(r:Fm_ (kV k) u):(E1_ P w).is k u=true:=by
 cases k with
 |inl i=>obtain⟨t,e⟩:=(show ∃t,u=Value.int i t from r);subst e;show ki_ P w i t
 |inr x=>obtain⟨t,e⟩:=(show ∃t,u=Value.str x t from r);subst e;show kj_ P w x t
theorem jA_{P:Program}{w:World}:∀{ks:List Key}{us:List Value},Fe_ (ks.map kV) us->ItemsAre (E1_ P w) ks us
 |[],_,r=>by rw[CK_]at r;cases r;show .nil
 |k::ks,_,r=>by
  rw[Az_]at r;cases r with
  |cons h t=>show .cons (Hb_ h) (jA_ t)
abbrev KT(H:Hp):List (List Key×V)->List (List Key×Addr×Value)->Prop:=Paired λp q=>p.1=q.1/\H q.2.1=some (.tup (p.1.map kV))/\Fm_ p.2 q.2.2
variable{kvs:List (List Key×V)}{xs:List (List Key×Addr×Value)}
theorem KT.val(r:KT H kvs xs)(k:List Key):GY_ (FH_ kvs k) ((atKey xs k).map (·.2)):=by
 induction r with
 |nil=>show True.intro
 | @cons p q ps qs h t ih =>
  obtain⟨h1,_,h2⟩:=h;by_cases e:p.1=k
  .have e':q.1=k:=h1.symm.trans e;have b:atKey (q::qs) k=some q.2:=by simp[atKey,Cb_,e']
   rw[bB_ e,b];show h2
  .have e':¬ q.1=k:=λz=>e (h1.trans z);have b:atKey (q::qs) k=atKey qs k:=by simp[atKey,Cb_,e']
   rw[bs_ e,b];show ih
theorem KT.repl(r:KT H kvs xs)(k:List Key){y:V}{u:Value}(ry:Fm_ y u):
  KT H (kvs.map λkv=>if kv.1=k then(kv.1,y)else kv) (xs.map (putAt k u)):=by
 induction r with
 |nil=>show .nil
 | @cons p q ps qs h t ih =>
  rw[Az_,Az_];show .cons ?_ ih;obtain⟨h1,h2,h3⟩:=h;unfold putAt;by_cases e:p.1=k
  .rw[if_pos e,if_pos (h1.symm.trans e)];show⟨h1,h2,ry⟩
  .rw[if_neg e,if_neg (λz=>e (h1.trans z))];show⟨h1,h2,h3⟩
theorem KT.put(r:KT H kvs xs)(k:List Key){y:V}{u:Value}(hb:H b=some (.tup (k.map kV)))(ry:Fm_ y u):
  KT H (FQ_ kvs k y) (storedH xs k b u):=by
 have e:(kvs.any λkv=>decide (kv.1=k))=(atKey xs k).isSome:=by rw[dW_,(r.val k).isSome_eq,CZ_]
 unfold FQ_ storedH;rw[e];by_cases q:(atKey xs k).isSome=true
 .rw[if_pos q,if_pos q];show r.repl k ry
 .rw[if_neg q,if_neg q];show DP_ r ⟨rfl,hb,ry⟩
theorem KT.keeps(r:KT H kvs xs)(ht:∀b ys,H b=some (.tup ys)->H' b=some (.tup ys)):KT H' kvs xs :=
 Paired.mapP r λ_ _ z=>⟨z.1,ht _ _ z.2.1,z.2.2⟩
variable {h:Heap}{a:Addr}
theorem Ko_{u:HO}(ok:HOk P w H h)(e:Rd H a u):Fr_ P w H h a u:=e.ok ok
theorem HP_{kvs:List (Key×V)}(ok:HOk P w H h)(e:Rd H a (.dK kvs)):kvs.length<=sizeLine/\(a == sysModules)=false/\∃vs,KV kvs vs/\h.DictOf (E1_ P w) a vs :=
 show Fr_ P w H h a (.dK kvs)from Ko_ ok e
theorem HL_{kvs:List (Key×V)}(ok:HOk P w H h)(e:H a=some (.dK kvs)):kvs.length<=sizeLine/\(a == sysModules)=false/\∃vs,KV kvs vs/\h.DictOf (E1_ P w) a vs:=HP_ ok (.inl e)
theorem ii_{ks:List Key}(ok:HOk P w H h)(e:H a=some (.tup (ks.map kV))):(tupleKind (E1_ P w)).is h ks a:=by obtain⟨_,its,r,o,h1,h2,n,h3⟩:=(show Fr_ P w H h a (.tup (ks.map kV))from ok a _ e);show⟨o,its.toArray,n,h1,h2,h3,by simpa using jA_ r⟩
theorem Iu_(ok:HOk P w H h)(e:Rd H a (.dT kvs)):kvs.length<=sizeLine/\(a == sysModules)=false /\
  ∃xs,KT H kvs xs/\h.DictOfH (tupleKind (E1_ P w)) a xs:=by
 obtain⟨z,y,xs,r,o,es,ep,h1,h2,h3,h4,h5⟩:=(show Fr_ P w H h a (.dT kvs)from Ko_ ok e);show⟨z,y,xs,r,o,es,ep,h1,h2,h3,h4,λx hx=>?_,h5⟩
 have all:∀{l:List (List Key×V)}{m:List (List Key×Addr×Value)},KT H l m->∀x∈m,(tupleKind (E1_ P w)).is h x.1 x.2.1:=by
  intro l m q
  induction q with
  |nil=>intro x hx;show nomatch hx
  | @cons p q ps qs hq t ih =>
   intro x hx
   rcases Aq_.mp hx with e|hx
   .subst e;show ii_ ok (by rw[<-hq.1];show hq.2.1)
   .show ih x hx
 show all r x hx
theorem Ks_(ok:HOk P w H h)(e:H a=some (.dT kvs)):kvs.length<=sizeLine/\(a == sysModules)=false /\
  ∃xs,KT H kvs xs/\h.DictOfH (tupleKind (E1_ P w)) a xs:=Iu_ ok (.inl e)
def Ge_(H:Hp)(a:Addr)(y:V)(r:Option V):Prop :=
 (∃kvs k,Rd H a (.dK kvs)/\y=kV k/\r=FH_ kvs k)\/∃kvs k b,Rd H a (.dT kvs)/\y=.ref b/\H b=some (.tup (k.map kV))/\r=FH_ kvs k
def HH_(H:Hp)(a:Addr)(y v:V)(H':Hp):Prop :=
 (∃kvs k,H a=some (.dK kvs)/\y=kV k/\kvs.length<sizeLine/\H'=upd H a (.dK (FQ_ kvs k v))) \/
 ∃kvs k b,H a=some (.dT kvs)/\y=.ref b/\H b=some (.tup (k.map kV))/\kvs.length<sizeLine/\H'=upd H a (.dT (FQ_ kvs k v))
theorem Ge_.k{kvs:List (Key×V)}{k:Key}(e:H a=some (.dK kvs)):Ge_ H a (kV k) (FH_ kvs k):=.inl ⟨kvs,k,.inl e,rfl,rfl⟩
theorem Ge_.t{k:List Key}(e:H a=some (.dT kvs))(eb:H b=some (.tup (k.map kV))):Ge_ H a (.ref b) (FH_ kvs k):=.inr ⟨kvs,k,b,.inl e,rfl,eb,rfl⟩
theorem HH_.k{kvs:List (Key×V)}{k:Key}{v:V}(e:H a=some (.dK kvs))(hl:kvs.length<sizeLine):HH_ H a (kV k) v (upd H a (.dK (FQ_ kvs k v))):=.inl ⟨kvs,k,e,rfl,hl,rfl⟩
theorem HH_.t{k:List Key}{v:V}(e:H a=some (.dT kvs))(eb:H b=some (.tup (k.map kV)))(hl:kvs.length<sizeLine):
  HH_ H a (.ref b) v (upd H a (.dT (FQ_ kvs k v))):=.inr ⟨kvs,k,b,e,rfl,eb,hl,rfl⟩
variable {σ:St}{y v:V}{u r:Value}{o:Option V}{E:Value->Shared->Prop}
theorem Inv.big(I:Inv X pins σ H s):sysModules<s.heap.objs.size:=by have h:mainGlobals<s.heap.objs.size:=(I.mod.glob.keeps I.bk).lt;show Nat.lt_trans d_ h
theorem m1_{Q:Value->Shared->Prop}(hu:A.units+1<cLine)(I:Inv X pins σ H s)(g:Ge_ H a y (some v))(ry:Fm_ y u)(h:∀w' s',Inv X pins σ H s'->Fm_ v w'->Q w' s'):
  wpAny (model X.prog X.w) A (getItem (.ref a) u) Q E s:=by
 rcases g with⟨kvs,k,e,ey,l⟩|⟨kvs,k,b,e,ey,eb,l⟩
 .subst ey;obtain⟨z,hd,vs,rel,dd⟩:=HP_ I.hok e;obtain⟨w',hw,rw'⟩:=GY_.some_of (v:=v) (o:=valueAt vs k) (by rw[l];show rel.val k);show wpAny_getItem_of (Hb_ ry) dd.mapOf hw (h w' _ (I.tok _) rw')
 .subst ey;cases(show u=Value.ref b from ry);obtain⟨z,hd,xs,rel,dd⟩:=Iu_ I.hok e;obtain⟨w',hw,rw'⟩:=GY_.some_of (v:=v) (o:=(atKey xs k).map (·.2)) (by rw[l];show rel.val k);obtain⟨p,hp,hp2⟩:=Di_.mp hw;show wpAny_getItem_heap (Cs_ hu) (ii_ I.hok eb) dd hp ?_;rw[hp2];show h w' _ (I.tok _) rw'
theorem d_in{Q:Value->Shared->Prop}(hu:A.units+1<cLine)(I:Inv X pins σ H s)(g:Ge_ H a y o)(ry:Fm_ y u)(h:∀s',Inv X pins σ H s'->Q (.bool o.isSome) s'):
  wpAny (model X.prog X.w) A (compareOp .In u (.ref a)) Q E s:=by
 rcases g with⟨kvs,k,e,ey,l⟩|⟨kvs,k,b,e,ey,eb,l⟩
 .subst ey;obtain⟨z,hd,vs,rel,dd⟩:=HP_ I.hok e;show wpAny_in_of (Hb_ ry) hd dd.mapOf ?_;rw[<-(rel.val k).isSome_eq,<-l];show h _ (I.tok _)
 .subst ey;cases(show u=Value.ref b from ry);obtain⟨z,hd,xs,rel,dd⟩:=Iu_ I.hok e;show wpAny_in_heap (Cs_ hu) (ii_ I.hok eb) hd dd ?_;have q:=(rel.val k).isSome_eq;rw[CZ_]at q;rw[<-q,<-l];show h _ (I.tok _)
theorem p0_{Q:Value->Shared->Prop}(hu:A.units+1<cLine)(I:Inv X pins σ H s)(g:Ge_ H a y o)(ry:Fm_ y u)(h:∀s',Inv X pins σ H s'->Q (.bool (!o.isSome)) s'):
  wpAny (model X.prog X.w) A (compareOp .NotIn u (.ref a)) Q E s:=by
 rcases g with⟨kvs,k,e,ey,l⟩|⟨kvs,k,b,e,ey,eb,l⟩
 .subst ey;obtain⟨z,hd,vs,rel,dd⟩:=HP_ I.hok e;show wpAny_notIn_of (Hb_ ry) hd dd.mapOf ?_;rw[<-(rel.val k).isSome_eq,<-l];show h _ (I.tok _)
 .subst ey;cases(show u=Value.ref b from ry);obtain⟨z,hd,xs,rel,dd⟩:=Iu_ I.hok e;show wpAny_notIn_heap (Cs_ hu) (ii_ I.hok eb) hd dd ?_;have q:=(rel.val k).isSome_eq;rw[CZ_]at q;rw[<-q,<-l];show h _ (I.tok _)
theorem iD_{t':Nat}{ob:HO}(I:Inv X pins σ H s)(mu:Mut (H a))(hs:Heap.SameBut a s.heap h')(he:∃q,h'.get? a=some q)(new:Fr_ X.prog X.w (upd H a ob) h' a ob):
  Inv X pins σ (upd H a ob) {s with heap:=h',toks:=t'} :=
 I.write (x:=a) (e:=a) mu (.inl rfl) (λb q hb z=>(hs.2 b hb).trans z) he new
theorem m2_{kvs:List (Key×V)}{vs:List (Key×Value)}(z:kvs.length<=sizeLine)(hd:(a == sysModules)=false)(rel:KV kvs vs)(dd:h'.DictOf (E1_ P w) a vs):
  Fr_ P w H' h' a (.dK kvs):=⟨z,hd,vs,rel,dd⟩
theorem m3_(hu:A.units+1<cLine)(I:Inv X pins σ H s)(g:HH_ H a y v H')(ry:Fm_ y u)(rv:Fm_ v r)(h:∀s',Inv X pins σ H' s'->Q () s'):
  wpAny (model X.prog X.w) A (setItem (.ref a) u r) Q E s:=by
 rcases g with⟨kvs,k,e,ey,l,eH⟩|⟨kvs,k,b,e,ey,eb,l,eH⟩
 .subst ey eH;obtain⟨z,hd,vs,rel,dd⟩:=HL_ I.hok e;have hz:vs.length<=sizeLine:=by rw[<-rel.length];show z
  have hl:(FQ_ kvs k v).length<=sizeLine:=by have:=bv_ kvs k v;lia
  show wpAny_setItem_pairs (hsz:=hz) (Hb_ ry) dd λh' dd' hs=>h _ ?_;have he:∃q,h'.get? a=some q:=let⟨q,_,_,hq,_⟩:=dd';⟨q,hq⟩;show iD_ I (by rw[e];show True.intro) hs he (m2_ hl hd (rel.put k rv) dd')
 .subst ey eH;cases(show u=Value.ref b from ry);obtain⟨z,hd,xs,rel,dd⟩:=Ks_ I.hok e;have hz:xs.length<=sizeLine:=by rw[<-Cl_ rel];show z
  have hl:(FQ_ kvs k v).length<=sizeLine:=by have:=bv_ kvs k v;lia
  show wpAny_setItem_heap (hsz:=hz) (Cs_ hu) (ii_ I.hok eb) dd λh' dd' hs=>h _ ?_;obtain⟨q,es,ep,hq,h2,h3,h4,_,h5⟩:=dd';show iD_ I (by rw[e];show True.intro) hs ⟨q,hq⟩ ⟨hl,hd,_,(rel.put k eb rv).keeps λc ys ec=>?_,q,es,ep,hq,h2,h3,h4,h5⟩;rw[af_ (Lh_ ec e (λz=>nomatch z))];show ec
section
variable {kvs:List (Key×V)}{k:Key}
theorem Lj_{Q:Value->Shared->Prop}(I:Inv X pins σ H s)(e:Rd H a (.dK kvs))(h:∀t s',Inv X pins σ H s'->Q (.int kvs.length t) s'):wpAny (model X.prog X.w) A (call (.builtin "len") [.ref a]) Q E s:=by obtain⟨z,hd,vs,rel,dd⟩:=HP_ I.hok e;show call_len_dict hd dd (by rw[<-rel.length];rw[B0_]at z;lia) ?_;rw[<-rel.length];show h _ _ (I.tok _)
end
def LN_(i:Expr):Prop:=∀ov iv,subscripted i false ov iv=operate [ov,iv] (getItem ov iv)
theorem p1_{prog:Program}{w:World}{A:Around}{E:Value->Shared->Prop}{s:Shared}{env:Env}{value slice:Expr}{pos:Pos}{T id:String}{Q:Value->Shared->Prop}
  (hl:typeLookup (.type T) "__getitem__"=pure (some (.builtin id))) (hs:LN_ slice)
  (h:wpAny (model prog w) A (eval value env) (λo s₁=>wpAny (model prog w) A (eval slice env) (λi s₂=>s₂.TypeIs o T/\wpAny (model prog w) A (getItem o i) Q E s₂) E s₁) E s):
  wpAny (model prog w) A (eval (.Subscript value slice pos) env) Q E s:=by
 show Subscript_ (Bl_ h (λo s₁ h₁=>Bl_ h₁ (λi s₂ h₂=>?_) λ_ _ x=>x) λ_ _ x=>x);obtain⟨hT,h₂⟩:=h₂;unfold subscriptTail;show Af_ ?_;rw[getitemInPython_of_ne hT.not_modules];show Af_ (DX_ hT hl ?_);have fin:wpAny (model prog w) A (subscripted slice false o i) (λr s₃=>wpAny (model prog w) A (letTemporaryGo value o r >>= λ_=>pure r) Q E s₃) E s₂:=by rw[hs o i];show wpAny_operating (Bl_ h₂ (λr s₃ h₃=>Af_ (wpAny_letTemporaryGo (Ax_ h₃))) λ_ _ x=>x)
 first
  |show Ax_ (Af_ fin)
  |show Af_ (Ax_ (Af_ fin))
  |show Af_ fin
theorem kr_(I:Inv X pins σ H s)(g:Ge_ H a y o):s.TypeIs (.ref a) "dict" := by
 rcases g with⟨kvs,k,e,_,_⟩|⟨kvs,k,b,e,_,_,_⟩
 .obtain⟨_,_,vs,_,dd⟩:=HP_ I.hok e;show dd.typeIs
 .obtain⟨_,_,xs,_,dd⟩:=Iu_ I.hok e;show dd.typeIs
def JP_(td ty:TE):TE:=λσ H Q=>td σ H λx H1=>ty σ H1 λy H2=>onR x λa=>∃v,Ge_ H2 a y (some v)/\Q v H2
def Ly_(ty td:TE):TE:=λσ H Q=>ty σ H λy H1=>td σ H1 λx H2=>onR x λa=>∃o,Ge_ H2 a y o/\Q (.bl o.isSome) H2
def Im_(ty td:TE):TE:=λσ H Q=>ty σ H λy H1=>td σ H1 λx H2=>onR x λa=>∃o,Ge_ H2 a y o/\Q (.bl (!o.isSome)) H2
def JZ_(td ty tv:TE):TS:=λD σ H=>tv σ H λv H1=>td σ H1 λx H2=>ty σ H2 λy H3=>onR x λa=>∃H4,HH_ H3 a y v H4/\D.nx σ H4
section
variable {o i e value:Expr}{pos':Pos}{td ty tv:TE}
theorem es_(hu:X.A.units+1<cLine)(ho:PE X o td)(hi:PE X i ty)(hs:LN_ i:=by intro _ _;rfl):PE X (.Subscript o i pos) (JP_ td ty):=by intro pins s σ H Q I h;show p1_ PySem.F.slot_dict_getitem.lookup hs (thn (ho pins s σ H _ I h) λu s1 ⟨x,H1,I1,rx,q1⟩=>thn (hi pins s1 σ H1 _ I1 q1) λiv s2 ⟨y,H2,I2,ry,q9⟩=>?_);obtain⟨a,ex,v,g,q2⟩:=dx_ q9;subst ex;obtain rfl:u=Value.ref a:=rx;show⟨kr_ I2 g,m1_ hu I2 g ry λw' s3 I3 rw'=>⟨v,H2,I3,rw',q2⟩⟩
theorem m4_(hu:X.A.units+1<cLine)(hi:PE X i ty)(ho:PE X o td):PC X .In i o (Ly_ ty td):=by intro pins s σ H Q I h;show thn (hi pins s σ H _ I h) λiv s1 ⟨y,H1,I1,ry,q1⟩=>thn (ho pins s1 σ H1 _ I1 q1) λu s2 ⟨x,H2,I2,rx,q9⟩=>?_;obtain⟨a,ex,ov,g,q2⟩:=dx_ q9;subst ex;obtain rfl:u=Value.ref a:=rx;show d_in hu I2 g ry λs3 I3=>⟨.bl ov.isSome,H2,I3,rfl,q2⟩
theorem jB_(hu:X.A.units+1<cLine)(hi:PE X i ty)(ho:PE X o td):PC X .NotIn i o (Im_ ty td):=by intro pins s σ H Q I h;show thn (hi pins s σ H _ I h) λiv s1 ⟨y,H1,I1,ry,q1⟩=>thn (ho pins s1 σ H1 _ I1 q1) λu s2 ⟨x,H2,I2,rx,q9⟩=>?_;obtain⟨a,ex,ov,g,q2⟩:=dx_ q9;subst ex;obtain rfl:u=Value.ref a:=rx;show p0_ hu I2 g ry λs3 I3=>⟨.bl (!ov.isSome),H2,I3,rfl,q2⟩
theorem et_(hu:X.A.units+1<cLine)(ho:PE X o td)(hi:PE X i ty)(hv:PE X value tv)(hs:swapsWith value (some (.Subscript o i pos')) pos.line X.env=pure false):
  PS X (.Assign [.Subscript o i pos'] value pos) (JZ_ td ty tv):=by
 intro pins s σ H D I h;show DQ_ (thn (hv pins s σ H _ I h) λr s1 ⟨v,H1,I1,rv,q1⟩=>thn (ho pins s1 σ H1 _ I1 q1) λu s2 ⟨x,H2,I2,rx,q2⟩=>thn (hi pins s2 σ H2 _ I2 q2) λiv s3 ⟨y,H3,I3,ry,q9⟩=>?_) hs;obtain⟨a,ex,H4,g,q3⟩:=dx_ q9;subst ex;obtain rfl:u=Value.ref a:=rx;show m3_ hu I3 g ry rv λs4 I4=>⟨σ,H4,I4,q3⟩
end
theorem ol_(h:Heap)(hb:sysModules<h.objs.size):Fr_ P w H (h.push {cls:=.type "dict",data:=.dict #[]}) h.objs.size (.dK []):=
 ⟨AP_ _,Bv_.mpr (Ne.symm (AE_ hb)),[],.nil,Heap.DictOf.new h⟩
theorem om_(h:Heap)(hb:sysModules<h.objs.size):Fr_ P w H (h.push {cls:=.type "dict",data:=.dict #[]}) h.objs.size (.dT []):=
 ⟨AP_ _,Bv_.mpr (Ne.symm (AE_ hb)),[],.nil,_,#[],0,AC_ _ rfl,⟨rfl,rfl,rfl⟩,rfl,rfl,Bf_⟩
def I2_:TE:=λ_ H Q=>∀p,H p=none->Q (.ref p) (upd H p (.dK []))
def I0_:TE:=λ_ H Q=>∀p,H p=none->Q (.ref p) (upd H p (.dT []))
theorem ld_:PE X (.Dict [] [] pos) I2_:=λpins s σ H Q I h =>DC_ ⟨.ref s.heap.objs.size,_,I.laid (a:=s.heap.objs.size) (o:=.dK []) (t':=s.toks) (λ_ _ q=>Aj_ _ q) (Ah_ _) (ol_ s.heap I.big),rfl,h _ (I.hok.fresh (Ah_ _))⟩
theorem hc_:PE X (.Dict [] [] pos) I0_:=λpins s σ H Q I h =>DC_ ⟨.ref s.heap.objs.size,_,I.laid (a:=s.heap.objs.size) (o:=.dT []) (t':=s.toks) (λ_ _ q=>Aj_ _ q) (Ah_ _) (om_ s.heap I.big),rfl,h _ (I.hok.fresh (Ah_ _))⟩
def F7_(kvs more:List (Key×V)):List (Key×V):=more.foldl (λacc kv=>FQ_ acc kv.1 kv.2) kvs
theorem KV.merge:∀{more:List (Key×V)}{rs:List (Key×Value)}{kvs:List (Key×V)}{vs:List (Key×Value)},KV more rs->KV kvs vs->KV (F7_ kvs more) (merged vs rs):=by
 intro more rs kvs vs r;unfold KV at r
 induction r generalizing kvs vs with
 |nil=>intro q;show q
 | @cons p q ps qs h t ih =>
  intro r0;have e:KV (FQ_ kvs p.1 p.2) (stored vs q.1 q.2):=by have:=r0.put p.1 h.2;rw[<-h.1];show this
  show ih e
def IsD(H:Hp)(a:Addr):Prop:=(∃kvs,Rd H a (.dK kvs))\/∃kvs,Rd H a (.dT kvs)
variable {d:V}
def J7_(td ty tx:TE):TE:=λσ H Q=>td σ H λx H1=>∃a,x=.ref a/\IsD H1 a/\ty σ H1 λy H2=>tx σ H2 λz H3=>∃o,Ge_ H3 a y o/\Q (o.getD z) H3
variable {kvs:List (Key×V)}
end L2
namespace Att
open PySem PySem.W PySem.Calls PyProof.Rows
end Att
namespace L2
open PySem PySem.Spec PyProof.Rows
variable {X:Cx}
theorem m5_:FE_ X (.builtin "len") (λxs H Q=>∃a kvs,xs=[V.ref a]/\H a=some (.dK kvs)/\Q (.int kvs.length) H):=by intro pins s σ H xs us Q I r h;obtain⟨a,kvs,rfl,ha,q⟩:=h;obtain⟨u,rfl,ru⟩:=FU_ r;cases ru;show Lj_ I (.inl ha) λt s' I'=>⟨.int kvs.length,H,I',⟨t,rfl⟩,q⟩
end L2
namespace RimD
def su:Nat->(Nat->Int)->Int
 |0,_=>0
 |n+1,f=>su n f+f n
def sg(k:Nat):Int:=if k%2=0 then 1 else -1
def sk(k j:Nat):Nat:=if j<k then j else j+1
abbrev Mat:=Nat->Nat->Int
def mi(A:Mat)(k:Nat):Mat:=λi j=>A (i+1) (sk k j)
def D:Nat->Mat->Int
 |0,_=>1
 |n+1,A=>su (n+1) λk=>sg k*A 0 k*D n (mi A k)
def gi(r:List Int)(j:Nat):Int:=r.getD j 0
def ma(rows:List (List Int)):Mat:=λi j=>gi (rows.getD i []) j
end RimD
namespace RimM
def nf(t b:Int):Int×Int:=if b<0 then(t / -(Int.gcd t b:Int),b / -(Int.gcd t b:Int))else(t/(Int.gcd t b:Int),b/(Int.gcd t b:Int))
theorem gpos{t b:Int}(hb:b≠0):0<(Int.gcd t b:Int):=by have:=Int.gcd_pos_of_ne_zero_right t hb;lia
theorem pf_{t b:Int}(h:b<0):nf t b=nf (-t) (-b):=by
 have e:Int.gcd (-t) (-b)=Int.gcd t b:=by rw[Int.gcd_neg,Int.neg_gcd]
 unfold nf;rw[if_pos h,if_neg o_,e,Int.ediv_neg,Int.ediv_neg,Int.neg_ediv_of_dvd (Int.gcd_dvd_left ..),Int.neg_ediv_of_dvd (Int.gcd_dvd_right ..)]
theorem m6_{t b:Int}(h:0<b):nf t b=(t/(Int.gcd t b:Int),b/(Int.gcd t b:Int)):=by unfold nf;rw[if_neg o_]
structure Low(p:Int×Int):Prop where
 pos:0<p.2
 co:Int.gcd p.1 p.2=1
theorem pg_{t b:Int}(hb:b≠0):Low (nf t b)/\t*(nf t b).2=(nf t b).1*b:=by
 have key:∀{t b:Int},0<b->Low (nf t b)/\t*(nf t b).2=(nf t b).1*b:=λ{t b} h=>by
  have g:=gpos (t:=t) (b:=b) o_;rw[m6_ h];show⟨⟨Int.ediv_pos_of_pos_of_dvd h (Int.le_of_lt g) (Int.gcd_dvd_right ..),Int.gcd_ediv_gcd_ediv_gcd o_⟩,?_⟩;change t*(b/(Int.gcd t b:Int))=t/(Int.gcd t b:Int)*b;obtain⟨x,hx⟩:=Int.gcd_dvd_left (a:=t) (b:=b);obtain⟨y,hy⟩:=Int.gcd_dvd_right (a:=t) (b:=b)
  have e1:t/(Int.gcd t b:Int)=x:=by
   conv=>lhs;arg 1;rw[hx]
   show Int.mul_ediv_cancel_left _ o_
  have e2:b/(Int.gcd t b:Int)=y:=by
   conv=>lhs;arg 1;rw[hy]
   show Int.mul_ediv_cancel_left _ o_
  rw[e1,e2]
  conv=>lhs;arg 1;rw[hx]
  conv=>rhs;arg 2;rw[hy]
  rw[Int.mul_assoc,Int.mul_left_comm]
 rcases Int.lt_or_lt_of_ne hb with h|h
 .rw[pf_ h];obtain⟨a,e⟩:=key (t:=-t) (b:=-b) o_;show⟨a,?_⟩;rw[Int.neg_mul,Int.mul_neg]at e;lia
 .show key h
end RimM
namespace RimD
open RimM
end RimD
namespace RimT
variable {α:Type}[DecidableEq α]
def IM_(p:Nat):Nat->List α->List ((Nat×Nat)×α)
 |_,[]=>[]
 |k,w::l=>((p,k),w)::IM_ p (k+1) l
def GS_:Nat->List (List α)->List ((Nat×Nat)×α)
 |_,[]=>[]
 |o,l::T=>IM_ o 0 l++GS_ (o+1) T
abbrev ends(T:List (List α)):=GS_ 0 T
def wi(T:List (List α))(e:Nat×Nat):Option α:=(T.getD e.1 [])[e.2]?
theorem hd_{p:Nat}{e:Nat×Nat}{w:α}:∀{l:List α}{k:Nat},(e,w)∈IM_ p k l↔e.1=p/\k<=e.2/\l[e.2-k]?=some w
 |[],k=>by simp[IM_]
 |a::l,k=>by
  rw[IM_,Aq_,hd_];constructor
  .rintro(h|⟨h1,h2,h3⟩)
   .cases h;simp
   .show⟨h1,o_,?_⟩;rw[show e.2-k=(e.2-(k+1))+1 by lia,Cu_];show h3
  .rintro⟨h1,h2,h3⟩;by_cases z:e.2=k
   .left;rw[z,BW_,List.getElem?_cons_zero]at h3;cases h3;show Bd_ (Bd_ h1 z) rfl
   .right;show⟨h1,o_,?_⟩;rw[show e.2-k=(e.2-(k+1))+1 by lia,Cu_]at h3;show h3
theorem hB_{e:Nat×Nat}{w:α}:∀{T:List (List α)}{o:Nat},(e,w)∈GS_ o T↔o<=e.1/\(T.getD (e.1-o) [])[e.2]?=some w
 |[],o=>by simp[GS_]
 |l::T,o=>by
  rw[GS_,Ao_,hd_,hB_];constructor
  .rintro(⟨h1,h2,h3⟩|⟨h1,h2⟩)
   .show⟨o_,?_⟩;rw[h1,BW_];show h3
   .show⟨o_,?_⟩;rw[show e.1-o=(e.1-(o+1))+1 by lia];show h2
  .rintro⟨h1,h2⟩;by_cases z:e.1=o
   .left;rw[z,BW_]at h2;show⟨z,o_,h2⟩
   .right;show⟨o_,?_⟩;rw[show e.1-o=(e.1-(o+1))+1 by lia]at h2;show h2
variable{e:Nat×Nat}
theorem iE_{T:List (List α)}{w:α}:(e,w)∈ends T↔wi T e=some w:=by unfold ends;rw[hB_];simp[wi]
theorem le_(p:Nat):∀(l:List α)(k:Nat),(IM_ p k l).map (·.2)=l
 |[],_=>rfl
 |a::l,k=>by rw[IM_,Az_,le_ p l]
theorem hC_:∀(T:List (List α))(o:Nat),(GS_ o T).map (·.2)=T.flatten
 |[],_=>rfl
 |l::T,o=>by rw[GS_,Ar_,le_,hC_ T,AR_]
theorem ij_(p:Nat):∀(l:List α)(k:Nat),((IM_ p k l).map (·.1)).Nodup
 |[],_=>Bf_
 |a::l,k=>by
  rw[IM_,Az_,AM_];show⟨λh=>?_,ij_ p l (k+1)⟩;obtain⟨⟨e,w⟩,he,q⟩:=Ai_.mp h;have:=(hd_.mp he).2.1
  dsimp only at q
  rw[q]at this
  dsimp only at this
  lia
theorem hD_:∀(T:List (List α))(o:Nat),((GS_ o T).map (·.1)).Nodup
 |[],_=>Bf_
 |l::T,o=>by
  rw[GS_,Ar_,AA_];show⟨ij_ o l 0,hD_ T (o+1),λa ha b hb e=>?_⟩;subst e;obtain⟨⟨e,w⟩,he,q⟩:=Ai_.mp ha;obtain⟨⟨e',w'⟩,he',q'⟩:=Ai_.mp hb;have h1:=(hd_.mp he).1;have h2:=(hB_.mp he').1
  dsimp only at q q'
  rw[q]at h1;rw[q']at h2;lia
theorem count_filter(w:α):∀l:List ((Nat×Nat)×α),(l.map (·.2)).count w=(l.filter λx=>decide (x.2=w)).length
 |[]=>rfl
 |a::l=>by
  rw[Az_,BP_,count_filter w l,List.filter_cons];by_cases h:a.2=w
  .simp[h]
  .simp[h]
theorem lf_{T:List (List α)}{w:α}(h:T.flatten.count w=2):∃a b,(ends T).filter (λx=>decide (x.2=w))=[(a,w),(b,w)]/\a≠b/\∀e,wi T e=some w↔e=a\/e=b:=by
 have hl:((ends T).filter λx=>decide (x.2=w)).length=2:=by rw[<-count_filter,hC_];show h
 have nd:(((ends T).filter λx=>decide (x.2=w)).map (·.1)).Nodup:=(hD_ T 0).sublist (List.Sublist.map _ Du_)
 have mem:∀x,x∈(ends T).filter (λx=>decide (x.2=w))↔wi T x.1=some w/\x.2=w:=λx=>by
  rw[Bq_,decide_eq_true_eq];constructor
  .rintro⟨h1,h2⟩;show⟨?_,h2⟩;rw[<-iE_,<-h2];show h1
  .rintro⟨h1,h2⟩;show⟨?_,h2⟩;rw[<-iE_,<-h2]at h1;show h1
 generalize(ends T).filter (λx=>decide (x.2=w))=f at hl nd mem
 match f,hl with
 |[a,b],_ =>
  have ha:=(mem a).mp s_;have hb:=(mem b).mp s_;show⟨a.1,b.1,?_,?_,λe=>⟨λhe=>?_,?_⟩⟩
  .rw[show(a.1,w)=a from Bd_ rfl ha.2.symm,show(b.1,w)=b from Bd_ rfl hb.2.symm]
  .simp at nd;show nd
  .have:=(mem (e,w)).mpr ⟨he,rfl⟩
   rcases Aq_.mp this with z|z
   .show .inl (by rw[<-z])
   .show .inr (by rw[<-Ad_.mp z])
  .rintro(rfl|rfl)
   .show ha.1
   .show hb.1
def Tw(T:List (List α)):Prop:=∀w,w∈T.flatten->T.flatten.count w=2
theorem ph_{T:List (List α)}{w:α}(h:wi T e=some w):w∈T.flatten:=by rw[<-hC_ T 0];show Ai_.mpr ⟨_,iE_.mpr h,rfl⟩
def Hn_(T:List (List α))(a b:Nat×Nat):Prop:=a≠b/\∃w,wi T a=some w/\wi T b=some w
theorem Hn_.symm{T:List (List α)}{a b:Nat×Nat}(h:Hn_ T a b):Hn_ T b a:=⟨λe=>h.1 e.symm,h.2.elim λw q=>⟨w,q.2,q.1⟩⟩
variable{a:Nat×Nat}
theorem ks_{T:List (List α)}(h:Tw T){w:α}(ha:wi T a=some w):∃b,Hn_ T a b:=by
 obtain⟨x,y,_,ne,all⟩:=lf_ (h w (ph_ ha))
 rcases(all a).mp ha with e|e
 .show⟨y,e▸ne,w,ha,(all y).mpr (.inr rfl)⟩
 .show⟨x,λz=>ne (by rw[<-z,e]),w,ha,(all x).mpr (.inl rfl)⟩
theorem fC_{T:List (List α)}(h:Tw T){b c:Nat×Nat}(hb:Hn_ T a b)(hc:Hn_ T a c):b=c:=by
 obtain⟨n1,w,a1,b1⟩:=hb;obtain⟨n2,w',a2,c2⟩:=hc;rw[a1]at a2;cases a2;obtain⟨x,y,_,ne,all⟩:=lf_ (h w (ph_ a1))
 rcases(all a).mp a1 with e|e <;> rcases(all b).mp b1 with e1|e1 <;> rcases(all c).mp c2 with e2|e2 <;> subst e <;> subst e1 <;> subst e2 <;> first|rfl|show absurd rfl n1|show absurd rfl n2
def rl(T:List (List α))(p:Nat):Nat:=(T.getD p []).length
def IsC(T:List (List α))(P:Nat)(c:Nat×Nat):Prop:=c.1<T.length/\c.2<rl T c.1+(if c.1<P then 1 else 0)
theorem gd_{T:List (List α)}(h:e.2<rl T e.1):∃w,wi T e=some w:=⟨_,Aa_ h⟩
theorem FN_{T:List (List α)}{w:α}(h:wi T e=some w):e.2<rl T e.1/\e.1<T.length:=by
 have h1:e.2<rl T e.1:=(Al_.mp h).1;show⟨h1,?_⟩
 rcases Nat.lt_or_ge e.1 T.length with z|z
 .show z
 .unfold rl at h1;rw[Ac_,Bh_ z]at h1;simp at h1
def nx(T:List (List α))(P:Nat)(c m:Nat×Nat):Nat×Nat :=
 if c.2=rl T c.1 then((c.1+P-1)%P,0)else if m.1<P then(m.1,m.2+1)else(m.1,(m.2+1)%rl T m.1)
def Nx(T:List (List α))(P:Nat)(c c':Nat×Nat):Prop:=(c.2=rl T c.1/\c'=((c.1+P-1)%P,0))\/(c.2<rl T c.1/\∃m,Hn_ T c m/\c'=if m.1<P then(m.1,m.2+1)else(m.1,(m.2+1)%rl T m.1))
variable{P:Nat}
theorem Is_{T:List (List α)}(h:Tw T){c:Nat×Nat}(hc:IsC T P c):∃c',Nx T P c c':=by
 obtain⟨h1,h2⟩:=hc;by_cases z:c.2<rl T c.1
 .obtain⟨w,hw⟩:=gd_ z;obtain⟨m,hm⟩:=ks_ h hw;show⟨_,.inr ⟨z,m,hm,rfl⟩⟩
 .show⟨_,.inl ⟨?_,rfl⟩⟩;split at h2 <;> lia
theorem hE_{T:List (List α)}(h:Tw T){c b:Nat×Nat}(ha:Nx T P c a)(hb:Nx T P c b):a=b:=by
 rcases ha with⟨h1,h2⟩|⟨h1,m,hm,h2⟩ <;> rcases hb with⟨g1,g2⟩|⟨g1,m',hm',g2⟩
 .rw[h2,g2]
 .lia
 .lia
 .rw[fC_ h hm hm']at h2;rw[h2,g2]
theorem nx_c{T:List (List α)}(hP:0<P)(hPT:P<=T.length){c c':Nat×Nat}(hc:IsC T P c)(h:Nx T P c c'):IsC T P c':=by
 rcases h with⟨h1,rfl⟩|⟨h1,m,⟨_,w,_,hm⟩,rfl⟩
 .have:=Nat.mod_lt (c.1+P-1) hP;show⟨by change(c.1+P-1)%P<_;lia,by change 0<_;simp only[this,if_true];lia⟩
 .obtain⟨a,b⟩:=FN_ hm;split
  .rename_i z;show⟨b,by change m.2+1<_;simp only[z,if_true];lia⟩
  .show⟨b,?_⟩;have:=Nat.mod_lt (m.2+1) (show 0<rl T m.1 by lia);show AH_ this (BI_ _ _)
theorem p2_{m a b:Nat}(ha:a<m)(hb:b<m)(h:(a+1)%m=(b+1)%m):a=b:=by
 by_cases z1:a+1=m <;> by_cases z2:b+1=m
 .lia
 .rw[z1,Nat.mod_self,Nat.mod_eq_of_lt o_]at h;lia
 .rw[z2,Nat.mod_self,Nat.mod_eq_of_lt o_]at h;lia
 .rw[Nat.mod_eq_of_lt o_,Nat.mod_eq_of_lt o_]at h;lia
theorem on_{a b:Nat}(ha:a<P)(hb:b<P)(h:(a+P-1)%P=(b+P-1)%P):a=b:=by
 have e:∀x,x<P->(x+P-1)%P=if x=0 then P-1 else x-1:=λx hx=>by
  by_cases z:x=0
  .rw[if_pos z,z,DJ_,Nat.mod_eq_of_lt o_]
  .rw[if_neg z,show x+P-1=(x-1)+P by lia,Nat.add_mod_right,Nat.mod_eq_of_lt o_]
 rw[e a ha,e b hb]at h;split at h <;> split at h <;> lia
theorem pi_{T:List (List α)}(h:Tw T)(hP:0<P){c d x:Nat×Nat}(hc:IsC T P c)(hd:IsC T P d)(h1:Nx T P c x)(h2:Nx T P d x):c=d:=by
 have post:∀{c:Nat×Nat},IsC T P c->c.2=rl T c.1->c.1<P:=λ{c} hc e=>by
  have:=hc.2;split at this
  .assumption
  .lia
 rcases h1 with⟨a1,a2⟩|⟨a1,m,am,a2⟩ <;> rcases h2 with⟨b1,b2⟩|⟨b1,m',bm,b2⟩
 .rw[a2]at b2;have e:=on_ (post hc a1) (post hd b1) (congrArg Prod.fst b2);show Bd_ e (by rw[a1,b1,e])
 .exfalso;rw[a2]at b2;have lt:=Nat.mod_lt (c.1+P-1) hP;split at b2
  .have:=congrArg Prod.snd b2;dsimp only at this;lia
  .have:=congrArg Prod.fst b2;dsimp only at this;lia
 .exfalso;rw[b2]at a2;have lt:=Nat.mod_lt (d.1+P-1) hP;split at a2
  .have:=congrArg Prod.snd a2;dsimp only at this;lia
  .have:=congrArg Prod.fst a2;dsimp only at this;lia
 .rw[a2]at b2;obtain⟨_,w,_,wm⟩:=id am;obtain⟨_,w',_,wm'⟩:=id bm;have l1:=(FN_ wm).1;have l2:=(FN_ wm').1
  have e:m=m':=by
   split at b2 <;> split at b2
   .have e1:=congrArg Prod.fst b2;have e2:=congrArg Prod.snd b2;dsimp only at e1 e2;show Bd_ e1 o_
   .have e1:=congrArg Prod.fst b2;dsimp only at e1;lia
   .have e1:=congrArg Prod.fst b2;dsimp only at e1;lia
   .have e1:=congrArg Prod.fst b2;have e2:=congrArg Prod.snd b2;dsimp only at e1 e2;rw[<-e1]at e2 l2;show Bd_ e1 (p2_ l1 l2 e2)
  subst e;show fC_ h am.symm bm.symm
def corners(T:List (List α))(P:Nat):List (Nat×Nat):=(List.range T.length).flatMap λp=>(List.range (rl T p+(if p<P then 1 else 0))).map λk=>(p,k)
theorem ak_{T:List (List α)}{c:Nat×Nat}:c∈corners T P↔IsC T P c:=by
 unfold corners IsC;rw[List.mem_flatMap];constructor
 .rintro⟨p,hp,hc⟩;obtain⟨k,hk,rfl⟩:=Ai_.mp hc;show⟨AJ_.mp hp,AJ_.mp hk⟩
 .rintro⟨h1,h2⟩;show⟨c.1,AJ_.mpr h1,Ai_.mpr ⟨c.2,AJ_.mpr h2,rfl⟩⟩
inductive Way(T:List (List α))(P:Nat):List (Nat×Nat)->Nat×Nat->Prop
 |one {c d}:Nx T P c d->Way T P [c] d
 |more {l c d}:Way T P l c->Nx T P c d->Way T P (l++[c]) d
variable{d:Nat×Nat}
theorem gM_{T:List (List α)}{l:List (Nat×Nat)}(w:Way T P l d):l≠[]:=by
 cases w with
 |one _=>simp
 |more _ _=>simp
theorem lg_{β:Type}{l m:List β}{c:β}(h:l≠[])(e:(l++m).head?=some c):l.head?=some c:=by
 cases l with
 |nil=>show absurd rfl h
 |cons a r=>show e
theorem a5_{β:Type}[DecidableEq β]:∀{l m:List β},l.Nodup->(∀x∈l,x∈m)->l.length<=m.length
 |[],_,_,_=>AP_ _
 |a::l,m,nd,h=>by
  rw[AM_]at nd
  have:=a5_ (l:=l) (m:=m.erase a) nd.2 λx hx=>by
   have hne:x≠a:=λe=>by subst e;show nd.1 hx
   show(List.mem_erase_of_ne hne).mpr (h x (Ak_ _ hx))
  have ha:=h a An_;rw[List.length_erase_of_mem ha]at this;have:0<m.length:=List.length_pos_of_mem ha;simp only[AF_];lia
theorem dX_{T:List (List α)}(h:Tw T)(hP:0<P)(hPT:P<=T.length){c:Nat×Nat}:∀{l:List (Nat×Nat)}{d:Nat×Nat},Way T P l d->l.head?=some c->IsC T P c->IsC T P d/\(∀x∈l,IsC T P x)/\(∀x∈l,x=c\/∃y∈l,Nx T P y x)
  /\ ∃z∈l,Nx T P z d:=by
 intro l d w
 induction w with
 | @one a b hn =>
  intro hc ic;cases hc;show⟨nx_c hP hPT ic hn,λx hx=>by rw[Ad_.mp hx];show ic,λx hx=>.inl (Ad_.mp hx),c,s_,hn⟩
 | @more l' x y w hn ih =>
  intro hc ic;have hc':l'.head?=some c:=lg_ (gM_ w) hc;obtain⟨i1,i2,i3,z,hz,i4⟩:=ih hc' ic;show⟨nx_c hP hPT i1 hn,λq hq=>?_,λq hq=>?_,x,s_,hn⟩
  .rcases Ao_.mp hq with q'|q'
   .show i2 q q'
   .rw[Ad_.mp q'];show i1
  .rcases Ao_.mp hq with q'|q'
   .show(i3 q q').imp id λ⟨y,hy,e⟩=>⟨y,AB_ _ hy,e⟩
   .rw[Ad_.mp q'];show .inr ⟨z,AB_ _ hz,i4⟩
theorem iF_{T:List (List α)}(h:Tw T)(hP:0<P)(hPT:P<=T.length){c:Nat×Nat}{l:List (Nat×Nat)}(w:Way T P l d)(hc:l.head?=some c)(ic:IsC T P c)(nd:l.Nodup)(hd:d≠c):d∉l:=λhm=>by
 obtain⟨i1,i2,i3,z,hz,i4⟩:=dX_ h hP hPT w hc ic
 have key:∀{l:List (Nat×Nat)}{d:Nat×Nat},Way T P l d->l.head?=some c->l.Nodup->d∈l->d=c:=by
  intro l d w
  induction w with
  | @one a b hn =>
   intro hc nd hm;cases hc;show Ad_.mp hm
  | @more l' x y w hn ih =>
   intro hc nd hm;have hc':l'.head?=some c:=lg_ (gM_ w) hc;obtain⟨j1,j2,j3,z,hz,j4⟩:=dX_ h hP hPT w hc' ic;rw[AA_]at nd;have xnew:x∉l':=λq=>nd.2.2 x q x s_ rfl
   rcases Ao_.mp hm with q|q
   .rcases j3 y q with e|⟨u,hu,e⟩
    .show e
    .have:u=x:=pi_ h hP (j2 u hu) j1 e hn;show absurd (this▸hu) xnew
   .have e:=Ad_.mp q;subst e
    have:z=y:=pi_ h hP (j2 z hz) j1 j4 hn;show absurd (this▸hz) xnew
 show hd (key w hc nd hm)
theorem iG_{T:List (List α)}(h:Tw T)(hP:0<P)(hPT:P<=T.length){c:Nat×Nat}{l:List (Nat×Nat)}(w:Way T P l d)(hc:l.head?=some c)(ic:IsC T P c)(nd:l.Nodup):l.length<=(corners T P).length :=
 a5_ nd λx hx=>ak_.mpr ((dX_ h hP hPT w hc ic).2.1 x hx)
def ins(l:List α)(k:Nat)(w:α):List α:=l.take k++w::l.drop k
theorem eW_(l:List α)(k:Nat)(w:α):(ins l k w).length=l.length+1:=by unfold ins;simp only[Ae_,AW_,AF_,By_];lia
theorem m7_(l:List α)(k:Nat)(w x:α):(ins l k w).count x=l.count x+if w=x then 1 else 0:=by
 unfold ins;rw[Bc_,BP_];have:=A5_ k l;have e:l.count x=(l.take k).count x+(l.drop k).count x:=by rw[<-Bc_,this]
 rw[e];by_cases h:w=x
 .simp[h];lia
 .simp[h]
def EP_(T:List (List α))(c:Nat×Nat)(w:α):List (List α):=T.set c.1 (ins (T.getD c.1 []) c.2 w)
theorem fD_(x:α)(l':List α):∀(T:List (List α))(p:Nat),p<T.length->(T.set p l').flatten.count x+(T.getD p []).count x=T.flatten.count x+l'.count x
 |[],p,h=>absurd h s_
 |l::T,0,h=>by
  simp only[List.set_cons_zero,AR_,Bc_,List.getD_cons_zero];lia
 |l::T,p+1,h=>by have:=fD_ x l' T p (by simpa using h);simp only[List.set_cons_succ,AR_,Bc_,List.getD_cons_succ];lia
theorem kt_(l':List α):∀(T:List (List α))(p:Nat),p<T.length->(T.set p l').flatten.length+(T.getD p []).length=T.flatten.length+l'.length
 |[],p,h=>absurd h s_
 |l::T,0,h=>by
  simp only[List.set_cons_zero,AR_,Ae_,List.getD_cons_zero];lia
 |l::T,p+1,h=>by have:=kt_ l' T p (by simpa using h);simp only[List.set_cons_succ,AR_,Ae_,List.getD_cons_succ];lia
theorem dY_{T:List (List α)}{c:Nat×Nat}(h:c.1<T.length)(w x:α):(EP_ T c w).flatten.count x=T.flatten.count x+if w=x then 1 else 0:=by have:=fD_ x (ins (T.getD c.1 []) c.2 w) T c.1 h;rw[m7_]at this;unfold EP_;lia
theorem hF_{T:List (List α)}{c:Nat×Nat}(h:c.1<T.length)(w:α):(EP_ T c w).flatten.length=T.flatten.length+1:=by have:=kt_ (ins (T.getD c.1 []) c.2 w) T c.1 h;rw[eW_]at this;unfold EP_;lia
theorem al_(T:List (List α))(c:Nat×Nat)(w:α):(EP_ T c w).length=T.length:=by unfold EP_;simp
theorem he_{T:List (List α)}{c:Nat×Nat}(w:α)(p:Nat):rl T p<=rl (EP_ T c w) p:=by
 unfold EP_ rl;rw[Ac_,Ac_,List.getElem?_set];by_cases h:c.1=p
 .subst h;by_cases h2:c.1<T.length
  .simp only[if_true,h2,Option.getD_some,eW_];rw[Ac_];lia
  .simp[h2,Bh_ (BZ_.mp h2)]
 .simp[h]
structure Gr(P W:Nat)(T:List (List Nat)):Prop where
 len:P<=T.length
 most:T.length<=P+10
 two:∀w,w<W->T.flatten.count w=2
 lt:∀w∈T.flatten,w<W
 ne:∀p,P<=p->p<T.length->0<rl T p
 tot:T.flatten.length=2*W
variable{T:List (List Nat)}
theorem Gr.tw{W:Nat}(g:Gr P W T):Tw T:=λw h=>g.two w (g.lt w h)
theorem oo_(P:Nat):Gr P 0 (List.replicate P []):=by
 have e:(List.replicate P ([]:List Nat)).flatten=[]:=by
  induction P with
  |zero=>rfl
  |succ n ih=>rw[List.replicate_succ,AR_,ih];rfl
 show⟨s_,s_,λw h=>absurd h o_,λw h=>(by rw[e]at h;cases h),λp h1 h2=>(by simp at h2;lia),(by rw[e];rfl)⟩
theorem hG_{c:Nat×Nat}(h:c.1<T.length){w x:Nat}(hx:x∈(EP_ T c w).flatten):x=w\/x∈T.flatten:=by
 by_cases e:x=w
 .show .inl e
 .right;have:=BO_.mpr hx;rw[dY_ h,if_neg (λz=>e z.symm)]at this;show BO_.mp o_
theorem p3_{W:Nat}{c:Nat×Nat}(g:Gr P W T)(hc:c.1<T.length)(h:T.length<P+10):Gr P (W+1) (EP_ T c W++[[W]]):=by
 have fl:(EP_ T c W++[[W]]).flatten=(EP_ T c W).flatten++[W]:=by rw[Ba_];simp
 show⟨by simp[al_];have:=g.len;lia,by simp[al_];lia,λw hw=>?_,λw hw=>?_,λp h1 h2=>?_,?_⟩
 .rw[fl,Bc_,dY_ hc];by_cases e:w=W
  .subst e;have:T.flatten.count w=0:=Bs_.mpr λz=>absurd (g.lt w z) o_;simp[this]
  .have:=g.two w o_;rw[if_neg (λz=>e z.symm),this];rw[Bs_.mpr λz=>e (Ad_.mp z)]
 .rw[fl]at hw
  rcases Ao_.mp hw with hw|hw
  .rcases hG_ hc hw with e|e
   .lia
   .have:=g.lt w e;lia
  .have:=Ad_.mp hw;lia
 .simp only[Ae_,al_,AL_]at h2;by_cases e:p<T.length
  .have:=g.ne p h1 e;have a:=he_ (T:=T) (c:=c) W p;unfold rl at a⊢;rw[Ac_,Ay_ (by rw[al_];show e),<-Ac_];unfold rl at this;lia
  .have e:p=T.length:=o_
   subst e;unfold rl;rw[Ac_,AK_ (by rw[al_];show Ah_ _),al_];simp
 .rw[fl,Ae_,hF_ hc,g.tot];simp;lia
theorem re_{W:Nat}{c:Nat×Nat}(g:Gr P W T)(hc:c.1<T.length)(hd:d.1<T.length):Gr P (W+1) (EP_ (EP_ T c W) d W):=by
 have hd':d.1<(EP_ T c W).length:=by rw[al_];show hd
 show⟨by rw[al_,al_];show g.len,by rw[al_,al_];show g.most,λw hw=>?_,λw hw=>?_,λp h1 h2=>?_,?_⟩
 .rw[dY_ hd',dY_ hc];by_cases e:w=W
  .subst e;have:T.flatten.count w=0:=Bs_.mpr λz=>absurd (g.lt w z) o_;simp[this]
  .rw[if_neg (λz=>e z.symm),g.two w o_]
 .rcases hG_ hd' hw with e|e
  .lia
  .rcases hG_ hc e with e|e
   .lia
   .have:=g.lt w e;lia
 .rw[al_,al_]at h2;have:=g.ne p h1 h2;have a:=he_ (T:=T) (c:=c) W p;have b:=he_ (T:=EP_ T c W) (c:=d) W p;lia
 .rw[hF_ hd',hF_ hc,g.tot];lia
theorem hH_{T:List (List α)}:(corners T P).length<=T.flatten.length+P:=by
 have key:∀n,n<=T.length->((List.range n).flatMap λp=>(List.range (rl T p+(if p<P then 1 else 0))).map λk=>(p,k)).length<=(T.take n).flatten.length+min n P:=λn=>by
  induction n with
  |zero=>intro _;simp
  |succ n ih =>
   intro h;have i:=ih o_;have e:T[n]?=some T[n]:=Aa_ o_;rw[BE_,List.flatMap_append,Ae_,Bp_,e,Ba_,Ae_];have r:rl T n=T[n].length:=by unfold rl;rw[Ac_,e];rfl
   simp only[List.flatMap_cons,List.flatMap_nil,A6_,Ab_,A9_,Option.toList_some,AR_,List.flatten_nil,r];split <;> lia
 have:=key T.length (Ah_ _);rw[CC_]at this;unfold corners;lia
theorem Gr.corners{W:Nat}(g:Gr P W T):(corners T P).length<=2*W+P:=by have:=hH_ (T:=T) (P:=P);rw[g.tot]at this;show this
end RimT
namespace L2
open PySem PySem.Spec PyProof.Rows
def GD_(n:Nat):List V:=(List.range n).map λi:Nat=>V.int (i:Int)
def Ie_(ta:TA):TE:=λσ H Q=>ta σ H λvs H1=>∃n:Nat,vs=[.int (n:Int)]/\n<=1000/\∀l,H1 l=none->Q (.ref l) (upd H1 l (.lst (GD_ n)))
theorem lh_:∀{xs:List V}{us:List Value},xs.length=us.length->(∀(j:Nat) x u,xs[j]?=some x->us[j]?=some u->Fm_ x u)->Fe_ xs us
 |[],[],_,_=>.nil
 |[],_::_,h,_=>by simp at h
 |_::_,[],h,_=>by simp at h
 |x::xs,u::us,h,k=>.cons (k 0 x u rfl rfl) (lh_ (by simpa using h) λj y v e e'=>k (j+1) y v (by simpa using e) (by simpa using e'))
theorem jC_{X:Cx}{a:Expr}{ta:TA}{p p' pos pos':Pos}(hc:X.calm=true)(hg:Gl X "list") (hm:X.mg "list"=none) (hg':Gl X "range") (hm':X.mg "range"=none) (ha:PA X [a] ta) (hs:EY_ [a]=true:=by rfl):
  PE X (.Call (.Name "list" p) [.Call (.Name "range" p') [a] [] pos'] [] pos) (Ie_ ta):=by
 have h':FJ_ a=true:=by simpa[EY_]using hs
 intro pins s σ H Q I h;show BK_ (fy_ I hg hm dR_ ?_ d_ d_);show Br_ ?_ (ax_ rfl) rfl;rw[ax_ (e:=.Call (.Name "range" p') [a] [] pos') (es:=[]) rfl];change wpAny _ _ (spliced ((false,eval (.Call (.Name "range" p') [a] [] pos') X.env)::backTo pos (starEach [] X.env))) _ _ s;show Calls.spliced_cons ?_;show Call_ (fy_ I hg' hm' boot_range (Br_ (thn (ha pos' pins s σ H _ I h) λus s1 ⟨vs,H1,I1,r1,q1⟩=>?_) (ax_ h') rfl));obtain⟨n,e,n1,q⟩:=q1;subst e;cases r1 with
 |cons r rr =>
  cases rr;obtain⟨t,rfl⟩:=r;show call_range_1 ?_;show Calls.spliced_nil ?_;have I2:Inv X pins σ H1 {s1 with heap:=s1.heap.push {cls:=.type "range",data:=.fields #[.int 0 s1.toks,.int (n:Int) t,.int 1 (s1.toks+1)]},toks:=s1.toks+1+1}:=I1.kept λb o e=>Aj_ _ e;show call_list_range (n:=n) (I2.ok.hd hc) (IsRange.new ..) (small_one o_ o_ o_ o_) (by rw[rangeSize_one];split <;> lia) o_ λh2 tk acc c hk hS hacc=>?_;show⟨.ref _,_,I2.laid (t':=tk) hk (Ah_ _) (show Fr_ X.prog X.w _ h2 _ (.lst (GD_ n))from⟨?_,acc.toList,c,lh_ ?_ ?_,by simpa using hS⟩),rfl,q _ (I2.hok.fresh (Ah_ _))⟩
  .show AO_ (EN_ (by simp[GD_];lia))
  .simp[GD_,hacc.1]
  .intro j x u hx hu;have hj:j<n:=by have:=(Al_.mp hx).1;simpa[GD_]using this
   have hx':x=V.int (j:Int):=by rw[GD_,Ag_,Bo_ hj]at hx;show(At_ hx).symm
   obtain⟨tk',rfl⟩:=hacc.2 j u (by simpa using hu);rw[hx'];show⟨tk',by rw[BS_,Int.mul_one]⟩
open PySem.W
def Gt_{α:Type}(lt:Nat->Nat->Bool)(n:Nat):KasT α->Option α
 | .ret a=>some a
 | .ask i j k=>if i<n/\j<n then Gt_ lt n (k (lt i j))else none
theorem m8_{α:Type}{ask:Nat->Nat->(Bool->Shared->Prop)->Shared->Prop}{lt:Nat->Nat->Bool}{n:Nat}{Q:α->Shared->Prop}{s:Shared}(hc:∀i j (C:Bool->Shared->Prop),i<n->j<n->C (lt i j) s->ask i j C s):
  ∀(t:KasT α){p:α},Gt_ lt n t=some p->Q p s->t.kasWp ask Q s
 | .ret a,p,e,q=>by
  cases e;show q
 | .ask i j k,p,e,q=>by
  unfold Gt_ at e;split at e
  .rename_i h;show hc i j _ h.1 h.2 (m8_ hc (k (lt i j)) e q)
  .cases e
variable {X:Cx}{pins:List (Addr×Obj)}{σ:St}{H:Hp}{s:Shared}
theorem rf_{h:Heap}{a:Addr}{m m':Str->Option Value}(x:h.Ns a m)(y:h.Ns a m'):m=m':=by obtain⟨o,es,ep,ho,hd,_,hf⟩:=x;obtain⟨o',es',ep',ho',hd',_,hf'⟩:=y;rw[ho]at ho';cases ho';rw[hd]at hd';cases hd';funext z;rw[<-hf z,hf' z]
theorem Inv.keeps(I:Inv X pins σ H s){m:Str->Option Value}{h':Heap}(F:Fr X.base X.env.locals h' m)(N:News X.base X.env.locals h' (FB_ X.base s.heap X.env.locals)):
  ∀b o,b≠X.env.locals->s.heap.get? b=some o->h'.get? b=some o:=λb o hb e=>by
 cases q:X.base.get? b with
 |some u =>
  have z:=I.bk b u q;rw[e]at z;cases z;show F.keep b _ q
 |none=>show(N (b,o) (dP_ hb q e)).1
theorem Inv.led{H':Hp}{t':Nat}(I:Inv X pins σ H s){m:Str->Option Value}(hn:s.heap.Ns X.env.locals m){h':Heap}(F:Fr X.base X.env.locals h' m)(N:News X.base X.env.locals h' (FB_ X.base s.heap X.env.locals))
  (free:∀b o,s.heap.get? b=some o->H b=none->H' b=none) (old:∀b o,H b=some o->H' b=some o) (new:∀b o,H' b=some o->H b=none->Fr_ X.prog X.w H' h' b o):Inv X pins σ H' {s with heap:=h',toks:=t'}:=by
 have kp:=I.keeps F N;show I.step (g':=s.gens) (d':=s.drawn) (ch:=[]) (λ_ z=>nomatch z) (λb o hb _ _ e _=>kp b o hb e) (λb o hb _ _ e _=>⟨o.slots,kp b o hb e⟩) (λb o _ e n=>free b o e n) (λb o _ e=>?_) (λb xs q=>old b _ q) (λb o u q=>old b _ q) (λb ps q=>⟨#[],by simpa using old b _ q⟩) (λm' hm=>?_) ?_ I.bare
 .by_cases hb:b=X.env.locals
  .subst hb;obtain⟨o',_,_,ho',_⟩:=F.ns;show⟨o',ho'⟩
  .show⟨o,kp b o hb e⟩
 .rw[rf_ hm hn];show F.ns
 .intro b o e;cases q:H b with
  |none=>show new b o e q
  |some u =>
   have z:=old b u q;rw[e]at z;cases z;show(I.hok b o q).stay (λc v hc r=>kp c v (λw=>?_) r) (λc r=>old c _ r) λc xs r=>old c _ r
   rcases hc with rfl|hc
   .rw[w,I.free]at q;cases q
   .rw[w,I.free]at hc;cases hc
theorem jD_{ys:List V}{its:List Value}(r:Fe_ ys its)(is:List Nat):Fe_ (is.map λi=>ys.getD i .non) (is.map λi=>its.getD i Value.none):=by
 induction is with
 |nil=>show .nil
 |cons i is ih =>
  show .cons ?_ ih;change Fm_ (ys.getD i .non) (its.getD i Value.none);rw[Ac_,Ac_];have hl:=r.length;cases e:ys[i]? with
  |none =>
   have:ys.length<=i:=C0_.mp e;rw[C0_.mpr o_];show rfl
  |some x =>obtain⟨u,hu,ru⟩:=r.get e;rw[hu];show ru
variable{P:Program}{h:Heap}
theorem JB_{w:World}{a:Addr}{o:HO}(x:Fr_ P w H h a o):∃ob,h.get? a=some ob:=by
 cases o with
 |lst xs=>obtain⟨_,_,_,_,e⟩:=x;show⟨_,e⟩
 |tup xs=>obtain⟨_,_,_,ob,e,_⟩:=x;show⟨_,e⟩
 |dK kvs=>obtain⟨_,_,_,_,ob,_,_,e,_⟩:=x;show⟨_,e⟩
 |dT kvs=>obtain⟨_,_,_,_,ob,_,_,e,_⟩:=x;show⟨_,e⟩
 |set S n=>obtain⟨ob,_,_,_,e,_⟩:=x;show⟨_,e⟩
 |ins C dx fs=>obtain⟨_,_,_,e,_⟩:=x;show⟨_,e⟩
 |own y=>show x
 |xd fs=>obtain⟨_,⟨ob,_,_,e,_⟩,_⟩:=x;show⟨_,e⟩
 |rng lo hi=>obtain⟨_,_,_,e⟩:=x;show⟨_,e⟩
 |frz ob u=>show⟨_,x.1⟩
 |tbl ps=>show⟨_,show h.get? a=some _ from x⟩
 |met f y=>show⟨_,show h.get? a=some _ from x⟩
 |ext φ=>show x.2.1
theorem m9_{Q:VK}{p:Addr}{ys:List V}{lt:Nat->Nat->Bool}{κ:SortKind}{pm:Array Nat}(I:Inv X pins σ H s)(hq:SqL X.K H p ys)(h2:2<=ys.length)(h64:ys.length<64)
  (kind:∀(its:List Value)(s':Shared),Fe_ ys its->Inv X pins σ H s'->∀C:SortKind->Shared->Prop,C κ s'->wpAny (model X.prog X.w) X.A.in1.in1 (keyKind' its.toArray) C (λ_ _=>False) s')
  (less:∀(its:List Value)(s':Shared)(i j:Nat),Fe_ ys its->Inv X pins σ H s'->i<ys.length->j<ys.length->∀C:Bool->Shared->Prop,C (lt i j) s'->wpAny (model X.prog X.w) X.A.in1.in1 (keyLt' κ (its.getD i Value.none) (its.getD j Value.none)) C (λ_ _=>False) s')
  (run:Gt_ lt ys.length (kas_sort ys.length)=some pm) (hz:pm.size<=1000) (q:∀l,H l=none->Q (.ref l) (upd H l (.lst (pm.toList.map λi=>ys.getD i .non)))):
  wpAny (model X.prog X.w) X.A (call (.builtin "sorted") [.ref p]) (EP X pins σ Q) X.xe s:=by
 obtain⟨its,rv,pl,_⟩:=I.list hq;have hl:=rv.length;obtain⟨m,hn,_⟩:=id I.loc;have F0:Fr X.base X.env.locals s.heap m:=⟨hn,I.bk,A7_ I.ok.bsz I.ok.above⟩;show kat_sorted F0 fw_ pl.isList o_ o_ λD e1 h1 F1 N1 lt1=>?_;have N1':News X.base X.env.locals h1 (FB_ X.base s.heap X.env.locals):=λz hz'=>N1 z (Ak_ _ hz');have ND:=N1 (D,_) An_;have fr:∀b o,s.heap.get? b=some o->b≠D:=λb o e w=>by subst w;show absurd (lt1 (b,o) (dP_ ND.2.1 ND.2.2 e)) (Bi_ _)
 have HD:H D=none:=by
  cases w:H D with
  |none=>rfl
  |some u =>obtain⟨o,g⟩:=JB_ (I.hok D u w);show absurd rfl (fr D o g)
 have I1:Inv X pins σ H {s with heap:=h1,toks:=s.toks}:=I.led hn F1 N1' (λ_ _ _ n=>n) (λ_ _ w=>w) (λb o w n=>by rw[w]at n;cases n);show kind its _ rv I1 _ ?_;rw[<-hl];show m8_ (lt:=lt) (n:=ys.length) (λi j C hi hj hC=>less its _ i j rv I1 hi hj C hC) _ run ?_;show KasFin.intro F1 N1 (.head λz hz' w=>?_) λh2' c F2 N2=>?_
 .show absurd (lt1 z hz') (by rw[w];show Bi_ _)
 .have N2':News X.base X.env.locals h2' (FB_ X.base s.heap X.env.locals):=λz hz'=>N2 z (Ak_ _ hz');have hD:=(N2 (D,_) An_).1;show⟨.ref D,upd H D (.lst (pm.toList.map λi=>ys.getD i .non)),I.led (t':=s.toks) hn F2 N2' (λb o e n=>by rw[af_ (fr b o e)];show n) (λb o e=>by rw[af_ (ae_ e HD)];show e) (λb o e n=>?_),rfl,q D HD⟩;by_cases hb:b=D
  .subst hb;rw[ab_]at e;cases e;show⟨AO_ (EN_ (by simp;lia)),_,c,jD_ rv _,hD⟩
  .rw[af_ hb,n]at e;cases e
open HT
open PySem.SeqAt
open PySem.AutoSeq1 (wpAny_loadPart')
open PySem.MeetsSeq PySem.MeetsSeq2 PySem.MeetsSeq3
variable {prog:Program}{w:World}{A:Around}{E:Value->Shared->Prop}
theorem dA_{α β:Type}{lt:Nat->Nat->Bool}{N:Nat}{f:α->KasT β}:∀(t:KasT α){a:α},Gt_ lt N t=some a->Gt_ lt N (t.bind f)=Gt_ lt N (f a)
 | .ret b,a,e=>by cases e;rfl
 | .ask i j k,a,e=>by
  unfold Gt_ at e;change(if i<N/\j<N then Gt_ lt N ((k (lt i j)).bind f)else none)=_;split at e
  .rename_i h;rw[if_pos h];show dA_ (k (lt i j)) e
  .cases e
section
variable {lt:Nat->Nat->Bool}{N:Nat}
def Pm(N:Nat)(p:Array Nat):Prop:=p.Perm (List.toArray (List.range N))
theorem Pm.below{p:Array Nat}(h:Pm N p)(h0:0<N)(i:Nat):p.getD i 0<N:=by
 by_cases hi:i<p.size
 .have e:p.getD i 0=p[i]:=by simp[Array.getD,hi]
  have m:p[i]∈(List.range N):=by
   have:p[i]∈p.toList:=s_
   show(Bu_.mp h).mem_iff.mp this
  rw[e];show AJ_.mp m
 .have e:p.getD i 0=0:=by simp[Array.getD,hi]
  rw[e];show h0
theorem Pm.rev{p:Array Nat}(h:Pm N p)(i j:Nat):Pm N (kas_rev p i j):=(mirror_perm _ _ _ _).trans h
end
theorem Inv.frm(I:Inv X pins σ H s):∃m,s.heap.Ns X.env.locals m/\Fr X.base X.env.locals s.heap m:=by obtain⟨m,hn,_⟩:=id I.loc;show⟨m,hn,hn,I.bk,A7_ I.ok.bsz I.ok.above⟩
theorem Inv.led_new{X:Cx}{pins:List (Addr×Obj)}{σ:St}{H:Hp}{s:Shared}{t':Nat}{m:Str->Option Value}{h':Heap}{D:Addr}{o:HO}{ob:Obj}(I:Inv X pins σ H s)(hn:s.heap.Ns X.env.locals m)(F:Fr X.base X.env.locals h' m)
  (N:News X.base X.env.locals h' ((D,ob)::FB_ X.base s.heap X.env.locals)) (lt1:∀q∈FB_ X.base s.heap X.env.locals,q.1<D) (new:Fr_ X.prog X.w (upd H D o) h' D o):H D=none/\Inv X pins σ (upd H D o) {s with heap:=h',toks:=t'}:=by
 have ND:=N (D,ob) An_;have fr:∀b o,s.heap.get? b=some o->b≠D:=λb o e w=>by subst w;show absurd (lt1 (b,o) (dP_ ND.2.1 ND.2.2 e)) (Bi_ _)
 have HD:H D=none:=by
  cases w:H D with
  |none=>rfl
  |some u =>obtain⟨o',g⟩:=JB_ (I.hok D u w);show absurd rfl (fr D o' g)
 show⟨HD,I.led hn F (λz hz'=>N z (Ak_ _ hz')) (λb o' e n=>by rw[af_ (fr b o' e)];show n) (λb o' e=>by rw[af_ (ae_ e HD)];show e) (λb o' e n=>?_)⟩;by_cases hb:b=D
 .subst hb;rw[ab_]at e;cases e;show new
 .rw[af_ hb,n]at e;cases e
def J1_:List V->Hp->VK->Prop:=λvs H Q=>∃(p:Addr)(ns:List Int),vs=[.ref p]/\H p=some (.lst (ns.map V.int))/\ns.length<64/\∀(l:Addr)(zs:List Int),H l=none->zs.Perm ns->zs.Pairwise (· <= ·)->Q (.ref l) (upd H l (.lst (zs.map V.int)))
theorem gN_:∀{us:List Value}{ns:List Int},IntsAre us ns->Fe_ (ns.map V.int) us
 |_,_,.nil=>.nil
 |_,_,.cons n t h=>.cons ⟨t,rfl⟩ (gN_ h)
theorem l2_:FE_ X (.builtin "sorted") J1_:=by intro pins s σ H xs us Q I r h;obtain⟨p,ns,rfl,hp,h64,q⟩:=h;obtain⟨u,rfl,e⟩:=FU_ r;cases e;obtain⟨its,rv,pl,_⟩:=I.list (.inl (.inl hp));obtain⟨m,hn,F0⟩:=I.frm;show kso_sorted F0 fw_ pl.isList (lX_ rv) h64 λD vs' zs c h' F N lt1 hz hlz hpm hpw _=>?_;have hD:=(N (D,_) An_).1;obtain⟨HD,I2⟩:=I.led_new (t':=s.toks) (o:=.lst (zs.map V.int)) hn F N lt1 ⟨AO_ (EN_ (by rw[Ab_];lia)),vs',c,gN_ hz,hD⟩;show⟨.ref D,_,I2,rfl,q D zs HD hpm hpw⟩
theorem La_{a:Addr}{v:Value}{n:Nat}{P:PySem.Fin->Shared->Prop}(ho:s.heap.get? a=some (seqObj "list" #[v] n))
  (h:∀h' c,(∀b o,b≠a->s.heap.get? b=some o->h'.get? b=some o)->h'.get? a=some (seqObj "list" #[v] c)->P (.done (.ret .none)) {s with heap:=h'}):wpAny (model prog w) A (Builtin.«list.sort» ⟨[.ref a],[]⟩) P E s:=by
 have s1:=Heap.SameBut.update s.heap a (Obj.mapSeq λ_=>(#[]:Array Value));obtain⟨e1,o1⟩:∃e1,(s.heap.update a (Obj.mapSeq λ_=>(#[]:Array Value))).get? a=some (seqObj "list" #[] e1):=⟨_,CN_ ho λ_=>#[]⟩;rw[list_sort_plain];show Af_ (listItems_at ho rfl (Af_ (CY_ ho rfl (Af_ (seqEpoch_at o1 rfl (Af_ (wpAny_newTuple (Af_ (wpAny_newList (Bj_ ?_) (AP_ _))) ?_)))) ?_ (AP_ _))))
 .dsimp only
  have lt2:(#[v]:Array Value).size<2:=by change 1<2;decide
  rw[if_pos lt2];show Af_ (Ax_ ?_);rw[if_pos lt2];have k3:∀b o,(s.heap.update a (Obj.mapSeq λ_=>(#[]:Array Value))).get? b=some o->(((s.heap.update a (Obj.mapSeq λ_=>(#[]:Array Value))).push (seqObj "tuple" #[v] 0)).push (seqObj "list" #[] 0)).get? b=some o:=λb o e=>Aj_ _ (Aj_ _ e);have o3:=k3 _ _ o1;have st:failedOf (SortSt.mk' general' ((#[v]:Array Value).zip #[v]) #[] 7 none)=none:=rfl;have ar:(arrOf (SortSt.mk' general' ((#[v]:Array Value).zip #[v]) #[] 7 none)).map (λx=>x.snd)=#[v]:=by rw[show arrOf (SortSt.mk' general' ((#[v]:Array Value).zip #[v]) #[] 7 none)=(#[v]:Array Value).zip #[v]from rfl];simp
  show Af_ (Ax_ (a:=((),SortSt.mk' general' ((#[v]:Array Value).zip #[v]) #[] 7 none)) ?_);show Af_ (seqEpoch_at o3 rfl (Af_ (CY_ o3 rfl ?_ (AP_ _) ?_)))
  .dsimp only
   rw[ar,if_neg s_];obtain⟨c2,o4⟩:∃c2,((((s.heap.update a (Obj.mapSeq λ_=>(#[]:Array Value))).push (seqObj "tuple" #[v] 0)).push (seqObj "list" #[] 0)).update a (Obj.mapSeq λ_=>(#[v]:Array Value))).get? a=some (seqObj "list" #[v] c2):=⟨_,CN_ o3 λ_=>#[v]⟩;show Ax_ (h _ c2 (λb o hb e=>?_) o4);rw[A8_ _ _ (Ne.symm hb)];show k3 b o ?_;rw[A8_ _ _ (Ne.symm hb)];show e
  .rw[ar];show(show 1<=sizeLine+1 from Nat.le_add_left 1 _)
 .show(show 1<=sizeLine from AO_ (EN_ d_))
 .show(show 1<=sizeLine from AO_ (EN_ d_))
theorem JE_{l:Addr}{v:Value}{Q:Value->Shared->Prop}(hl:s.heap.IsList l #[v])
  (h:∀D h' c,s.heap.objs.size<=D->(∀b o,s.heap.get? b=some o->h'.get? b=some o)->h'.get? D=some (seqObj "list" #[v] c)->Q (.ref D) {s with heap:=h'}):wpAny (model prog w) A (call (.builtin "sorted") [.ref l]) Q E s:=by
 show Calls.call_function_entry kind_sorted plain_sorted entry_sorted (args_sorted1 _) ?_;unfold Builtin.«sorted»;have z1:(#[v]:Array Value).size<=sizeLine:=(show 1<=sizeLine from AO_ (EN_ d_));show Af_ (m:=checkCount "sorted" 1 1 _) (Ax_ (Af_ (collect_list hl (Af_ (wpAny_newList ?_ z1)) z1)));have hz:((s.heap.push (seqObj "list" #[] 0)).update s.heap.objs.size (Obj.mapSeq λx=>x ++ #[v])).objs.size=s.heap.objs.size+1:=by rw[Heap.size_update,size_push']
 have kp:∀b o,s.heap.get? b=some o->(((s.heap.push (seqObj "list" #[] 0)).update s.heap.objs.size (Obj.mapSeq λx=>x ++ #[v])).push (seqObj "list" #[v] 0)).get? b=some o:=λb o q=>by have hlt:=Au_ q;show Aj_ _ ?_;rw[A8_ _ _ (C3_ hlt)];show Aj_ _ q
 have ho:=AC_ ((s.heap.push (seqObj "list" #[] 0)).update s.heap.objs.size (Obj.mapSeq λx=>x ++ #[v])) (o:=seqObj "list" #[v] 0) rfl;show Af_ (Bj_ (C6_ slot_list_sort ⟨_,ho,rfl⟩ entry_list_sort (La_ (n:=0) ho λh' c k2 hD=>⟨_,rfl,Ax_ ⟨_,rfl,h _ h' c ?_ (λb o e=>k2 b o ?_ (kp b o e)) hD⟩⟩) (args_list_sort _)))
 .change s.heap.objs.size<=((s.heap.push (seqObj "list" #[] 0)).update s.heap.objs.size (Obj.mapSeq λx=>x ++ #[v])).objs.size;rw[hz];show Cn_ _
 .have:=Au_ e;change b≠((s.heap.push (seqObj "list" #[] 0)).update s.heap.objs.size (Obj.mapSeq λx=>x ++ #[v])).objs.size;rw[hz];show AE_ (BC_ this)
def J0_:List V->Hp->VK->Prop:=λvs H Q=>∃(p:Addr)(y:V),vs=[.ref p]/\H p=some (.lst [y])/\∀l,H l=none->Q (.ref l) (upd H l (.lst [y]))
theorem l3_:FE_ X (.builtin "sorted") J0_:=by intro pins s σ H xs us Q I r h;obtain⟨p,y,rfl,hp,q⟩:=h;obtain⟨u,rfl,e⟩:=FU_ r;cases e;obtain⟨its,rv,pl,_⟩:=I.list (.inl (.inl hp));obtain⟨v,rfl,ry⟩:=FU_ rv;show JE_ pl.isList λD h' c hD kp ho=>?_;show⟨.ref D,_,I.laid (t':=s.toks) kp hD (show Fr_ X.prog X.w _ h' _ (.lst [y])from⟨(show 1<=sizeLine from AO_ (EN_ d_)),[v],c,rv,ho⟩),rfl,q _ (I.hok.fresh hD)⟩
variable {h₀:Heap}{L a:Addr}{m:Str->Option Value}{news:List (Addr×Obj)}{vs:List Value}
abbrev G1_:List (Str×Value):=[(Str.ofString "reverse",.bool true)]
def Jd_(a:Addr)(before:Nat)(st:SortSt):Sem PySem.Fin:=do
 let out:=(arrOf st).map (·.2)
 let moved:=(<-seqEpoch a) != before
 Builtin.List.listUpdate (.ref a) λ_=>out.reverse
 if let some x:=failedOf st then rule "list.sort.comparison-raised";throw x
 if moved then rule "list.sort.modified";raiseError "ValueError" "list modified during sort"
 ret .none
def H5_(a:Addr)(xs:Array Value)(before:Nat):Sem PySem.Fin:=do
 let two:=xs.zip xs
 rule "list.sort.reverse"
 let kd <-if xs.size<2 then pure general' else keyKind' xs
 let((),st) <-(if xs.size<2 then pure ()else sortRuns').run (SortSt.mk' kd two.reverse #[] 7 none)
 Jd_ a before st
theorem iH_(a:Addr):Builtin.«list.sort» ⟨[.ref a],G1_⟩=(Builtin.List.listItems (.ref a) >>= λxs=>Builtin.List.listUpdate (.ref a) (λ_=>#[]) >>= λ_=>seqEpoch a >>= λbefore=>newTuple xs.toList >>= λheld=>newList [] >>= λstore=>holding [held,store] (H5_ a xs before)):=rfl
theorem p4_(xs:List Value):((List.toArray xs).zip (List.toArray xs)).reverse=(List.toArray xs.reverse).zip (List.toArray xs.reverse):=by have e:=kat_pairs (ks:=xs) (vs:=xs) true rfl;rw[if_pos rfl]at e;show e
theorem op_{n:Nat}{P:PySem.Fin->Shared->Prop}(F0:Fr h₀ L s.heap m)(N0:News h₀ L s.heap news)(got:s.heap.get? a=some (seqObj "list" vs.toArray n)) (aL:a≠L) (a0:h₀.get? a=none) (na:∀q∈news,q.1≠a) (two:2<=vs.length) (few:vs.length<64)
  (ask:∀c h',Fr h₀ L h' m->News h₀ L h' ((a,seqObj "list" #[] c)::news)->wpAny (model prog w) A (keyKind' vs.toArray) (λκ s1=>(kas_sort vs.length).kasWp (kas_ask prog w A κ vs.reverse) (λp s2=>KasFin h₀ L m a c ((p.toList.map λi=>vs.reverse.getD i Value.none).reverse) (λs3=>P (.done (.ret .none)) s3) s2) s1) (λ_ _=>False) {s with heap:=h'}):
  wpAny (model prog w) A (Builtin.«list.sort» ⟨[.ref a],G1_⟩) P E s:=by
 have lt:=Au_ got;have b1:=Heap.SameBut.update s.heap a (Obj.mapSeq λ_=>(#[]:Array Value));obtain⟨c,got1⟩:∃c,(s.heap.update a (Obj.mapSeq λ_=>(#[]:Array Value))).get? a=some (seqObj "list" #[] c):=⟨_,CN_ got λ_=>#[]⟩;have F1:=((kas_fr F0 b1 aL a0).push (seqObj "tuple" vs.toArray 0)).push (seqObj "list" #[] 0);have N1:=(kas_news N0 b1 na).grown (h':=((s.heap.update a (Obj.mapSeq λ_=>(#[]:Array Value))).push (seqObj "tuple" vs.toArray 0)).push (seqObj "list" #[] 0)) λb x e=>Aj_ _ (Aj_ _ e)
 have N2:News h₀ L (((s.heap.update a (Obj.mapSeq λ_=>(#[]:Array Value))).push (seqObj "tuple" vs.toArray 0)).push (seqObj "list" #[] 0)) ((a,seqObj "list" #[] c)::news):=λq hq=>by
  rcases Aq_.mp hq with rfl|hq
  .show⟨Aj_ _ (Aj_ _ got1),aL,a0⟩
  .show N1 q hq
 have asked:=ask c _ F1 N2;have big:64<=sizeLine:=by rw[B0_];decide
 rw[iH_];show Af_ (listItems_at got rfl (Af_ (CY_ got rfl (Af_ (seqEpoch_at got1 rfl (Af_ (wpAny_newTuple (Af_ (wpAny_newList (Bj_ ?_) (AP_ _))) (by change vs.length<=_;lia))))) (by rw[Ap_];lia) (AP_ _))));change wpAny (model prog w) A (H5_ a vs.toArray c) P E {s with heap:=((s.heap.update a (Obj.mapSeq λ_=>(#[]:Array Value))).push (seqObj "tuple" vs.toArray 0)).push (seqObj "list" #[] 0)};unfold H5_
 dsimp only
 have n2:¬ vs.toArray.size<2:=by rw[Ap_];lia
 rw[if_neg n2,if_neg n2,p4_];show Af_ (CJ_ (Af_ (Bl_ asked (λκ s0 hk=>?_) λ_ _ x=>x.elim)));have rl:vs.reverse.length=vs.length:=CQ_
 show Af_ (Bl_ (kat_run (ks:=vs.reverse) (vs:=vs.reverse) (Q:=λst s1=>∃p:Array Nat,p.size=vs.length/\arrOf st=p.map (kas_item (vs.reverse.toArray.zip vs.reverse.toArray))/\failedOf st=none/\KasFin h₀ L m a c ((p.toList.map λi=>vs.reverse.getD i Value.none).reverse) (λs2=>P (.done (.ret .none)) s2) s1)
  rfl o_ o_ (λp st s1 x1 x2 x3 x4=>⟨p,by rw[x1,rl],x2,x3,x4⟩) (by rw[rl];show hk)) ?_ λ_ _ e=>e)
 rintro⟨⟨⟩,st⟩ s1 ⟨p,hp,har,hf,news1,g,F2,N3,U,k⟩;obtain⟨pre,post,e0,hg,x1,x2⟩:=U.split;rw[e0]at N3;have now:=N3 (a,seqObj "list" #[] c) (Aw_ _ (.head _));have out:=kat_snds (ks:=vs.reverse) (vs:=vs.reverse) rfl har;have outr:((arrOf st).map (·.2)).reverse=List.toArray ((p.toList.map λi=>vs.reverse.getD i Value.none).reverse):=by rw[out];simp
 unfold Jd_
 dsimp only
 rw[outr];have sz:(List.toArray ((p.toList.map λi=>vs.reverse.getD i Value.none).reverse)).size=vs.length:=by rw[Ap_,CQ_,Ab_,CP_,hp]
 have b2:=Heap.SameBut.update s1.heap a (Obj.mapSeq λ_=>List.toArray ((p.toList.map λi=>vs.reverse.getD i Value.none).reverse));obtain⟨c2,got2⟩:∃c2,(s1.heap.update a (Obj.mapSeq λ_=>List.toArray ((p.toList.map λi=>vs.reverse.getD i Value.none).reverse))).get? a=some (seqObj "list" (List.toArray ((p.toList.map λi=>vs.reverse.getD i Value.none).reverse)) c2):=⟨_,CN_ now.1 λ_=>List.toArray ((p.toList.map λi=>vs.reverse.getD i Value.none).reverse)⟩;show Af_ (seqEpoch_at now.1 rfl (Af_ (CY_ now.1 rfl ?_ (AP_ _) (by rw[sz];lia))));rw[hf];simp only[bne_self_eq_false,CV_,Dn_];show Ax_ (k _ c2 (kas_fr F2 b2 now.2.1 now.2.2) ?_);rw[hg];show news_set N3 x1 x2 b2 got2
theorem jE_(x:Value):argsOk "sorted" ⟨[x],G1_⟩:=by unfold argsOk;kernel_rfl
theorem l4_(x:Value):argsOk "list.sort" ⟨[x],G1_⟩:=by unfold argsOk;kernel_rfl
theorem l5_{l:Addr}{Q:Value->Shared->Prop}(F0:Fr h₀ L s.heap m)(N0:News h₀ L s.heap news)(isl:s.heap.IsList l vs.toArray)(two:2<=vs.length)(few:vs.length<64)
  (ask:∀D c h',Fr h₀ L h' m->News h₀ L h' ((D,seqObj "list" #[] c)::news)->(∀q∈news,q.1<D)->wpAny (model prog w) A.in1.in1 (keyKind' vs.toArray) (λκ s1=>(kas_sort vs.length).kasWp (kas_ask prog w A.in1.in1 κ vs.reverse) (λp s2=>KasFin h₀ L m D c ((p.toList.map λi=>vs.reverse.getD i Value.none).reverse) (λs3=>Q (.ref D) s3) s2) s1) (λ_ _=>False) {s with heap:=h'}):
  wpAny (model prog w) A (call (.builtin "sorted") [.ref l] G1_) Q E s:=by
 have big:64<=sizeLine:=by rw[B0_];decide
 show call_function_entry_kw kind_sorted plain_sorted entry_sorted (jE_ _) ?_;unfold Builtin.«sorted»;show Af_ (m:=checkCount "sorted" 1 1 _) (Ax_ (Af_ (collect_list isl (Af_ (wpAny_newList ?_ o_)) o_)));have sz:((s.heap.push (seqObj "list" #[] 0)).update s.heap.objs.size (Obj.mapSeq (· ++ vs.toArray))).objs.size=s.heap.objs.size+1:=(Heap.size_update ..).trans (size_push' ..);obtain⟨hx,ex⟩:∃hx,hx=(s.heap.push (seqObj "list" #[] 0)).update s.heap.objs.size (Obj.mapSeq (· ++ vs.toArray)):=⟨_,rfl⟩;rw[<-ex]at sz;have got:(hx.push (seqObj "list" vs.toArray 0)).get? (s.heap.objs.size+1)=some (seqObj "list" vs.toArray 0):=by rw[<-sz];show AC_ _ rfl
 have kp:∀b o,s.heap.get? b=some o->(hx.push (seqObj "list" vs.toArray 0)).get? b=some o:=λb o q=>by have hb:=Au_ q;rw[Heap.get?_push_ne _ _ _ (by rw[sz];show AE_ (BC_ hb)),ex,Heap.get?_update_ne _ _ _ _ (AE_ hb),Heap.get?_push_ne _ _ _ (AE_ hb)];show q
 have hL:=F0.ns.lt;change wpAny _ _ _ _ _ {s with heap:=((s.heap.push (seqObj "list" #[] 0)).update s.heap.objs.size (Obj.mapSeq (· ++ vs.toArray))).push (seqObj "list" vs.toArray 0)};rw[<-ex,sz];show Af_ (Bj_ (wpAny_call_entry_kw slot_list_sort ⟨_,got,rfl⟩ entry_list_sort ?body (l4_ _)))
 case body =>change wpAny (model prog w) A.in1.in1 (Builtin.«list.sort» ⟨[.ref (s.heap.objs.size+1)],G1_⟩) _ _ _;show op_ (s:={s with heap:=hx.push (seqObj "list" vs.toArray 0)}) (F0.kept kp) (N0.grown kp) got (C3_ (BC_ hL)) (Heap.get?_none_of_le (A7_ F0.above (Nat.le_succ_of_le (AO_ hL)))) (λq hq=>AE_ (BC_ (Au_ (N0 q hq).1))) two few λc h' F' N'=>?_;show Bl_ (ask _ c h' F' N' λq hq=>BC_ (Au_ (N0 q hq).1)) (λκ s1 hk=>?_) λ_ _ x=>x;rw[kat_ask_eq (vs:=vs.reverse) rfl]at hk⊢;show kas_wp_mono hk λp s2 hk2=>hk2.mono λs3 hq=>⟨_,rfl,Ax_ ⟨_,rfl,hq⟩⟩
theorem l6_{Q:VK}{p:Addr}{ys:List V}{lt:Nat->Nat->Bool}{κ:SortKind}{pm:Array Nat}(I:Inv X pins σ H s)(hq:SqL X.K H p ys)(h2:2<=ys.length)(h64:ys.length<64)
  (kind:∀(its:List Value)(s':Shared),Fe_ ys its->Inv X pins σ H s'->∀C:SortKind->Shared->Prop,C κ s'->wpAny (model X.prog X.w) X.A.in1.in1 (keyKind' its.toArray) C (λ_ _=>False) s')
  (less:∀(its:List Value)(s':Shared)(i j:Nat),Fe_ ys.reverse its->Inv X pins σ H s'->i<ys.length->j<ys.length->∀C:Bool->Shared->Prop,C (lt i j) s'->wpAny (model X.prog X.w) X.A.in1.in1 (keyLt' κ (its.getD i Value.none) (its.getD j Value.none)) C (λ_ _=>False) s')
  (run:Gt_ lt ys.length (kas_sort ys.length)=some pm) (hz:pm.size<=1000) (q:∀l,H l=none->Q (.ref l) (upd H l (.lst (pm.toList.map λi=>ys.reverse.getD i .non).reverse))):
  wpAny (model X.prog X.w) X.A (call (.builtin "sorted") [.ref p] G1_) (EP X pins σ Q) X.xe s:=by
 obtain⟨its,rv,pl,_⟩:=I.list hq;have hl:=rv.length;obtain⟨m,hn,F0⟩:=I.frm;show l5_ F0 fw_ pl.isList o_ o_ λD e1 h1 F1 N1 lt1=>?_;have N1':News X.base X.env.locals h1 (FB_ X.base s.heap X.env.locals):=λz hz'=>N1 z (Ak_ _ hz');have ND:=N1 (D,_) An_;have fr:∀b o,s.heap.get? b=some o->b≠D:=λb o e w=>by subst w;show absurd (lt1 (b,o) (dP_ ND.2.1 ND.2.2 e)) (Bi_ _)
 have HD:H D=none:=by
  cases w:H D with
  |none=>rfl
  |some u =>obtain⟨o,g⟩:=JB_ (I.hok D u w);show absurd rfl (fr D o g)
 have I1:Inv X pins σ H {s with heap:=h1,toks:=s.toks}:=I.led hn F1 N1' (λ_ _ _ n=>n) (λ_ _ w=>w) (λb o w n=>by rw[w]at n;cases n);have rvr:Fe_ ys.reverse its.reverse:=rv.reverse;show kind its _ rv I1 _ ?_;rw[<-hl];show m8_ (lt:=lt) (n:=ys.length) (λi j C hi hj hC=>less its.reverse _ i j rvr I1 hi hj C hC) _ run ?_;show KasFin.intro F1 N1 (.head λz hz' w=>?_) λh2' c F2 N2=>?_
 .show absurd (lt1 z hz') (by rw[w];show Bi_ _)
 .have N2':News X.base X.env.locals h2' (FB_ X.base s.heap X.env.locals):=λz hz'=>N2 z (Ak_ _ hz');have hD:=(N2 (D,_) An_).1;show⟨.ref D,upd H D (.lst (pm.toList.map λi=>ys.reverse.getD i .non).reverse),I.led (t':=s.toks) hn F2 N2' (λb o e n=>by rw[af_ (fr b o e)];show n) (λb o e=>by rw[af_ (ae_ e HD)];show e) (λb o e n=>?_),rfl,q D HD⟩;by_cases hb:b=D
  .subst hb;rw[ab_]at e;cases e;show⟨AO_ (EN_ (by simp;lia)),_,c,(jD_ rvr _).reverse,hD⟩
  .rw[af_ hb,n]at e;cases e
def LG_(T:String):V->Prop
 | .int _=>T = "int"
 | .str _=>T = "str"
 |_=>False
theorem hI_(T:String)(I:Inv X pins σ H s):∀{ys:List V}{its:List Value},Fe_ ys its->(∀y∈ys,∃a x z,y=.ref a/\H a=some (.tup [x,z])/\LG_ T x) ->
  ∃fs,KatTups s.heap its fs/\fs.length=its.length/\∀v∈fs,Looks (model X.prog X.w) s.heap (typeOf v) (.type T)
 |[],_,.nil,_=>⟨[],.nil,rfl,λv hv=>nomatch hv⟩
 |y::ys,_,.cons r1 r2,h=>by
  obtain⟨fs,t,hl,hf⟩:=hI_ T I r2 λy hy=>h y (Ak_ _ hy);obtain⟨a,x,z,rfl,ha,fx⟩:=h _ An_;cases r1;obtain⟨zs,rz,⟨ob,ho,hcl,n,hd⟩,_⟩:=I.tuple (.inl (.inl ha));obtain⟨u,w',rfl,ru,rw'⟩:=Gz_ rz;show⟨u::fs,.cons ho hcl hd rfl t,by simp[hl],λv hv=>?_⟩
  rcases Aq_.mp hv with rfl|hv
  .cases x with
   |int i=>obtain⟨t,rfl⟩:=ru;cases fx;show .now
   |str i=>obtain⟨t,rfl⟩:=ru;cases fx;show .now
   |_=>show absurd fx (by simp[LG_])
  .show hf v hv
theorem jF_(I:Inv X pins σ H s){a b:Addr}{x1 x2 y1 y2:V}{d1 d2 e1 e2:Dt}{b1 b2:Bool}{C:Bool->Shared->Prop}{A:Around}{E:Value->Shared->Prop}(hu:A.units+60<cLine)
  (ha:H a=some (.tup [x1,x2])) (hb:H b=some (.tup [y1,y2])) (r1:Rep H x1 d1) (r2:Rep H x2 d2) (q1:Rep H y1 e1) (q2:Rep H y2 e2) (h1:deq d1 e1=some b1) (h2:deq d2 e2=some b2) (z1:dep d1<=50) (z2:dep d2<=50)
  (c1:b1=false->∀u v,Fm_ x1 u->Fm_ y1 v->wpAny (model X.prog X.w) A (oneLt' true u v) C (λ_ _=>False) s)
  (c2:b1=true->b2=false->∀u v,Fm_ x2 u->Fm_ y2 v->wpAny (model X.prog X.w) A (oneLt' false u v) C (λ_ _=>False) s)
  (c3:b1=true->b2=true->C false s):wpAny (model X.prog X.w) A (keyLt' (tuples' true) (.ref a) (.ref b)) C E s:=by
 obtain⟨zs,rz,⟨ob,ho,hcl,n,hd⟩,_⟩:=I.tuple (.inl (.inl ha));obtain⟨u1,u2,rfl,ru1,ru2⟩:=Gz_ rz;obtain⟨ws,rw,⟨ob',ho',hcl',n',hd'⟩,_⟩:=I.tuple (.inl (.inl hb));obtain⟨v1,v2,rfl,rv1,rv2⟩:=Gz_ rw;show kat_lt ho hd ho' hd' ?_;show kat_cons (mW_ I Vw.refl d1 e1 r1 q1 ru1 rv1 h1 o_ _ _ _ _ ?_);cases b1 with
 |false=>show kat_no (c1 rfl _ _ ru1 rv1)
 |true =>
  show kat_yes (kat_cons (mW_ I Vw.refl d2 e2 r2 q2 ru2 rv2 h2 o_ _ _ _ _ ?_));cases b2 with
  |false=>show kat_no (c2 rfl rfl _ _ ru2 rv2)
  |true=>show kat_yes (kat_nil (c3 rfl rfl))
def IN_(ta:TA):TE:=λσ H Q=>ta σ H λvs H1=>∃(p x y:Addr)(c d:Int×Int),vs=[.ref p]/\H1 p=some (.lst [.ref x,.ref y])/\H1 x=some (.tup [.int c.1,.int c.2])/\H1 y=some (.tup [.int d.1,.int d.2])/\∀l zs,H1 l=none->(zs=[V.ref x,V.ref y]\/zs=[V.ref y,V.ref x])->Q (.ref l) (upd H1 l (.lst zs))
theorem oq_{p:Array Nat}(h:Pm 2 p):p.toList=[0,1]\/p.toList=[1,0]:=by
 have e:=Bu_.mp h;have hl:p.toList.length=2:=by simpa using e.length_eq
 match hp:p.toList,hl with
 |[a,b],_ =>
  rw[hp]at e;have m0:=e.mem_iff (a:=0);have m1:=e.mem_iff (a:=1);have ma:=e.mem_iff (a:=a);have mb:=e.mem_iff (a:=b);simp[List.range,List.range.loop]at m0 m1 ma mb
  rcases ma with rfl|rfl <;> rcases mb with rfl|rfl <;> simp_all
def Kd_:R2:=λx y H Q=>∃i n,x=.str i/\y=.int n/\MulOk i n/\Q (.str (Txt.mul i n)) H
theorem ik_:OpR X (binaryOp .Mult) Kd_:=by intro pins s σ H x y v u Q I rx ry h;obtain⟨i,n,rfl,rfl,ok,q⟩:=h;obtain⟨t,rfl⟩:=rx;obtain⟨t',rfl⟩:=ry;show SB.mul ok λt' k=>⟨.str (Txt.mul i n),H,I.tok _,⟨_,rfl⟩,q⟩
theorem na_:∀{ts:List Str}{us:List Value},Fe_ (ts.map V.str) us->∃l:List (Str×Tok),strValues l=us/\l.map (·.1)=ts
 |[],_,.nil=>⟨[],rfl,rfl⟩
 |t::ts,_,.cons ⟨k,e⟩ r=>by obtain⟨l,e1,e2⟩:=na_ (ts:=ts) r;show⟨(t,k)::l,by rw[e,<-e1];rfl,by rw[<-e2];rfl⟩
def JX_:V->List V->Hp->VK->Prop:=λx vs H Q=>∃z p ts,x=.str z/\vs=[.ref p]/\H p=some (.lst (ts.map V.str))/\JoinOk z ts=true/\Q (.str (Txt.join z ts)) H
theorem p5_:MtR X "str.join" JX_:=by intro pins s σ H x xs v us Q I rx r h;obtain⟨z,p,ts,rfl,rfl,hp,ok,q⟩:=h;obtain⟨t,rfl⟩:=rx;obtain⟨u,rfl,e⟩:=FU_ r;cases e;obtain⟨its,rv,pl,_⟩:=I.list (.inl (.inl hp));obtain⟨l,e1,e2⟩:=na_ rv;subst e1;show SC.join pl.isList e2 ok λt' k=>⟨.str _,H,I.tok _,⟨_,rfl⟩,q⟩
theorem iI_(i j:Str):(i++j).length=i.length+j.length:=by change(i.cps++j.cps).size=_;rw[Array.size_append];rfl
theorem rg_{X:Cx}{K:PySem.W.Frag}{o e:Expr}{es:List Expr}{to:TE}{t:TA}{name:Str}{apos cpos:Pos}{T id:String}{r:V->List V->Hp->VK->Prop}(hK:X.K=K)(pa:PlainAttrs T)(slot:Slot T name id)(hty:typeOf (.builtin id)=pure (.type "method_descriptor")) (hm:MtR X id r) (ho:PE X o to) (ha:PA X (e::es) t)
  (hbase:attributeBase o name X.env (eval o X.env)=eval o X.env:=by rfl)
  (hfew:((backTo cpos (starEach (e::es) X.env)).all (λx=>!x.1) && (backToKw cpos (keywordEach [] X.env)).all (λx=>x.1.isSome) && decide ((e::es).length+([]:List Keyword).length+(if([]:List Keyword).isEmpty then 0 else 1)<30))=true:=by rfl)
  (hline:(apos.endLine == cpos.line)=true:=by rfl) (hs:starEach (e::es) X.env=(false,eval e X.env)::starEach es X.env:=by rfl) (hplain:(backTo cpos (starEach es X.env)).any (·.1)=false:=by rfl):
  PE X (.Call (.Attribute o name apos) (e::es) [] cpos) (tBM K T r to t):=by
 subst hK;show FM_ pa slot hty hm ho ha hbase hfew hline hs hplain
def rSlS:V->Option Int->Option Int->Hp->VK->Prop:=λx lo hi H Q=>∃z:Str,x=.str z/\z.length<=sizeLine/\∀y:Str,y.length<=z.length->(∀c∈y.cps.toList,c∈z.cps.toList)->Q (.str y) H
theorem nb_{v:Value}{o:Option Int}(h:IsPart v o):∃l:Option (Int×Tok),v=partValue l/\l.map (·.1)=o:=by
 cases h with
 |none=>show⟨none,rfl,rfl⟩
 |int i t=>show⟨some (i,t),rfl,rfl⟩
def Ii_:V->List V->Hp->VK->Prop:=λx vs H Q=>∃(a:Addr)(kvs:List (Key×V))(k:Key)(z:V),x=.ref a/\vs=[kV k,z]/\H a=some (.dK kvs)/\kvs.length<1000/\(∀v,FH_ kvs k=some v->Q v H)/\(FH_ kvs k=none->Q z (upd H a (.dK (FQ_ kvs k z))))
theorem iJ_:MtR X "dict.setdefault" Ii_:=by
 intro pins s σ H x xs v us Q I rx r h;obtain⟨a,kvs,k,z,rfl,rfl,e,hz,h1,h2⟩:=h;cases rx;obtain⟨u,w',rfl,ru,rw'⟩:=Gz_ r;obtain⟨_,hd,vs,rel,dd⟩:=HL_ I.hok e;have hl:vs.length<=sizeLine:=by rw[<-rel.length];show AO_ (EN_ (AO_ hz))
 show DK_ CR_ dd.typeIs PySem.F.entry_dict_setdefault (PySem.F.args_dict_setdefault_3 _ _ _) (kt_meets_setdefault (E1_ X.prog X.w) a (Hb_ ru) hd w') ⟨vs,dd,hl,λv hv=>?_,λhn h' dd' hs=>?_⟩
 .have rv:=rel.val k;rw[hv]at rv;cases e2:FH_ kvs k with
  |none=>rw[e2]at rv;cases rv
  |some y =>rw[e2]at rv;show⟨y,H,I.tok _,rv,h1 y e2⟩
 .have rv:=rel.val k;rw[hn]at rv;cases e2:FH_ kvs k with
  |some y=>rw[e2]at rv;cases rv
  |none =>
   have he:∃q,h'.get? a=some q:=let⟨q,_,_,hq,_⟩:=dd';⟨q,hq⟩;have pl:(FQ_ kvs k z).length<=sizeLine:=by have:=bv_ kvs k z;have:=EN_ (n:=1000) (Ah_ _);lia
   show⟨z,_,iD_ (t':=s.toks+1) I (by rw[e];show True.intro) hs he (m2_ pl hd (rel.put k rw') dd'),rw',h2 e2⟩
def Idv(d:Addr)(ob:Obj)(kvs:List (Key×V)):It :=
 ⟨λi H=>H d=some (.frz ob (.dK kvs))/\i<kvs.length,λi H x H'=>H'=H/\∃k,kvs[i]?=some (k,x),λi H=>H d=some (.frz ob (.dK kvs))/\kvs.length<=i⟩
def Idk(d:Addr)(ob:Obj)(kvs:List (Key×V)):It :=
 ⟨λi H=>H d=some (.frz ob (.dK kvs))/\i<kvs.length,λi H x H'=>H'=H/\∃k v,kvs[i]?=some (k,v)/\x=kV k,λi H=>H d=some (.frz ob (.dK kvs))/\kvs.length<=i⟩
theorem eX_{α β:Type}{F:α->β->Prop}:∀{l:List α}{m:List β}{i:Nat}{a:α}{b:β},Paired F l m->l[i]?=some a->m[i]?=some b->F a b
 |_,_,_,_,_,.nil,h,_=>by cases h
 |_,_,0,_,_,.cons x _,h1,h2=>by cases h1;cases h2;show x
 |_,_,i+1,_,_,.cons _ r,h1,h2=>eX_ (i:=i) r h1 h2
variable{kvs:List (Key×V)}{es0:Array DictEntry}{ep:Nat}
theorem nc_{d:Addr}{ob:Obj}(ok:HOk P w H h)(e:H d=some (.frz ob (.dK kvs)))(hd:ob.data=.dict es0 ep):∃vs,KV kvs vs/\h.DictAt (E1_ P w) d vs ep:=by obtain⟨g,_,_,vs,rel,o,es,ep',ho,r1,r2,r3⟩:=(show Fr_ P w H h d (.frz ob (.dK kvs))from ok d _ e);rw[g]at ho;cases ho;rw[hd]at r2;cases r2;show⟨vs,rel,ob,es0,g,r1,hd,r3⟩
theorem nd_{K:PySem.W.Frag}{tg:Expr}{d it:Addr}{ob:Obj}(hob:ob.data=.dict es0 ep):
  Jv_ P w K tg (Idv d ob kvs) [it] it (λi h=>h.IsValIter it d i kvs.length ep) where
 mem:=s_
 obj:=λi h st b hb=>by
  have e:b=it:=by simpa using hb
  subst e;obtain⟨o,e,c,dd⟩:=st;show⟨o,e,λv z=>by rw[dd]at z;cases z⟩
 keep:=λi h h' st k=>let⟨o,e,r⟩:=st;⟨o,k it s_ o e,r⟩
 item:=by intro X hP hw hK hc i pins s σ H E I hf st hg;subst hP hw hK;obtain⟨e,hi⟩:=hg;obtain⟨vs,rel,da⟩:=nc_ I.hok e hob;have hl:kvs.length=vs.length:=rel.length;obtain⟨f0,f1,f2,f3,f4,f5⟩:=hf it s_;have hx:vs[i]?=some (vs[i]'o_):=Aa_ _;have hk:kvs[i]?=some (kvs[i]):=Aa_ _;obtain⟨e1,e2⟩:=eX_ rel hk hx;rw[hl]at st;show wpAny_pyNext_values_item st da (k:=(vs[i]'o_).1) (v:=(vs[i]'o_).2) hx λh' st' sb=>?_;have I1:Inv X pins σ H {s with heap:=h'}:=I.turned (t':=s.toks) (λb o hb e=>(sb.2 b hb).trans e) f0 f1 f3 f4 f5;rw[<-hl]at st';obtain⟨o,e,c,dd⟩:=id st';show⟨_,rfl,HQ_ (s:={s with heap:=h'}) e c dd d_ ⟨(kvs[i]).2,H,I1,e2,⟨rfl,(kvs[i]).1,hk⟩,st',λb hb=>(hf b hb).1⟩⟩
 done:=by intro X hP hw hK hc i pins s σ H E I hf st hg;subst hP hw hK;obtain⟨e,hi⟩:=hg;obtain⟨vs,rel,da⟩:=nc_ I.hok e hob;have hl:kvs.length=vs.length:=rel.length;obtain⟨f0,f1,f2,f3,f4,f5⟩:=hf it s_;rw[hl]at st;show wpAny_pyNext_values_end (I.ok.hd hc) st da (Bh_ o_) λh' eb=>⟨rfl,I.turned (t':=s.toks) (λb o hb e=>eb b o hb e) f0 f1 f3 f4 f5⟩
 self:=λ_ _ _ _ _ st h=>wpAny_pyIter_valiter st h
theorem Inv.freeze{d:Addr}(I:Inv X pins σ H s)(e:H d=some (.dK kvs)):∃ob es0 ep,ob.data=.dict es0 ep/\s.heap.get? d=some ob/\Inv X pins σ (upd H d (.frz ob (.dK kvs))) s:=by obtain⟨z,hd,vs,rel,dd⟩:=HL_ I.hok e;obtain⟨ob,es,ep,ho,r1,r2,r3⟩:=id dd;show⟨ob,es,ep,r2,ho,?_⟩;have:=iD_ (h':=s.heap) (t':=s.toks) (ob:=.frz ob (.dK kvs)) I (by rw[e];show True.intro) ⟨rfl,λ_ _=>rfl⟩ ⟨ob,ho⟩ ⟨ho,z,hd,vs,rel,dd⟩;show this
def iDK(td:TE):TI:=λσ H R=>td σ H λx H1=>∃(d:Addr)(kvs:List (Key×V)),x=.ref d/\H1 d=some (.dK kvs)/\∀ob,R (Idk d ob kvs) (upd H1 d (.frz ob (.dK kvs)))
def iDV(td:TE):TI:=λσ H R=>td σ H λx H1=>∃(d:Addr)(kvs:List (Key×V)),x=.ref d/\H1 d=some (.dK kvs)/\∀ob,R (Idv d ob kvs) (upd H1 d (.frz ob (.dK kvs)))
theorem li_{tg o:Expr}{td:TE}{apos cpos:Pos}(ho:PE X o td)(hbase:attributeBase o "values" X.env (eval o X.env)=eval o X.env:=by rfl) (hline:(apos.endLine == cpos.line)=true:=by rfl):PI X tg (.Call (.Attribute o "values" apos) [] [] cpos) (iDV td):=by
 intro pins s σ H R I h;show C9_ hbase hline (thn (ho pins s σ H _ I h) λv s1 ⟨x,H1,I1,r1,d,kvs,e,hd,q⟩=>?_);subst e;cases r1;obtain⟨ob,es0,ep,hob,hoo,I2⟩:=I1.freeze hd;obtain⟨_,hsys,vs0,_,dd⟩:=HL_ I1.hok hd;show⟨"dict","dict.values",Cv_,C7_,PySem.F.type_dict_values,dd.typeIs,λb q=>?_,Cx_ rfl (Dt_ ?_)⟩
 .cases q;obtain⟨o2,_,_,h1,h2,_⟩:=id dd;show⟨o2,h1,h2.2.1⟩
 show DK_ C7_ dd.typeIs PySem.F.entry_dict_values (PySem.F.args_dict_values_1 _) (meets_dict_values (E1_ X.prog X.w) d hsys) ⟨⟨vs0,dd⟩,?_⟩;have I3:Inv X pins σ (upd H1 d (.frz ob (.dK kvs))) {s1 with heap:=s1.heap.push {cls:=.type "dict_values",data:=.fields #[.ref d]}}:=I2.kept (t':=s1.toks) λb o e=>Aj_ _ e;obtain⟨vs,rel,da⟩:=nc_ (kvs:=kvs) I3.hok ab_ hob;show wpAny_pyIter_values (s:={s1 with heap:=s1.heap.push {cls:=.type "dict_values",data:=.fields #[.ref d]}}) ⟨_,AC_ _ rfl,rfl,rfl⟩ da ?_;rw[<-show kvs.length=vs.length from rel.length];show⟨(s1.heap.push {cls:=.type "dict_values",data:=.fields #[.ref d]}).objs.size,[_],_,_,upd H1 d (.frz ob (.dK kvs)),rfl,I3.kept (t':=s1.toks) λb o e=>Aj_ _ e,nd_ hob,⟨_,AC_ _ rfl,rfl,rfl⟩,λb hb=>?_,q ob⟩;have e:b=_:=Ad_.mp hb;subst e;show I3.fpOk (Ah_ _) (I3.hok.fresh (Ah_ _))
theorem Ld_{d:Addr}{ob:Obj}{kvs:List (Key×V)}{g:TG}{tb:TS}{D:GZ_}{σ:St}{H:Hp}(Pv:Nat->St->Hp->Prop)(h0:Pv 0 σ H)(hl:∀i σ H,i<=kvs.length->Pv i σ H->H d=some (.frz ob (.dK kvs)))
  (hs:∀i k x σ H,kvs[i]?=some (k,x)->Pv i σ H->g x σ H λσ2 H2=>tb {D with nx:=Pv (i+1),ct:=Pv (i+1),bk:=D.nx} σ2 H2) (hd:∀σ H,Pv kvs.length σ H->D.nx σ H):GT_ (Idv d ob kvs) g tb D σ H:=by
 show⟨λi m σ H=>m=kvs.length-i/\i<=kvs.length/\Pv i σ H,⟨kvs.length,s_,AP_ _,h0⟩,?_⟩;rintro i m σ H ⟨rfl,hi,p⟩;have q:=hl i σ H hi p;by_cases hlt:i<kvs.length
 .show .inr ⟨⟨q,hlt⟩,Pv (i+1),λσ' H' p'=>⟨kvs.length-(i+1),o_,rfl,hlt,p'⟩,λx H' y=>?_⟩;obtain⟨rfl,k,hk⟩:=y;show hs i k x σ H' hk p
 .have e:i=kvs.length:=o_
  subst e;show .inl ⟨⟨q,Ah_ _⟩,hd σ H p⟩
theorem p6_{K:PySem.W.Frag}{a:Addr}{xs:List V}{g:TG}{tb:TS}{D:GZ_}{σ:St}{H:Hp}(Pv:Nat->St->Hp->Prop)(h0:Pv 0 σ H)(hl:∀i σ H,i<=xs.length->Pv i σ H->SqL K H a xs)
  (hs:∀i x T σ H,xs[i]?=some x->Pv i σ H->H T=none->g (.ref T) σ (upd H T (.tup [.int i,x])) λσ2 H2=>tb {D with nx:=Pv (i+1),ct:=Pv (i+1),bk:=D.nx} σ2 H2) (hd:∀σ H,Pv xs.length σ H->D.nx σ H):GT_ (Ite K a) g tb D σ H:=by
 show⟨λi m σ H=>m=xs.length-i/\i<=xs.length/\Pv i σ H,⟨xs.length,s_,AP_ _,h0⟩,?_⟩;rintro i m σ H ⟨rfl,hi,p⟩;have q:=hl i σ H hi p;by_cases hlt:i<xs.length
 .show .inr ⟨⟨xs,xs[i],q,by simp[hlt]⟩,Pv (i+1),λσ' H' p'=>⟨xs.length-(i+1),o_,rfl,hlt,p'⟩,λx H' y=>?_⟩;obtain⟨T,y,rfl,hT,rfl,hy⟩:=y;show hs i y T σ H (hy xs q) p hT
 .have e:i=xs.length:=o_
  subst e;show .inl ⟨⟨xs,q,Ah_ _⟩,hd σ H p⟩
def K8_(t:TGs):TG:=λv σ H Q=>∃(a:Addr)(x y:V),v=.ref a/\H a=some (.lst [x,y])/\t [x,y] σ H Q
end L2
namespace RimT
variable {S:Type}[DecidableEq S]
structure Net(S:Type) where
 posts:List S
 rows:List (S×List S)
 worths:List (S×(Int×Int))
def Net.all(N:Net S):List S:=(N.rows.map (·.2)).flatten
structure Fi_(N:Net S):Prop where
 nd:(N.rows.map (·.1)).Nodup
 two:∀x∈N.all,N.all.count x=2
 few:N.rows.length<=16
 tot:N.all.length<=30
 pl:N.posts.length<=6
 wl:N.worths.length<=15
def Fb_(ns ws:Nat->S)(T:List (List Nat))(ord:List Nat):List (S×List S):=ord.map λp=>(ns p,(T.getD p []).map ws)
theorem dB_{α:Type}{l m:List (List α)}(h:l.Perm m):l.flatten.Perm m.flatten:=by
 induction h with
 |nil=>show .nil
 |cons x _ ih=>rw[AR_,AR_];show ih.append_left x
 |swap x y l=>rw[AR_,AR_,AR_,AR_,<-BD_,<-BD_];show List.perm_append_comm.append_right _
 |trans _ _ h1 h2=>show h1.trans h2
theorem cK_{α:Type}(d:α)(l:List α):(List.range l.length).map (λi=>l.getD i d)=l:=by
 apply Cj_
 .simp
 .intro i h1 h2;simp[h2]
theorem iK_{ns ws:Nat->S}{T:List (List Nat)}{ord:List Nat}(h:ord.Perm (List.range T.length)):(((Fb_ ns ws T ord).map (·.2)).flatten).Perm (T.flatten.map ws):=by
 have e:(Fb_ ns ws T ord).map (·.2)=(ord.map λp=>T.getD p []).map λl=>l.map ws:=by unfold Fb_;rw[AZ_,AZ_];rfl
 rw[e,<-List.map_flatten];show List.Perm.map _ ?_;have h2:=h.map λp=>T.getD p [];rw[cK_]at h2;show dB_ h2
theorem fE_{α β:Type}[DecidableEq α][DecidableEq β]{f:α->β}{x:α}:∀{l:List α},(∀a∈l,f a=f x->a=x)->(l.map f).count (f x)=l.count x
 |[],_=>rfl
 |a::l,h=>by
  rw[Az_,BP_,BP_,fE_ λa ha=>h a (Ak_ _ ha)];congr 1;by_cases e:a=x
  .subst e;simp
  .have:f a≠f x:=λz=>e (h a An_ z);simp[e,this]
theorem rh_{P W:Nat}{T:List (List Nat)}(g:Gr P W T){ns ws:Nat->S}{ord:List Nat}(h:ord.Perm (List.range T.length))(hP:P<=6)(hW:W<=15)
  (hn:∀a b,a<T.length->b<T.length->ns a=ns b->a=b) (hw:∀a b,a<W->b<W->ws a=ws b->a=b) {ps:List S} {wo:List (S×(Int×Int))} (hps:ps.length<=6) (hwo:wo.length<=15):Fi_ (⟨ps,Fb_ ns ws T ord,wo⟩:Net S):=by
 have al:=iK_ (ns:=ns) (ws:=ws) h;have e:((Fb_ ns ws T ord).map (·.1))=ord.map ns:=by unfold Fb_;rw[AZ_];rfl
 show⟨?_,λx hx=>?_,?_,?_,hps,hwo⟩
 .change((Fb_ ns ws T ord).map (·.1)).Nodup;rw[e];unfold List.Nodup;rw[Bk_];show B4_ (λ{a b} ha hb ne z=>ne (hn a b (AJ_.mp (h.mem_iff.mp ha)) (AJ_.mp (h.mem_iff.mp hb)) z)) (h.nodup_iff.mpr CD_)
 .have hx':x∈T.flatten.map ws:=al.mem_iff.mp hx;obtain⟨w,hw1,rfl⟩:=Ai_.mp hx';change(((Fb_ ns ws T ord).map (·.2)).flatten).count (ws w)=2;rw[al.count_eq,fE_ λa ha z=>hw a w (g.lt a ha) (g.lt w hw1) z];show g.two w (g.lt w hw1)
 .change(Fb_ ns ws T ord).length<=16;unfold Fb_;have:=h.length_eq;rw[A9_]at this;rw[Ab_];have:=g.most;lia
 .change(((Fb_ ns ws T ord).map (·.2)).flatten).length<=30;rw[al.length_eq,Ab_,g.tot];lia
abbrev End(S:Type):=S×Nat
def G4_:List (S×List (End S))->S->End S->List (S×List (End S))
 |[],w,e=>[(w,[e])]
 | (k,es)::r,w,e=>if k=w then(k,es++[e])::r else(k,es)::G4_ r w e
theorem jG_{w:S}{e:End S}:∀{a:List (S×List (End S))},(∀kv∈a,kv.1≠w)->G4_ a w e=a++[(w,[e])]
 |[],_=>rfl
 | (k,es)::r,h=>by have:k≠w:=h (k,es) An_;rw[G4_,if_neg this,jG_ λkv hkv=>h kv (Ak_ _ hkv)];rfl
theorem fF_{w:S}{e:End S}:∀{a:List (S×List (End S))},(∃kv∈a,kv.1=w)->∃i es,a[i]?=some (w,es)/\(∀j kv,j<i->a[j]?=some kv->kv.1≠w)/\G4_ a w e=a.set i (w,es++[e])
 |[],h=>by obtain⟨kv,hkv,_⟩:=h;cases hkv
 | (k,es)::r,h=>by
  by_cases hk:k=w
  .subst hk;show⟨0,es,rfl,λj kv hj=>absurd hj o_,by rw[G4_,if_pos rfl];rfl⟩
  .obtain⟨i,es',h1,h2,h3⟩:=fF_ (w:=w) (e:=e) (a:=r) (by
    obtain⟨kv,hkv,hw⟩:=h
    rcases Aq_.mp hkv with rfl|hkv
    .show absurd hw hk
    .show⟨kv,hkv,hw⟩)
   show⟨i+1,es',h1,λj kv hj hkv=>?_,by rw[G4_,if_neg hk,h3];rfl⟩;cases j with
   |zero=>cases hkv;show hk
   |succ j=>show h2 j kv o_ hkv
def Fo_(p:S):Nat->List S->List (S×End S)
 |_,[]=>[]
 |k,w::ws=>(w,(p,k))::Fo_ p (k+1) ws
def occ(rows:List (S×List S)):List (S×End S):=(rows.map λr=>Fo_ r.1 0 r.2).flatten
def Fx_(l:List (S×End S)):List (S×List (End S)):=l.foldl (λa x=>G4_ a x.1 x.2) []
theorem ge_(l:List (S×End S))(x:S×End S):Fx_ (l++[x])=G4_ (Fx_ l) x.1 x.2:=by unfold Fx_;rw[List.foldl_append];rfl
theorem iL_{w:S}{e:End S}{kv:S×List (End S)}:∀{a:List (S×List (End S))},kv∈G4_ a w e->(kv.1=w/\((∃es,(w,es)∈a/\kv.2=es++[e])\/((∀x∈a,x.1≠w)/\kv.2=[e])))\/kv∈a
 |[],h=>by
  have:=Ad_.mp h;subst this;show .inl ⟨rfl,.inr ⟨λx hx=>(by cases hx),rfl⟩⟩
 | (k,es)::r,h=>by
  by_cases hk:k=w
  .subst hk;rw[G4_,if_pos rfl]at h
   rcases Aq_.mp h with h|h
   .subst h;show .inl ⟨rfl,.inl ⟨es,An_,rfl⟩⟩
   .show .inr (Ak_ _ h)
  .rw[G4_,if_neg hk]at h
   rcases Aq_.mp h with h|h
   .subst h;show .inr An_
   .rcases iL_ h with⟨e1,e2⟩|h
    .show .inl ⟨e1,?_⟩
     rcases e2 with⟨es',h1,h2⟩|⟨h1,h2⟩
     .show .inl ⟨es',Ak_ _ h1,h2⟩
     .show .inr ⟨λx hx=>?_,h2⟩
      rcases Aq_.mp hx with rfl|hx
      .show hk
      .show h1 x hx
    .show .inr (Ak_ _ h)
theorem eu_{w:S}{e:End S}:∀{a:List (S×List (End S))},(G4_ a w e).map (·.1)=if(∃kv∈a,kv.1=w)then a.map (·.1)else a.map (·.1)++[w]
 |[]=>by simp[G4_]
 | (k,es)::r=>by
  by_cases hk:k=w
  .subst hk;rw[G4_,if_pos rfl,if_pos ⟨(k,es),An_,rfl⟩];rfl
  .rw[G4_,if_neg hk,Az_,eu_ (a:=r)];by_cases hr:∃kv∈r,kv.1=w
   .rw[if_pos hr,if_pos (by obtain⟨kv,h1,h2⟩:=hr;show⟨kv,Ak_ _ h1,h2⟩)];rfl
   .rw[if_neg hr,if_neg (λ⟨kv,h1,h2⟩=>by
     rcases Aq_.mp h1 with rfl|h1
     .show hk h2
     .show hr ⟨kv,h1,h2⟩)]
    rfl
theorem aU_:∀(n:Nat)(l:List (S×End S)),l.length=n->((Fx_ l).map (·.1)).Nodup/\(∀kv∈Fx_ l,kv.2=(l.filter λx=>decide (x.1=kv.1)).map (·.2))/\(∀x∈l,∃kv∈Fx_ l,kv.1=x.1)/\(∀kv∈Fx_ l,∃x∈l,x.1=kv.1)
 |0,l,h=>by
  have:=A2_ h;subst this;show⟨Bf_,λkv hkv=>(by cases hkv),λx hx=>(by cases hx),λkv hkv=>(by cases hkv)⟩
 |n+1,l,h=>by
  obtain⟨m,x,rfl⟩:∃m x,l=m++[x]:=by show⟨l.dropLast,l.getLast (λe=>by rw[e]at h;cases h),(BA_ _).symm⟩
  have hm:m.length=n:=by simpa using h
  obtain⟨h1,h2,h3,h4⟩:=aU_ n m hm;rw[ge_]
  have fe:∀w,((m++[x]).filter λy=>decide (y.1=w))=(m.filter λy=>decide (y.1=w))++(if x.1=w then[x]else[]):=λw=>by
   rw[Cr_];by_cases e:x.1=w
   .simp[e]
   .simp[e]
  show⟨?_,λkv hkv=>?_,λy hy=>?_,λkv hkv=>?_⟩
  .rw[eu_];by_cases hc:∃kv∈Fx_ m,kv.1=x.1
   .rw[if_pos hc];show h1
   .rw[if_neg hc];show AA_.mpr ⟨h1,s_,λa ha b hb e=>?_⟩;obtain⟨kv,hkv,rfl⟩:=Ai_.mp ha;show hc ⟨kv,hkv,by rw[e];show Ad_.mp hb⟩
  .rw[fe,Ar_]
   rcases iL_ hkv with⟨e1,e2⟩|hkv'
   .rw[e1,if_pos rfl]
    rcases e2 with⟨es,h5,h6⟩|⟨h5,h6⟩
    .rw[h6];have:=h2 _ h5;simp only at this;rw[this];rfl
    .rw[h6];have:(m.filter λy=>decide (y.1=x.1))=[]:=by show List.filter_eq_nil_iff.mpr λy hy z=>?_;obtain⟨kv2,h7,h8⟩:=h3 y hy;show h5 kv2 h7 (h8.trans (AU_ z))
     rw[this];rfl
   .by_cases e:x.1=kv.1
    .
     exfalso;obtain⟨i,es,g1,g2,g3⟩:=fF_ (w:=x.1) (e:=x.2) (a:=Fx_ m) ⟨kv,hkv',e.symm⟩;rw[g3]at hkv;obtain⟨j,hj,ej⟩:=As_.mp hkv;rw[Be_]at hj;have hji:(Fx_ m)[j]?=some ((Fx_ m)[j]):=Aa_ hj;have hi:i<(Fx_ m).length:=(Al_.mp g1).1;by_cases hij:i=j
     .subst hij;rw[Dl_]at ej;have e9:kv.2=es++[x.2]:=by rw[<-ej]
      obtain⟨j2,hj2,ej2⟩:=As_.mp hkv';have k1:((Fx_ m).map (·.1))[j2]?=((Fx_ m).map (·.1))[i]?:=by rw[Ag_,Ag_,Aa_ hj2,ej2,g1];change some kv.1=some x.1;rw[e]
      have:=(AY_ (by rw[Ab_];show hj2) h1).mp k1;subst this;rw[Aa_ hj2,ej2]at g1;have e10:=congrArg Prod.snd (At_ g1);rw[e9]at e10;have:=congrArg List.length e10;simp at this
     .rw[Dv_ hij]at ej;have k1:((Fx_ m).map (·.1))[j]?=((Fx_ m).map (·.1))[i]?:=by rw[Ag_,Ag_,hji,ej,g1];change some kv.1=some x.1;rw[e]
      show hij ((AY_ (by rw[Ab_];show hj) h1).mp k1).symm
    .rw[if_neg e];rw[h2 kv hkv'];simp
  .by_cases hc:∃kv∈Fx_ m,kv.1=y.1
   .have hk:y.1∈(G4_ (Fx_ m) x.1 x.2).map (·.1):=by
     rw[eu_];obtain⟨kv,g1,g2⟩:=hc;have:y.1∈(Fx_ m).map (·.1):=Ai_.mpr ⟨kv,g1,g2⟩;split
     .show this
     .show AB_ _ this
    obtain⟨kv,g1,g2⟩:=Ai_.mp hk;show⟨kv,g1,g2⟩
   .rcases Ao_.mp hy with hy|hy
    .show absurd (h3 y hy) hc
    .have e:=Ad_.mp hy;subst e;have hk:y.1∈(G4_ (Fx_ m) y.1 y.2).map (·.1):=by rw[eu_,if_neg hc];show Aw_ _ (Ad_.mpr rfl)
     obtain⟨kv,g1,g2⟩:=Ai_.mp hk;show⟨kv,g1,g2⟩
  .rcases iL_ hkv with⟨e1,_⟩|hkv'
   .show⟨x,Aw_ _ (Ad_.mpr rfl),e1.symm⟩
   .obtain⟨y,g1,g2⟩:=h4 kv hkv';show⟨y,AB_ _ g1,g2⟩
theorem gf_(p:S):∀(ws:List S)(k:Nat),(Fo_ p k ws).map (·.1)=ws
 |[],_=>rfl
 |w::ws,k=>by rw[Fo_,Az_,gf_ p ws (k+1)]
theorem fd_(rows:List (S×List S)):(occ rows).map (·.1)=(rows.map (·.2)).flatten:=by unfold occ;rw[List.map_flatten,AZ_];congr 1;show Bw_ λr _=>gf_ r.1 r.2 0
theorem eY_{p:S}{x:S×End S}:∀{ws:List S}{k:Nat},x∈Fo_ p k ws->x.2.1=p/\k<=x.2.2
 |[],_,h=>by cases h
 |w::ws,k,h=>by
  rcases Aq_.mp h with rfl|h
  .show⟨rfl,Ah_ _⟩
  .have:=eY_ h;show⟨this.1,o_⟩
theorem jH_(p:S):∀(ws:List S)(k:Nat),((Fo_ p k ws).map (·.2)).Nodup
 |[],_=>Bf_
 |w::ws,k=>by rw[Fo_,Az_];show AM_.mpr ⟨λh=>?_,jH_ p ws (k+1)⟩;obtain⟨x,h1,h2⟩:=Ai_.mp h;have:=(eY_ h1).2;rw[h2]at this;simp only at this;lia
theorem ne_:∀{rows:List (S×List S)},(rows.map (·.1)).Nodup->((occ rows).map (·.2)).Nodup
 |[],_=>Bf_
 |r::rows,h=>by have h':=AM_.mp h;have e:occ (r::rows)=Fo_ r.1 0 r.2++occ rows:=rfl;rw[e,Ar_];show AA_.mpr ⟨jH_ _ _ _,ne_ h'.2,λa ha b hb z=>?_⟩;obtain⟨x,x1,x2⟩:=Ai_.mp ha;obtain⟨y,y1,y2⟩:=Ai_.mp hb;have ex:=(eY_ x1).1;obtain⟨l,l1,l2⟩:=AX_.mp y1;obtain⟨r2,r3,rfl⟩:=Ai_.mp l1;have ey:=(eY_ l2).1;show h'.1 (Ai_.mpr ⟨r2,r3,?_⟩);change r2.1=r.1;rw[<-ey,<-ex,x2,y2,z]
def E8_(N:Net S):List (S×List (End S)):=Fx_ (occ N.rows)
theorem ku_(N:Net S):((E8_ N).map (·.1)).Nodup:=(aU_ _ _ rfl).1
theorem il_(w:S):∀l:List (S×End S),((l.filter λx=>decide (x.1=w)).map (·.2)).length=(l.map (·.1)).count w
 |[]=>rfl
 |x::l=>by
  have ih:=il_ w l;rw[Az_,BP_,<-ih];by_cases e:x.1=w
  .simp[e]
  .simp[e]
theorem iM_{N:Net S}(ok:Fi_ N){kv:S×List (End S)}(h:kv∈E8_ N):∃a b,kv.2=[a,b]:=by
 obtain⟨_,h2,_,h4⟩:=aU_ _ (occ N.rows) rfl;have hl:kv.2.length=2:=by rw[h2 kv h,il_,fd_];obtain⟨x,x1,x2⟩:=h4 kv h;show ok.two kv.1 ?_;change kv.1∈(N.rows.map (·.2)).flatten;rw[<-fd_,<-x2];show Ai_.mpr ⟨x,x1,rfl⟩
 match hk:kv.2,hl with
 |[a,b],_=>show⟨a,b,rfl⟩
theorem lj_{N:Net S}{kv:S×List (End S)}(h:kv∈E8_ N){a:End S}(ha:a∈kv.2):(kv.1,a)∈occ N.rows:=by obtain⟨_,h2,_,_⟩:=aU_ _ (occ N.rows) rfl;rw[h2 kv h]at ha;obtain⟨x,x1,rfl⟩:=Ai_.mp ha;obtain⟨x2,x3⟩:=Bq_.mp x1;have e:x.1=kv.1:=AU_ x3;rw[<-e];show x2
theorem p7_{l:List (S×End S)}(h:(l.map (·.2)).Nodup){x y:S×End S}(hx:x∈l)(hy:y∈l)(e:x.2=y.2):x=y:=by obtain⟨i,hi,rfl⟩:=As_.mp hx;obtain⟨j,hj,rfl⟩:=As_.mp hy;have:=(AY_ (l:=l.map (·.2)) (i:=i) (j:=j) (by rw[Ab_];show hi) h).mp (by rw[Ag_,Ag_,Aa_ hi,Aa_ hj];show congrArg some e);subst this;rfl
theorem gg_{N:Net S}(ok:Fi_ N){k1 k2:S×List (End S)}(h1:k1∈E8_ N)(h2:k2∈E8_ N){a:End S}(a1:a∈k1.2)(a2:a∈k2.2):k1.1=k2.1 :=
 (BG_ (p7_ (ne_ ok.nd) (lj_ h1 a1) (lj_ h2 a2) rfl)).1
theorem p8_{N:Net S}(ok:Fi_ N){kv:S×List (End S)}(h:kv∈E8_ N){a b:End S}(e:kv.2=[a,b]):a≠b:=by
 obtain⟨_,h2,_,_⟩:=aU_ _ (occ N.rows) rfl;have nd:kv.2.Nodup:=by rw[h2 kv h];have:=ne_ ok.nd;unfold List.Nodup at this⊢;rw[Bk_]at this⊢;show this.filter _
 rw[e]at nd;intro z;subst z;simp at nd
end RimT
namespace L2
open PySem PyProof.Rows PySem.W
structure Lto(lt:Nat->Nat->Bool)(N:Nat):Prop where
 as:∀x y,lt x y=true->lt y x=false
 tr:∀x y z,lt y x=false->lt z y=false->lt z x=false
def So(lt:Nat->Nat->Bool)(p:Array Nat)(b:Nat):Prop:=∀i j,i<j->j<b->lt (p.getD j 0) (p.getD i 0)=false
def Fa(lt:Nat->Nat->Bool)(p:Array Nat)(b:Nat):Prop:=∀i j,i<j->j<b->lt (p.getD i 0) (p.getD j 0)=false
section
variable {lt:Nat->Nat->Bool}{N:Nat}
variable{p:Array Nat}
theorem Pm.size(h:Pm N p):p.size=N:=by have:=(Bu_.mp h).length_eq;simpa using this
variable{n:Nat}
theorem So.more(O:Lto lt N)(h:So lt p n)(h1:1<=n)(e:lt (p.getD n 0) (p.getD (n-1) 0)=false):So lt p (n+1):=λi j hij hj=>by
 by_cases c:j<n
 .show h i j hij c
 .have:j=n:=o_
  subst this;by_cases d:i=j-1
  .subst d;show e
  .show O.tr _ _ _ (h i (j-1) o_ o_) e
theorem Fa.more(O:Lto lt N)(h:Fa lt p n)(h1:1<=n)(e:lt (p.getD (n-1) 0) (p.getD n 0)=false):Fa lt p (n+1):=λi j hij hj=>by
 by_cases c:j<n
 .show h i j hij c
 .have:j=n:=o_
  subst this;by_cases d:i=j-1
  .subst d;show e
  .show O.tr _ _ _ e (h i (j-1) o_ o_)
theorem nf_(O:Lto lt N){p:Array Nat}(h:Pm N p)(h0:0<N):∀(f n:Nat),1<=n->So lt p n->∃m,Gt_ lt N (kas_asc p f n)=some m/\So lt p m/\n<=m/\m<=n+f/\(m<n+f->lt (p.getD m 0) (p.getD (m-1) 0)=true)
 |0,n,h1,hs=>⟨n,rfl,hs,Ah_ _,Ah_ _,λx=>absurd x o_⟩
 |f+1,n,h1,hs=>by
  unfold kas_asc Gt_;rw[if_pos ⟨h.below h0 _,h.below h0 _⟩];cases e:lt (p.getD n 0) (p.getD (n-1) 0)with
  |true=>show⟨n,rfl,hs,Ah_ _,o_,λ_=>e⟩
  |false =>obtain⟨m,a,b,c,d,g⟩:=nf_ O h h0 f (n+1) o_ (hs.more O h1 e);show⟨m,a,b,o_,o_,λx=>g o_⟩
def Es(lt:Nat->Nat->Bool)(p:Array Nat)(a b:Nat):Prop:=∀i j,a<=i->i<b->a<=j->j<b->lt (p.getD i 0) (p.getD j 0)=false
theorem Lto.rf(O:Lto lt N)(x:Nat):lt x x=false:=by
 cases e:lt x x with
 |false=>rfl
 |true=>show e.symm.trans (O.as x x e)
theorem Es.one(O:Lto lt N):Es lt p n (n+1):=λi j a b c d=>by rw[show i=j by lia];show O.rf _
theorem gh_{a:Nat}(hn:n<=p.size)(k:Nat):(kas_rev p a n).getD k 0=if a<=k/\k<n then p.getD (a+n-1-k) 0 else p.getD k 0:=by have q:=Dw_ (xs:=p) (i:=a) (j:=n) hn k;change(mirror p a n ((n-a)/2)).getD k 0=_;rw[Bb_,q];split <;> rw[Bb_]
theorem Fa.seg{a:Nat}(hn:n<=p.size)(h:Fa lt p n)(e:Es lt p a n):Fa lt (kas_rev p a n) n:=λi j hij hj=>by
 rw[gh_ hn,gh_ hn];by_cases ci:a<=i/\i<n
 .rw[if_pos ci,if_pos ⟨o_,hj⟩];show e _ _ o_ o_ o_ o_
 .rw[if_neg ci];split <;> show h _ _ o_ o_
theorem iN_(O:Lto lt N)(h0:0<N):∀(f:Nat)(p:Array Nat)(n q:Nat),Pm N p->q+1<=n->n+f<=N->Fa lt p n->Es lt p (n-(q+1)) n->∃z,Gt_ lt N (kas_desc f p n q)=some z/\Pm N z.1/\Fa lt z.1 z.2.1/\Es lt z.1 (z.2.1-(z.2.2+1)) z.2.1/\n<=z.2.1/\z.2.1<=n+f
 |0,p,n,q,h,h1,_,hs,he=>⟨(p,n,q),rfl,h,hs,he,Ah_ _,Ah_ _⟩
 |f+1,p,n,q,h,h1,hN,hs,he=>by
  have sz:=h.size;unfold kas_desc Gt_;rw[if_pos ⟨h.below h0 _,h.below h0 _⟩];cases e:lt (p.getD n 0) (p.getD (n-1) 0)with
  |true =>
   simp only[if_true];split
   .have er:∀k,¬ (n-(q+1)<=k/\k<n)->(kas_rev p (n-(q+1)) n).getD k 0=p.getD k 0:=λk hk=>by rw[gh_ o_,if_neg hk]
    obtain⟨z,a,b,c,d,g⟩:=iN_ O h0 f (kas_rev p (n-(q+1)) n) (n+1) 0 (h.rev _ _) o_ o_ ((hs.seg o_ he).more O o_ (by rw[er n o_,gh_ o_,if_pos ⟨o_,o_⟩];show O.tr _ _ _ (O.as _ _ e) (he _ _ o_ o_ o_ o_))) (Es.one O);show⟨z,a,b,c,d,o_,o_⟩
   .obtain⟨z,a,b,c,d,g⟩:=iN_ O h0 f p (n+1) 0 h o_ o_ (hs.more O o_ (O.as _ _ e)) (Es.one O);show⟨z,a,b,c,d,o_,o_⟩
  |false =>
   simp only[CV_,Dn_];unfold Gt_;rw[if_pos ⟨h.below h0 _,h.below h0 _⟩];cases e2:lt (p.getD (n-1) 0) (p.getD n 0)with
   |true=>show⟨(p,n,q),rfl,h,hs,he,Nat.le_refl _,by dsimp only;lia⟩
   |false =>
    simp only[CV_,Dn_]
    obtain⟨z,a,b,c,d,g⟩:=iN_ O h0 f p (n+1) (q+1) h o_ o_ (hs.more O o_ e2) (λi j hi hi' hj hj'=>by
     have le:∀k,n+1-(q+1+1)<=k->k<n+1->lt (p.getD k 0) (p.getD (n-1) 0)=false/\lt (p.getD (n-1) 0) (p.getD k 0)=false:=λk k1 k2=>by
      by_cases kn:k=n
      .rw[kn];show⟨e,e2⟩
      .show⟨he _ _ o_ o_ o_ o_,he _ _ o_ o_ o_ o_⟩
     show O.tr _ _ _ (le j hj hj').2 (le i hi hi').1)
    show⟨z,a,b,c,d,o_,o_⟩
theorem pj_(hn:n<=p.size){k:Nat}(hk:k<n):(kas_rev p 0 n).getD k 0=p.getD (n-1-k) 0:=by have q:=Dw_ (xs:=p) (i:=0) (j:=n) hn k;rw[if_pos ⟨AP_ _,hk⟩]at q;change(mirror p 0 n ((n-0)/2)).getD k 0=_;rw[Bb_,Bb_,q];congr 2;lia
theorem Fa.rev(hn:n<=p.size)(h:Fa lt p n):So lt (kas_rev p 0 n) n:=λi j hij hj=>by rw[pj_ hn hj,pj_ hn o_];show h _ _ o_ o_
theorem hJ_(O:Lto lt N)(h0:0<N)(h:Pm N p)(h1:1<=n)(hN:n<N)(hf:Fa lt p (n+1)):∃z,Gt_ lt N (kas_descPart n N p)=some z/\Pm N z.2/\So lt z.2 z.1/\1<=z.1/\z.1<=N:=by
 obtain⟨z,hz,b,c,d,g1,g2⟩:=iN_ O h0 (N-(n+1)) p (n+1) 0 h o_ o_ hf (Es.one O);have sz:=b.size;have tl:∀{p:Array Nat},Pm N p->Fa lt p z.2.1->∃y,Gt_ lt N (kas_tail3 z.2.1 N p)=some y/\Pm N y.2/\So lt y.2 y.1/\1<=y.1/\y.1<=N:=λ{p} hp fp=>by obtain⟨m',hm',hs',h1',hN',_⟩:=nf_ O (hp.rev 0 z.2.1) h0 (N-z.2.1) z.2.1 o_ (fp.rev (by rw[hp.size];lia));show⟨(m',kas_rev p 0 z.2.1),?_,hp.rev 0 _,hs',by dsimp only;lia,by dsimp only;lia⟩;unfold kas_tail3;rw[dA_ _ hm'];rfl
 unfold kas_descPart;rw[dA_ _ hz];split
 .show tl (b.rev _ _) (c.seg o_ d)
 .show tl b c
theorem or_(O:Lto lt N)(h0:0<N)(h:Pm N p):∃z,Gt_ lt N (kas_count N p)=some z/\Pm N z.2/\So lt z.2 z.1/\1<=z.1/\z.1<=N:=by
 obtain⟨m,hm,hs,h1,hN,hx⟩:=nf_ O h h0 (N-1) 1 (Ah_ _) λi j a b=>absurd a o_;have sz:=h.size;unfold kas_count;rw[dA_ _ hm];split
 .show⟨_,rfl,h,hs,h1,by dsimp only;lia⟩
 .rename_i c;have cm:m≠N:=λe=>c (by rw[e];show C5_ N);have e:=hx o_;split
  .unfold Gt_;rw[if_pos ⟨h.below h0 _,h.below h0 _⟩];cases t:lt (p.getD 0 0) (p.getD (m-1) 0)with
   |true=>show⟨_,rfl,h,hs,h1,by dsimp only;lia⟩
   |false =>
    have ff:Fa lt p m:=λi j hij hj=>by
     have a1:lt (p.getD (m-1) 0) (p.getD j 0)=false:=by
      by_cases c:j=m-1
      .rw[c];show O.rf _
      .show hs _ _ o_ o_
     have a2:lt (p.getD i 0) (p.getD 0 0)=false:=by
      by_cases c:i=0
      .rw[c];show O.rf _
      .show hs _ _ o_ o_
     show O.tr _ _ _ (O.tr _ _ _ a1 t) a2
    have es:Es lt p 0 m:=λi j _ hi _ hj=>by
     rcases Nat.lt_trichotomy i j with c|c|c
     .show ff i j c hj
     .rw[c];show O.rf _
     .show hs j i c hi
    show hJ_ O h0 (h.rev 0 m) h1 o_ ((ff.seg o_ es).more O h1 ?_);rw[gh_ o_,gh_ o_,if_pos ⟨o_,o_⟩,if_neg o_,show 0+m-1-(m-1)=0 by lia];show O.tr _ _ _ (O.as _ _ e) t
  .have m1:m=1:=o_
   subst m1;show hJ_ O h0 h (Ah_ _) o_ (Fa.more O (n:=1) (λi j a b=>absurd a o_) (Ah_ _) (O.as _ _ e))
theorem iO_(O:Lto lt N)(h0:0<N){p:Array Nat}(h:Pm N p){k:Nat}(hs:So lt p k):∀(f l r:Nat),l<=r->r<=k->r<=l+f->(∀i,i<l->lt (p.getD k 0) (p.getD i 0)=false)->(∀i,r<=i->i<k->lt (p.getD i 0) (p.getD k 0)=false) ->
  ∃m,Gt_ lt N (kas_place p k f l r)=some m/\m<=k/\(∀i,i<m->lt (p.getD k 0) (p.getD i 0)=false)/\∀i,m<=i->i<k->lt (p.getD i 0) (p.getD k 0)=false
 |0,l,r,a,b,c,u,v=>⟨l,rfl,o_,u,λi hi hk=>v i o_ hk⟩
 |f+1,l,r,a,b,c,u,v=>by
  unfold kas_place;split
  .show⟨l,rfl,o_,u,λi hi hk=>v i o_ hk⟩
  .unfold Gt_;rw[if_pos ⟨h.below h0 _,h.below h0 _⟩];cases e:lt (p.getD k 0) (p.getD ((l+r)/2) 0)with
   |true =>
    show iO_ O h0 h hs f l _ o_ o_ o_ u λi hi hk=>?_;by_cases q:i=(l+r)/2
    .subst q;show O.as _ _ e
    .show O.tr _ _ _ (O.as _ _ e) (hs _ _ o_ hk)
   |false =>
    show iO_ O h0 h hs f _ r o_ b o_ (λi hi=>?_) v;by_cases q:i=(l+r)/2
    .subst q;show e
    .show O.tr _ _ _ (hs _ _ o_ o_) e
theorem pk_{k l:Nat}(hk:k<p.size)(hl:l<=k)(i:Nat):(bubble p k (k-l)).getD i 0=if i=l then p.getD k 0 else if l<i/\i<=k then p.getD (i-1) 0 else p.getD i 0:=by
 have q:=getElem?_bubble (xs:=p) hk (k-l) o_ i;rw[show k-(k-l)=l by lia]at q;rw[Bb_,q];by_cases a:i=l
 .rw[if_pos a,if_pos a,Bb_]
 .rw[if_neg a,if_neg a];by_cases b:l<i/\i<=k
  .rw[if_pos b,if_pos b,Bb_]
  .rw[if_neg b,if_neg b,Bb_]
theorem pl_(O:Lto lt N)(h0:0<N):∀(f:Nat)(p:Array Nat)(k:Nat),Pm N p->So lt p k->k+f=N->∃z,Gt_ lt N (kas_bin f p k)=some z/\Pm N z/\So lt z N
 |0,p,k,h,hs,e=>by
  have q:k=N:=o_
  rw[q]at hs;show⟨p,rfl,h,hs⟩
 |f+1,p,k,h,hs,e=>by
  obtain⟨l,hl,hk,u,v⟩:=iO_ O h0 h hs k 0 k o_ o_ o_ (λi hi=>absurd hi o_) λi hi hk=>absurd hi o_;unfold kas_bin;rw[dA_ _ hl];show pl_ O h0 f _ _ ((bubble_perm _ _ _).trans h) (λi j hij hj=>?_) o_;have sz:=h.size;rw[pk_ o_ hk,pk_ o_ hk];by_cases a:j=l
  .rw[if_pos a,if_neg o_,if_neg o_];show u i o_
  .rw[if_neg a];by_cases b:i=l
   .rw[if_pos b,if_pos ⟨o_,o_⟩];show v _ o_ o_
   .rw[if_neg b];by_cases c:l<j
    .rw[if_pos ⟨c,o_⟩];by_cases d:l<i
     .rw[if_pos ⟨d,o_⟩];show hs _ _ o_ o_
     .rw[if_neg o_];show hs _ _ o_ o_
    .rw[if_neg o_,if_neg o_];show hs _ _ o_ o_
theorem ng_(O:Lto lt N)(h0:0<N):∃z,Gt_ lt N (kas_sort N)=some z/\Pm N z/\So lt z N:=by
 obtain⟨r,hr,hp,hs,h1,hN⟩:=or_ O h0 (p:=List.toArray (List.range N)) (Array.Perm.refl _);unfold kas_sort;rw[dA_ _ hr];split
 .rename_i c;rw[show max r.1 1=r.1 by lia];show pl_ O h0 _ _ _ hp hs o_
 .have e:r.1=N:=o_
  rw[e]at hs;show⟨_,rfl,hp,hs⟩
theorem So.list{z:Array Nat}(hp:Pm N z)(hs:So lt z N):z.toList.Pairwise λi j=>lt j i=false:=by
 rw[DH_];intro i j hi hj hij;have sz:=hp.size;have hi':i<z.size:=by simpa using hi
 have hj':j<z.size:=by simpa using hj
 have q:=hs i j hij o_;have ei:z.getD i 0=z.toList[i]:=by simp[Array.getD,hi']
 have ej:z.getD j 0=z.toList[j]:=by simp[Array.getD,hj']
 rw[ei,ej]at q;show q
end
theorem jI_{α:Type}{R:α->α->Prop}(as:∀x y,R x y->R y x->x=y):∀{a b:List α},a.Perm b->a.Pairwise R->b.Pairwise R->a=b
 |[],b,p,_,_=>by rw[List.nil_perm.mp p]
 |x::a,[],p,_,_=>absurd p.length_eq s_
 |x::a,y::b,p,ha,hb=>by
  have ha':=List.pairwise_cons.mp ha;have hb':=List.pairwise_cons.mp hb
  have e:x=y:=by
   have m1:x∈y::b:=p.mem_iff.mp An_;have m2:y∈x::a:=p.mem_iff.mpr An_
   rcases Aq_.mp m1 with e|m1
   .show e
   .rcases Aq_.mp m2 with e|m2
    .show e.symm
    .show as x y (ha'.1 y m2) (hb'.1 x m1)
  subst e;rw[jI_ as (List.Perm.cons_inv p) ha'.2 hb'.2]
open PySem.Spec
def sLe(a b:Str):Prop:=¬ b.cps.toList<a.cps.toList
theorem sLe.trans{a b c:Str}(h:sLe a b)(h2:sLe b c):sLe a c:=CS_.mpr (List.le_trans (CS_.mp h) (CS_.mp h2))
theorem p9_{a b:Str}(h:a.cps.toList=b.cps.toList):a=b:=by
 cases a;cases b;simpa using h
theorem sLe.antisymm{a b:Str}(h:sLe a b)(h2:sLe b a):a=b:=p9_ (List.le_antisymm (CS_.mp h) (CS_.mp h2))
theorem jJ_:∀(p:Str)(l:List Str),risingS p l=true->(p::l).Pairwise sLe
 |p,[],_=>Da_ _ _
 |p,x::r,h=>by
  have h':(!ltCps x.cps.toList p.cps.toList && risingS x r)=true:=h;rw[Bz_]at h';have ih:=jJ_ x r h'.2;have px:sLe p x:=by have:=h'.1;rw[ltCps_eq]at this;simpa[sLe]using this
  show List.pairwise_cons.mpr ⟨λy hy=>?_,ih⟩
  rcases Aq_.mp hy with rfl|hy
  .show px
  .show px.trans ((List.pairwise_cons.mp ih).1 y hy)
theorem jK_:∀{l:List Str},sortedS l=true->l.Pairwise sLe
 |[],_=>.nil
 |x::r,h=>jJ_ x r h
theorem ev_:∀{us:List Value}{ns:List Str},StrsAre us ns->Fe_ (ns.map V.str) us
 |_,_,.nil=>.nil
 |_,_,.cons n t h=>.cons ⟨t,rfl⟩ (ev_ h)
def Kj_:List V->Hp->VK->Prop:=λvs H Q=>∃(p:Addr)(ns:List Str),vs=[.ref p]/\H p=some (.lst (ns.map V.str))/\ns.length<64/\∀l (zs:List Str),H l=none->zs.Perm ns->zs.Pairwise sLe->Q (.ref l) (upd H l (.lst (zs.map V.str)))
def Jr_:List V->Hp->VK->Prop:=λvs H Q=>∃(d:Addr)(kvs:List (Key×V))(ns:List Str),vs=[.ref d]/\H d=some (.dK kvs)/\kvs.map (λq=>q.1)=ns.map (λn=>(Sum.inr n:Key))/\ns.length<64 /\
 ∀l (zs:List Str),H l=none->zs.Perm ns->zs.Pairwise sLe->Q (.ref l) (upd H l (.lst (zs.map V.str)))
theorem fe_:∀{us:List Value}{ns:List Str},us.length=ns.length->(∀(j:Nat)(v:Value)(n:Str),us[j]?=some v->ns[j]?=some n->∃t,v=.str n t)->StrsAre us ns
 |[],[],_,_=>.nil
 |[],_::_,e,_=>nomatch e
 |_::_,[],e,_=>nomatch e
 |u::us,n::ns,e,h=>by obtain⟨t,rfl⟩:=h 0 u n rfl rfl;show .cons n t (fe_ (by simpa using e) λj v x hv hx=>h (j+1) v x hv hx)
theorem kv_{X:Cx}(hc:X.calm=true):FE_ X (.builtin "sorted") Jr_:=by
 intro pins s σ H xs us Q I r h;obtain⟨d,kvs,ns,rfl,hd,hk,h64,q⟩:=h;obtain⟨u,rfl,e⟩:=FU_ r;cases e;obtain⟨hsz,hsys,vs,rel,dd⟩:=HL_ I.hok hd;obtain⟨m,hn,F0⟩:=I.frm;obtain⟨ep,hat⟩:=dd.dictAt;have hl:kvs.length=vs.length:=rel.length;have hl2:kvs.length=ns.length:=by simpa using congrArg List.length hk
 show kdu_sorted (kdl_dict (knd:=E1_ X.prog X.w) (kvs:=vs) (ep:=ep) hsys) (I.ok.hd hc) F0 fw_ hat o_ λD h' tk us F N l1 hlu hv=>?_
 have hS:StrsAre us ns:=fe_ o_ λj v n ev en=>by
  obtain⟨k,x,ekx,kis⟩:=hv j v ev;have hj:j<ns.length:=(Al_.mp en).1;obtain⟨e1,_⟩:=eX_ rel (Aa_ (show j<kvs.length by lia)) ekx;have e2:(kvs.map (λq=>q.1))[j]?=(ns.map (λn=>(Sum.inr n:Key)))[j]?:=by rw[hk]
  rw[Ag_,Ag_,en,Aa_ (show j<kvs.length by lia)]at e2;have e3:k=Sum.inr n:=e1.symm.trans (At_ e2);subst e3;have kis':G9_ (Sum.inr n) v=true:=kis
  rcases aV_ kis' with⟨i,t,ek,ev⟩|⟨y,t,ek,ev⟩
  .cases ek
  .cases ek;show⟨t,ev⟩
 have hL:=N (D,_) An_;have hoL:h'.get? D=some (seqObj "list" us.toArray 0):=hL.1;show C6_ slot_list_sort ⟨_,hoL,rfl⟩ entry_list_sort (list_sort_treeK strKind_oneLt hoL hS.keysOf (λv₁ v₂ rest e=>keyKind_strs (by rw[<-e];show hS)) o_ λst' hp hs=>⟨_,rfl,?_⟩) (args_list_sort _);obtain⟨zs,hz,hpm,hss⟩:=sorted_out_str hS hp hs;obtain⟨c,hD⟩:=sortedHeap_at (out:=(arrOf st').map (·.2)) hoL;have old:∀b o,b≠D->h'.get? b=some o->(sortedHeap h' D us ((arrOf st').map (·.2))).get? b=some o:=λb o hb e=>(sortedHeap_old hb (Au_ e)).trans e
 have F2:Fr X.base X.env.locals (sortedHeap h' D us ((arrOf st').map (·.2))) m:=by
  show⟨?_,λb x e=>old b x (λw=>?_) (F.keep b x e),F.above⟩
  .obtain⟨o,es,ep',ho,r1,r2,r3⟩:=F.ns;show⟨o,es,ep',old _ _ (Ne.symm hL.2.1) ho,r1,r2,r3⟩
  .rw[w,hL.2.2]at e;cases e
 have N2:News X.base X.env.locals (sortedHeap h' D us ((arrOf st').map (·.2))) ((D,seqObj "list" ((arrOf st').map (·.2)) c)::FB_ X.base s.heap X.env.locals):=λz hz'=>by
  rcases Aq_.mp hz' with rfl|hz'
  .show⟨hD,hL.2⟩
  .have:=N z (Ak_ _ hz');show⟨old _ _ (AE_ (l1 z hz')) this.1,this.2⟩
 have hlz:=hpm.length_eq;obtain⟨HD,I2⟩:=I.led_new (t':=tk) (o:=.lst (zs.map V.str)) hn F2 N2 l1 ⟨AO_ (EN_ (by rw[Ab_];lia)),_,c,ev_ hz,hD⟩;show⟨.ref D,_,I2,rfl,q D zs HD hpm (jK_ hss)⟩
end L2
namespace PySem
open Sem (wp)
theorem ff_:typeLookup (.type "list") "keys"=pure none:=am_miss_of_fast r_
theorem dZ_{prog:Program}{w:World}{A:Around}{E:Value->Shared->Prop}{s:Shared}{a:Addr}{o:Obj}{xs:Array Value}{k:Nat}{name:Str}{Q:Option Value->Shared->Prop}
  (hx:s.heap.get? a=some o) (hc:o.cls=.type "list") (hdat:o.data=.seq xs k) (hd:o.dict=none) (hmiss:typeLookup (.type "list") name=pure none) (hname:(["__module__","__name__","__qualname__","__doc__","__annotations__"]:List Str).contains name=false) (hA:A.handled=none)
  (h:∀h' tk,(∀b ob,s.heap.get? b=some ob->h'.get? b=some ob)->Q none {s with heap:=h',toks:=tk}) (hsz:name.length+100<=sizeLine:=by size_fits):
  wpAny (model prog w) A (getAttr? (.ref a) name) Q E s:=by
 obtain⟨c,dct,dat,sl⟩:=o;simp only at hc hdat hd;subst hc hdat hd;obtain⟨hp,g,d,tk,os⟩:=s;have hT:∀tk',(⟨hp,g,d,tk',os⟩:Shared).TypeIs (.ref a) "list" := λ_=>⟨_,hx,rfl⟩;have f1:=sub_AttributeError;have f3:=F.slot_list_getattribute.lookup;have f4:=F.slot_list_getattribute.bind (.ref a);have f5:=am_list_getattr_none;unfold getAttr? getAttrBy? getAttrBy
 repeat (any_goals (first|assumption|show hT _|((with_reducible change wpAny _ _ (call (Value.builtin "list.__getattribute__") _ _) _ _ _);show Ca_ F.slot_list_getattribute (hT _) am_entry_list_getattribute (F.args_list_getattribute_2 _ _) (meets_getattribute_miss_list a xs k sl name _ hmiss hname hsz) ⟨hx,hA,λh' tk' e hx'=>?_⟩)|wp_step))
 obtain⟨t',u',he⟩:=hx'.there;change wpAny _ _ (getattributeRaised _ _ _ _ _ _ _) _ _ _;unfold getattributeRaised
 repeat (any_goals (first|assumption|wp_step))
 show h _ _ hx'.keeps
namespace F
theorem rim_entry_dict_update_loop:entryFor table "dict.update.loop"=some Builtin.«dict.update.loop»:=entryFor_of_tree (by kernel_rfl)
theorem rim_plain_dict_update_loop:plainId "dict.update.loop"=true:=r_
end F
section
variable {prog:Program}{w:World}{K:Type}[DecidableEq K]{knd:KeyKind prog w K}{A:Around}{R:Result->Shared->Prop}
theorem ew_{d it p:Addr}{its:Array Value}{h0:Heap}(hh:A.handled=none)(hdi:d≠it)(hp:h0.IsList p its)(hpi:p≠it)(hpd:p≠d):
  ∀(ps:List (K×Value))(i:Nat)(j:Int)(D:List (K×Value))(s:Shared),its.size=i+ps.length->D.length+ps.length<=1000->s.heap.IsListIter it p i->s.heap.DictOf knd d D ->
   (∀b o,b≠it->b≠d->h0.get? b=some o->s.heap.get? b=some o) ->
   (∀m q,ps[m]?=some q->∃(a:Addr)(kv:Value)(o:Obj)(n:Nat),its[i+m]?=some (.ref a)/\a≠it/\a≠d/\h0.get? a=some o/\o.cls=.type "tuple" /\ o.data=.seq #[kv,q.2] n/\knd.is q.1 kv=true) ->
   (∀h' tk,(∀b o,b≠it->b≠d->h0.get? b=some o->h'.get? b=some o)->h'.DictOf knd d (merged D ps)->R (.ok (.ret .none)) {s with heap:=h',toks:=tk}) ->
   codeAny (model prog w) A (.builtin "dict.update.loop" ⟨[.ref d,.ref it,rawInt j,.none],[]⟩) R s
 |[],i,j,D,s,hz,hl,hi,hD,hk,hit,hR=>by
  obtain⟨op,hop,hpr⟩:=id hp;have hp':s.heap.IsList p its:=⟨op,hk p op hpi hpd hop,hpr⟩;show BQ_ F.rim_entry_dict_update_loop ?_;rw[BR_ F.rim_plain_dict_update_loop _];change wpAny _ A.in1 (pyNext (.ref it) >>= _) _ _ s;show Af_ (Cg_ hh hi hp' (Cz_ (by simp at hz;lia)) λh' eb=>?_);change wpAny _ A.in1 (Builtin.Dict.addKeywords d [] >>= _) _ _ _;show Af_ (Ax_ (Ax_ (hR h' s.toks (λb o h1 h2 e=>eb b o h1 (hk b o h1 h2 e)) (hD.extBut eb hdi))))
 |q::ps,i,j,D,s,hz,hl,hi,hD,hk,hit,hR=>by
  obtain⟨op,hop,hpr⟩:=id hp;have hp':s.heap.IsList p its:=⟨op,hk p op hpi hpd hop,hpr⟩;obtain⟨a,kv,o,n,e1,a1,a2,ho,hc,hd,kis⟩:=hit 0 q rfl;show BQ_ F.rim_entry_dict_update_loop ?_;rw[BR_ F.rim_plain_dict_update_loop _];change wpAny _ A.in1 (pyNext (.ref it) >>= _) _ _ s;show Af_ (BV_ hi hp' e1 λh1 hi1 sb=>?_);have ho1:h1.get? a=some o:=(sb.2 a a1).trans (hk a o a1 a2 ho);have hT:({s with heap:=h1}:Shared).TypeIs (.ref a) "tuple" := ⟨_,ho1,hc⟩;change wpAny _ A.in1 (holding [Value.ref a] _ >>= _) _ _ _;show Af_ (Bj_ ?_);show Af_ ?_;show DF_ ?_;unfold Builtin.Dict.pairItems;show Af_ (CO_ hT ?_);rw[if_pos d_];show Af_ (Dm_ ho1 hd ?_);show Ax_ ?_;change wpAny _ A.in1 (holding [kv,q.2] (dictSet d kv q.2)) _ _ _;show Bj_ ?_;have hD1:({s with heap:=h1}:Shared).heap.DictOf knd d D:=hD.sameBut sb hdi;show wpAny_dictSet_pairs kis hD1 (λh2 hD2 sb2=>?_) (by simp at hl;rw[B0_];lia);show Ax_ ⟨Cm_ F.rim_plain_dict_update_loop _,?_⟩;have sl:=stored_length_le D q.1 q.2;show ew_ hh hdi hp hpi hpd ps (i+1) (j+1) (stored D q.1 q.2) {s with heap:=h2,toks:=s.toks+1} (by simp at hz;lia) (by simp at hl;lia) ?_ hD2 (λb o h1' h2' e=>?_) (λm r e=>?_) λh' tk k3 hD3=>?_
  .obtain⟨oi,hoi,hir⟩:=hi1;show⟨oi,(sb2.2 it (Ne.symm hdi)).trans hoi,hir⟩
  .show(sb2.2 b h2').trans ((sb.2 b h1').trans (hk b o h1' h2' e))
  .obtain⟨a',kv',o',n',z1,z2⟩:=hit (m+1) r e;show⟨a',kv',o',n',by rw[show i+1+m=i+(m+1) by lia];show z1,z2⟩
  .show hR h' tk k3 hD3
end
end PySem
namespace L2
open PySem PySem.Spec PyProof.Rows PySem.W
variable {X:Cx}{pins:List (Addr×Obj)}{σ:St}{H:Hp}{s:Shared}
theorem lk_(I:Inv X pins σ H s):∀{kvs:List (Key×V)}{ys:List V}{its:List Value},Fe_ ys its->ys.length=kvs.length->(∀(i:Nat)(q:Key×V),kvs[i]?=some q->∃a,ys[i]?=some (.ref a)/\H a=some (.tup [kV q.1,q.2])) ->
  ∃ps:List (Key×Value),KV kvs ps/\ps.length=its.length/\∀(m:Nat)(q:Key×Value),ps[m]?=some q->∃(a:Addr)(kv:Value)(o:Obj)(n:Nat),its[m]?=some (.ref a)/\H a≠none/\s.heap.get? a=some o/\o.cls=.type "tuple" /\ o.data=.seq #[kv,q.2] n/\(E1_ X.prog X.w).is q.1 kv=true
 |[],[],_,.nil,_,_=>⟨[],.nil,rfl,λm q e=>by simp at e⟩
 |[],_::_,_,_,e,_=>nomatch e
 |_::_,[],_,_,e,_=>nomatch e
 |kv::kvs,y::ys,_,.cons r1 r2,e,h=>by
  obtain⟨ps,rel,hl,hp⟩:=lk_ I r2 (by simpa using e) λi q hq=>h (i+1) q hq;obtain⟨a,ea,ha⟩:=h 0 kv rfl;cases ea;cases r1;obtain⟨zs,rz,⟨ob,ho,hcl,n,hd⟩,_⟩:=I.tuple (.inl (.inl ha));obtain⟨u1,u2,rfl,ru1,ru2⟩:=Gz_ rz;show⟨(kv.1,u2)::ps,.cons ⟨rfl,ru2⟩ rel,by simp[hl],λm q hq=>?_⟩;cases m with
  |zero =>
   cases hq;show⟨a,u1,ob,n,rfl,(by rw[ha];show Option.some_ne_none _),ho,hcl,hd,Hb_ ru1⟩
  |succ m=>show hp m q hq
def I1_:List V->Hp->VK->Prop:=λvs H Q=>∃(p:Addr)(ys:List V)(kvs:List (Key×V)),vs=[.ref p]/\H p=some (.lst ys)/\ys.length=kvs.length/\kvs.length<=900/\(∀(i:Nat)(q:Key×V),kvs[i]?=some q->∃a,ys[i]?=some (.ref a)/\H a=some (.tup [kV q.1,q.2])) /\
 ∀l,H l=none->Q (.ref l) (upd H l (.dK (F7_ [] kvs)))
theorem jL_{K:Type}[DecidableEq K]:∀(ps D:List (K×Value)),(merged D ps).length<=D.length+ps.length
 |[],D=>Ah_ _
 |q::ps,D=>by have a:=jL_ ps (stored D q.1 q.2);have b:=stored_length_le D q.1 q.2;change(merged (stored D q.1 q.2) ps).length<=_;rw[AF_];lia
theorem im_(hc:X.calm=true):FE_ X (.type "dict") I1_:=by
 intro pins s σ H xs us Q I r h;obtain⟨p,ys,kvs,rfl,hp,hl,hz,hk,q⟩:=h;obtain⟨u,rfl,e⟩:=FU_ r;cases e;obtain⟨_,its,c,rv,hop⟩:=(show Fr_ X.prog X.w H s.heap p (.lst ys)from I.hok p _ hp);obtain⟨ps,rel,pl,hit⟩:=lk_ I rv hl hk;have hh:=I.ok.hd hc;have hlt:∀{b:Addr}{o:Obj},s.heap.get? b=some o->b<s.heap.objs.size:=λe=>Au_ e;show callType_codes (Q₁:=λobj s₁=>obj=.ref s.heap.objs.size/\s₁={s with heap:=s.heap.push {cls:=.type "dict",data:=.dict #[]}}) F.kt_called_dict (F.kt_typeCall_dict_1 _) F.entry_dict_init (kt_code_dict_new _ ⟨rfl,rfl⟩) ?_;rintro obj s₁ ⟨rfl,rfl⟩;have hnew:(s.heap.push {cls:=.type "dict",data:=.dict #[]}).DictOf (E1_ X.prog X.w) s.heap.objs.size []:=Heap.DictOf.new s.heap;show⟨hnew.typeIs,F.args_dict_init_2 _ _,?_⟩;unfold Builtin.«dict.__init__»;show Af_ ?_;unfold Builtin.Dict.selfAndRest;show Af_ (CG_ hnew.typeIs ?_);change wpAny _ _ (pure (s.heap.objs.size,[Value.ref p])) _ _ _;show Ax_ ?_;change wpAny _ _ (Builtin.Dict.updateFrom "dict.__init__" s.heap.objs.size (.ref p) [] .none) _ _ _;unfold Builtin.Dict.updateFrom;have hop1:(s.heap.push {cls:=.type "dict",data:=.dict #[]}).get? p=some (seqObj "list" its.toArray c):=Aj_ _ hop;have hT:({s with heap:=s.heap.push {cls:=.type "dict",data:=.dict #[]}}:Shared).TypeIs (.ref p) "list" := ⟨_,hop1,rfl⟩;show Af_ (CO_ hT ?_);rw[if_pos d_];show Af_ (dZ_ hop1 rfl rfl rfl ff_ r_ hh λh1 tk k1=>?_);rw[if_pos Option.isNone_none];show Af_ (CJ_ ?_);have hop2:=k1 _ _ hop1;have dsz:s.heap.objs.size<h1.objs.size:=by obtain⟨od,_,_,hod,_⟩:=hnew;show Au_ (k1 _ _ hod)
 show Af_ (BT_ (items:=its.toArray) ⟨_,hop2,rfl,c,rfl⟩ ?_);show Ax_ ⟨Cm_ F.rim_plain_dict_update_loop _,?_⟩;have below:∀{b:Addr}{o:Obj},s.heap.get? b=some o->b≠h1.objs.size/\b≠s.heap.objs.size:=λe=>⟨AE_ (Nat.lt_trans (hlt e) dsz),AE_ (hlt e)⟩;have rl:kvs.length=ps.length:=rel.length;show ew_ (A:=X.A.in1) (knd:=E1_ X.prog X.w) (its:=its.toArray) (h0:=s.heap) (p:=p) hh (AE_ dsz) ⟨_,hop,rfl,c,rfl⟩ (below hop).1 (below hop).2 ps 0 0 [] _ (by simp;lia) (by simp;lia) ?_ ?_ (λb o b1 b2 e=>?_) (λm q hq=>?_) λh' tk' k3 hD3=>?_
 .show⟨_,AC_ h1 rfl,rfl,rfl⟩
 .obtain⟨od,es,ep,hod,dr⟩:=hnew;show⟨od,es,ep,Aj_ _ (k1 _ _ hod),dr⟩
 .show Aj_ _ (k1 _ _ (Aj_ _ e))
 .obtain⟨a,kv,o,n,e1,_,ho,z⟩:=hit m q hq;show⟨a,kv,o,n,by simpa using e1,(below ho).1,(below ho).2,ho,z⟩
 .have rm:KV (F7_ [] kvs) (merged [] ps):=KV.merge rel .nil;have ml:=jL_ ps [];have mz:(F7_ [] kvs).length<=sizeLine:=by rw[show(F7_ [] kvs).length=(merged [] ps).length from rm.length];show AO_ (EN_ (by simp at ml;lia))
  show⟨rfl,.ref _,_,I.laid (a:=s.heap.objs.size) (o:=.dK (F7_ [] kvs)) (t':=tk') (λb o e=>k3 b o (below e).1 (below e).2 e) (Ah_ _) (m2_ mz (Bv_.mpr (Ne.symm (AE_ I.big))) rm hD3),rfl,q _ (I.hok.fresh (Ah_ _))⟩
abbrev TK(P:Program)(w:World):=tupleKind (E1_ P w)
def Ka_(P:Program)(w:World)(h:Heap)(d:Addr)(xs:List (List Key×Addr×Value)):Prop :=
 ∃o es ep,h.get? d=some o/\o.ExactDict/\o.data=.dict es ep/\es.toList=xs.map (entryOfKey (TK P w))/\(xs.map (·.1)).Nodup
def GR_(D ps:List (List Key×Addr×Value)):List (List Key×Addr×Value):=ps.foldl (λacc q=>storedH acc q.1 q.2.1 q.2.2) D
theorem kw_{D:List (List Key×Addr×Value)}{k:List Key}{b:Addr}{v:Value}{x:List Key×Addr×Value}(h:x∈storedH D k b v):(∃y∈D,y.1=x.1/\y.2.1=x.2.1)\/(x.1=k/\x.2.1=b):=by
 cases e:atKey D k with
 |none =>
  rw[storedH_new e]at h
  rcases Ao_.mp h with h|h
  .show .inl ⟨x,h,rfl,rfl⟩
  .rw[Ad_.mp h];show .inr ⟨rfl,rfl⟩
 |some p =>rw[storedH_old e]at h;obtain⟨y,hy,rfl⟩:=Ai_.mp h;show .inl ⟨y,hy,?_⟩;unfold putAt;split <;> show⟨rfl,rfl⟩
theorem l7_(D:List (List Key×Addr×Value))(k:List Key)(b:Addr)(v:Value):(storedH D k b v).length<=D.length+1:=by
 cases e:atKey D k with
 |none=>rw[storedH_new e,Ae_];show Ah_ _
 |some p=>rw[storedH_old e,Ab_];show Cn_ _
variable {prog:Program}{w:World}{A:Around}{R:Result->Shared->Prop}
theorem ll_{h h':Heap}{k:List Key}{b:Addr}(e:(TK prog w).is h k b)(m:∀o,h.get? b=some o->h'.get? b=some o):(TK prog w).is h' k b:=by obtain⟨o,its,n,h1,h2⟩:=e;show⟨o,its,n,m _ h1,h2⟩
theorem cw_{d it p:Addr}{its:Array Value}{h0:Heap}(hu:A.units+1<cLine)(hh:A.handled=none)(hdi:d≠it)(hp:h0.IsList p its)(hpi:p≠it)(hpd:p≠d):
  ∀(ps:List (List Key×Addr×Value))(i:Nat)(j:Int)(D:List (List Key×Addr×Value))(s:Shared),its.size=i+ps.length->D.length+ps.length<=1000->s.heap.IsListIter it p i->Ka_ prog w s.heap d D ->
   (∀x∈D,x.2.1≠it/\x.2.1≠d/\(TK prog w).is h0 x.1 x.2.1) ->
   (∀b o,b≠it->b≠d->h0.get? b=some o->s.heap.get? b=some o) ->
   (∀m q,ps[m]?=some q->∃(a:Addr)(o:Obj)(n:Nat),its[i+m]?=some (.ref a)/\a≠it/\a≠d/\h0.get? a=some o/\o.cls=.type "tuple" /\ o.data=.seq #[.ref q.2.1,q.2.2] n/\q.2.1≠it/\q.2.1≠d/\(TK prog w).is h0 q.1 q.2.1) ->
   (∀h' tk,(∀b o,b≠it->b≠d->h0.get? b=some o->h'.get? b=some o)->Ka_ prog w h' d (GR_ D ps)->R (.ok (.ret .none)) {s with heap:=h',toks:=tk}) ->
   codeAny (model prog w) A (.builtin "dict.update.loop" ⟨[.ref d,.ref it,rawInt j,.none],[]⟩) R s
 |[],i,j,D,s,hz,hl,hi,hD,hDk,hk,hit,hR=>by
  obtain⟨op,hop,hpr⟩:=id hp;have hp':s.heap.IsList p its:=⟨op,hk p op hpi hpd hop,hpr⟩;show BQ_ F.rim_entry_dict_update_loop ?_;rw[BR_ F.rim_plain_dict_update_loop _];change wpAny _ A.in1 (pyNext (.ref it) >>= _) _ _ s;show Af_ (Cg_ hh hi hp' (Cz_ (by simp at hz;lia)) λh' eb=>?_);change wpAny _ A.in1 (Builtin.Dict.addKeywords d [] >>= _) _ _ _;obtain⟨od,es,ep,g1,g2⟩:=hD;show Af_ (Ax_ (Ax_ (hR h' s.toks (λb o h1 h2 e=>eb b o h1 (hk b o h1 h2 e)) ⟨od,es,ep,eb d od hdi g1,g2⟩)))
 |q::ps,i,j,D,s,hz,hl,hi,hD,hDk,hk,hit,hR=>by
  obtain⟨op,hop,hpr⟩:=id hp;have hp':s.heap.IsList p its:=⟨op,hk p op hpi hpd hop,hpr⟩;obtain⟨a,o,n,e1,a1,a2,ho,hc,hd,b1,b2,kis⟩:=hit 0 q rfl;show BQ_ F.rim_entry_dict_update_loop ?_;rw[BR_ F.rim_plain_dict_update_loop _];change wpAny _ A.in1 (pyNext (.ref it) >>= _) _ _ s;show Af_ (BV_ hi hp' e1 λh1 hi1 sb=>?_);have ho1:h1.get? a=some o:=(sb.2 a a1).trans (hk a o a1 a2 ho);have hT:({s with heap:=h1}:Shared).TypeIs (.ref a) "tuple" := ⟨_,ho1,hc⟩;change wpAny _ A.in1 (holding [Value.ref a] _ >>= _) _ _ _;show Af_ (Bj_ ?_);show Af_ ?_;show DF_ ?_;unfold Builtin.Dict.pairItems;show Af_ (CO_ hT ?_);rw[if_pos d_];show Af_ (Dm_ ho1 hd ?_);show Ax_ ?_;change wpAny _ A.in1 (holding [Value.ref q.2.1,q.2.2] (dictSet d (.ref q.2.1) q.2.2)) _ _ _;show Bj_ ?_;have mv:∀b,b≠it->b≠d->∀o,h0.get? b=some o->h1.get? b=some o:=λb h1' h2' o e=>(sb.2 b h1').trans (hk b o h1' h2' e);have hD1:({s with heap:=h1}:Shared).heap.DictOfH (TK prog w) d D:=by obtain⟨od,es,ep,g1,g2,g3,g4,g5⟩:=hD;show⟨od,es,ep,(sb.2 d hdi).trans g1,g2,g3,g4,λx hx=>ll_ (hDk x hx).2.2 (mv _ (hDk x hx).1 (hDk x hx).2.1),g5⟩
  show wpAny_dictSet_heap (knd:=TK prog w) (show A.in1.units<cLine from hu) (ll_ kis (mv _ b1 b2)) hD1 (λh2 hD2 sb2=>?_) (by simp at hl;rw[B0_];lia);show Ax_ ⟨Cm_ F.rim_plain_dict_update_loop _,?_⟩;have sl:=l7_ D q.1 q.2.1 q.2.2;show cw_ hu hh hdi hp hpi hpd ps (i+1) (j+1) (storedH D q.1 q.2.1 q.2.2) {s with heap:=h2,toks:=s.toks+(TK prog w).draws q.1} (by simp at hz;lia) (by simp at hl;lia) ?_ ?_ (λx hx=>?_) (λb o h1' h2' e=>?_) (λm r e=>?_) λh' tk k3 hD3=>?_
  .obtain⟨oi,hoi,hir⟩:=hi1;show⟨oi,(sb2.2 it (Ne.symm hdi)).trans hoi,hir⟩
  .obtain⟨od,es,ep,g1,g2,g3,g4,_,g5⟩:=hD2;show⟨od,es,ep,g1,g2,g3,g4,g5⟩
  .rcases kw_ hx with⟨y,hy,y1,y2⟩|⟨y1,y2⟩
   .rw[<-y1,<-y2];show hDk y hy
   .rw[y1,y2];show⟨b1,b2,kis⟩
  .show(sb2.2 b h2').trans (mv b h1' h2' o e)
  .obtain⟨a',o',n',z1,z2⟩:=hit (m+1) r e;show⟨a',o',n',by rw[show i+1+m=i+(m+1) by lia];show z1,z2⟩
  .show hR h' tk k3 hD3
def Fp_(kvs more:List (List Key×V)):List (List Key×V):=more.foldl (λacc kv=>FQ_ acc kv.1 kv.2) kvs
theorem KT.merge:∀{more:List (List Key×V)}{rs:List (List Key×Addr×Value)}{kvs:List (List Key×V)}{xs:List (List Key×Addr×Value)},KT H more rs->KT H kvs xs->KT H (Fp_ kvs more) (GR_ xs rs):=by
 intro more rs kvs xs r;unfold KT at r
 induction r generalizing kvs xs with
 |nil=>intro q;show q
 | @cons p q ps qs h t ih =>intro r0;have e:=KT.put r0 p.1 h.2.1 h.2.2;show ih (kvs:=FQ_ kvs p.1 p.2) (xs:=storedH xs q.1 q.2.1 q.2.2) ?_;rw[<-h.1];show e
theorem hK_:∀(more kvs:List (List Key×V)),(Fp_ kvs more).length<=kvs.length+more.length
 |[],kvs=>Ah_ _
 |p::r,kvs=>by have h1:=hK_ r (FQ_ kvs p.1 p.2);have h2:=bv_ kvs p.1 p.2;change(Fp_ (FQ_ kvs p.1 p.2) r).length<=_;rw[AF_];lia
theorem hL_(I:Inv X pins σ H s):∀{kvs:List (List Key×V)}{ys:List V}{its:List Value},Fe_ ys its->ys.length=kvs.length->(∀(i:Nat)(q:List Key×V),kvs[i]?=some q->∃a b,ys[i]?=some (.ref a)/\H a=some (.tup [.ref b,q.2])/\H b=some (.tup (q.1.map kV))) ->
  ∃ps:List (List Key×Addr×Value),KT H kvs ps/\ps.length=its.length/\∀(m:Nat)(q:List Key×Addr×Value),ps[m]?=some q->∃(a:Addr)(o:Obj)(n:Nat),its[m]?=some (.ref a)/\s.heap.get? a=some o/\o.cls=.type "tuple" /\ o.data=.seq #[.ref q.2.1,q.2.2] n/\(TK X.prog X.w).is s.heap q.1 q.2.1
 |[],[],_,.nil,_,_=>⟨[],.nil,rfl,λm q e=>by simp at e⟩
 |[],_::_,_,_,e,_=>nomatch e
 |_::_,[],_,_,e,_=>nomatch e
 |kv::kvs,y::ys,_,.cons r1 r2,e,h=>by
  obtain⟨ps,rel,hl,hp⟩:=hL_ I r2 (by simpa using e) λi q hq=>h (i+1) q hq;obtain⟨a,b,ea,ha,hb⟩:=h 0 kv rfl;cases ea;cases r1;obtain⟨zs,rz,⟨ob,ho,hcl,n,hd⟩,_⟩:=I.tuple (.inl (.inl ha));obtain⟨u1,u2,rfl,ru1,ru2⟩:=Gz_ rz;cases ru1;show⟨(kv.1,b,u2)::ps,.cons ⟨rfl,hb,ru2⟩ rel,by simp[hl],λm q hq=>?_⟩;cases m with
  |zero =>
   cases hq;show⟨a,ob,n,rfl,ho,hcl,hd,ii_ I.hok hb⟩
  |succ m=>show hp m q hq
def Ib_(H:Hp)(p:Addr)(kvs:List (List Key×V)):Prop:=∃ys,H p=some (.lst ys)/\ys.length=kvs.length/\∀(i:Nat)(q:List Key×V),kvs[i]?=some q->∃a b,ys[i]?=some (.ref a)/\H a=some (.tup [.ref b,q.2])/\H b=some (.tup (q.1.map kV))
def JM_:List V->Hp->VK->Prop:=λvs H Q=>∃(p:Addr)(kvs:List (List Key×V)),vs=[.ref p]/\Ib_ H p kvs/\kvs.length<=900/\∀l,H l=none->Q (.ref l) (upd H l (.dT (Fp_ [] kvs)))
theorem l8_(hu:X.A.units+64<cLine)(hc:X.calm=true):FE_ X (.type "dict") JM_:=by
 intro pins s σ H xs us Q I r h;obtain⟨p,kvs,rfl,⟨ys,hp,hl,hk⟩,hz,q⟩:=h;obtain⟨u,rfl,e⟩:=FU_ r;cases e;obtain⟨_,its,c,rv,hop⟩:=(show Fr_ X.prog X.w H s.heap p (.lst ys)from I.hok p _ hp);obtain⟨ps,rel,pl,hit⟩:=hL_ I rv hl hk;have hh:=I.ok.hd hc;have hlt:∀{b:Addr}{o:Obj},s.heap.get? b=some o->b<s.heap.objs.size:=λe=>Au_ e;show callType_codes (Q₁:=λobj s₁=>obj=.ref s.heap.objs.size/\s₁={s with heap:=s.heap.push {cls:=.type "dict",data:=.dict #[]}}) F.kt_called_dict (F.kt_typeCall_dict_1 _) F.entry_dict_init (kt_code_dict_new _ ⟨rfl,rfl⟩) ?_;rintro obj s₁ ⟨rfl,rfl⟩;have hnew:(s.heap.push {cls:=.type "dict",data:=.dict #[]}).DictOfH (TK X.prog X.w) s.heap.objs.size []:=Heap.DictOfH.new s.heap;have hTn:({s with heap:=s.heap.push {cls:=.type "dict",data:=.dict #[]}}:Shared).TypeIs (.ref s.heap.objs.size) "dict" := Heap.DictOfH.typeIs hnew;show⟨hTn,F.args_dict_init_2 _ _,?_⟩;unfold Builtin.«dict.__init__»;show Af_ ?_;unfold Builtin.Dict.selfAndRest;show Af_ (CG_ hTn ?_);change wpAny _ _ (pure (s.heap.objs.size,[Value.ref p])) _ _ _;show Ax_ ?_;change wpAny _ _ (Builtin.Dict.updateFrom "dict.__init__" s.heap.objs.size (.ref p) [] .none) _ _ _;unfold Builtin.Dict.updateFrom;have hop1:(s.heap.push {cls:=.type "dict",data:=.dict #[]}).get? p=some (seqObj "list" its.toArray c):=Aj_ _ hop;have hT:({s with heap:=s.heap.push {cls:=.type "dict",data:=.dict #[]}}:Shared).TypeIs (.ref p) "list" := ⟨_,hop1,rfl⟩;show Af_ (CO_ hT ?_);rw[if_pos d_];show Af_ (dZ_ hop1 rfl rfl rfl ff_ r_ hh λh1 tk k1=>?_);rw[if_pos Option.isNone_none];show Af_ (CJ_ ?_);have hop2:=k1 _ _ hop1;have dsz:s.heap.objs.size<h1.objs.size:=by obtain⟨od,_,_,hod,_⟩:=hnew;show Au_ (k1 _ _ hod)
 show Af_ (BT_ (items:=its.toArray) ⟨_,hop2,rfl,c,rfl⟩ ?_);show Ax_ ⟨Cm_ F.rim_plain_dict_update_loop _,?_⟩;have below:∀{b:Addr}{o:Obj},s.heap.get? b=some o->b≠h1.objs.size/\b≠s.heap.objs.size:=λe=>⟨AE_ (Nat.lt_trans (hlt e) dsz),AE_ (hlt e)⟩;have rl:kvs.length=ps.length:=Cl_ rel;show cw_ (A:=X.A.in1) (its:=its.toArray) (h0:=s.heap) (p:=p) (show X.A.units+1+1<cLine by lia) hh (AE_ dsz) ⟨_,hop,rfl,c,rfl⟩ (below hop).1 (below hop).2 ps 0 0 [] _ (by simp;lia) (by simp;lia) ?_ ?_ (λx hx=>absurd hx AQ_) (λb o b1 b2 e=>?_) (λm q hq=>?_) λh' tk' k3 hD3=>?_
 .show⟨_,AC_ h1 rfl,rfl,rfl⟩
 .obtain⟨od,es,ep,hod,g2,g3,g4,_,g5⟩:=hnew;show⟨od,es,ep,Aj_ _ (k1 _ _ hod),g2,g3,g4,g5⟩
 .show Aj_ _ (k1 _ _ (Aj_ _ e))
 .obtain⟨a,o,n,e1,ho,z1,z2,z3⟩:=hit m q hq;have hb:∃ob,s.heap.get? q.2.1=some ob:=by obtain⟨ob,_,_,g,_⟩:=id z3;show⟨ob,g⟩
  obtain⟨ob,hob⟩:=hb;show⟨a,o,n,by simpa using e1,(below ho).1,(below ho).2,ho,z1,z2,(below hob).1,(below hob).2,z3⟩
 .have ml:=hK_ kvs [];have mz:(Fp_ [] kvs).length<=sizeLine:=AO_ (EN_ (by simp at ml;lia));obtain⟨od,es,ep,g1,g2,g3,g4,g5⟩:=hD3;have fr:=I.hok.fresh (Ah_ s.heap.objs.size);show⟨rfl,.ref _,_,I.laid (a:=s.heap.objs.size) (o:=.dT (Fp_ [] kvs)) (t':=tk') (λb o e=>k3 b o (below e).1 (below e).2 e) (Ah_ _) ⟨mz,Bv_.mpr (Ne.symm (AE_ I.big)),GR_ [] ps,(KT.merge rel .nil).keeps λb ys e=>?_,od,es,ep,g1,g2,g3,g4,g5⟩,rfl,q _ fr⟩;rw[af_ (λz=>by rw[z,fr]at e;cases e)];show e
def Kk_:V->List V->Hp->VK->Prop:=λx vs H Q=>∃(a p:Addr)(kvs0 kvs:List (List Key×V)),x=.ref a/\vs=[.ref p]/\H a=some (.dT kvs0)/\Ib_ H p kvs/\kvs0.length+kvs.length<=900/\Q .non (upd H a (.dT (Fp_ kvs0 kvs)))
theorem l9_(hu:X.A.units+64<cLine)(hc:X.calm=true):MtR X "dict.update" Kk_:=by
 intro pins s σ H x xs v us Q I rx r h;obtain⟨a,p,kvs0,kvs,rfl,rfl,ha,⟨ys,hp,hl,hk⟩,hz,q⟩:=h;cases rx;obtain⟨u,rfl,e⟩:=FU_ r;cases e;obtain⟨_,its,c,rv,hop⟩:=(show Fr_ X.prog X.w H s.heap p (.lst ys)from I.hok p _ hp);obtain⟨ps,rel,pl,hit⟩:=hL_ I rv hl hk;obtain⟨z0,hsys,xs0,rel0,dd⟩:=Ks_ I.hok ha;have hh:=I.ok.hd hc;have hlt:∀{b:Addr}{o:Obj},s.heap.get? b=some o->b<s.heap.objs.size:=λe=>Au_ e;have hTn:s.TypeIs (.ref a) "dict" := Heap.DictOfH.typeIs dd;have apne:∀b ys,H b=some (.tup ys)->b≠a:=λb ys e z=>by rw[z,ha]at e;cases e
 have ppa:p≠a:=λz=>by rw[z,ha]at hp;cases hp
 show wpAny_call (codeAny_call_builtin F.slot_dict_update.plain F.entry_dict_update (F.slot_dict_update.check _ _ _ _ _ _ _ _ hTn (F.args_dict_update_2 _ _) ?_));unfold Builtin.«dict.update»;show Af_ ?_;unfold Builtin.Dict.selfAndRest;show Af_ (CG_ hTn ?_);change wpAny _ _ (pure (a,[Value.ref p])) _ _ _;show Ax_ ?_;change wpAny _ _ (Builtin.Dict.updateFrom "dict.update" a (.ref p) [] .none) _ _ _;unfold Builtin.Dict.updateFrom;have hT:s.TypeIs (.ref p) "list" := ⟨_,hop,rfl⟩;show Af_ (CO_ hT ?_);rw[if_pos d_];show Af_ (dZ_ hop rfl rfl rfl ff_ r_ hh λh1 tk k1=>?_);rw[if_pos Option.isNone_none];show Af_ (CJ_ ?_);have hop2:=k1 _ _ hop;show Af_ (BT_ (items:=its.toArray) ⟨_,hop2,rfl,c,rfl⟩ ?_);show Ax_ ⟨Cm_ F.rim_plain_dict_update_loop _,?_⟩;have below:∀{b:Addr}{o:Obj},s.heap.get? b=some o->b≠h1.objs.size:=λe=>AE_ (Au_ (k1 _ _ e));have rl:kvs.length=ps.length:=Cl_ rel;have rl0:kvs0.length=xs0.length:=Cl_ rel0;obtain⟨od,es,ep,hod,g2,g3,g4,g6,g5⟩:=id dd;have nseq:∀{k:List Key}{b:Addr},(TK X.prog X.w).is s.heap k b->b≠a:=λ{k b} e z=>by obtain⟨ob,its',n,g,_,dat,_⟩:=e;rw[z,hod]at g;cases g;rw[g3]at dat;cases dat
 show cw_ (A:=X.A) (its:=its.toArray) (h0:=s.heap) (p:=p) (show X.A.units+1<cLine by lia) hh (below hod) ⟨_,hop,rfl,c,rfl⟩ (below hop) ppa ps 0 0 xs0 _ (by simp;lia) o_ ?_ ?_ (λx hx=>?_) (λb o b1 b2 e=>?_) (λm q hq=>?_) λh' tk' k3 hD3=>?_
 .show⟨_,AC_ h1 rfl,rfl,rfl⟩
 .show⟨od,es,ep,Aj_ _ (k1 _ _ hod),g2,g3,g4,g5⟩
 .have kx:=g6 x hx;obtain⟨ob,_,_,g,_⟩:=id kx;show⟨below g,nseq kx,kx⟩
 .show Aj_ _ (k1 _ _ e)
 .obtain⟨a',o,n,e1,ho,z1,z2,z3⟩:=hit m q hq;obtain⟨ob,_,_,g,_⟩:=id z3;show⟨a',o,n,by simpa using e1,below ho,(λz=>by rw[z,hod]at ho;cases ho;rw[g3]at z2;cases z2),ho,z1,z2,below g,nseq z3,z3⟩
 .have ml:=hK_ kvs kvs0;have mz:(Fp_ kvs0 kvs).length<=sizeLine:=AO_ (EN_ o_);obtain⟨od',es',ep',f1,f2,f3,f4,f5⟩:=hD3;show⟨.non,_,I.write (x:=a) (e:=a) (o:=.dT (Fp_ kvs0 kvs)) (t':=tk') (by rw[ha];show True.intro) (.inl rfl) (λb o hb e=>k3 b o (below e) hb e) ⟨od',f1⟩ ⟨mz,hsys,GR_ xs0 ps,(KT.merge rel rel0).keeps λb ys e=>?_,od',es',ep',f1,f2,f3,f4,f5⟩,rfl,q⟩;rw[af_ (apne b ys e)];show e
def Ic_:V->List V->Hp->VK->Prop:=λx vs H Q=>∃(l:Addr)(xs:List Str)(t:Str)(j:Nat),x=.ref l/\vs=[.str t]/\H l=some (.lst (xs.map V.str))/\xs.length<=1000/\xs[j]?=some t/\(∀m,m<j->xs[m]?≠some t)/\Q (.int j) H
theorem os_:MtM X "list.index" Ic_:=by
 intro pins s σ H x vs v us Q I rx rv h;obtain⟨l,xs,t,j,rfl,rfl,hH,hz,hj,hno,q⟩:=h;cases rx;obtain⟨u,rfl,ru⟩:=rv.one;obtain⟨z,its,n,r,hl,e⟩:=I.lstM hH;have hl':its.length=xs.length:=by rw[<-hl,Ab_]
 have jl:j<xs.length:=(Al_.mp hj).1;have ji:j<its.toArray.size:=by rw[Ap_];lia
 have fl:(xs.map V.str).all F9_=true:=by rw[List.all_map];show List.all_eq_true.mpr λ_ _=>rfl
 have at_:∀m (hm:m<its.toArray.size),eqU (.str t) its.toArray[m]=decide (xs[m]?=some t):=λm hm=>by
  have hm':m<xs.length:=by rw[Ap_]at hm;lia
  obtain⟨w',hw,rw'⟩:=r.get (i:=m) (x:=.str xs[m]) (by rw[Ag_,Aa_ hm'];rfl);have ew:its.toArray[m]=w':=by rw[Aa_ (by rw[Ap_]at hm;show hm)]at hw;simpa using At_ hw
  rw[ew,mN_ rw' rfl,Aa_ hm'];change decide (xs[m]=t)=_;show decide_eq_decide.mpr ⟨λz=>congrArg some z,λz=>At_ z⟩
 show Ca_ F.slot_list_index ⟨_,e,rfl⟩ F.entry_list_index (F.args_list_index_2 _ _)
  (SeqAt.list_indexAt l its.toArray n none #[] u (eqU (.str t)) j ji o_ (by rw[at_ j ji];show AG_ hj) λm hm hlt=>by rw[at_ m hm];show AI_ (hno m hlt)) ⟨e,λy hy=>eV_ ru rfl r fl y (by simpa using hy),?_⟩
 show⟨.int j,H,I.tok _,⟨_,rfl⟩,q⟩
def J5_(t u:TS):TS:=λD σ H=>∀kk:St->Hp->Prop,(∀σ' H',u D σ' H'->kk σ' H')->t {D with nx:=kk} σ H
theorem am_{st:Stmt}{rest:List Stmt}{t u:TS}(h1:PS X st t)(h2:PSs X rest u):PSs X (st::rest) (J5_ t u):=λpins s σ H D I h=>ad_ h1 h2 pins s σ H D I (h (u D) λ_ _ q=>q)
theorem qa_{t u:TS}{D:GZ_}(h:∀kk:St->Hp->Prop,(∀σ' H',u D σ' H'->kk σ' H')->t {D with nx:=kk} σ H):J5_ t u D σ H:=h
theorem ri_{kk u:St->Hp->Prop}(h:∀σ' H',u σ' H'->kk σ' H')(q:u σ H):kk σ H:=h _ _ q
theorem Lg_{A G:Prop}(h:A->G)(a:A):G:=h a
theorem pm_{CX:CXT}{P:Program}{K:PySem.W.Frag}{mg:Str->Option Value}{base:Heap}{N:List Str}{q:Str}{sc:Scope}{f:Addr}{cd:Value}{o:List Env}{E:XK}:(Hj_ CX P w K mg base N q sc f cd A o s H E).K=K:=rfl
abbrev SHP:=St->Hp->Prop
theorem ex_{lo:Int}{n:Nat}{g:TG}{tb:TS}{nx bk ct:SHP}{rt:VK}{σ:St}{H:Hp}(Pv:Nat->St->Hp->Prop)(h0:Pv 0 σ H)
  (hs:∀(i:Nat) σ H,i<n->∀(kk kb:SHP),(∀σ' H',Pv (i+1) σ' H'->kk σ' H')->(∀σ' H',nx σ' H'->kb σ' H')->∀G:Prop,((g (.int (lo+i)) σ H λσ2 H2=>tb ⟨kk,rt,kb,kk⟩ σ2 H2)->G)->Pv i σ H->G) (hd:∀σ H,Pv n σ H->nx σ H):GT_ (Itr lo n) g tb ⟨nx,rt,bk,ct⟩ σ H :=
 de_ Pv h0 (λi σ H hi p=>hs i σ H hi _ _ (λ_ _ q=>q) (λ_ _ q=>q) _ id p) hd
theorem ot_{K:PySem.W.Frag}{a:Addr}{xs:List V}{g:TG}{tb:TS}{nx bk ct:SHP}{rt:VK}{σ:St}{H:Hp}(Pv:Nat->St->Hp->Prop)(h0:Pv 0 σ H)(hl:∀i σ H,i<=xs.length->Pv i σ H->SqL K H a xs)
  (hs:∀(i:Nat) x σ H,xs[i]?=some x->∀(kk kb:SHP),(∀σ' H',Pv (i+1) σ' H'->kk σ' H')->(∀σ' H',nx σ' H'->kb σ' H')->∀G:Prop,((g x σ H λσ2 H2=>tb ⟨kk,rt,kb,kk⟩ σ2 H2)->G)->Pv i σ H->G) (hd:∀σ H,Pv xs.length σ H->nx σ H):GT_ (Itl K a) g tb ⟨nx,rt,bk,ct⟩ σ H :=
 ht_ Pv h0 hl (λi x σ H hx p=>hs i x σ H hx _ _ (λ_ _ q=>q) (λ_ _ q=>q) _ id p) hd
theorem ou_{c:TT}{tb:TS}{nx bk ct:SHP}{rt:VK}{σ:St}{H:Hp}(Pv:St->Hp->Prop)(μ:St->Hp->Nat)(h0:Pv σ H)
  (hs:∀σ H,∀kb:SHP,(∀σ' H',nx σ' H'->kb σ' H')->∀G:Prop,((c σ H λb H1=>if b=true then ∃N:St->Hp->Prop,(∀σ' H',N σ' H'->∃m',m'<μ σ H/\m'=μ σ' H'/\Pv σ' H')/\tb ⟨N,rt,kb,N⟩ σ H1 else kb σ H1)->G)->Pv σ H->G):Id_ c tb ⟨nx,rt,bk,ct⟩ σ H :=
 fa_ Pv μ h0 λσ H p=>hs σ H nx (λ_ _ q=>q) _ id p
def Idi(d:Addr)(ob:Obj)(kvs:List (Key×V)):It :=
 ⟨λi H=>H d=some (.frz ob (.dK kvs))/\i<kvs.length,λi H x H'=>∃T k v,x=.ref T/\H T=none/\kvs[i]?=some (k,v)/\H'=upd H T (.tup [kV k,v]),λi H=>H d=some (.frz ob (.dK kvs))/\kvs.length<=i⟩
def iDI(td:TE):TI:=λσ H R=>td σ H λx H1=>∃(d:Addr)(kvs:List (Key×V)),x=.ref d/\H1 d=some (.dK kvs)/\∀ob,R (Idi d ob kvs) (upd H1 d (.frz ob (.dK kvs)))
def NX(K:PySem.W.Frag)(H:Hp):Prop:=∀a o,K.lookup a=some o->H a=none
def KW_(K:PySem.W.Frag)(t:TE):TE:=λσ H Q=>t σ H λv H'=>NX K H'->Q v H'
def rIsT(K:PySem.W.Frag):List V->Hp->VK->Prop:=λxs H Q=>∃a ys,xs=[.ref a,.ty "tuple"]/\SqT K H a ys/\Q (.bl true) H
theorem qb_{K:PySem.W.Frag}{a:Addr}{xs:List V}{g:TG}{tb:TS}{nx bk ct:St->Hp->Prop}{rt:VK}{σ:St}{H:Hp}(Pv:Nat->St->Hp->Prop)(h0:Pv 0 σ H)(hl:∀i σ H,i<=xs.length->Pv i σ H->SqT K H a xs)
  (hs:∀(i:Nat) x σ H,xs[i]?=some x->∀(kk kb:St->Hp->Prop),(∀σ' H',Pv (i+1) σ' H'->kk σ' H')->(∀σ' H',nx σ' H'->kb σ' H')->∀G:Prop,((g x σ H λσ2 H2=>tb ⟨kk,rt,kb,kk⟩ σ2 H2)->G)->Pv i σ H->G) (hd:∀σ H,Pv xs.length σ H->nx σ H):GT_ (Itt K a) g tb ⟨nx,rt,bk,ct⟩ σ H:=by
 show⟨λi m σ H=>m=xs.length-i/\i<=xs.length/\Pv i σ H,⟨xs.length,s_,AP_ _,h0⟩,?_⟩;rintro i m σ H ⟨rfl,hi,p⟩;have q:=hl i σ H hi p;by_cases hlt:i<xs.length
 .show .inr ⟨⟨xs,xs[i],q,by simp[hlt]⟩,Pv (i+1),λσ' H' p'=>⟨xs.length-(i+1),o_,rfl,hlt,p'⟩,λx H' y=>?_⟩;obtain⟨rfl,hy⟩:=y;show hs i x σ H' (hy xs q) _ _ (λ_ _ q=>q) (λ_ _ q=>q) _ id p
 .have e:i=xs.length:=o_
  subst e;show .inl ⟨⟨xs,q,Ah_ _⟩,hd σ H p⟩
end L2
namespace RimM
structure Is(p:Int×Int)(t b:Int):Prop where
 low:Low p
 ne:b≠0
 eq:p.1*b=t*p.2
theorem Ll_{t b:Int}(h:b≠0):Is (nf t b) t b:=⟨(pg_ h).1,h,(pg_ h).2.symm⟩
theorem nh_{t b:Int}(hb:b≠0):(nf t b).1.natAbs<=t.natAbs/\(nf t b).2.natAbs<=b.natAbs:=by
 have key:∀{t b:Int},0<b->(nf t b).1.natAbs<=t.natAbs/\(nf t b).2.natAbs<=b.natAbs:=λ{t b} h=>by rw[m6_ h];show⟨by have:=Int.natAbs_ediv_le_natAbs t (Int.gcd t b:Int);lia,by have:=Int.natAbs_ediv_le_natAbs b (Int.gcd t b:Int);lia⟩
 rcases Int.lt_or_lt_of_ne hb with h|h
 .rw[pf_ h];have:=key (t:=-t) (b:=-b) o_;lia
 .show key h
end RimM
namespace RimT
theorem bw_{α:Type}:∀{a b:List α},a.Nodup->b.Nodup->(∀x,x∈a↔x∈b)->a.Perm b
 |[],b,_,_,h=>by
  have:b=[]:=List.eq_nil_iff_forall_not_mem.mpr λx hx=>absurd ((h x).mpr hx) AQ_;rw[this]
 |x::a,b,na,nb,h=>by
  obtain⟨s,t,rfl⟩:=List.append_of_mem ((h x).mp An_);obtain⟨n1,n2⟩:=AM_.mp na;have p:(x::(s++t)).Perm (s++x::t):=List.perm_middle.symm;obtain⟨m1,m2⟩:=AM_.mp (p.nodup_iff.mpr nb);show(List.Perm.cons x (bw_ n2 m2 λy=>?_)).trans p;have hy:=h y;rw[<-p.mem_iff,Aq_,Aq_]at hy;constructor
  .intro hm;show(hy.mp (.inr hm)).resolve_left λz=>n1 (z▸hm)
  .intro hm;show(hy.mpr (.inr hm)).resolve_left λz=>m1 (z▸hm)
section
variable {α:Type}[DecidableEq α]
variable{P:Nat}{l:List (Nat×Nat)}{d:Nat×Nat}
theorem d0_{T:List (List α)}(w:Way T P l d):(∀(i:Nat)(a b:Nat×Nat),l[i]?=some a->l[i+1]?=some b->Nx T P a b)/\∃a,l[l.length-1]?=some a/\Nx T P a d:=by
 induction w with
 | @one c d h=>show⟨λi a b h1 h2=>(by simp at h2),c,rfl,h⟩
 | @more l c d w h ih =>
  obtain⟨h1,a,h2,h3⟩:=ih;have ln:=BU_.mpr (gM_ w);show⟨λi x y hx hy=>?_,c,s_,h⟩;have hi:i+1<l.length+1:=by have:=(Al_.mp hy).1;simpa using this
  by_cases e:i+1=l.length
  .rw[AK_ o_,e,BW_]at hy;cases hy;rw[Ay_ o_]at hx;have:l.length-1=i:=o_
   rw[this,hx]at h2;cases h2;show h3
  .rw[Ay_ o_]at hx hy;show h1 i x y hx hy
theorem lm_{T:List (List α)}(tw:Tw T){c d':Nat×Nat}{l':List (Nat×Nat)}(w:Way T P l d)(w':Way T P l' d')(h:l.head?=some c)(h':l'.head?=some c):∀i,i<l.length->i<l'.length->l[i]?=l'[i]?:=by
 intro i
 induction i with
 |zero =>
  intro _ _;rw[<-Cy_,<-Cy_,h,h']
 |succ i ih =>intro h1 h2;have e:=ih o_ o_;rw[Aa_ o_,Aa_ o_]at e;have e':=At_ e;have n1:=(d0_ w).1 i _ _ (Aa_ o_) (Aa_ h1);have n2:=(d0_ w').1 i _ _ (Aa_ o_) (Aa_ h2);rw[e']at n1;rw[Aa_ h1,Aa_ h2,hE_ tw n1 n2]
def Reg(T:List (List α))(P:Nat)(c:Nat×Nat)(l:List (Nat×Nat)):Prop:=Way T P l c/\l.head?=some c/\l.Nodup
theorem pn_{T:List (List α)}(tw:Tw T){c:Nat×Nat}{l':List (Nat×Nat)}(r:Reg T P c l)(r':Reg T P c l'):l'.length<=l.length:=by
 show Nat.le_of_not_lt λhlt=>?_;have ln:=BU_.mpr (gM_ r.1);obtain⟨_,a,ha,na⟩:=d0_ r.1;have e:=lm_ tw r.1 r'.1 r.2.1 r'.2.1 (l.length-1) o_ o_;rw[ha]at e;have n2:=(d0_ r'.1).1 (l.length-1) a _ e.symm (Aa_ (show l.length-1+1<l'.length by lia));have ec:=hE_ tw na n2;have h0:l'[0]?=some c:=by rw[<-Cy_];show r'.2.1
 have:=(AY_ (i:=0) (j:=l.length-1+1) o_ r'.2.2).mp (by rw[h0,Aa_ (show l.length-1+1<l'.length by lia),<-ec]);lia
theorem qc_{T:List (List α)}(tw:Tw T){c:Nat×Nat}{l':List (Nat×Nat)}(r:Reg T P c l)(r':Reg T P c l'):l=l':=by
 have e:l.length=l'.length:=Nat.le_antisymm (pn_ tw r' r) (pn_ tw r r');apply List.ext_getElem? ;intro i;by_cases hi:i<l.length
 .show lm_ tw r.1 r'.1 r.2.1 r'.2.1 i hi o_
 .rw[Bh_ o_,Bh_ o_]
open Classical in
noncomputable def cyc(T:List (List α))(P:Nat)(c:Nat×Nat):List (Nat×Nat):=if h:∃l,Reg T P c l then choose h else[]
theorem po_{T:List (List α)}(tw:Tw T){c:Nat×Nat}(r:Reg T P c l):cyc T P c=l:=by unfold cyc;rw[dif_pos ⟨l,r⟩];show qc_ tw (Classical.choose_spec (⟨l,r⟩:∃l,Reg T P c l)) r
noncomputable def fdF(T:List (List α))(P:Nat)(O:List (Nat×Nat)):List (List (Nat×Nat)):=O.foldl (λF c=>if c∈F.flatten then F else F++[cyc T P c]) []
theorem ln_(T:List (List α))(P:Nat)(O:List (Nat×Nat))(c:Nat×Nat):fdF T P (O++[c])=if c∈(fdF T P O).flatten then fdF T P O else fdF T P O++[cyc T P c]:=by unfold fdF;rw[List.foldl_append];rfl
end
section
variable {S:Type}[DecidableEq S]
structure EZ_(N:Net S):Prop where
 pnd:N.posts.Nodup
 pin:∀p∈N.posts,p∈N.rows.map (·.1)
 p0:0<N.posts.length
def pts(N:Net S):List S:=N.posts++(N.rows.map (·.1)).filter λx=>decide (x∉N.posts)
def G6_(N:Net S)(x:S):List S:=((N.rows.find? λr=>decide (r.1=x)).map (·.2)).getD []
def trn(N:Net S):List (List S):=(pts N).map (G6_ N)
theorem lo_{N:Net S}(ok:Fi_ N)(po:EZ_ N):(pts N).Nodup :=
 AA_.mpr ⟨po.pnd,ok.nd.filter _,λa ha b hb e=>by have:=(Bq_.mp hb).2;rw[BM_]at this;show this (e▸ha)⟩
theorem dp_{N:Net S}(po:EZ_ N){x:S}:x∈pts N↔x∈N.rows.map (·.1):=by
 unfold pts;rw[Ao_,Bq_,BM_];constructor
 .rintro(h|h)
  .show po.pin x h
  .show h.1
 .intro h;by_cases hp:x∈N.posts
  .show .inl hp
  .show .inr ⟨h,hp⟩
theorem iP_{N:Net S}(ok:Fi_ N)(po:EZ_ N):(pts N).Perm (N.rows.map (·.1)):=bw_ (lo_ ok po) ok.nd λx=>dp_ po
theorem kx_{N:Net S}(ok:Fi_ N)(po:EZ_ N):(pts N).length=N.rows.length:=by rw[(iP_ ok po).length_eq,Ab_]
theorem ni_{x:S}{l:List S}:∀{rows:List (S×List S)},(rows.map (·.1)).Nodup->(x,l)∈rows->(rows.find? λr=>decide (r.1=x))=some (x,l)
 |[],_,h=>nomatch h
 |r::rows,nd,h=>by
  obtain⟨n1,n2⟩:=AM_.mp nd
  rcases Aq_.mp h with e|h
  .subst e;rw[List.find?_cons_of_pos s_]
  .rw[List.find?_cons_of_neg (by simp only[decide_eq_true_eq];show λz=>n1 (Ai_.mpr ⟨_,h,z.symm⟩))];show ni_ n2 h
theorem bC_{N:Net S}(ok:Fi_ N){r:S×List S}(h:r∈N.rows):G6_ N r.1=r.2:=by unfold G6_;rw[ni_ ok.nd (l:=r.2) h];rfl
theorem a6_(N:Net S):(trn N).length=(pts N).length:=by unfold trn;rw[Ab_]
theorem lp_{N:Net S}(ok:Fi_ N)(po:EZ_ N):Tw (trn N):=by
 have e:(trn N).flatten.Perm N.all:=by
  unfold trn Net.all;have h1:((N.rows.map (·.1)).map (G6_ N))=N.rows.map (·.2):=by rw[AZ_];show Bw_ λr hr=>bC_ ok hr
  rw[<-h1];show dB_ ((iP_ ok po).map _)
 intro w hw;rw[e.count_eq];show ok.two w (e.mem_iff.mp hw)
variable (d0:S)
def phi(N:Net S)(c:Nat×Nat):End S:=((pts N).getD c.1 d0,c.2)
def pid(N:Net S)(x:S):Nat:=(pts N).idxOf x
variable {d0}
theorem hM_{N:Net S}(ok:Fi_ N)(po:EZ_ N){a b:Nat×Nat}(ha:a.1<(pts N).length)(hb:b.1<(pts N).length)(h:phi d0 N a=phi d0 N b):a=b:=by have h1:(pts N).getD a.1 d0=(pts N).getD b.1 d0:=congrArg Prod.fst h;have h2:a.2=b.2:=congrArg (λe:End S=>e.2) h;rw[Ac_,Ac_,Aa_ ha,Aa_ hb]at h1;have:=(AY_ (i:=a.1) (j:=b.1) ha (lo_ ok po)).mp (by rw[Aa_ ha,Aa_ hb];show congrArg some h1);show Bd_ this h2
theorem hN_{N:Net S}{x:S}(h:x∈pts N):pid N x<(pts N).length:=List.idxOf_lt_length_of_mem h
theorem fG_{N:Net S}{x:S}(h:x∈pts N):(pts N)[pid N x]?=some x:=by rw[Aa_ (hN_ h)];show congrArg some (List.getElem_idxOf (hN_ h))
theorem qd_{N:Net S}{x:S}(h:x∈pts N)(k:Nat):phi d0 N (pid N x,k)=(x,k):=by unfold phi;rw[Ac_,fG_ h];rfl
theorem lq_{N:Net S}(ok:Fi_ N)(po:EZ_ N){p:Nat}{x:S}(h:(pts N)[p]?=some x):pid N x=p:=by have hp:=(Al_.mp h).1;have hm:=Am_ h;show(AY_ (hN_ hm) (lo_ ok po)).mp (by rw[fG_ hm,h])
theorem fH_{N:Net S}(ok:Fi_ N)(po:EZ_ N){p:Nat}{x:S}(h:(pts N)[p]?=some x):x∈N.posts↔p<N.posts.length:=by
 constructor
 .intro hx;obtain⟨j,hj,ej⟩:=As_.mp hx;have e:(pts N)[j]?=some x:=by unfold pts;rw[Ay_ hj,Aa_ hj,ej]
  have:=(AY_ (Al_.mp h).1 (lo_ ok po)).mp (h.trans e.symm);lia
 .intro hp;unfold pts at h;rw[Ay_ hp]at h;show Am_ h
theorem gi_{N:Net S}{p:Nat}{x:S}(h:(pts N)[p]?=some x):(trn N).getD p []=G6_ N x:=by unfold trn;rw[Ac_,Ag_,h];rfl
theorem gj_{x:S×End S}:∀{rows:List (S×List S)},x∈occ rows↔∃r∈rows,r.1=x.2.1/\r.2[x.2.2]?=some x.1:=by
 intro rows
 have row:∀(p:S)(ws:List S)(k:Nat),x∈Fo_ p k ws↔p=x.2.1/\k<=x.2.2/\ws[x.2.2-k]?=some x.1:=by
  intro p ws
  induction ws with
  |nil=>intro k;simp[Fo_]
  |cons w ws ih =>
   intro k;rw[Fo_,Aq_,ih];constructor
   .rintro(e|⟨e1,e2,e3⟩)
    .subst e;show⟨rfl,Ah_ _,s_⟩
    .show⟨e1,o_,?_⟩;rw[show x.2.2-k=(x.2.2-(k+1))+1 by lia];show e3
   .rintro⟨e1,e2,e3⟩;by_cases h:x.2.2=k
    .left;rw[h,BW_]at e3;have:w=x.1:=At_ e3;show Bd_ this.symm (Bd_ e1.symm h)
    .right;show⟨e1,o_,?_⟩;rw[show x.2.2-k=(x.2.2-(k+1))+1 by lia]at e3;show e3
 unfold occ;rw[AX_];constructor
 .rintro⟨l,hl,hx⟩;obtain⟨r,hr,rfl⟩:=Ai_.mp hl;obtain⟨e1,_,e3⟩:=(row _ _ _).mp hx;show⟨r,hr,e1,e3⟩
 .rintro⟨r,hr,e1,e2⟩;show⟨_,Ai_.mpr ⟨r,hr,rfl⟩,(row _ _ _).mpr ⟨e1,AP_ _,e2⟩⟩
theorem pp_{N:Net S}(ok:Fi_ N)(po:EZ_ N){c:Nat×Nat}{w:S}(h:wi (trn N) c=some w):(w,phi d0 N c)∈occ N.rows:=by
 obtain⟨h1,h2⟩:=FN_ h;rw[a6_]at h2;have hx:(pts N)[c.1]?=some (pts N)[c.1]:=Aa_ h2;obtain⟨r,hr,er⟩:=Ai_.mp ((dp_ po).mp (A3_ h2));have e:(trn N).getD c.1 []=r.2:=by rw[gi_ hx,<-er,bC_ ok hr]
 show gj_.mpr ⟨r,hr,?_,?_⟩
 .change r.1=(pts N).getD c.1 d0;rw[Ac_,hx,er];rfl
 .unfold wi at h;rw[e]at h;show h
theorem nj_{N:Net S}(ok:Fi_ N)(po:EZ_ N){a b:Nat×Nat}(m:Hn_ (trn N) a b):∃kv∈E8_ N,kv.2=[phi d0 N a,phi d0 N b]\/kv.2=[phi d0 N b,phi d0 N a]:=by
 obtain⟨ne,w,wa,wb⟩:=m;have ha:=pp_ (d0:=d0) ok po wa;have hb:=pp_ (d0:=d0) ok po wb;obtain⟨_,h2,h3,_⟩:=aU_ _ (occ N.rows) rfl;obtain⟨kv,hkv,ekv⟩:=h3 _ ha;have ekv':kv.1=w:=ekv;have ma:phi d0 N a∈kv.2:=by rw[h2 kv hkv];show Ai_.mpr ⟨_,Bq_.mpr ⟨ha,by simp[ekv']⟩,rfl⟩
 have mb:phi d0 N b∈kv.2:=by rw[h2 kv hkv];show Ai_.mpr ⟨_,Bq_.mpr ⟨hb,by simp[ekv']⟩,rfl⟩
 have la:=(FN_ wa).2;have lb:=(FN_ wb).2;rw[a6_]at la lb;have pne:phi d0 N a≠phi d0 N b:=λz=>ne (hM_ ok po la lb z);obtain⟨x,y,exy⟩:=iM_ ok hkv;rw[exy]at ma mb;show⟨kv,hkv,?_⟩;rw[exy];simp only[Aq_,AQ_,Ck_]at ma mb
 rcases ma with ma|ma <;> rcases mb with mb|mb
 .show absurd (ma.trans mb.symm) pne
 .show .inl (by rw[ma,mb])
 .show .inr (by rw[ma,mb])
 .show absurd (ma.trans mb.symm) pne
theorem qe_{N:Net S}(ok:Fi_ N)(po:EZ_ N){c:Nat×Nat}(hc:c.1<(pts N).length)(h:rl (trn N) c.1<=c.2){kv:S×List (End S)}(hkv:kv∈E8_ N):phi d0 N c∉kv.2:=λhm=>by
 obtain⟨r,hr,e1,e2⟩:=gj_.mp (lj_ hkv hm);have hx:(pts N)[c.1]?=some (pts N)[c.1]:=Aa_ hc;have e3:r.1=(pts N)[c.1]:=by rw[e1];change(pts N).getD c.1 d0=_;rw[Ac_,hx];rfl
 have e4:(trn N).getD c.1 []=r.2:=by rw[gi_ hx,<-e3,bC_ ok hr]
 have:=(Al_.mp e2).1;unfold rl at h;rw[e4]at h;have h':r.2.length<=c.2:=h;have h2:c.2<r.2.length:=this;lia
def F4_(N:Net S):List (Nat×Nat):=N.rows.flatMap λr=>(List.range (r.2.length+if r.1∈N.posts then 1 else 0)).map λk=>(pid N r.1,k)
theorem Li_{N:Net S}(ok:Fi_ N)(po:EZ_ N){r:S×List S}(hr:r∈N.rows){k:Nat}(hk:k<r.2.length+if r.1∈N.posts then 1 else 0):IsC (trn N) N.posts.length (pid N r.1,k):=by
 have hm:r.1∈pts N:=(dp_ po).mpr (Ai_.mpr ⟨r,hr,rfl⟩);have e:=fG_ hm;show⟨by rw[a6_];show hN_ hm,?_⟩;change k<rl (trn N) (pid N r.1)+if pid N r.1<N.posts.length then 1 else 0;unfold rl;rw[gi_ e,bC_ ok hr];by_cases h:r.1∈N.posts
 .rw[if_pos ((fH_ ok po e).mp h)];rw[if_pos h]at hk;show hk
 .rw[if_neg (λz=>h ((fH_ ok po e).mpr z))];rw[if_neg h]at hk;show hk
theorem cd_{N:Net S}(ok:Fi_ N)(po:EZ_ N){c:Nat×Nat}:c∈F4_ N↔IsC (trn N) N.posts.length c:=by
 unfold F4_;rw[List.mem_flatMap];constructor
 .rintro⟨r,hr,hc⟩;obtain⟨k,hk,rfl⟩:=Ai_.mp hc;show Li_ ok po hr (AJ_.mp hk)
 .rintro⟨h1,h2⟩;rw[a6_]at h1;have hx:(pts N)[c.1]?=some (pts N)[c.1]:=Aa_ h1;obtain⟨r,hr,er⟩:=Ai_.mp ((dp_ po).mp (A3_ h1));show⟨r,hr,Ai_.mpr ⟨c.2,AJ_.mpr ?_,?_⟩⟩
  .unfold rl at h2;rw[gi_ hx,<-er,bC_ ok hr]at h2;by_cases hp:r.1∈N.posts
   .rw[if_pos hp];rw[er]at hp;rw[if_pos ((fH_ ok po hx).mp hp)]at h2;show h2
   .rw[if_neg hp];rw[er]at hp;rw[if_neg (λz=>hp ((fH_ ok po hx).mpr z))]at h2;show h2
  .rw[er,lq_ ok po hx]
theorem ov_{N:Net S}(po:EZ_ N):(F4_ N).map (phi d0 N)=(N.rows.map λr=>(List.range (r.2.length+if r.1∈N.posts then 1 else 0)).map λk=>(r.1,k)).flatten:=by unfold F4_;rw[List.flatMap_def,List.map_flatten,AZ_];congr 1;apply Bw_;intro r hr;change(List.map _ _).map _=_;rw[AZ_];apply Bw_;intro k _;show qd_ ((dp_ po).mpr (Ai_.mpr ⟨r,hr,rfl⟩)) k
end
end RimT
namespace RimM
def Ws(p:Int×Int):Prop:=Low p/\0<p.1/\p.1<=1000/\p.2<=1000
theorem Lc_{t b:Int}(t0:0<t)(t1:t<=1000)(b0:0<b)(b1:b<=1000):Ws (nf t b):=by
 have h:=Ll_ (t:=t) (b:=b) o_;have hp:=h.low.pos;have ha:=nh_ (t:=t) (b:=b) o_;have h1:0<(nf t b).1:=by have e:=h.eq;have h3:0<t*(nf t b).2:=Int.mul_pos t0 hp;rw[<-e]at h3;show Int.pos_of_mul_pos_left h3 b0
 show⟨h.low,h1,o_,o_⟩
end RimM
namespace RimT
open RimM
variable {S:Type}[DecidableEq S]
end RimT
namespace L2
open PySem PySem.Spec PyProof.Rows PySem.W
variable {X:Cx}{pins:List (Addr×Obj)}{σ:St}{H:Hp}{s:Shared}
def J4_(H:Hp)(p:Addr)(kvs:List (Key×V)):Prop:=∃ys,H p=some (.lst ys)/\ys.length=kvs.length/\∀(i:Nat)(q:Key×V),kvs[i]?=some q->∃a,ys[i]?=some (.ref a)/\H a=some (.tup [kV q.1,q.2])
def K0_:V->List V->Hp->VK->Prop:=λx vs H Q=>∃(a p:Addr)(kvs0 kvs:List (Key×V)),x=.ref a/\vs=[.ref p]/\H a=some (.dK kvs0)/\J4_ H p kvs/\kvs0.length+kvs.length<=900/\Q .non (upd H a (.dK (F7_ kvs0 kvs)))
def Ke_(k1 v1 k2 v2:TE):TE:=λσ H Q=>∀p,H p=none->k1 σ (upd H p (.dT [])) λx1 H1=>v1 σ H1 λy1 H2=>k2 σ H2 λx2 H3=>v2 σ H3 λy2 H4=>∃a b ka kb,x1=.ref a/\x2=.ref b/\H4 a=some (.tup (ka.map kV))/\H4 b=some (.tup (kb.map kV))/\H4 p=some (.dT [])/\Q (.ref p) (upd H4 p (.dT (FQ_ (FQ_ [] ka y1) kb y2)))
open PyProof.V
def Kc_:V->List V->Hp->VK->Prop:=λx vs H Q=>∃(p:Addr)(ts:List Str)(k:Str),x=.ref p/\vs=[.str k]/\H p=some (.lst (ts.map V.str))/\Q (.int (ts.count k:Nat)) H
def lkD(D:List (Str×Int))(k:Str):V:=match KTD.datumAt k D with|some n=>.int n|none=>.non
def KS_(D:List (Str×Int))(ty:TE):TE:=λσ H Q=>ty σ H λy H2=>∃k,y=.str k/\Q (lkD D k) H2
def eLe(a b:Str×Nat):Prop:=if a.1=b.1 then a.2<=b.2 else sLe a.1 b.1
def eLt(e f:Str×Nat):Bool:=if e.1=f.1 then(if e.2=f.2 then false else decide (e.2<f.2))else decide (e.1.cps.toList<f.1.cps.toList)
theorem jM_{e f:Str×Nat}:eLt f e=false↔eLe e f:=by
 unfold eLt eLe;by_cases h:e.1=f.1
 .rw[if_pos h,if_pos h.symm];by_cases k:f.2=e.2
  .rw[if_pos k];show⟨λ_=>o_,λ_=>rfl⟩
  .rw[if_neg k,decide_eq_false_iff_not];lia
 .rw[if_neg h,if_neg λz=>h z.symm,decide_eq_false_iff_not];rfl
theorem eLe.trans{a b c:Str×Nat}(h:eLe a b)(h2:eLe b c):eLe a c:=by
 unfold eLe at h h2⊢;by_cases e:a.1=b.1
 .rw[if_pos e]at h;by_cases f:b.1=c.1
  .rw[if_pos f]at h2;rw[if_pos (e.trans f)];lia
  .rw[if_neg f]at h2;rw[if_neg λz=>f (e▸z),e];show h2
 .rw[if_neg e]at h;by_cases f:b.1=c.1
  .rw[if_neg λz=>e (z.trans f.symm),<-f];show h
  .rw[if_neg f]at h2;by_cases g:a.1=c.1
   .rw[<-g]at h2;show absurd (sLe.antisymm h h2) e
   .rw[if_neg g];show h.trans h2
theorem rj_{e f:Str×Nat}(h:eLt e f=true):eLt f e=false:=by
 rw[jM_];unfold eLt at h;unfold eLe;by_cases k:e.1=f.1
 .rw[if_pos k]at h⊢;by_cases q:e.2=f.2
  .rw[if_pos q]at h;cases h
  .rw[if_neg q]at h;have:=AU_ h;lia
 .rw[if_neg k]at h⊢;show List.lt_asymm (AU_ h)
theorem lr_{H:Hp}{f:Nat->V}{g:Nat->Dt}:∀{is:List Nat},(∀i∈is,Rep H (f i) (g i))->E7_ H (is.map f) (is.map g)
 |[],_=>rfl
 |i::is,h=>⟨_,_,rfl,h i An_,lr_ λj hj=>h j (Ak_ _ hj)⟩
abbrev Sf:=Str×(Int×Int)
def fLt(e f:Sf):Bool:=if e.1=f.1 then false else decide (e.1.cps.toList<f.1.cps.toList)
def dTf(e:Sf):Dt:=.tup [.str e.1,.tup [.int e.2.1,.int e.2.2]]
theorem JD_(e f:Sf):fLt e f=eLt (e.1,0) (f.1,0):=by
 unfold fLt eLt;split
 .simp
 .rfl
def Ja_:List V->Hp->VK->Prop:=λvs H Q=>∃(p:Addr)(ys:List V)(es:List Sf),vs=[.ref p]/\H p=some (.lst ys)/\E7_ H ys (es.map dTf)/\es.length<64/\(es.map (·.1)).Nodup /\
 ∀(l:Addr)(zs:List V)(fs:List Sf),H l=none->E7_ H zs (fs.map dTf)->fs.Perm es->fs.Pairwise (λa b=>eLe (a.1,0) (b.1,0))->Q (.ref l) (upd H l (.lst zs))
theorem dC_(hu:X.A.units+64<cLine):FE_ X (.builtin "sorted") Ja_:=by
 intro pins s σ H xs us Q I r h;obtain⟨p,ys,es,rfl,hp,hys,h64,nd,q⟩:=h;have yl:ys.length=es.length:=by rw[hys.length,Ab_]
 have it:∀i (hi:i<es.length),∃a w,ys[i]?=some (.ref a)/\H a=some (.tup [.str es[i].1,.ref w])/\H w=some (.tup [.int es[i].2.1,.int es[i].2.2]):=λi hi=>by obtain⟨dd,hdd,hrep⟩:=hys.of_get (i:=i) (x:=ys[i]'o_) (Aa_ o_);rw[Ag_,Aa_ hi]at hdd;cases hdd;obtain⟨a,zs,ea,ha,_,_,e1,h1,_,_,e2,⟨w,ws,ew,hw,_,_,f1,g1,_,_,f2,g2,f3⟩,e3⟩:=hrep;subst e2 e1 f2 f1;rw[h1,ew,e3]at ha;rw[g1,g2,f3]at hw;show⟨a,w,by rw[Aa_ o_,ea],ha,hw⟩
 by_cases h0:ys.length=0
 .have e0:ys=[]:=A2_ h0;have e1:es=[]:=A2_ o_;subst e0 e1;show l2_ pins s σ H _ us Q I r ⟨p,[],rfl,hp,d_,λl zs nl pm _=>by rw[pm.eq_nil];show q l [] [] nl rfl (.refl _) .nil⟩
 by_cases h1:ys.length=1
 .obtain⟨y,rfl⟩:=CA_.mp h1;obtain⟨e,rfl⟩:=CA_.mp (yl.symm.trans h1);show l3_ pins s σ H _ us Q I r ⟨p,y,rfl,hp,λl nl=>q l [y] [e] nl hys (.refl _) (Da_ _ _)⟩
 obtain⟨u,rfl,e⟩:=FU_ r;cases e
 let d:Sf:=(Str.empty,(0,0))
 let lt:Nat->Nat->Bool:=λi j=>fLt (es.getD i d) (es.getD j d)
 have O:Lto lt ys.length:=by
  show⟨λx y h=>?_,λx y z h1 h2=>?_⟩
  .have h':fLt (es.getD x d) (es.getD y d)=true:=h;change fLt (es.getD y d) (es.getD x d)=false;rw[JD_]at h'⊢;show rj_ h'
  .have h1':fLt (es.getD _ d) (es.getD _ d)=false:=h1;have h2':fLt (es.getD _ d) (es.getD _ d)=false:=h2;change fLt (es.getD _ d) (es.getD _ d)=false;rw[JD_]at h1' h2'⊢;show jM_.mpr ((jM_.mp h1').trans (jM_.mp h2'))
 obtain⟨pm,hr,hpm,hso⟩:=ng_ O o_;have pz:pm.size=ys.length:=by simpa using(Bu_.mp hpm).length_eq
 have pl:pm.toList.Perm (List.range ys.length):=by simpa using Bu_.mp hpm
 have fe:(pm.toList.map λi=>es.getD i d).Perm es:=by
  have e2:(List.range ys.length).map (λi=>es.getD i d)=es:=by
   apply Cj_
   .simp[yl]
   .intro i h1 h2;simp[h2]
  have e3:=pl.map λi=>es.getD i d;rw[e2]at e3;show e3
 show m9_ (lt:=lt) (κ:=tuples' true) (pm:=pm) I (.inl (.inl hp)) o_ o_ ?kind ?less hr o_ λl nl=>q l (pm.toList.map λi=>ys.getD i .non) (pm.toList.map λi=>es.getD i d) nl ?_ fe (Bk_.mpr ((So.list hpm hso).imp λ{i j} h=>?_))
 case kind =>
  intro its s' rv I' C hC;obtain⟨fs,t,hf,lk⟩:=hI_ "str" I' rv λz hz=>by obtain⟨i,hi,rfl⟩:=As_.mp hz;obtain⟨a,w,ea,ha,_⟩:=it i o_;rw[Aa_ hi]at ea;show⟨a,_,_,At_ ea,ha,rfl⟩
  have hl:=rv.length;show kat_kind t o_ lk d_ hC
 case less =>
  intro its s' i j rv I' hi hj C hC;have u2:X.A.in1.in1.units+60<cLine:=by rw[Bg_,Bg_];lia
  have pick:∀i,i<ys.length->∃(a w:Addr),its.getD i Value.none=.ref a/\H a=some (.tup [.str (es.getD i d).1,.ref w])/\H w=some (.tup [.int (es.getD i d).2.1,.int (es.getD i d).2.2]):=λi hi=>by obtain⟨a,w,ea,ha,hw⟩:=it i o_;obtain⟨u,hu',ru⟩:=rv.get ea;cases ru;show⟨a,w,by rw[Ac_,hu'];rfl,?_⟩;rw[Ac_,Aa_ o_];show⟨ha,hw⟩
  have inj:(es.getD i d).1=(es.getD j d).1->i=j:=λe=>by rw[Ac_,Ac_,Aa_ (show i<es.length by lia),Aa_ (show j<es.length by lia)]at e;show(AY_ (l:=es.map (·.1)) (by rw[Ab_];lia) nd).mp (by rw[Ag_,Ag_,Aa_ (show i<es.length by lia),Aa_ (show j<es.length by lia)];show congrArg some e)
  obtain⟨a,w1,ea,ha,hw1⟩:=pick i hi;obtain⟨b,w2,eb,hb,hw2⟩:=pick j hj;rw[ea,eb];have hlt:lt i j=fLt (es.getD i d) (es.getD j d):=rfl;rw[hlt]at hC;have same:(es.getD i d).1=(es.getD j d).1->es.getD i d=es.getD j d:=λhn=>by rw[inj hn]
  generalize es.getD i d=e at*;generalize es.getD j d=f at*;have rw1:Rep H (.ref w1) (.tup [.int e.2.1,.int e.2.2]):=⟨w1,_,rfl,hw1,_,_,rfl,rfl,_,_,rfl,rfl,rfl⟩;have rw2:Rep H (.ref w2) (.tup [.int f.2.1,.int f.2.2]):=⟨w2,_,rfl,hw2,_,_,rfl,rfl,_,_,rfl,rfl,rfl⟩;unfold fLt at hC;show jF_ I' u2 ha hb (d1:=.str e.1) (d2:=.tup [.int e.2.1,.int e.2.2]) (e1:=.str f.1) (e2:=.tup [.int f.2.1,.int f.2.2]) (b1:=decide (e.1=f.1)) (b2:=decide (e.2.1=f.2.1) && decide (e.2.2=f.2.2)) rfl rw1 rfl rw2 (by rw[deq];rfl) ?eq2 (by simp[dep]) (by simp[dep,deps]) (λh u v ru rv=>?_) (λh1 h2 u v ru rv=>?_) (λh1 h2=>?_)
  case eq2=>simp[deq,deqs];rfl
  .obtain⟨t,rfl⟩:=ru;obtain⟨t',rfl⟩:=rv;rw[if_neg (BN_ h)]at hC;show oneLt_str hC
  .have:=same (AU_ h1);subst this;simp at h2
  .rw[if_pos (AU_ h1)]at hC;show hC
 .rw[AZ_];show lr_ λi hi=>?_;have hi':i<ys.length:=AJ_.mp (pl.mem_iff.mp hi);obtain⟨a,w,ea,ha,hw⟩:=it i o_;change Rep H (ys.getD i .non) (dTf (es.getD i d));rw[Ac_,ea,Ac_,Aa_ (show i<es.length by lia)];show⟨a,_,rfl,ha,_,_,rfl,rfl,_,_,rfl,⟨w,_,rfl,hw,_,_,rfl,rfl,_,_,rfl,rfl,rfl⟩,rfl⟩
 .have h':fLt (es.getD j d) (es.getD i d)=false:=h;rw[JD_]at h';show jM_.mp h'
def K5_(f:Str->Str->Str):List V->Hp->VK->Prop:=λvs H Q=>∃a b:Str,vs=[.str a,.str b]/\Q (.str (f a b)) H
def JV_(f:Str->Str->Str):List V->Hp->VK->Prop:=λvs H Q=>∃(p:Addr)(a b:Str),vs=[.ref p]/\H p=some (.lst [.str a,.str b])/\Q (.str (f a b)) H
theorem fI_{e:Expr}{t:TT}(h:PT X.nox e t):PT X e t:=λpins s σ H Q I q=>Bl_ (h pins s σ H Q (I.wish _) q) (λv s' ⟨H',J,z⟩=>⟨H',J.unwish,z⟩) λ_ _ z=>z.elim
theorem nk_(bs:List Bool):(List.range bs.length).all (λi=>bs.getD i true)=bs.all id:=by
 have e:(List.range bs.length).map (λi=>bs.getD i true)=bs:=by
  apply Cj_
  .simp
  .intro i h1 h2;simp[List.getD,h2]
 conv=>rhs;rw[<-e]
 rw[List.all_map];rfl
def J6_:List V->Hp->VK->Prop:=λvs H Q=>∃(p:Addr)(bs:List Bool),vs=[.ref p]/\H p=some (.lst (bs.map V.bl))/\Q (.bl (bs.all id)) H
theorem ey_(hc:X.calm=true):FE_ X (.builtin "all") J6_:=by
 intro pins s σ H xs us Q I r h;obtain⟨p,bs,rfl,hp,q⟩:=h;obtain⟨u,rfl,e⟩:=FU_ r;cases e;obtain⟨z,its,n,rv,hl,ho⟩:=I.lstM hp;have hl':its.length=bs.length:=by rw[<-hl,Ab_]
 have hlt:p<s.heap.objs.size:=Au_ ho;show call_all_walk (BT_ (items:=its.toArray) ⟨_,ho,rfl,n,rfl⟩ ?_);show⟨_,_,_,_,_,_,λi=>bs.getD i true,rfl,Walks.list (A:=X.A.in1) (I.ok.hd hc) _ p (AE_ hlt) its.toArray,⟨⟨_,AC_ _ rfl,rfl,rfl⟩,⟨_,Aj_ _ ho,rfl,n,rfl⟩⟩,λi v s' Q' E' hv hQ=>?_,λh' tk hk=>⟨.bl (bs.all id),H,I.kept (λb o e=>hk b o (λhm=>?_) (Aj_ _ e)),?_,q⟩⟩
 .have hi:i<bs.length:=by have:=(Array.getElem?_eq_some_iff.mp hv).1;rw[Ap_]at this;lia
  obtain⟨w',hw,rw'⟩:=rv.get (i:=i) (x:=.bl bs[i]) (by rw[Ag_,Aa_ hi];rfl)
  have ev:v=w':=by
   have hv':its[i]?=some v:=by simpa using hv
   rw[hw]at hv';show(At_ hv').symm
  subst ev;cases rw'
  have hQ':Q' bs[i] s':=by
   have e:bs.getD i true=bs[i]:=by simp[List.getD,hi]
   rw[<-e];show hQ
  show BB_ hQ'
 .rw[Ad_]at hm;subst hm;show absurd (Au_ e) (Bi_ _)
 .rw[Ap_,hl',nk_];rfl
def inT(ts:List Str)(q:Key):Bool:=ts.any λt=>decide (q=.inr t)
theorem ow_(ts:List Str)(t:Str)(q:Key):inT (ts++[t]) q=(inT ts q ||decide (q=.inr t)):=by unfold inT;rw[List.any_append];simp
theorem rk_{ts:List Str}{t:Str}(h:t∉ts):inT ts (.inr t)=false:=by show Bool.eq_false_iff.mpr λz=>?_;obtain⟨u,hu,e⟩:=BJ_.mp z;show h (Ce_ (AU_ e)▸hu)
variable {prog:Program}{w:World}{A:Around}{R:Result->Shared->Prop}
def F5_(led:Bool):Obj:={cls:=.type "set",dict:=none,data:=.set #[] 0 (.fresh 0 0 led)}
def SzO(a:Addr)(n:Nat):HO:=.ext λh=>∃o es ep t,h.get? a=some o/\o.ExactSet/\o.data=.set es ep t/\t.fits es.size=true/\es.size=n/\es.size<scanBound
theorem pq_:bootBuiltins "set"=some (.type "set"):=r_
theorem ma_{h:Heap}{a:Addr}{led:Bool}(ho:h.get? a=some (F5_ led)):h.SetOf (E1_ prog w) a (inT ([]:List Str)) 0 :=
 ⟨F5_ led,#[],0,.fresh 0 0 led,ho,⟨rfl,rfl,rfl⟩,rfl,λe he=>absurd he AQ_,λk=>⟨λz=>absurd z AN_,λ⟨e,he,_⟩=>absurd he AQ_⟩,by unfold scanBound;decide,by cases led <;> rfl,rfl⟩
def JT_:List V->Hp->VK->Prop:=λvs H Q=>∃(a:Addr)(n:Nat),vs=[.ref a]/\H a=some (SzO a n)/\Q (.int n) H
theorem jN_:FE_ X (.builtin "len") JT_:=by intro pins s σ H xs us Q I r h;obtain⟨a,n,rfl,ha,q⟩:=h;obtain⟨u,rfl,e⟩:=FU_ r;cases e;obtain⟨⟨o,es,ep,t,g1,g2,g3,g4,rfl,g6⟩,_,_⟩:=(show Fr_ X.prog X.w H s.heap a (SzO a n)from I.hok a _ ha);show call_len_set g1 g2 g3 g4 (by unfold scanBound at g6;lia) ⟨.int es.size,H,I.tok _,⟨_,rfl⟩,q⟩
def dc(l:List Str):Nat:=((List.range l.length).filter λi=>!inT (l.take i) (.inr (l.getD i Str.empty))).length
theorem nl_(l:List Str)(t:Str):dc (l++[t])=if inT l (.inr t)=true then dc l else dc l+1:=by
 unfold dc;rw[Ae_,AL_,BE_,Cr_,Ae_];have e:(List.range l.length).filter (λi=>!inT ((l++[t]).take i) (.inr ((l++[t]).getD i Str.empty)))=(List.range l.length).filter λi=>!inT (l.take i) (.inr (l.getD i Str.empty)):=List.filter_congr λi hi=>by have hi:=AJ_.mp hi;rw[List.take_append_of_le_length o_,Ac_,Ay_ hi,<-Ac_]
 rw[e];have e2:(l++[t]).take l.length=l:=by rw[List.take_append_of_le_length (Ah_ _),CC_]
 have e3:(l++[t]).getD l.length Str.empty=t:=by rw[Ac_,AK_ (Ah_ _),BW_];rfl
 cases h:inT l (.inr t)with
 |true =>
  rw[if_pos rfl,List.filter_cons_of_neg (by rw[e2,e3,h];decide)];rfl
 |false =>rw[if_neg d_,List.filter_cons_of_pos (by rw[e2,e3,h];decide)];rfl
theorem Kp_(l:List Str):dc l<=l.length:=by unfold dc;show A7_ (CH_ _ _) (by rw[A9_];show Ah_ _)
theorem fJ_{S it p:Addr}{its:List Value}{ts:List Str}{h0:Heap}(hh:A.handled=none)(hSi:S≠it)(hp:h0.IsList p its.toArray)(hpi:p≠it)(hpS:p≠S)(hz:its.length=ts.length)(hb:ts.length+1<scanBound)
  (hv:∀(m:Nat)(v:Value),its[m]?=some v->∃t,ts[m]?=some t/\Fm_ (.str t) v):
  ∀(k i:Nat)(s:Shared),ts.length=i+k->s.heap.IsListIter it p i->s.heap.SetOf (E1_ prog w) S (inT (ts.take i)) (dc (ts.take i)) ->
   (∀b o,b≠it->b≠S->h0.get? b=some o->s.heap.get? b=some o) ->
   (∀h' tk,(∀b o,b≠it->b≠S->h0.get? b=some o->h'.get? b=some o)->h'.SetOf (E1_ prog w) S (inT ts) (dc ts)->R (.ok (.ret .none)) {s with heap:=h',toks:=tk}) ->
   codeAny (model prog w) A (.builtin "set.update.loop" ⟨[.ref S,.ref it],[]⟩) R s
 |0,i,s,hk,hi,hS,kp,hR=>by
  obtain⟨op,hop,hpr⟩:=id hp;have hp':s.heap.IsList p its.toArray:=⟨op,kp p op hpi hpS hop,hpr⟩;show BQ_ PyProof.Rows.F.entry_set_update_loop ?_;rw[BR_ PyProof.Rows.F.plain_set_update_loop _];change wpAny _ A.in1 (pyNext (Value.ref it) >>= _) _ _ s;show Af_ (Cg_ hh hi hp' (Cz_ (by simp;lia)) λh' eb=>?_);change wpAny _ A.in1 (ret Value.none) _ _ _;have et:ts.take i=ts:=A4_ o_;rw[et]at hS;obtain⟨o,es,ep,t,ho,more⟩:=hS;show Ax_ (hR h' s.toks (λb o h1 h2 e=>eb b o h1 (kp b o h1 h2 e)) ⟨o,es,ep,t,eb S o hSi ho,more⟩)
 |k+1,i,s,hk,hi,hS,kp,hR=>by
  obtain⟨op,hop,hpr⟩:=id hp;have hp':s.heap.IsList p its.toArray:=⟨op,kp p op hpi hpS hop,hpr⟩;have hit:i<its.length:=o_
  have e1:its.toArray[i]?=some its[i]:=by simp[hit]
  obtain⟨t,ht,rt⟩:=hv i its[i] (Aa_ hit);obtain⟨tok,er⟩:=id rt;show BQ_ PyProof.Rows.F.entry_set_update_loop ?_;rw[BR_ PyProof.Rows.F.plain_set_update_loop _];change wpAny _ A.in1 (pyNext (Value.ref it) >>= _) _ _ s;show Af_ (BV_ hi hp' e1 λh1 hi1 sb=>?_);rw[er];change wpAny _ A.in1 (holding [Value.str t tok] (setAdd S (Value.str t tok)) >>= _) _ _ _;show Af_ (Bj_ ?_);unfold setAdd;show Bj_ ?_;have kis:(E1_ prog w).is (.inr t) (Value.str t tok)=true:=Hb_ (k:=.inr t) ⟨tok,rfl⟩;show Af_ ((E1_ prog w).pyHash (k:=.inr t) kis ?_);have hS1:h1.SetOf (E1_ prog w) S (inT (ts.take i)) (dc (ts.take i)):=by obtain⟨o,es,ep,tb,ho,more⟩:=hS;show⟨o,es,ep,tb,(sb.2 S hSi).trans ho,more⟩
  show wpAny_setAddHashed_of (knd:=E1_ prog w) (s:={s with heap:=h1,toks:=s.toks+1}) kis rfl hS1 (by have:=Kp_ (ts.take i);rw[AW_]at this;lia) λh2 sb2 hS2=>?_;have tk:ts.take (i+1)=ts.take i++[t]:=by rw[Bp_,ht];rfl
  show Ax_ ⟨Cm_ PyProof.Rows.F.plain_set_update_loop _,fJ_ hh hSi hp hpi hpS hz hb hv k (i+1) {s with heap:=h2,toks:=s.toks+1} o_ ?_ ?_ (λb o h1' h2' e=>?_) λh' tk' k3 hS3=>?_⟩
  .obtain⟨oi,hoi,hir⟩:=hi1;show⟨oi,(sb2.2 it (Ne.symm hSi)).trans hoi,hir⟩
  .rw[show inT (ts.take (i+1))=λq=>inT (ts.take i) q ||decide (q=.inr t)from funext λq=>by rw[tk,ow_]];rw[tk,nl_];show hS2
  .show(sb2.2 b h2').trans ((sb.2 b h1').trans (kp b o h1' h2' e))
  .show hR h' tk' k3 hS3
def Km_:List V->Hp->VK->Prop:=λvs H Q=>∃(p:Addr)(ts:List Str),vs=[.ref p]/\H p=some (.lst (ts.map V.str))/\ts.length<=1000/\∀a,H a=none->Q (.ref a) (upd H a (SzO a (dc ts)))
theorem jO_(hc:X.calm=true):FE_ X (.type "set") Km_:=by
 intro pins s σ H xs us Q I r h;obtain⟨p,ts,rfl,hp,h1000,q⟩:=h;obtain⟨u,rfl,e⟩:=FU_ r;cases e;obtain⟨z,its,n,rv,hl,ho⟩:=I.lstM hp;have hl':its.length=ts.length:=by rw[<-hl,Ab_]
 have hh:=I.ok.hd hc;have hsb:ts.length+1<scanBound:=by unfold scanBound;lia
 obtain⟨c,tl,hmro⟩:=F.called_set.mro;have m1:=F.called_set.made;have m2:=F.called_set.sub;have m3:=F.called_set.notType;have m4:=F.called_set.canCreate;have m5:=F.typeCall_set_1 (.ref p);show wpAny_call (codeAny_of_tree ?_);change wpAny _ _ (callAny (Value.type "set") _) _ _ _;show Ax_ ⟨Code.quiet_builtin _ r_,BQ_ F.entry_type_call ?_⟩;rw[Around.under_plain (weight_type_call_type "set" [Value.ref p] []) rfl]
 repeat (any_goals first|assumption|wp_step)
 show B1_ (code_set_new_1 (.ref p) (E:=X.xe) (Q₁:=λob s₁=>∃led:Bool,ob=.ref s.heap.objs.size/\s₁={s with heap:=s.heap.push (F5_ led)}) λled=>⟨led,rfl,rfl⟩) λres s₁ hres=>?_;cases res with
 |error e=>show hres
 |ok fl =>
  cases fl with
  |next=>show hres.elim
  |brk=>show hres.elim
  |cont=>show hres.elim
  |ret ob =>
   obtain⟨led,rfl,rfl⟩:=hres;have hS:(s.heap.push (F5_ led)).get? s.heap.objs.size=some (F5_ led):=AC_ _ rfl;have hT:Shared.TypeIs {s with heap:=s.heap.push (F5_ led)} (.ref s.heap.objs.size) "set" := ⟨_,hS,rfl⟩;have i1:=F.called_set.init.lookup;have i2:=F.called_set.init.bind (.ref s.heap.objs.size)
   repeat (any_goals first|assumption|wp_step)
   show B1_ (codeAny_call_builtin (R:=wants (λr s₂=>r=.none/\∃h' tk,s₂={s with heap:=h',toks:=tk}/\h'.SetOf (E1_ X.prog X.w) s.heap.objs.size (inT ts) (dc ts)/\(∀b o,s.heap.get? b=some o->h'.get? b=some o)) X.xe) F.called_set.init.plain F.entry_set_init (check_set_init_1 hT ?_)) λr₂ s₂ hr₂=>?_
   .have ho':(s.heap.push (F5_ led)).get? p=some {cls:=.type "list",data:=.seq its.toArray n}:=Aj_ _ ho;have n1:=F.sub_list_set;have n2:=F.sub_list_frozenset;have n3:(Value.type "list"== Value.type "dict")=false:=d_
    have hl1:(s.heap.push (F5_ led)).IsList p its.toArray:=⟨_,ho',rfl,n,rfl⟩;unfold Builtin.«set.__init__» noKeywords Builtin.Frozenset.updateFrom;generalize hPI:pyIter=PI
    wp_walk
    subst hPI;show BT_ hl1 ?_;show Af_ (wpAny_runValue ?_);have psz:p<s.heap.objs.size:=Au_ ho;have hsz:(s.heap.push (F5_ led)).objs.size=s.heap.objs.size+1:=BL_ _ _;have nb:∀{b:Addr}{o:Obj},s.heap.get? b=some o->b≠(s.heap.push (F5_ led)).objs.size/\b≠s.heap.objs.size:=λe=>by have:=Au_ e;rw[hsz];show⟨AE_ (BC_ this),AE_ this⟩
    show fJ_ (A:=X.A.in1.in1) (h0:=s.heap) (its:=its) (ts:=ts) (show X.A.in1.in1.handled=none from hh) (by rw[hsz];show AE_ (B3_ _)) ⟨_,ho,rfl,n,rfl⟩ (nb ho).1 (nb ho).2 hl' hsb (λm v hv=>?_) ts.length 0 _ o_ ?_ ?_ ?_ λh' tk k3 hS3=>?_
    .have hm:m<ts.length:=by have:=(Al_.mp hv).1;lia
     obtain⟨w',hw,rw'⟩:=rv.get (i:=m) (x:=.str ts[m]) (by rw[Ag_,Aa_ hm];rfl);rw[hv]at hw;cases hw;show⟨ts[m],Aa_ hm,rw'⟩
    .show⟨_,AC_ _ rfl,rfl,rfl⟩
    .show ma_ (Aj_ _ hS)
    .show λb o b1 b2 e=>Aj_ _ (Aj_ _ e)
    .show Ax_ ?_;change wpAny _ _ (ret Value.none) _ _ _;show Ax_ ⟨rfl,h',tk,rfl,hS3,λb o e=>k3 b o (nb e).1 (nb e).2 e⟩
   .cases r₂ with
    |error e=>show hr₂
    |ok fl₂ =>
     cases fl₂ with
     |next=>show hr₂.elim
     |brk=>show hr₂.elim
     |cont=>show hr₂.elim
     |ret r =>
      obtain⟨rfl,h',tk,rfl,hS',hk'⟩:=hr₂
      repeat (any_goals first|assumption|wp_step)
      obtain⟨o,es,ep,t,g1,g2,g3,_,_,g6,g7,g8⟩:=hS';have fr:=I.hok.fresh (Ah_ s.heap.objs.size);show⟨.ref _,_,I.laid (a:=s.heap.objs.size) (o:=SzO s.heap.objs.size (dc ts)) (t':=tk) hk' (Ah_ _) ⟨⟨o,es,ep,t,g1,g2,g3,g7,g8,g6⟩,⟨o,g1⟩,λh1 h2 ⟨o',es',ep',t',f1,f2⟩ k=>⟨o',es',ep',t',k _ f1,f2⟩⟩,rfl,q _ fr⟩
def JL_(k1 v1:TE):TE:=λσ H Q=>∀p,H p=none->k1 σ (upd H p (.dT [])) λx1 H1=>v1 σ H1 λy1 H2=>∃a ka,x1=.ref a/\H2 a=some (.tup (ka.map kV))/\H2 p=some (.dT [])/\Q (.ref p) (upd H2 p (.dT [(ka,y1)]))
def J8_(k1 v1:TE):TE:=λσ H Q=>∀p,H p=none->k1 σ (upd H p (.dK [])) λx1 H1=>v1 σ H1 λy1 H2=>∃k,x1=kV k/\H2 p=some (.dK [])/\Q (.ref p) (upd H2 p (.dK [(k,y1)]))
def KN_(K:PySem.W.Frag)(Py:Addr)(sp:Sp)(ta:TA)(ts:TS):TS:=λD σ H=>ta σ H λvs H1=>sp vs H1 (λ_ _=>False) λc _ H2=>∃C,c=.ref C/\PySem.W.mroIn K C (.ref Py)=some true/\ts D σ H2
def Its(x:Str):It:=⟨λi _=>i<x.cps.size,λi H v H'=>H'=H/\∃c,x.cps[i]?=some c/\v=.str ⟨#[c]⟩,λi _=>x.cps.size<=i⟩
theorem mb_{P:Program}{K:PySem.W.Frag}{tg:Expr}(it:Addr)(x:Str)(t:Tok):Jv_ P w K tg (Its x) [it] it (λi h=>h.IsStrIter it "str_ascii_iterator" x t i) where
 mem:=s_
 obj:=λi h st b hb=>by
  have e:b=it:=by simpa using hb
  subst e;obtain⟨o,e,c,d⟩:=st;show⟨o,e,λv z=>by rw[d]at z;cases z⟩
 keep:=λi h h' st k=>by obtain⟨o,ho,more⟩:=st;show⟨o,k it s_ o ho,more⟩
 item:=by intro X hP hw hK hc i pins s σ H E I hf st hg;subst hP hw hK;have hi:i<x.cps.size:=hg;obtain⟨f0,f1,f2,f3,f4,f5⟩:=hf it s_;show wpAny_pyNext_ascii_item st (c:=x.cps[i]) (by simp[hi]) λh' st' sb=>?_;have I1:Inv X pins σ H {s with heap:=h',toks:=s.toks+1}:=I.turned (λb o hb e=>(sb.2 b hb).trans e) f0 f1 f3 f4 f5;obtain⟨o,e,c,d⟩:=id st';show⟨_,rfl,HQ_ (s:={s with heap:=h',toks:=s.toks+1}) e c d d_ ⟨.str ⟨#[x.cps[i]]⟩,H,I1,⟨_,rfl⟩,⟨rfl,x.cps[i],by simp[hi],rfl⟩,st',λb hb=>(hf b hb).1⟩⟩
 done:=by intro X hP hw hK hc i pins s σ H E I hf st hg;subst hP hw hK;have hi:x.cps.size<=i:=hg;obtain⟨f0,f1,f2,f3,f4,f5⟩:=hf it s_;show wpAny_pyNext_ascii_end (I.ok.hd hc) st (by simp[hi]) λh' eb=>⟨rfl,I.turned (t':=s.toks) (λb o hb e=>eb b o hb e) f0 f1 f3 f4 f5⟩
 self:=λ_ _ _ _ _ st h=>wpAny_pyIter_striter_ascii st h
def Je_(tl:TE):TI:=λσ H R=>tl σ H λv H1=>∃x:Str,v=.str x/\x.cps.all (· < 128)=true/\R (Its x) H1
theorem ox_{tg l:Expr}{tl:TE}(hl:PE X l tl):PI X tg l (Je_ tl):=by
 intro pins s σ H R I h;show thn (hl pins s σ H _ I h) λv s1 ⟨y,H1,I1,r1,q1⟩=>?_;obtain⟨x,e,ha,q⟩:=q1;subst e;obtain⟨t,rfl⟩:=r1;show wpAny_pyIter_ascii ha ?_;show⟨s1.heap.objs.size,[s1.heap.objs.size],_,_,H1,rfl,I1.kept (t':=s1.toks) λb o e=>Aj_ _ e,mb_ _ x t,⟨_,AC_ _ rfl,rfl,rfl⟩,λb hb=>?_,q⟩;have e:b=s1.heap.objs.size:=by simpa using hb
 subst e;show I1.fpOk (Ah_ _) (I1.hok.fresh (Ah_ _))
theorem qf_{x z:Str}{pos:Pos}(hm:∃t,X.mg x=some (.str z t))(hg:Gl X x)(hd:(x == ("__debug__" : Str))=false:=by decide):PE X (.Name x pos) (tC (.str z)):=by obtain⟨t,hm⟩:=hm;show kk_ hg hm ⟨t,rfl⟩ hd
theorem rl_{K:PySem.W.Frag}{mg:Str->Option Value}{h:Heap}(X:K.In h)(G:h.Ns mainGlobals mg){x z:Str}{t:Tok}(a:PySem.W.nsIn K mainGlobals x=some (some (.str z t))):∃t,mg x=some (.str z t):=⟨t,PySem.W.mg_of X G a⟩
open Builtin.Str
open PySem.StrLaws
def cs(x:Str):List Nat:=x.cps.toList
theorem in_(x:Str):(cs x).length=x.length:=rfl
def LB_:V->Option Int->Option Int->Hp->VK->Prop:=λx lo hi H Q=>∃z:Str,x=.str z/\z.length<=sizeLine/\Q (.str (Txt.slice z lo hi)) H
theorem nm_:SlR X LB_:=by
 intro pins s σ H x v vl vu lo hi sl Q I rx hs pl pu h;obtain⟨z,rfl,hz,q⟩:=h;obtain⟨t,rfl⟩:=rx;obtain⟨l,rfl,el⟩:=nb_ pl;obtain⟨u,rfl,eu⟩:=nb_ pu;subst el eu;show⟨"str",_,F.slot_str_getitem.lookup,DD_ _ _ _,?_⟩;show wpAny_getItem_str_slice (l:=l) (u:=u) (st:=none) hs rfl ?_;have le:=sliceIndices_le (l.map (·.1)) (u.map (·.1)) z.length;unfold sliceMade;unfold Txt.slice at q;by_cases hc:(((none:Option (Int×Tok)).map (·.1)).getD 1 == 1 && (slicePicked z l u none).length == z.length)=true
 .rw[if_pos hc];have q':=(show Q (V.str (if(((none:Option (Int×Tok)).map (·.1)).getD 1 == 1 && (slicePicked z l u none).length == z.length)=true then z else⟨((slicePicked z l u none).filterMap (z.cps[·]?)).toArray⟩)) H from q);rw[if_pos hc]at q';show⟨.str z,H,I,⟨_,rfl⟩,q'⟩
 .rw[if_neg hc];have q':=(show Q (V.str (if(((none:Option (Int×Tok)).map (·.1)).getD 1 == 1 && (slicePicked z l u none).length == z.length)=true then z else⟨((slicePicked z l u none).filterMap (z.cps[·]?)).toArray⟩)) H from q);rw[if_neg hc]at q';have hl:(⟨((slicePicked z l u none).filterMap (z.cps[·]?)).toArray⟩:Str).length<=z.length:=by change(((slicePicked z l u none).filterMap (z.cps[·]?)).toArray).size<=_;rw[Ap_];show A7_ (DL_ _ _) le
  show⟨A7_ hl hz,.str _,H,I.tok _,⟨_,rfl⟩,q'⟩
theorem mc_(L:List Nat)(a m:Nat)(h:a+m<=L.length):((List.range m).map λk=>a+k).filterMap (λi=>L[i]?)=(L.drop a).take m:=by
 induction m with
 |zero=>simp
 |succ m ih =>rw[BE_,Ar_,DR_,ih o_,Bp_,List.getElem?_drop];congr 1
theorem ls_{z:Str}{lo hi:Option Int}{a b:Nat}(hab:a<=b)(hb:b<=z.length)(hl:lo=some (a:Int)\/(lo=none/\a=0))(hh:hi=some (b:Int)\/(hi=none/\b=z.length)):cs (Txt.slice z lo hi)=((cs z).drop a).take (b-a):=by
 have e:strSliceIndices lo hi 1 z.length=(List.range (b-a)).map λk=>a+k:=by
  have key:sliceRange (a:Int) (b:Int) 1=(List.range (b-a)).map λk=>a+k:=by
   unfold sliceRange;rw[if_pos d_]
   have e1:(if(a:Int)<b then((b:Int)-a+1-1)/1 else 0).toNat=b-a:=by
    split
    .rw[Int.ediv_one];lia
    .change 0=b-a;lia
   simp only[e1];show Bw_ λk _=>?_;lia
  rw[<-key];unfold strSliceIndices
  rcases hl with rfl|⟨rfl,rfl⟩ <;> rcases hh with rfl|⟨rfl,rfl⟩ <;> simp only[show(1:Int) > 0 by decide,if_true] <;> congr 1 <;> (try split) <;> lia
 unfold Txt.slice;rw[e];split
 .rename_i h;have h2:b-a=z.length:=by have:=(Bool.and_eq_true_iff.mp h).2;rw[Ab_,A9_]at this;show eq_of_beq this
  have a0:a=0:=o_
  rw[a0,List.drop_zero,A4_ (by rw[in_];lia)]
 .change((((List.range (b-a)).map λk=>a+k).filterMap (z.cps[·]?)).toArray).toList=_;have e2:(λi:Nat=>z.cps[i]?)=λi=>(cs z)[i]?:=by funext i;show(CE_ (xs:=z.cps)).symm
  rw[e2,mc_ _ _ _ (by rw[in_];lia)]
def lex2(c d:Int×Int):Bool:=if c.1=d.1 then(if c.2=d.2 then false else decide (c.2<d.2))else decide (c.1<d.1)
theorem hO_{c d:Int×Int}:lex2 c d=false↔d.1<c.1\/(d.1=c.1/\d.2<=c.2):=by
 unfold lex2;split
 .split
  .simp;lia
  .simp only[decide_eq_false_iff_not];lia
 .simp only[decide_eq_false_iff_not];lia
theorem qg_{c d:Int×Int}(h:lex2 c d=true):lex2 d c=false:=by
 rw[hO_];by_cases e:d.1<c.1\/(d.1=c.1/\d.2<=c.2)
 .rw[hO_.mpr e]at h;cases h
 .lia
def G5_(ta:TA):TE:=λσ H Q=>ta σ H λvs H1=>∃(p x y:Addr)(c d:Int×Int),vs=[.ref p]/\H1 p=some (.lst [.ref x,.ref y])/\H1 x=some (.tup [.int c.1,.int c.2])/\H1 y=some (.tup [.int d.1,.int d.2])/\∀l zs,H1 l=none->((zs=[V.ref x,V.ref y]/\lex2 c d=false)\/(zs=[V.ref y,V.ref x]/\lex2 d c=false))->Q (.ref l) (upd H1 l (.lst zs))
theorem iQ_{X:Cx}(hu:X.A.units+64<cLine){pins:List (Addr×Obj)}{s:Shared}{σ:St}{H:Hp}{p x y:Addr}{c d:Int×Int}{Q:VK}(I:Inv X pins σ H s)(hp:H p=some (.lst [.ref x,.ref y]))(hx:H x=some (.tup [.int c.1,.int c.2]))(hy:H y=some (.tup [.int d.1,.int d.2]))
  (q:∀l zs,H l=none->((zs=[V.ref x,V.ref y]/\lex2 c d=false)\/(zs=[V.ref y,V.ref x]/\lex2 d c=false))->Q (.ref l) (upd H l (.lst zs))):wpAny (model X.prog X.w) X.A (call (.builtin "sorted") [.ref p] G1_) (EP X pins σ Q) X.xe s:=by
 have all:∀z∈[V.ref x,V.ref y],∃(a:Addr)(e:Int×Int),z=.ref a/\H a=some (.tup [.int e.1,.int e.2]):=λz hz=>by
  rcases Aq_.mp hz with rfl|hz
  .show⟨x,c,rfl,hx⟩
  .rw[Ad_.mp hz];show⟨y,d,rfl,hy⟩
 let lt:Nat->Nat->Bool:=λi j=>lex2 (if i=0 then d else c) (if j=0 then d else c)
 have O:Lto lt 2:=⟨λa b h=>qg_ h,λa b e h1 h2=>by have h1':=hO_.mp h1;have h2':=hO_.mp h2;show hO_.mpr o_⟩;obtain⟨pm,hr,hpm,hso⟩:=ng_ O d_;have pz:pm.size=2:=by simpa using(Bu_.mp hpm).length_eq
 show l6_ (lt:=lt) (κ:=tuples' true) (pm:=pm) I (.inl (.inl hp)) (Ah_ _) (by change 2<64;decide) ?kind ?less hr o_ λl nl=>q l _ nl ?_
 case kind =>
  intro its s' rv I' C hC;obtain⟨fs,t,hf,lk⟩:=hI_ "int" I' rv λz hz=>by obtain⟨a,e,rfl,ha⟩:=all z hz;show⟨a,_,_,rfl,ha,rfl⟩
  have hl:=rv.length;have hl2:fs.length=2:=by rw[hf,<-hl];rfl
  show kat_kind t o_ lk d_ hC
 case less =>
  intro its s' i j rv I' hi hj C hC;have u2:X.A.in1.in1.units+60<cLine:=by rw[Bg_,Bg_];lia
  have pick:∀i,i<2->∃a,its.getD i Value.none=.ref a/\H a=some (.tup [.int (if i=0 then d else c).1,.int (if i=0 then d else c).2]):=λi hi=>by
   obtain⟨u,w',rfl,ru,rw'⟩:=Gz_ (show Fe_ [V.ref y,V.ref x] its from rv);cases ru;cases rw'
   match i,hi with
   |0,_=>show⟨y,rfl,hy⟩
   |1,_=>show⟨x,rfl,hx⟩
  obtain⟨a,ea,ha⟩:=pick i hi;obtain⟨b,eb,hb⟩:=pick j hj;rw[ea,eb];have hlt:lt i j=lex2 (if i=0 then d else c) (if j=0 then d else c):=rfl;rw[hlt]at hC;generalize(if i=0 then d else c)=e at*;generalize(if j=0 then d else c)=f at*;unfold lex2 at hC;show jF_ I' u2 ha hb (d1:=.int e.1) (d2:=.int e.2) (e1:=.int f.1) (e2:=.int f.2) (b1:=decide (e.1=f.1)) (b2:=decide (e.2=f.2)) rfl rfl rfl rfl (by rw[deq];rfl) (by rw[deq];rfl) (by simp[dep]) (by simp[dep]) (λh u v ru rv=>?_) (λh1 h2 u v ru rv=>?_) (λh1 h2=>?_)
  .obtain⟨t,rfl⟩:=ru;obtain⟨t',rfl⟩:=rv;rw[if_neg (BN_ h)]at hC;show oneLt_int hC
  .obtain⟨t,rfl⟩:=ru;obtain⟨t',rfl⟩:=rv;rw[if_pos (AU_ h1),if_neg (BN_ h2)]at hC;show kat_one _ _ (lt_int hC)
  .rw[if_pos (AU_ h1),if_pos (AU_ h2)]at hC;show hC
 .have h01:=hso 0 1 d_ d_;have gp:∀i,pm.getD i 0=pm.toList.getD i 0:=λi=>by simp[Bb_,Ac_]
  rw[gp,gp]at h01
  rcases oq_ hpm with e|e <;> rw[e]at h01⊢
  .show .inl ⟨rfl,h01⟩
  .show .inr ⟨rfl,h01⟩
theorem ky_{a:Expr}{ta:TA}{p pos cp kp:Pos}{k:Nat}(hu:X.A.units+64<cLine)(hg:Gl X "sorted") (hm:X.mg "sorted"=none) (ha:PA X [a] ta) (hs:EY_ [a]=true:=by rfl):
  PE X (.Call (.Name "sorted" p) [a] [⟨some "reverse",.Constant (.bool true) k cp,kp⟩] pos) (G5_ ta):=by
 have h':FJ_ a=true:=by simpa[EY_]using hs
 intro pins s σ H Q I h;show BK_ (fy_ I hg hm cO_ ?_ d_ d_);show callWith_kw (thn (ha pos pins s σ H _ I h) λus s1 ⟨vs,H1,I1,r1,q1⟩=>?_) (by rw[ax_ h'];rfl) (by rw[ax_ h'];rfl) rfl rfl;obtain⟨p,x,y,c,d,rfl,hp,hx,hy,q⟩:=q1;obtain⟨u,rfl,e⟩:=FU_ r1;cases e;show kws_cons (thn (Gy_ pins s1 σ H1 (λv H2=>v=.bl true/\H2=H1) I1 ⟨rfl,rfl⟩) λv s2 ⟨z,H2,I2,r2,e1,e2⟩=>?_);subst e1 e2;cases r2;show kws_nil (iQ_ hu I2 hp hx hy q)
end L2
namespace RimT
section
variable {α:Type}[DecidableEq α]
theorem pr_{T:List (List α)}{P:Nat}(h:Tw T)(hP:0<P)(hPT:P<=T.length){c:Nat×Nat}(ic:IsC T P c):∀(n:Nat)(l:List (Nat×Nat))(d:Nat×Nat),Way T P l d->l.head?=some c->l.Nodup->(corners T P).length<=l.length+n->∃l',Reg T P c l'
 |0,l,d,w,hc,nd,hn=>by
  by_cases e:d=c
  .show⟨l,e▸w,hc,nd⟩
  .have dn:=iF_ h hP hPT w hc ic nd e;have id':=(dX_ h hP hPT w hc ic).1;obtain⟨d',hd⟩:=Is_ h id';have:=iG_ h hP hPT (Way.more w hd) (by rw[List.head?_append,hc];rfl) ic (AA_.mpr ⟨nd,s_,λa ha b hb z=>dn (by rw[<-Ad_.mp hb,<-z];show ha)⟩);rw[Ae_,AL_]at this;lia
 |n+1,l,d,w,hc,nd,hn=>by
  by_cases e:d=c
  .show⟨l,e▸w,hc,nd⟩
  .have dn:=iF_ h hP hPT w hc ic nd e;have id':=(dX_ h hP hPT w hc ic).1;obtain⟨d',hd⟩:=Is_ h id';show pr_ h hP hPT ic n _ d' (Way.more w hd) (by rw[List.head?_append,hc];rfl) (AA_.mpr ⟨nd,s_,λa ha b hb z=>dn (by rw[<-Ad_.mp hb,<-z];show ha)⟩) (by rw[Ae_,AL_];lia)
theorem rm_{T:List (List α)}{P:Nat}(h:Tw T)(hP:0<P)(hPT:P<=T.length){c:Nat×Nat}(ic:IsC T P c):∃l,Reg T P c l:=by obtain⟨d,hd⟩:=Is_ h ic;show pr_ h hP hPT ic (corners T P).length [c] d (Way.one hd) rfl s_ o_
theorem md_{T:List (List α)}{P:Nat}(h:Tw T){c x y:Nat×Nat}{l:List (Nat×Nat)}(r:Reg T P c l)(hx:x∈l)(n:Nx T P x y):y∈l:=by
 obtain⟨i,hi,rfl⟩:=As_.mp hx;obtain⟨h1,a,h2,h3⟩:=d0_ r.1;by_cases e:i+1<l.length
 .have:=hE_ h n (h1 i _ _ (Aa_ hi) (Aa_ e));rw[this];show A3_ e
 .have:l.length-1=i:=o_
  rw[this,Aa_ hi]at h2;have e2:=hE_ h n (At_ h2▸h3);rw[e2];show List.mem_of_head? r.2.1
theorem oy_{T:List (List α)}{P:Nat}{c x:Nat×Nat}{l:List (Nat×Nat)}(r:Reg T P c l){A:Nat×Nat->Prop}(cl:∀x y,A x->Nx T P x y->A y)(hx:x∈l)(ax:A x):A c:=by
 obtain⟨i,hi,rfl⟩:=As_.mp hx;obtain⟨h1,a,h2,h3⟩:=d0_ r.1
 have up:∀j (hj:j<l.length),i<=j->A l[j]:=λj=>by
  induction j with
  |zero =>
   intro hj hij;have:i=0:=o_
   subst this;show ax
  |succ j ih =>
   intro hj hij;by_cases e:i=j+1
   .subst e;show ax
   .show cl _ _ (ih o_ o_) (h1 j _ _ (Aa_ o_) (Aa_ hj))
 have ln:=BU_.mpr (gM_ r.1);rw[Aa_ o_]at h2;have:=up (l.length-1) o_ o_;rw[At_ h2]at this;show cl _ _ this h3
theorem nn_{T:List (List α)}{P:Nat}(h:Tw T)(hP:0<P)(hPT:P<=T.length):∀(n:Nat)(O:List (Nat×Nat)),O.length=n->(∀c∈O,IsC T P c)->(fdF T P O).flatten.Nodup/\(∀c∈O,c∈(fdF T P O).flatten)/\∀l∈fdF T P O,∃c,IsC T P c/\Reg T P c l
 |0,O,e,_=>by
  rw[A2_ e];show⟨Bf_,λc hc=>absurd hc AQ_,λl hl=>absurd hl AQ_⟩
 |n+1,O,e,hO=>by
  have ne:O≠[]:=λz=>by rw[z]at e;cases e
  obtain⟨O',c,rfl⟩:∃O' c,O=O'++[c]:=⟨_,_,(BA_ ne).symm⟩;rw[Ae_,AL_]at e;obtain⟨i1,i2,i3⟩:=nn_ h hP hPT n O' o_ λx hx=>hO x (AB_ _ hx);have ic:=hO c s_;rw[ln_];by_cases m:c∈(fdF T P O').flatten
  .rw[if_pos m];show⟨i1,λx hx=>?_,i3⟩
   rcases Ao_.mp hx with hx|hx
   .show i2 x hx
   .rw[Ad_.mp hx];show m
  .rw[if_neg m];obtain⟨l,r⟩:=rm_ h hP hPT ic;rw[po_ h r];show⟨?_,λx hx=>?_,λl' hl'=>?_⟩
   .rw[Ba_];show AA_.mpr ⟨i1,by simpa using r.2.2,λa ha b hb z=>?_⟩;subst z;have hb':a∈l:=by simpa using hb
    obtain⟨l2,hl2,hal2⟩:=AX_.mp ha;obtain⟨c2,_,r2⟩:=i3 l2 hl2;show m (AX_.mpr ⟨l2,hl2,oy_ r (A:=λx=>x∈l2) (λx y hx hn=>md_ h r2 hx hn) hb' hal2⟩)
   .rw[Ba_]
    rcases Ao_.mp hx with hx|hx
    .show AB_ _ (i2 x hx)
    .rw[Ad_.mp hx];show Aw_ _ (by simpa using List.mem_of_head? r.2.1)
   .rcases Ao_.mp hl' with hl'|hl'
    .show i3 l' hl'
    .rw[Ad_.mp hl'];show⟨c,ic,r⟩
end
variable {β:Type}{R R':β->β->Prop}{f:β->β}
def Lk(R:β->β->Prop):β->List β->β->Prop
 |a,[],b=>R a b
 |a,x::l,b=>R a x/\Lk R x l b
theorem Lk.app:∀{l m:List β}{a x b:β},Lk R a (l++x::m) b↔Lk R a l x/\Lk R x m b
 |[],m,a,x,b=>Iff.rfl
 |y::l,m,a,x,b=>by change R a y/\Lk R y (l++x::m) b↔(R a y/\Lk R y l x)/\Lk R x m b;rw[Lk.app (l:=l),and_assoc]
theorem Lk.map{g:β->β}(h:∀x y,R x y->R' (f x) (g y)):∀{l:List β}{a b:β},(∀x∈l,f x=g x)->Lk R a l b->Lk R' (f a) (l.map g) (g b)
 |[],a,b,_,k=>h a b k
 |x::l,a,b,e,k=>⟨h a x k.1,by
   have:=Lk.map h (l:=l) (λy hy=>e y (Ak_ _ hy)) k.2;rw[e x An_]at this;show this⟩
def Cyl(R:β->β->Prop)(l:List β):Prop:=∃a r,l=a::r/\Lk R a r a
theorem Lk.all{A:β->Prop}(h:∀x y,A x->R x y->A y):∀{l:List β}{a b:β},Lk R a l b->A a->(∀x∈l,A x)/\A b
 |[],a,b,k,z=>⟨λx hx=>(nomatch hx),h a b z k⟩
 |x::l,a,b,k,z=>by have zx:=h a x z k.1;obtain⟨h1,h2⟩:=Lk.all h k.2 zx;show⟨λy hy=>(Aq_.mp hy).elim (λe=>e▸zx) (h1 y),h2⟩
theorem Lk.rot{l:List β}(c:Cyl R l){x:β}(hx:x∈l):∃r,Lk R x r x/\(x::r).Perm l:=by
 obtain⟨a,m,rfl,k⟩:=c
 rcases Aq_.mp hx with rfl|hx
 .show⟨m,k,.refl _⟩
 .obtain⟨s,t,rfl⟩:=List.append_of_mem hx;obtain⟨k1,k2⟩:=Lk.app.mp k;show⟨t++a::s,Lk.app.mpr ⟨k2,k1⟩,(Bx_ (l₁:=x::t) (l₂:=a::s))⟩
theorem lt_{γ:Type}[DecidableEq γ]:∀{L L':List (List γ)},L.flatten.Nodup->(∀l∈L,l≠[])->(∀l∈L,∀c∈l,∃l'∈L',c∈l')->(∀l∈L,∀l'∈L',∀c,c∈l->c∈l'->∀d∈l',d∈l)->L.length<=L'.length
 |[],_,_,_,_,_=>AP_ _
 |l::L,L',nd,ne,h,same=>by
  rw[AR_,AA_]at nd;have hl:=ne l An_;obtain⟨c,hc⟩:=List.exists_mem_of_ne_nil l hl;obtain⟨l',hl',hcl'⟩:=h l An_ c hc;have:=lt_ (L:=L) (L':=L'.erase l') nd.2.1 (λm hm=>ne m (Ak_ _ hm)) (λm hm d hd=>by obtain⟨m',hm',hd'⟩:=h m (Ak_ _ hm) d hd;show⟨m',(List.mem_erase_of_ne λe=>?_).mpr hm',hd'⟩;subst e;have:=same l An_ m' hl' c hc hcl' d hd';show nd.2.2 d this d (AX_.mpr ⟨m,hm,hd⟩) rfl) λm hm m' hm'=>same m (Ak_ _ hm) m' (List.mem_of_mem_erase hm');rw[List.length_erase_of_mem hl']at this;have:=List.length_pos_of_mem hl';simp only[AF_];lia
theorem lu_{γ:Type}[DecidableEq γ]:∀{a b:List γ},a.Nodup->(∀x∈a,x∈b)->b.length<=a.length->a.Perm b
 |[],b,_,_,h=>by rw[A2_ (Nat.le_zero.mp h)]
 |x::a,b,nd,h,hl=>by
  obtain⟨n1,n2⟩:=AM_.mp nd;have hx:=h x An_;show(List.Perm.cons x (lu_ (b:=b.erase x) n2 (λy hy=>?_) ?_)).trans (List.perm_cons_erase hx).symm
  .show(List.mem_erase_of_ne λz=>n1 (by rw[<-z];show hy)).mpr (h y (Ak_ _ hy))
  .rw[List.length_erase_of_mem hx];simp only[AF_]at hl;lia
section
variable {α:Type}[DecidableEq α]
variable{P:Nat}{x:Nat×Nat}
theorem lv_{T:List (List α)}(tw:Tw T){l l':List (Nat×Nat)}(c:Cyl (Nx T P) l)(c':Cyl (Nx T P) l')(h:x∈l)(h':x∈l'):∀d∈l',d∈l:=by
 obtain⟨r,k,p⟩:=Lk.rot c' h'
 have cl:∀x y,x∈l->Nx T P x y->y∈l:=λx y hx n=>by
  obtain⟨r2,k2,p2⟩:=Lk.rot c hx;cases r2 with
  |nil=>rw[hE_ tw n k2];show hx
  |cons z r2=>rw[hE_ tw n k2.1];show p2.mem_iff.mp s_
 intro d hd
 rcases Aq_.mp (p.mem_iff.mpr hd)with e|hd
 .show e▸h
 .show(Lk.all cl k h).1 d hd
theorem Reg.cyl{T:List (List α)}{c:Nat×Nat}{l:List (Nat×Nat)}(r:Reg T P c l):Cyl (Nx T P) l:=by
 have key:∀{l:List (Nat×Nat)}{d:Nat×Nat},Way T P l d->∃a m,l=a::m/\Lk (Nx T P) a m d:=by
  intro l d w
  induction w with
  | @one a b h=>show⟨a,[],rfl,h⟩
  | @more l x y w h ih =>obtain⟨a,m,rfl,k⟩:=ih;show⟨a,m++[x],rfl,Lk.app.mpr ⟨k,h⟩⟩
 obtain⟨a,m,rfl,k⟩:=key r.1;have:=r.2.1;cases this;show⟨_,m,rfl,k⟩
def Pl(P W:Nat)(T:List (List α)):Prop:=∃L:List (List (Nat×Nat)),(∀l∈L,Cyl (Nx T P) l)/\L.flatten.Perm (corners T P)/\L.length+T.length=W+P+1
theorem aP_(T:List (List α))(P:Nat):(corners T P).Nodup:=by
 unfold corners;generalize hn:T.length=n
 have key:∀n,((List.range n).flatMap λp=>(List.range (rl T p+if p<P then 1 else 0)).map λk=>(p,k)).Nodup:=λn=>by
  induction n with
  |zero=>show Bf_
  |succ n ih =>
   rw[BE_,List.flatMap_append,AA_];show⟨ih,?_,λa ha b hb e=>?_⟩
   .rw[List.flatMap_cons,List.flatMap_nil,A6_];unfold List.Nodup;rw[Bk_];show List.Pairwise.imp (λne z=>ne (BG_ z).2) CD_
   .subst e;obtain⟨p,hp,h1⟩:=List.mem_flatMap.mp ha;obtain⟨k,_,rfl⟩:=Ai_.mp h1;rw[List.flatMap_cons,List.flatMap_nil,A6_]at hb;obtain⟨k',_,e⟩:=Ai_.mp hb;have:=(BG_ e).1;have:=AJ_.mp hp;lia
 show key n
theorem no_{T:List (List α)}(tw:Tw T){L L':List (List (Nat×Nat))}(h:∀l∈L,Cyl (Nx T P) l)(h':∀l∈L',Cyl (Nx T P) l)(p:L.flatten.Perm L'.flatten)(nd:L.flatten.Nodup):L.length=L'.length:=by
 have ne:∀{l:List (Nat×Nat)},Cyl (Nx T P) l->l≠[]:=λ⟨a,r,e,_⟩ z=>by rw[z]at e;cases e
 have one:∀{L L':List (List (Nat×Nat))},(∀l∈L,Cyl (Nx T P) l)->(∀l∈L',Cyl (Nx T P) l)->L.flatten.Perm L'.flatten->L.flatten.Nodup->L.length<=L'.length:=λ{L L'} h h' p nd=>lt_ nd (λl hl=>ne (h l hl)) (λl hl c hc=>by obtain⟨l',hl',hc'⟩:=AX_.mp (p.mem_iff.mp (AX_.mpr ⟨l,hl,hc⟩));show⟨l',hl',hc'⟩) λl hl l' hl' c hc hc'=>lv_ tw (h l hl) (h' l' hl') hc hc';show Nat.le_antisymm (one h h' p nd) (one h' h p.symm (p.nodup_iff.mp nd))
def fs(c x:Nat×Nat):Nat×Nat:=if x.1=c.1/\c.2<=x.2 then(x.1,x.2+1)else x
def ft(c x:Nat×Nat):Nat×Nat:=if x.1=c.1/\c.2<x.2 then(x.1,x.2+1)else x
theorem GV_{c:Nat×Nat}(h:x≠c):fs c x=ft c x:=by
 unfold fs ft;by_cases e:x.1=c.1
 .have:x.2≠c.2:=λz=>h (Bd_ e z);by_cases l:c.2<x.2
  .rw[if_pos ⟨e,AO_ l⟩,if_pos ⟨e,l⟩]
  .rw[if_neg (λz=>l o_),if_neg (λz=>l z.2)]
 .rw[if_neg (λz=>e z.1),if_neg (λz=>e z.1)]
theorem fK_(c x:Nat×Nat):(fs c x).1=x.1:=by unfold fs;split <;> rfl
theorem ps_{c y:Nat×Nat}(h:fs c x=fs c y):x=y:=by have h1:=congrArg Prod.fst h;rw[fK_,fK_]at h1;have h2:=congrArg Prod.snd h;unfold fs at h2;show Bd_ h1 ?_;split at h2 <;> split at h2 <;> (try dsimp only at h2) <;> lia
theorem It_(c x:Nat×Nat):fs c x≠c:=λz=>by
 unfold fs at z;split at z
 .rename_i h;have:=congrArg Prod.snd z;simp only at this;lia
 .rename_i h;rw[z]at h;show h ⟨rfl,Ah_ _⟩
theorem fL_{T:List (List α)}{c e:Nat×Nat}{w v:α}(hc:c.1<T.length)(h:wi T e=some v)(hk:c.2<=rl T c.1):wi (EP_ T c w) (fs c e)=some v:=by
 unfold wi EP_ at*;unfold fs;by_cases e1:e.1=c.1
 .rw[e1]at h;by_cases l:c.2<=e.2
  .rw[if_pos ⟨e1,l⟩];change((T.set c.1 _).getD e.1 [])[e.2+1]?=_;rw[e1,Ac_,List.getElem?_set,if_pos rfl,if_pos hc];change(ins (T.getD c.1 []) c.2 w)[e.2+1]?=_;unfold ins;have lt:(List.take c.2 (T.getD c.1 [])).length=c.2:=by rw[AW_];unfold rl at hk;lia
   rw[AK_ o_,lt,show e.2+1-c.2=(e.2-c.2)+1 by lia,Cu_,List.getElem?_drop,show c.2+(e.2-c.2)=e.2 by lia];show h
  .rw[if_neg (λz=>l z.2),e1,Ac_,List.getElem?_set,if_pos rfl,if_pos hc];change(ins (T.getD c.1 []) c.2 w)[e.2]?=_;unfold ins;have lt:(List.take c.2 (T.getD c.1 [])).length=c.2:=by rw[AW_];unfold rl at hk;lia
   rw[Ay_ o_,List.getElem?_take,if_pos o_];show h
 .rw[if_neg (λz=>e1 z.1),Ac_,List.getElem?_set,if_neg (λz=>e1 z.symm),<-Ac_];show h
theorem fg_{T:List (List α)}{c:Nat×Nat}{w:α}(hc:c.1<T.length)(hk:c.2<=rl T c.1):wi (EP_ T c w) c=some w:=by
 unfold wi EP_;rw[Ac_,List.getElem?_set,if_pos rfl,if_pos hc];change(ins (T.getD c.1 []) c.2 w)[c.2]?=_;unfold ins;have lt:(List.take c.2 (T.getD c.1 [])).length=c.2:=by rw[AW_];unfold rl at hk;lia
 rw[AK_ o_,lt,BW_];rfl
theorem ez_{T:List (List α)}{c:Nat×Nat}{w:α}(hc:c.1<T.length)(p:Nat):rl (EP_ T c w) p=rl T p+if p=c.1 then 1 else 0:=by
 unfold rl EP_;rw[Ac_,List.getElem?_set];by_cases e:c.1=p
 .rw[if_pos e,if_pos hc,if_pos e.symm];change(ins (T.getD c.1 []) c.2 w).length=_;rw[eW_,e]
 .rw[if_neg e,if_neg (λz=>e z.symm),<-Ac_];rfl
theorem fM_{T:List (List α)}{c:Nat×Nat}(h:IsC T P c):c.2<=rl T c.1:=by have:=h.2;split at this <;> lia
theorem qh_{T:List (List α)}{c a b:Nat×Nat}{w:α}(hc:c.1<T.length)(hk:c.2<=rl T c.1)(m:Hn_ T a b):Hn_ (EP_ T c w) (fs c a) (fs c b):=by obtain⟨ne,v,h1,h2⟩:=m;show⟨λz=>ne (ps_ z),v,fL_ hc h1 hk,fL_ hc h2 hk⟩
theorem hP_{T:List (List α)}{c y:Nat×Nat}{w:α}(ic:IsC T P c)(ix:IsC T P x)(h:Nx T P x y):Nx (EP_ T c w) P (fs c x) (ft c y):=by
 have hk:=fM_ ic
 rcases h with⟨h1,rfl⟩|⟨h1,m,hm,rfl⟩
 .left;show⟨?_,?_⟩
  .rw[fK_,ez_ ic.1];unfold fs;by_cases e:x.1=c.1
   .rw[if_pos ⟨e,by rw[h1,e];show hk⟩,if_pos e];change x.2+1=_;lia
   .rw[if_neg (λz=>e z.1),if_neg e];lia
  .rw[fK_];unfold ft;rw[if_neg (λz=>by have:=z.2;simp only at this;lia)]
 .right;have lm:=FN_ hm.2.choose_spec.2;show⟨?_,fs c m,qh_ ic.1 hk hm,?_⟩
  .rw[fK_,ez_ ic.1];unfold fs;split
   .rename_i z;change x.2+1<_;rw[if_pos z.1];lia
   .split <;> lia
  .rw[fK_];by_cases pm:m.1<P
   .rw[if_pos pm,if_pos pm];unfold fs ft;by_cases e:m.1=c.1
    .by_cases l:c.2<=m.2
     .rw[if_pos ⟨e,by change c.2<m.2+1;lia⟩,if_pos ⟨e,l⟩]
     .rw[if_neg (λz=>l (by have:=z.2;simp only at this;lia)),if_neg (λz=>l z.2)]
    .rw[if_neg (λz=>e z.1),if_neg (λz=>e z.1)]
   .rw[if_neg pm,if_neg pm,ez_ ic.1];by_cases e:m.1=c.1
    .have ck:c.2<rl T c.1:=by have:=ic.2;rw[if_neg o_]at this;lia
     rw[if_pos e];rw[e]at lm⊢;by_cases z:m.2+1=rl T c.1
     .rw[z,Nat.mod_self];unfold fs ft;rw[if_neg (λq=>by have:=q.2;simp only at this;lia),if_pos ⟨e,o_⟩];change _=(c.1,(m.2+1+1)%_);rw[z,Nat.mod_self]
     .rw[Nat.mod_eq_of_lt (show m.2+1<rl T c.1 by lia)];unfold fs ft;by_cases l:c.2<=m.2
      .rw[if_pos ⟨rfl,by change c.2<m.2+1;lia⟩,if_pos ⟨e,l⟩];change _=(c.1,(m.2+1+1)%_);rw[Nat.mod_eq_of_lt o_]
      .rw[if_neg (λz=>l (by have:=z.2;simp only at this;lia)),if_neg (λz=>l z.2),Nat.mod_eq_of_lt o_]
    .rw[if_neg e];unfold fs ft;rw[if_neg (λz=>e z.1),if_neg (λz=>e z.1)];rfl
theorem cP_{T:List (List α)}{c:Nat×Nat}{w:α}(ic:IsC T P c):IsC (EP_ T c w) P x↔x=c\/∃y,IsC T P y/\x=fs c y:=by
 unfold IsC;rw[al_,ez_ ic.1];constructor
 .rintro⟨h1,h2⟩;by_cases e:x.1=c.1
  .rw[if_pos e]at h2;by_cases l:x.2<c.2
   .have:=ic.2;have i1:=fM_ ic;show .inr ⟨x,⟨h1,?_⟩,by unfold fs;rw[if_neg (λz=>o_)]⟩;rw[e];lia
   .by_cases q:x.2=c.2
    .show .inl (Bd_ e q)
    .show .inr ⟨(x.1,x.2-1),⟨h1,(show x.2-1<rl T x.1+(if x.1<P then 1 else 0) by lia)⟩,?_⟩;unfold fs;rw[if_pos ⟨e,by change c.2<=x.2-1;lia⟩];show Bd_ rfl (by change x.2=x.2-1+1;lia)
  .rw[if_neg e]at h2;show .inr ⟨x,⟨h1,h2⟩,by unfold fs;rw[if_neg (λz=>e z.1)]⟩
 .rintro(rfl|⟨y,⟨h1,h2⟩,rfl⟩)
  .show⟨ic.1,?_⟩;have:=ic.2;rw[if_pos rfl];lia
  .rw[fK_];show⟨h1,?_⟩;unfold fs;split
   .rename_i z;rw[if_pos z.1];change y.2+1<_;lia
   .split <;> lia
theorem jP_{β γ:Type}{f:β->γ}(h:∀a b,f a=f b->a=b){l:List β}(nd:l.Nodup):(l.map f).Nodup:=by unfold List.Nodup;rw[Bk_];show List.Pairwise.imp (λne z=>ne (h _ _ z)) nd
theorem bJ_{T:List (List α)}{c:Nat×Nat}{w:α}(ic:IsC T P c):(corners (EP_ T c w) P).Perm (c::(corners T P).map (fs c)):=by
 show bw_ (aP_ _ _) (AM_.mpr ⟨λz=>?_,jP_ (λa b h=>ps_ h) (aP_ T P)⟩) λx=>?_
 .obtain⟨y,_,e⟩:=Ai_.mp z;show It_ c y e
 .rw[ak_,cP_ ic,Aq_,Ai_];show or_congr_right ⟨λ⟨y,hy,e⟩=>⟨y,ak_.mpr hy,e.symm⟩,λ⟨y,hy,e⟩=>⟨y,ak_.mp hy,e.symm⟩⟩
theorem lw_{c:Nat×Nat}(h:x.1≠c.1\/x.2<c.2):fs c x=x:=by unfold fs;rw[if_neg];lia
theorem fN_{c:Nat×Nat}(h:x.1≠c.1\/x.2<=c.2):ft c x=x:=by unfold ft;rw[if_neg];lia
theorem rn_{T:List (List α)}{W:Nat}{a b:Nat×Nat}{w:α}(ia:IsC T P a)(ib:IsC T P b)(ab:b.1≠a.1\/b.2<=a.2)(h:Pl P W T)(same:∃l,Cyl (Nx T P) l/\a∈l/\b∈l)(tw:Tw T):Pl P (W+1) (EP_ (EP_ T a w) b w):=by
 obtain⟨L,hL,perm,cnt⟩:=h;obtain⟨l0,c0,ha0,hb0⟩:=same;have hla:a∈L.flatten:=perm.mem_iff.mpr (ak_.mpr ia);obtain⟨l,hl,hal⟩:=AX_.mp hla;have hbl:b∈l:=lv_ tw (hL l hl) c0 hal ha0 b hb0;have pL:L.Perm (l::L.erase l):=List.perm_cons_erase hl;have len0:=pL.length_eq;rw[AF_]at len0;have hL':∀m∈L.erase l,Cyl (Nx T P) m:=λm hm=>hL m (List.mem_of_mem_erase hm);have perm':(l++(L.erase l).flatten).Perm (corners T P):=by have:=dB_ pL;rw[AR_]at this;show this.symm.trans perm
 generalize L.erase l=M at*
 have ib1:IsC (EP_ T a w) P b:=by
  by_cases e:b=a
  .rw[cP_ ia,e];show .inl rfl
  .rw[cP_ ia]
   show .inr ⟨b,ib,(lw_ (by
    rcases ab with h|h
    .show .inl h
    .by_cases z:b.1=a.1
     .show .inr (Nat.lt_of_le_of_ne h λq=>e (Bd_ z q))
     .show .inl z)).symm⟩
 have hka:=fM_ ia;have hkb:=fM_ ib1;have ia1:IsC (EP_ T a w) P (fs a a):=(cP_ ia).mpr (.inr ⟨a,ia,rfl⟩)
 have go:∀x y,IsC T P x->Nx T P x y->Nx (EP_ (EP_ T a w) b w) P (fs b (fs a x)) (ft b (ft a y)):=λx y ix n=>hP_ ib1 ((cP_ ia).mpr (.inr ⟨x,ix,rfl⟩)) (hP_ ia ix n)
 have eF:∀x,x≠a->x≠b->fs b (fs a x)=ft b (ft a x):=λx h1 h2=>by
  rw[GV_ h1];by_cases e:ft a x=b
  .exfalso;by_cases z:x.1=a.1/\a.2<x.2
   .rw[show ft a x=(x.1,x.2+1) by unfold ft;rw[if_pos z]]at e;have e1:=congrArg Prod.fst e;have e2:=congrArg Prod.snd e
    dsimp only at e1 e2
    lia
   .rw[show ft a x=x by unfold ft;rw[if_neg z]]at e;show h2 e
  .show GV_ e
 have e1:wi (EP_ (EP_ T a w) b w) (fs b a)=some w:=fL_ ib1.1 (fg_ ia.1 hka) hkb;have e2:wi (EP_ (EP_ T a w) b w) b=some w:=fg_ ib1.1 hkb;have mt:Hn_ (EP_ (EP_ T a w) b w) (fs b a) b:=⟨It_ b a,w,e1,e2⟩;have fsa:fs a a=(a.1,a.2+1):=by unfold fs;rw[if_pos ⟨rfl,Ah_ _⟩]
 have fsb:fs b b=(b.1,b.2+1):=by unfold fs;rw[if_pos ⟨rfl,Ah_ _⟩]
 have fta:ft a a=a:=fN_ (.inr (Ah_ _));have ftb:ft b b=b:=fN_ (.inr (Ah_ _))
 have nxt:∀x m,Hn_ (EP_ (EP_ T a w) b w) x m->(P<=m.1->m.2+1<rl (EP_ (EP_ T a w) b w) m.1)->Nx (EP_ (EP_ T a w) b w) P x (m.1,m.2+1):=λx m hm hi=>by
  show .inr ⟨(FN_ hm.2.choose_spec.1).1,m,hm,?_⟩;split
  .rfl
  .rw[Nat.mod_eq_of_lt (hi o_)]
 have rlT:∀p,rl (EP_ (EP_ T a w) b w) p=rl T p+(if p=a.1 then 1 else 0)+(if p=b.1 then 1 else 0):=λp=>by rw[ez_ ib1.1,ez_ ia.1]
 have la:P<=a.1->a.2<rl T a.1:=λh=>by have:=ia.2;rw[if_neg o_]at this;show this
 have lb:P<=b.1->b.2<rl T b.1:=λh=>by have:=ib.2;rw[if_neg o_]at this;show this
 have n1:Nx (EP_ (EP_ T a w) b w) P b (fs b (fs a a)):=by
  have:=nxt b (fs b a) mt.symm λh=>by
   rw[fK_]at h⊢;have:=la h;rw[rlT,if_pos rfl];unfold fs;split
   .rename_i z;rw[if_pos z.1];change a.2+1+1<_;lia
   .lia
  have e:fs b (fs a a)=((fs b a).1,(fs b a).2+1):=by
   rw[fsa];unfold fs;by_cases z:a.1=b.1
   .have:b.2<=a.2:=by
     rcases ab with q|q
     .show absurd z.symm q
     .show q
    rw[if_pos ⟨z,by change b.2<=a.2+1;lia⟩,if_pos ⟨z,this⟩]
   .rw[if_neg (λq=>z q.1),if_neg (λq=>z q.1)]
  rw[e];show this
 have n2:Nx (EP_ (EP_ T a w) b w) P (fs b a) (b.1,b.2+1):=nxt _ b mt λh=>by have:=lb h;rw[rlT,if_pos rfl];lia
 have ftab:ft b (ft a a)=if a=b then a else fs b a:=by
  rw[fta];split
  .rename_i e;rw[e];show ftb
  .rename_i e;show(GV_ e).symm
 have ftbb:ft b (ft a b)=b:=by rw[fN_ (c:=a) (x:=b) ab,ftb]
 have isl:∀x∈l,IsC T P x:=λx hx=>ak_.mp (perm'.mem_iff.mp (AB_ _ hx));have nd':=perm'.nodup_iff.mpr (aP_ T P);have ndl:=(AA_.mp nd').1
 have lkm:∀{m:List (Nat×Nat)}{x y:Nat×Nat},(∀z∈x::m,IsC T P z)->(∀z∈m,z≠a/\z≠b)->Lk (Nx T P) x m y->Lk (Nx (EP_ (EP_ T a w) b w) P) (fs b (fs a x)) (m.map λz=>fs b (fs a z)) (ft b (ft a y)):=by
  intro m
  induction m with
  |nil=>show λ{x y} i _ k=>go x y (i x An_) k
  |cons z m ih =>intro x y i e k;have ez:=e z An_;show⟨?_,ih (λq hq=>i q (Ak_ _ hq)) (λq hq=>e q (Ak_ _ hq)) k.2⟩;have:=go x z (i x An_) k.1;rw[<-eF z ez.1 ez.2]at this;show this
 have oth:∀m∈M,Cyl (Nx (EP_ (EP_ T a w) b w) P) (m.map λz=>fs b (fs a z)):=λm hm=>by
  obtain⟨x,r,e,k⟩:=hL' m hm;have im:∀z∈m,IsC T P z/\z≠a/\z≠b:=λz hz=>by have hz':z∈M.flatten:=AX_.mpr ⟨m,hm,hz⟩;show⟨ak_.mp (perm'.mem_iff.mp (Aw_ _ hz')),λq=>(AA_.mp nd').2.2 a hal z hz' q.symm,λq=>(AA_.mp nd').2.2 b hbl z hz' q.symm⟩
  subst e;show⟨_,_,rfl,?_⟩;have:=lkm (λz hz=>(im z hz).1) (λz hz=>(im z (Ak_ _ hz)).2) k;rw[<-eF x (im x An_).2.1 (im x An_).2.2]at this;show this
 have pc:(corners (EP_ (EP_ T a w) b w) P).Perm (b::fs b a::(corners T P).map λz=>fs b (fs a z)):=by show(bJ_ ib1).trans (List.Perm.cons _ ?_);have:=(bJ_ (w:=w) ia).map (fs b);rw[Az_,AZ_]at this;show this
 have fm:(M.map λm=>m.map λz=>fs b (fs a z)).flatten=M.flatten.map λz=>fs b (fs a z):=List.map_flatten.symm
 have rest:∀{A B:List (Nat×Nat)},(A++B).Perm (b::fs b a::l.map λz=>fs b (fs a z))->([A,B]++M.map λm=>m.map λz=>fs b (fs a z)).flatten.Perm (corners (EP_ (EP_ T a w) b w) P):=λ{A B} h=>by
  show List.Perm.trans ?_ pc.symm;rw[Ba_,fm];have h1:([A,B]:List (List (Nat×Nat))).flatten=A++B:=s_
  rw[h1];show(h.append_right _).trans ?_;rw[Bt_,Bt_,<-Ar_];show((perm'.map _).cons _).cons _
 have done:∀{A B:List (Nat×Nat)},Cyl (Nx (EP_ (EP_ T a w) b w) P) A->Cyl (Nx (EP_ (EP_ T a w) b w) P) B->(A++B).Perm (b::fs b a::l.map λz=>fs b (fs a z))->Pl P (W+1) (EP_ (EP_ T a w) b w):=λ{A B} cA cB h=>by
  show⟨[A,B]++M.map λm=>m.map λz=>fs b (fs a z),λm hm=>?_,rest h,?_⟩
  .rcases Ao_.mp hm with hm|hm
   .simp only[Aq_,AQ_,Ck_]at hm
    rcases hm with rfl|rfl
    .show cA
    .show cB
   .obtain⟨m',hm',rfl⟩:=Ai_.mp hm;show oth m' hm'
  .rw[Ae_,Ab_,al_,al_];simp only[AF_,BF_];lia
 obtain⟨r,k,pr⟩:=Lk.rot (hL l hl) hal;have ndr:=pr.nodup_iff.mpr ndl;by_cases e:a=b
 .subst e;have k1:=lkm (λz hz=>isl z (pr.mem_iff.mp hz)) (λz hz=>(λq:z≠a=>⟨q,q⟩) λq=>(AM_.mp ndr).1 (q▸hz)) k;rw[ftab,if_pos rfl]at k1;show done (A:=fs a (fs a a)::(r.map (λz=>fs a (fs a z))++[a])) (B:=[fs a a]) ⟨_,_,rfl,Lk.app.mpr ⟨k1,n1⟩⟩ ⟨_,_,rfl,?_⟩ ?_
  .rw[<-fsa]at n2;show n2
  .have:(a::fs a a::(a::r).map λz=>fs a (fs a z)).Perm (a::fs a a::l.map λz=>fs a (fs a z)):=((pr.map _).cons _).cons _;show List.Perm.trans ?_ this;show Bx_.trans ?_;rw[Az_];show(List.Perm.trans (List.Perm.cons _ ?_) (List.Perm.swap _ _ _));have q:=Bx_ (l₁:=fs a (fs a a)::r.map λz=>fs a (fs a z)) (l₂:=[a]);show q
 .have hbr:b∈r:=by have:=pr.mem_iff.mpr hbl;show(Aq_.mp this).resolve_left λq=>e q.symm
  obtain⟨s,t,rfl⟩:=List.append_of_mem hbr;obtain⟨ka,kb⟩:=Lk.app.mp k;obtain⟨na,nr⟩:=AM_.mp ndr;have nr':=AA_.mp nr
  have isr:∀z,z∈s\/z∈t->IsC T P z/\z≠a/\z≠b:=λz hz=>by
   have hz':z∈s++b::t:=Ao_.mpr (hz.imp id (Ak_ _));show⟨isl z (pr.mem_iff.mp (Ak_ _ hz')),λq=>na (q▸hz'),λq=>?_⟩
   rcases hz with hz|hz
   .show nr'.2.2 z hz b An_ q
   .show(AM_.mp nr'.2.1).1 (q▸hz)
  have ka1:=lkm (λz hz=>(Aq_.mp hz).elim (λq=>q▸ia) λhz=>(isr z (.inl hz)).1) (λz hz=>(isr z (.inl hz)).2) ka;have kb1:=lkm (λz hz=>(Aq_.mp hz).elim (λq=>q▸ib) λhz=>(isr z (.inr hz)).1) (λz hz=>(isr z (.inr hz)).2) kb;rw[ftbb]at ka1;rw[ftab,if_neg e]at kb1
  have fsab:fs a b=b:=lw_ (by
    rcases ab with h|h
    .show .inl h
    .by_cases z:b.1=a.1
     .show .inr (Nat.lt_of_le_of_ne h λq=>e (Bd_ z.symm q.symm))
     .show .inl z)
  have n2':Nx (EP_ (EP_ T a w) b w) P (fs b a) (fs b (fs a b)):=by rw[fsab,fsb];show n2
  show done (A:=fs b (fs a a)::(s.map (λz=>fs b (fs a z))++[b])) (B:=fs b (fs a b)::(t.map (λz=>fs b (fs a z))++[fs b a])) ⟨_,_,rfl,Lk.app.mpr ⟨ka1,n1⟩⟩ ⟨_,_,rfl,Lk.app.mpr ⟨kb1,n2'⟩⟩ ?_;have:(b::fs b a::(a::(s++b::t)).map λz=>fs b (fs a z)).Perm (b::fs b a::l.map λz=>fs b (fs a z)):=((pr.map _).cons _).cons _;show List.Perm.trans ?_ this;rw[Az_,Ar_,Az_];generalize s.map (λz=>fs b (fs a z))=s';generalize t.map (λz=>fs b (fs a z))=t';generalize fs b (fs a a)=x;generalize fs b (fs a b)=y;generalize fs b a=u
  have q1:((x::(s'++[b]))++(y::(t'++[u]))).Perm (b::(x::s'++(y::(t'++[u])))):=by
   have:(x::(s'++[b]))++(y::(t'++[u]))=(x::s')++b::(y::(t'++[u])):=s_
   rw[this];show List.perm_middle
  show q1.trans (List.Perm.cons _ ?_);have:x::s'++(y::(t'++[u]))=(x::(s'++y::t'))++[u]:=s_
  rw[this];show Bx_
theorem qi_{T:List (List α)}{W:Nat}{c:Nat×Nat}{w:α}(ic:IsC T P c)(P0:P<=T.length)(hw:w∉T.flatten)(h:Pl P W T):Pl P (W+1) (EP_ T c w++[[w]]):=by
 obtain⟨L,hL,perm,cnt⟩:=h;have hk:=fM_ ic;have left:∀{p},p<T.length->(EP_ T c w++[[w]]).getD p []=(EP_ T c w).getD p []:=λ{p} hp=>by rw[Ac_,Ay_ (by rw[al_];show hp),<-Ac_]
 have last:(EP_ T c w++[[w]]).getD T.length []=[w]:=by rw[Ac_,AK_ (by rw[al_];show Ah_ _),al_,BW_];rfl
 have rlo:∀{p},p<T.length->rl (EP_ T c w++[[w]]) p=rl (EP_ T c w) p:=λ{p} hp=>by unfold rl;rw[left hp]
 have wio:∀{e v},wi (EP_ T c w) e=some v->wi (EP_ T c w++[[w]]) e=some v:=λ{e v} h=>by have:=(FN_ h).2;rw[al_]at this;unfold wi at*;rw[left this];show h
 have nxo:∀{x y},Nx (EP_ T c w) P x y->x.1<T.length->Nx (EP_ T c w++[[w]]) P x y:=λ{x y} h hx=>by
  rcases h with⟨h1,h2⟩|⟨h1,m,⟨ne,v,v1,v2⟩,h2⟩
  .show .inl ⟨by rw[rlo hx];show h1,h2⟩
  .have lm:=(FN_ v2).2;rw[al_]at lm;show .inr ⟨by rw[rlo hx];show h1,m,⟨ne,v,wio v1,wio v2⟩,by rw[rlo lm];show h2⟩
 have go:∀x y,IsC T P x->Nx T P x y->Nx (EP_ T c w++[[w]]) P (fs c x) (ft c y):=λx y ix n=>nxo (hP_ ic ix n) (by rw[fK_];show ix.1);have e1:wi (EP_ T c w++[[w]]) c=some w:=wio (fg_ ic.1 hk);have e2:wi (EP_ T c w++[[w]]) (T.length,0)=some w:=by unfold wi;change(List.getD _ T.length [])[0]?=_;rw[last];rfl
 have cn:c≠(T.length,0):=λz=>by have:=ic.1;rw[z]at this;show Bi_ _ this
 have n1:Nx (EP_ T c w++[[w]]) P c (T.length,0):=by show .inr ⟨(FN_ e1).1,_,⟨cn,w,e1,e2⟩,?_⟩;rw[if_neg (by change ¬ T.length<P;lia)];change _=(T.length,(0+1)%rl _ T.length);unfold rl;rw[last];simp
 have fsc:fs c c=(c.1,c.2+1):=by unfold fs;rw[if_pos ⟨rfl,Ah_ _⟩]
 have ftc:ft c c=c:=fN_ (.inr (Ah_ _))
 have n2:Nx (EP_ T c w++[[w]]) P (T.length,0) (fs c c):=by
  show .inr ⟨(FN_ e2).1,_,⟨cn.symm,w,e2,e1⟩,?_⟩;rw[fsc];split
  .rfl
  .rename_i z;have:=ic.2;rw[if_neg z]at this;rw[rlo ic.1,ez_ ic.1,if_pos rfl,Nat.mod_eq_of_lt o_]
 have hcl:c∈L.flatten:=perm.mem_iff.mpr (ak_.mpr ic);obtain⟨l,hl,hcl⟩:=AX_.mp hcl;have pL:L.Perm (l::L.erase l):=List.perm_cons_erase hl;have len0:=pL.length_eq;rw[AF_]at len0;have hL':∀m∈L.erase l,Cyl (Nx T P) m:=λm hm=>hL m (List.mem_of_mem_erase hm);have perm':(l++(L.erase l).flatten).Perm (corners T P):=by have:=dB_ pL;rw[AR_]at this;show this.symm.trans perm
 generalize L.erase l=M at*;have nd':=perm'.nodup_iff.mpr (aP_ T P);have isl:∀x∈l,IsC T P x:=λx hx=>ak_.mp (perm'.mem_iff.mp (AB_ _ hx))
 have lkm:∀{m:List (Nat×Nat)}{x y:Nat×Nat},(∀z∈x::m,IsC T P z)->(∀z∈m,z≠c)->Lk (Nx T P) x m y->Lk (Nx (EP_ T c w++[[w]]) P) (fs c x) (m.map (fs c)) (ft c y):=by
  intro m
  induction m with
  |nil=>show λ{x y} i _ k=>go x y (i x An_) k
  |cons z m ih =>intro x y i e k;show⟨?_,ih (λq hq=>i q (Ak_ _ hq)) (λq hq=>e q (Ak_ _ hq)) k.2⟩;have:=go x z (i x An_) k.1;rw[<-GV_ (e z An_)]at this;show this
 obtain⟨r,k,pr⟩:=Lk.rot (hL l hl) hcl;have ndr:=pr.nodup_iff.mpr (AA_.mp nd').1;have k1:=lkm (λz hz=>isl z (pr.mem_iff.mp hz)) (λz hz q=>(AM_.mp ndr).1 (q▸hz)) k;rw[ftc]at k1
 have pc:(corners (EP_ T c w++[[w]]) P).Perm ((T.length,0)::c::(corners T P).map (fs c)):=by
  have h1:(corners (EP_ T c w++[[w]]) P).Perm ((T.length,0)::corners (EP_ T c w) P):=by
   show bw_ (aP_ _ _) (AM_.mpr ⟨λz=>?_,aP_ _ _⟩) λx=>?_
   .have:=(ak_.mp z).1;rw[al_]at this;show Bi_ _ this
   .rw[ak_,Aq_,ak_];unfold IsC;rw[Ae_,AL_,al_];constructor
    .rintro⟨h1,h2⟩;by_cases z:x.1<T.length
     .show .inr ⟨z,by rw[rlo z]at h2;show h2⟩
     .have e:x.1=T.length:=o_
      rw[e,if_neg o_]at h2;unfold rl at h2;rw[last]at h2;show .inl (Bd_ e (by have:x.2<1:=h2;change x.2=0;lia))
    .rintro(rfl|⟨h1,h2⟩)
     .show⟨by change T.length<_;lia,?_⟩;change 0<rl _ T.length+_;unfold rl;rw[last];show AH_ Nat.one_pos (BI_ _ _)
     .show⟨o_,by rw[rlo h1];show h2⟩
  show h1.trans ((bJ_ ic).cons _)
 show⟨(fs c c::(r.map (fs c)++[c,(T.length,0)]))::M.map λm=>m.map (fs c),λm hm=>?_,?_,?_⟩
 .rcases Aq_.mp hm with rfl|hm
  .show⟨_,_,rfl,?_⟩;rw[Lk.app];show⟨k1,n1,n2⟩
  .obtain⟨m',hm',rfl⟩:=Ai_.mp hm;obtain⟨x,r',e,k'⟩:=hL' m' hm';have im:∀z∈m',IsC T P z/\z≠c:=λz hz=>by have hz':z∈M.flatten:=AX_.mpr ⟨m',hm',hz⟩;show⟨ak_.mp (perm'.mem_iff.mp (Aw_ _ hz')),λq=>(AA_.mp nd').2.2 c hcl z hz' q.symm⟩
   subst e;show⟨_,_,rfl,?_⟩;have:=lkm (λz hz=>(im z hz).1) (λz hz=>(im z (Ak_ _ hz)).2) k';rw[<-GV_ (im x An_).2]at this;show this
 .show List.Perm.trans ?_ pc.symm;rw[AR_];have fm:(M.map λm=>m.map (fs c)).flatten=M.flatten.map (fs c):=List.map_flatten.symm;rw[fm]
  have q:(fs c c::(r.map (fs c)++[c,(T.length,0)])).Perm ((T.length,0)::c::l.map (fs c)):=by
   have h1:((T.length,0)::c::(c::r).map (fs c)).Perm ((T.length,0)::c::l.map (fs c)):=((pr.map _).cons _).cons _;show List.Perm.trans ?_ h1;rw[Az_];have:fs c c::(r.map (fs c)++[c,(T.length,0)])=(fs c c::r.map (fs c))++[c,(T.length,0)]:=s_
   rw[this];show Bx_.trans ?_;show List.Perm.swap _ _ _
  show(q.append_right _).trans ?_;rw[Bt_,Bt_,<-Ar_];show((perm'.map _).cons _).cons _
 .rw[AF_,Ab_,Ae_,AL_,al_];lia
theorem oz_(h:0<P):Pl P 0 (List.replicate P ([]:List α)):=by
 have rl0:∀p,rl (List.replicate P ([]:List α)) p=0:=λp=>by unfold rl;rw[Ac_,Ct_];split <;> rfl
 have nxp:∀p,p+1<P->Nx (List.replicate P ([]:List α)) P (p+1,0) (p,0):=λp hp=>.inl ⟨(rl0 _).symm,by
  change(p,0)=((p+1+P-1)%P,0);rw[show p+1+P-1=p+P by lia,Nat.add_mod_right,Nat.mod_eq_of_lt o_]⟩
 have nx0:Nx (List.replicate P ([]:List α)) P (0,0) (P-1,0):=.inl ⟨(rl0 _).symm,by
  change(P-1,0)=((0+P-1)%P,0);rw[DJ_,Nat.mod_eq_of_lt o_]⟩
 have key:∀n,n<P->Lk (Nx (List.replicate P ([]:List α)) P) (n,0) ((List.range n).reverse.map λp=>(p,0)) (P-1,0):=λn=>by
  induction n with
  |zero=>show λ_=>nx0
  |succ n ih =>intro hn;rw[BE_,List.reverse_append,List.reverse_singleton,List.singleton_append,Az_];show⟨nxp n hn,ih o_⟩
 show⟨[(P-1,0)::(List.range (P-1)).reverse.map λp=>(p,0)],λl hl=>?_,?_,by simp;lia⟩
 .rw[Ad_.mp hl];show⟨_,_,rfl,key (P-1) o_⟩
 .rw[AR_,List.flatten_nil,A6_];show bw_ (AM_.mpr ⟨λz=>?_,jP_ (λa b h=>(BG_ h).1) ((DA_ _).nodup_iff.mpr CD_)⟩) (aP_ _ _) λx=>?_
  .obtain⟨p,hp,e⟩:=Ai_.mp z;have:=AJ_.mp (List.mem_reverse.mp hp);have:=(BG_ e).1;lia
  .rw[ak_];unfold IsC;rw[rl0,Ch_,Aq_,Ai_];constructor
   .rintro(rfl|⟨p,hp,rfl⟩)
    .show⟨by change P-1<P;lia,by change 0<0+(if P-1<P then 1 else 0);rw[if_pos o_];lia⟩
    .have:=AJ_.mp (List.mem_reverse.mp hp);show⟨by change p<P;lia,by change 0<0+(if p<P then 1 else 0);rw[if_pos o_];lia⟩
   .rintro⟨h1,h2⟩;rw[if_pos h1]at h2;by_cases e:x.1=P-1
    .show .inl (Bd_ e (by change x.2=0;lia))
    .show .inr ⟨x.1,List.mem_reverse.mpr (AJ_.mpr o_),Bd_ rfl (by change 0=x.2;lia)⟩
theorem pt_{α':Type}[DecidableEq α']{T:List (List α)}{T':List (List α')}{W:Nat}(φ:Nat×Nat->Nat×Nat)(hl:T'.length=T.length)(hi:∀x,IsC T P x->IsC T' P (φ x))(inj:∀x y,IsC T P x->IsC T P y->φ x=φ y->x=y)(len:(corners T' P).length<=(corners T P).length)(hn:∀x y,IsC T P x->Nx T P x y->Nx T' P (φ x) (φ y))(h:Pl P W T):Pl P W T':=by
 obtain⟨L,hL,perm,cnt⟩:=h;show⟨L.map λl=>l.map φ,λm hm=>?_,?_,by rw[Ab_,hl];show cnt⟩
 .obtain⟨l,hl,rfl⟩:=Ai_.mp hm;obtain⟨a,r,rfl,k⟩:=hL l hl;show⟨_,_,rfl,?_⟩;have il:∀z∈a::r,IsC T P z:=λz hz=>ak_.mp (perm.mem_iff.mp (AX_.mpr ⟨_,hl,hz⟩))
  have key:∀{m:List (Nat×Nat)}{x y:Nat×Nat},(∀z∈x::m,IsC T P z)->Lk (Nx T P) x m y->Lk (Nx T' P) (φ x) (m.map φ) (φ y):=by
   intro m
   induction m with
   |nil=>show λ{x y} i k=>hn x y (i x An_) k
   |cons z m ih=>show λ{x y} i k=>⟨hn x z (i x An_) k.1,ih (λq hq=>i q (Ak_ _ hq)) k.2⟩
  show key il k
 .have e:(L.map λl=>l.map φ).flatten=L.flatten.map φ:=List.map_flatten.symm;rw[e];show(perm.map φ).trans ?_;have nd:((corners T P).map φ).Nodup:=by unfold List.Nodup;rw[Bk_];show B4_ (λ{x y} hx hy ne z=>ne (inj x y (ak_.mp hx) (ak_.mp hy) z)) (aP_ T P)
  show lu_ nd (λx hx=>?_) (by rw[Ab_];show len);obtain⟨y,hy,rfl⟩:=Ai_.mp hx;show ak_.mpr (hi y (ak_.mp hy))
end
end RimT
namespace RimD
end RimD
namespace RimM
def Ovs(B:Int):List (Int×Int)->List Int->Prop
 |[],[]=>True
 |p::r,x::xs=>Is p x B/\Ovs B r xs
 |_,_=>False
theorem Ovs.map{α:Type}{B:Int}(f:α->Int×Int)(g:α->Int):∀{l:List α},(∀a∈l,Is (f a) (g a) B)->Ovs B (l.map f) (l.map g)
 |[],_=>trivial
 |a::l,h=>⟨h a An_,Ovs.map f g λb hb=>h b (Ak_ _ hb)⟩
end RimM
namespace RimT
open RimM RimD
variable {S:Type}[DecidableEq S]
def fl(X:S->Int)(x:S)(e:S×S×Int):Int:=(if x=e.1 then e.2.2*(X e.1-X e.2.1)else 0)-(if x=e.2.1 then e.2.2*(X e.1-X e.2.1)else 0)
structure GrH(P W:Nat)(T:List (List Nat)):Prop extends Gr P W T where
 hang:∀U:Nat->Prop,(∀p,p<P->U p)->(∀p q w,w∈T.getD p []->w∈T.getD q []->U p->U q)->∀p,p<T.length->U p
theorem np_(P:Nat):GrH P 0 (List.replicate P []):=⟨oo_ P,λU h _ p hp=>h p (by simpa using hp)⟩
variable{T:List (List Nat)}{p:Nat}
theorem dD_{c:Nat×Nat}{w v:Nat}(h:v∈T.getD p []):v∈(EP_ T c w).getD p []:=by
 unfold EP_;rw[Ac_,List.getElem?_set];by_cases e:c.1=p
 .subst e;by_cases h2:c.1<T.length
  .rw[if_pos rfl,if_pos h2];change v∈ins (T.getD c.1 []) c.2 w;unfold ins;rw[<-A5_ c.2 (T.getD c.1 [])]at h
   rcases Ao_.mp h with h|h
   .show AB_ _ h
   .show Aw_ _ (Ak_ _ h)
  .rw[Ac_,Bh_ o_]at h;cases h
 .rw[if_neg e,<-Ac_];show h
theorem nq_{c:Nat×Nat}{w:Nat}(h:c.1<T.length):w∈(EP_ T c w).getD c.1 []:=by unfold EP_;rw[Ac_,List.getElem?_set,if_pos rfl,if_pos h];change w∈ins (T.getD c.1 []) c.2 w;unfold ins;show Aw_ _ An_
variable{P W:Nat}
theorem oA_{c:Nat×Nat}(g:GrH P W T)(hc:c.1<T.length)(h:T.length<P+10):GrH P (W+1) (EP_ T c W++[[W]]):=by
 have left:∀{p},p<T.length->(EP_ T c W++[[W]]).getD p []=(EP_ T c W).getD p []:=λ{p} hp=>by rw[Ac_,Ay_ (by rw[al_];show hp),<-Ac_]
 have dom:∀{p v:Nat},v∈T.getD p []->p<T.length:=λ{p v} hv=>by
  by_cases z:p<T.length
  .show z
  .rw[Ac_,Bh_ o_]at hv;cases hv
 show⟨p3_ g.toGr hc h,λU h0 cl p hp=>?_⟩;have old:∀p,p<T.length->U p:=g.hang U h0 λa b w ha hb ua=>cl a b w (by rw[left (dom ha)];show dD_ ha) (by rw[left (dom hb)];show dD_ hb) ua;rw[Ae_,al_,AL_]at hp;by_cases z:p<T.length
 .show old p z
 .have e:p=T.length:=o_
  subst e;show cl c.1 _ W (by rw[left hc];show nq_ hc) ?_ (old c.1 hc);rw[Ac_,AK_ (by rw[al_];show Ah_ _),al_,BW_];show Ad_.mpr rfl
theorem qj_{c d:Nat×Nat}(g:GrH P W T)(hc:c.1<T.length)(hd:d.1<T.length):GrH P (W+1) (EP_ (EP_ T c W) d W):=
 ⟨re_ g.toGr hc hd,λU h0 cl p hp=>g.hang U h0 (λa b w ha hb ua=>cl a b w (dD_ (dD_ ha)) (dD_ (dD_ hb)) ua) p (by rwa[al_,al_]at hp)⟩
def NtH{S:Type}[DecidableEq S](N:Net S):Prop:=∀U:S->Prop,(∀p∈N.posts,U p)->(∀r∈N.rows,∀r'∈N.rows,∀w∈r.2,w∈r'.2->U r.1->U r'.1)->∀r∈N.rows,U r.1
theorem nt_h{S:Type}[DecidableEq S](g:GrH P W T){ns ws:Nat->S}{ord:List Nat}(h:ord.Perm (List.range T.length)){posts:List S}{wo:List (S×(Int×Int))}(hp:∀p,p<P->ns p∈posts):NtH ⟨posts,Fb_ ns ws T ord,wo⟩:=λU h0 cl r hr=>by
 obtain⟨p,hp',rfl⟩:=Ai_.mp hr;have inr:∀{p},p<T.length->(ns p,(T.getD p []).map ws)∈Fb_ ns ws T ord:=λ{p} hp=>Ai_.mpr ⟨p,h.mem_iff.mpr (AJ_.mpr hp),rfl⟩
 have dom:∀{p v:Nat},v∈T.getD p []->p<T.length:=λ{p v} hv=>by
  by_cases z:p<T.length
  .show z
  .rw[Ac_,Bh_ o_]at hv;cases hv
 show g.hang (λq=>U (ns q)) (λq hq=>h0 _ (hp q hq)) (λa b w ha hb ua=>cl _ (inr (dom ha)) _ (inr (dom hb)) (ws w) (Ai_.mpr ⟨w,ha,rfl⟩) (Ai_.mpr ⟨w,hb,rfl⟩) ua) p (AJ_.mp (h.mem_iff.mp hp'))
structure GrP(P W:Nat)(T:List (List Nat)):Prop extends GrH P W T where
 pl:Pl P W T
theorem nr_(h:0<P):GrP P 0 (List.replicate P []):=⟨np_ P,oz_ h⟩
theorem oB_{c:Nat×Nat}(g:GrP P W T)(ic:IsC T P c)(h:T.length<P+10):GrP P (W+1) (EP_ T c W++[[W]]):=⟨oA_ g.toGrH ic.1 h,qi_ ic g.len (λz=>absurd (g.lt W z) (Bi_ _)) g.pl⟩
theorem qk_{a b:Nat×Nat}(g:GrP P W T)(ia:IsC T P a)(ib:IsC T P b)(ab:b.1≠a.1\/b.2<=a.2)(same:∃l,Cyl (Nx T P) l/\a∈l/\b∈l):GrP P (W+1) (EP_ (EP_ T a W) b W):=⟨qj_ g.toGrH ia.1 ib.1,rn_ ia ib ab g.pl same g.tw⟩
section
variable {α:Type}[DecidableEq α]
theorem ql_{l:List α}{t i:Nat}(ht:t<l.length)(hi:i<l.length):(l.drop t++l.take t)[(i+(l.length-t))%l.length]?=l[i]?:=by
 by_cases h:t<=i
 .rw[show i+(l.length-t)=(i-t)+l.length by lia,Nat.add_mod_right,Nat.mod_eq_of_lt o_,Ay_ (by rw[By_];lia),List.getElem?_drop,show t+(i-t)=i by lia]
 .rw[Nat.mod_eq_of_lt o_,AK_ (by rw[By_];lia),By_,show i+(l.length-t)-(l.length-t)=i by lia,List.getElem?_take,if_pos o_]
theorem oC_{m s i j:Nat}(hi:i<m)(hj:j<m)(hs:s<=m)(h:(i+s)%m=(j+s)%m):i=j:=by
 by_cases h1:i+s<m <;> by_cases h2:j+s<m
 .rw[Nat.mod_eq_of_lt h1,Nat.mod_eq_of_lt h2]at h;lia
 .rw[Nat.mod_eq_of_lt h1,show j+s=(j+s-m)+m by lia,Nat.add_mod_right,Nat.mod_eq_of_lt (show j+s-m<m by lia)]at h;lia
 .rw[Nat.mod_eq_of_lt h2,show i+s=(i+s-m)+m by lia,Nat.add_mod_right,Nat.mod_eq_of_lt (show i+s-m<m by lia)]at h;lia
 .rw[show j+s=(j+s-m)+m by lia,Nat.add_mod_right,Nat.mod_eq_of_lt (show j+s-m<m by lia),show i+s=(i+s-m)+m by lia,Nat.add_mod_right,Nat.mod_eq_of_lt (show i+s-m<m by lia)]at h;lia
theorem pu_{α':Type}[DecidableEq α']{T:List (List α)}{T':List (List α')}{P:Nat}{φ:Nat×Nat->Nat×Nat}{f:α->α'}(hr:∀x:Nat×Nat,x.1<T.length->rl T' (φ x).1=rl T x.1)(hp:∀x:Nat×Nat,x.1<T.length->((φ x).1<P↔x.1<P))(hpost:∀p k,p<P->φ (p,k)=(p,k))(inj:∀x y,x.2<rl T x.1->y.2<rl T y.1->φ x=φ y->x=y)
  (hl:∀x:Nat×Nat,x.2<rl T x.1->(φ x).2<rl T' (φ x).1) (hw:∀e v,wi T e=some v->wi T' (φ e)=some (f v)) (hb:∀m:Nat×Nat,P<=m.1->m.2<rl T m.1->φ (m.1,(m.2+1)%rl T m.1)=((φ m).1,((φ m).2+1)%rl T m.1)) {x y:Nat×Nat} (ix:IsC T P x) (n:Nx T P x y):Nx T' P (φ x) (φ y):=by
 rcases n with⟨h1,rfl⟩|⟨h1,m,hm,rfl⟩
 .have xp:x.1<P:=by
   have:=ix.2;split at this
   .assumption
   .lia
  show .inl ⟨?_,?_⟩
  .rw[hr x ix.1,show φ x=(x.1,x.2)from hpost x.1 x.2 xp];show h1
  .rw[show φ x=(x.1,x.2)from hpost x.1 x.2 xp,hpost _ _ (Nat.mod_lt _ o_)]
 .obtain⟨ne,v,v1,v2⟩:=hm;have l1:=FN_ v1;have l2:=FN_ v2;show .inr ⟨hl x h1,φ m,⟨λz=>ne (inj x m l1.1 l2.1 z),f v,hw x v v1,hw m v v2⟩,?_⟩;by_cases pm:m.1<P
  .rw[if_pos pm,if_pos ((hp m l2.2).mpr pm),hpost _ _ pm,show φ m=(m.1,m.2)from hpost m.1 m.2 pm]
  .rw[if_neg pm,if_neg (λz=>pm ((hp m l2.2).mp z)),hb m o_ l2.1,hr m l2.2]
end
theorem pv_{α:Type}[DecidableEq α]{T:List (List α)}{t:Nat}(hp:p<T.length)(hP:P<=p)(ht:t<rl T p)(h:Pl P W T):Pl P W (T.set p ((T.getD p []).drop t++(T.getD p []).take t)):=by
 let φ:Nat×Nat->Nat×Nat:=λx=>if x.1=p then(x.1,(x.2+(rl T p-t))%rl T p)else x
 have φ1:∀x,(φ x).1=x.1:=λx=>by change(if _ then _ else _:Nat×Nat).1=_;split <;> rfl
 have φn:∀x:Nat×Nat,x.1≠p->φ x=x:=λx hx=>if_neg hx;have φp:∀x:Nat×Nat,x.1=p->φ x=(x.1,(x.2+(rl T p-t))%rl T p):=λx hx=>if_pos hx;have getp:(T.set p ((T.getD p []).drop t++(T.getD p []).take t)).getD p []=(T.getD p []).drop t++(T.getD p []).take t:=by rw[Ac_,List.getElem?_set,if_pos rfl,if_pos hp];rfl
 have geto:∀q,q≠p->(T.set p ((T.getD p []).drop t++(T.getD p []).take t)).getD q []=T.getD q []:=λq hq=>by rw[Ac_,List.getElem?_set,if_neg hq.symm,<-Ac_]
 have hr:∀q,rl (T.set p ((T.getD p []).drop t++(T.getD p []).take t)) q=rl T q:=λq=>by
  unfold rl;by_cases e:q=p
  .rw[e,getp,Ae_,By_,AW_];unfold rl at ht;lia
  .rw[geto q e]
 have isc:∀x,IsC (T.set p ((T.getD p []).drop t++(T.getD p []).take t)) P x↔IsC T P x:=λx=>by unfold IsC;rw[Be_,hr]
 have inj:∀x y:Nat×Nat,(x.1=p->x.2<rl T p)->(y.1=p->y.2<rl T p)->φ x=φ y->x=y:=λx y hx hy e=>by
  have e1:=congrArg Prod.fst e;rw[φ1,φ1]at e1;by_cases z:x.1=p
  .have zy:y.1=p:=e1▸z;rw[φp x z,φp y zy]at e;show Bd_ e1 (oC_ (hx z) (hy zy) o_ (congrArg Prod.snd e))
  .rw[φn x z,φn y (e1▸z)]at e;show e
 have inn:∀x,IsC T P x->x.1=p->x.2<rl T p:=λx ix e=>by have:=ix.2;rw[e,if_neg o_]at this;show this
 have lt:∀x:Nat×Nat,x.2<rl T x.1->(φ x).2<rl T x.1:=λx hx=>by
  by_cases z:x.1=p
  .rw[φp x z,z];show Nat.mod_lt _ o_
  .rw[φn x z];show hx
 show pt_ φ (Be_ ..) (λx ix=>(isc _).mpr ?_) (λx y ix iy e=>inj x y (inn x ix) (inn y iy) e) ?_ (λx y ix n=>pu_ (f:=id) (λx _=>by rw[φ1,hr]) (λx _=>by rw[φ1]) (λq k hq=>φn _ (by change q≠p;lia)) (λx y hx hy e=>inj x y (λz=>z▸hx) (λz=>z▸hy) e) (λx hx=>by rw[φ1,hr];show lt x hx) ?_ ?_ ix n) h
 .show⟨by rw[φ1];show ix.1,?_⟩;rw[φ1];by_cases z:x.1=p
  .rw[z,if_neg o_];have:=lt x (by rw[z];show inn x ix z);rw[z]at this;show this
  .rw[φn x z];show ix.2
 .show a5_ (aP_ _ _) λx hx=>ak_.mpr ((isc x).mp (ak_.mp hx))
 .intro e v hv;unfold wi at hv⊢;rw[φ1];by_cases z:e.1=p
  .rw[φp e z,z,getp];rw[z]at hv;change(_:List α)[(e.2+(rl T p-t))%rl T p]?=_;show(ql_ ht (Al_.mp hv).1).trans hv
  .rw[φn e z,geto _ z];show hv
 .intro m hm lm;by_cases z:m.1=p
  .rw[φp m z,φp (m.1,(m.2+1)%rl T m.1) z]
   dsimp only
   rw[z];rw[z]at lm;congr 1;rw[Nat.mod_add_mod,Nat.mod_add_mod];congr 1;lia
  .rw[φn m z,φn (m.1,(m.2+1)%rl T m.1) z]
theorem qm_{t:Nat}{T':List (List Nat)}(g:GrP P W T)(g':GrH P W T')(e:T'=T.set p ((T.getD p []).drop t++(T.getD p []).take t))(hp:p<T.length)(hP:P<=p)(ht:t<rl T p):GrP P W T':=⟨g',e▸pv_ hp hP ht g.pl⟩
section
variable {d0:S}
theorem oD_(g:GrP P W T){ns ws:Nat->S}{ord:List Nat}(h:ord.Perm (List.range T.length))(hn:∀a b,a<T.length->b<T.length->ns a=ns b->a=b)(hw:∀a b,a<W->b<W->ws a=ws b->a=b){ps:List S}{wo:List (S×(Int×Int))}(hps:ps=(List.range P).map ns)(ok:Fi_ (⟨ps,Fb_ ns ws T ord,wo⟩:Net S))(po:EZ_ (⟨ps,Fb_ ns ws T ord,wo⟩:Net S)):Pl P W (trn (⟨ps,Fb_ ns ws T ord,wo⟩:Net S)):=by
 generalize hN:(⟨ps,Fb_ ns ws T ord,wo⟩:Net S)=N at*;have nr:N.rows=Fb_ ns ws T ord:=by rw[<-hN]
 have np:N.posts=(List.range P).map ns:=by rw[<-hN];show hps
 have pl:N.posts.length=P:=by rw[np,Ab_,A9_]
 have rin:∀p,p<T.length->(ns p,(T.getD p []).map ws)∈N.rows:=λp hp=>by rw[nr];show Ai_.mpr ⟨p,h.mem_iff.mpr (AJ_.mpr hp),rfl⟩
 have pin:∀p,p<T.length->ns p∈pts N:=λp hp=>(dp_ po).mpr (Ai_.mpr ⟨_,rin p hp,rfl⟩);have row:∀p,p<T.length->(trn N).getD (pid N (ns p)) []=(T.getD p []).map ws:=λp hp=>by rw[gi_ (fG_ (pin p hp))];show bC_ ok (rin p hp)
 have pp:∀p,p<P->pid N (ns p)=p:=λp hp=>lq_ ok po (by unfold pts;rw[Ay_ o_,np,Ag_,Bo_ hp];rfl);have tl:(trn N).length=T.length:=by rw[a6_,kx_ ok po,nr];unfold Fb_;rw[Ab_,h.length_eq,A9_]
 have pinj:∀a b,a<T.length->b<T.length->pid N (ns a)=pid N (ns b)->a=b:=λa b ha hb e=>hn a b ha hb (by have h1:=fG_ (pin a ha);rw[e,fG_ (pin b hb)]at h1;show(At_ h1).symm)
 have plt:∀p,p<T.length->(pid N (ns p)<P↔p<P):=λp hp=>by
  constructor
  .intro hq;have e:pid N (ns (pid N (ns p)))=pid N (ns p):=pp _ hq;have:=pinj _ p (by have:=g.len;lia) hp e;lia
  .intro hq;rw[pp p hq];show hq
 have rlr:∀p,p<T.length->rl (trn N) (pid N (ns p))=rl T p:=λp hp=>by unfold rl;rw[row p hp,Ab_]
 have isc:∀x,IsC T P x->IsC (trn N) P (pid N (ns x.1),x.2):=λx ix=>by
  show⟨by rw[a6_];show hN_ (pin _ ix.1),?_⟩;change x.2<rl (trn N) (pid N (ns x.1))+(if pid N (ns x.1)<P then 1 else 0);rw[rlr _ ix.1];have:=ix.2;by_cases q:x.1<P
  .rw[if_pos q]at this;rw[if_pos ((plt _ ix.1).mpr q)];show this
  .rw[if_neg q]at this;rw[if_neg (λz=>q ((plt _ ix.1).mp z))];show this
 show pt_ (λx=>(pid N (ns x.1),x.2)) tl isc (λx y ix iy e=>Bd_ (pinj _ _ ix.1 iy.1 (BG_ e).1) (BG_ e).2) ?_ (λx y ix n=>pu_ (f:=ws) (φ:=λx=>(pid N (ns x.1),x.2)) (λx hx=>rlr _ hx) (λx hx=>plt _ hx) (λp k hp=>by change(pid N (ns p),k)=_;rw[pp p hp]) (λx y hx hy e=>?_) (λx hx=>?_) (λe v hv=>?_) (λm _ _=>rfl) ix n) g.pl
 .have e1:(corners (trn N) P).length=(corners T P).length:=by
   have key:∀x,IsC (trn N) P x->∃y,IsC T P y/\(pid N (ns y.1),y.2)=x:=λx ix=>by
    have hx:=ix.1;rw[a6_]at hx;have hm:(pts N)[x.1]∈N.rows.map (·.1):=(dp_ po).mp (A3_ hx);rw[nr]at hm;obtain⟨r,hr,er⟩:=Ai_.mp hm;obtain⟨p,hp,rfl⟩:=Ai_.mp hr;have hp':p<T.length:=AJ_.mp (h.mem_iff.mp hp);have ep:pid N (ns p)=x.1:=lq_ ok po (by rw[Aa_ hx];show congrArg some er.symm);show⟨(p,x.2),⟨hp',?_⟩,Bd_ ep rfl⟩;have:=ix.2;rw[<-ep,rlr p hp']at this;change x.2<rl T p+(if p<P then 1 else 0);by_cases q:p<P
    .rw[if_pos ((plt _ hp').mpr q)]at this;rw[if_pos q];show this
    .rw[if_neg (λz=>q ((plt _ hp').mp z))]at this;rw[if_neg q];show this
   have h1:((corners T P).map λx=>(pid N (ns x.1),x.2)).length=(corners T P).length:=Ab_ ..;show Nat.le_antisymm ?_ ?_
   .rw[<-h1];show a5_ (aP_ _ _) λx hx=>?_;obtain⟨y,iy,e⟩:=key x (ak_.mp hx);show Ai_.mpr ⟨y,ak_.mpr iy,e⟩
   .rw[<-h1];show a5_ ?_ λx hx=>?_
    .unfold List.Nodup;rw[Bk_];show B4_ (λ{x y} hx hy ne z=>ne (Bd_ (pinj _ _ (ak_.mp hx).1 (ak_.mp hy).1 (BG_ z).1) (BG_ z).2)) (aP_ T P)
    .obtain⟨y,hy,rfl⟩:=Ai_.mp hx;show ak_.mpr (isc y (ak_.mp hy))
  show Nat.le_of_eq e1
 .have lx:x.1<T.length:=by obtain⟨v,hv⟩:=gd_ hx;show(FN_ hv).2
  have ly:y.1<T.length:=by obtain⟨v,hv⟩:=gd_ hy;show(FN_ hv).2
  show Bd_ (pinj _ _ lx ly (BG_ e).1) (BG_ e).2
 .obtain⟨v,hv⟩:=gd_ hx;rw[rlr _ (FN_ hv).2];show hx
 .have le:=(FN_ hv).2;unfold wi at hv⊢;change((trn N).getD (pid N (ns e.1)) [])[e.2]?=_;rw[row _ le,Ag_,hv];rfl
end
end RimT
namespace L2
open PySem PySem.Spec PyProof.Rows
theorem iR_:entryFor table "proto.unchain"=some Builtin.«proto.unchain»:=entryFor_of_fast (by kernel_rfl)
def QuA(A:Around)(h:Heap):Prop:=A.handled=none\/∃ea,A.handled=some (.ref ea)/\Pl2 h ea
variable {prog:Program}{w:World}{A:Around}{E:Value->Shared->Prop}{s:Shared}
theorem qn_{α:Type}{Q:α->Shared->Prop}{x:Addr}{o:Obj}{vs:Array Value}(hq:QuA A s.heap)(hx:s.heap.get? x=some o)(hd:o.data=.fields vs)(sz:2<vs.size)(hne:∀ea,A.handled=some (.ref ea)->ea≠x)
  (k:∀g,(∀b,b≠x->g.get? b=s.heap.get? b)->(∃u,g.get? x=some u/\u.cls=o.cls)->E (.ref x) {s with heap:=g}):wpAny (model prog w) A (raiseNew (.ref x):Sem α) Q E s:=by
 unfold raiseNew;show Af_ (wpAny_handled ?_)
 rcases hq with hq|⟨ea,hq,oe,us,he,de,h2⟩
 .rw[hq];show Af_ (Ax_ (wpAny_throw (k _ (λ_ _=>rfl) ⟨o,hx,rfl⟩)))
 .rw[hq];have ne:=hne ea hq
  dsimp only
  rw[if_pos (show(Value.ref ea != Value.ref x)=true by simp[ne])];show Af_ (Bj_ (runValue_entry iR_ ?_));unfold Builtin.«proto.unchain»
  dsimp only
  show Af_ (Co_ he de h2 ?_);rw[if_pos (show(Value.none == Value.none)=true by rfl)];show Ax_ ⟨_,rfl,Af_ (wpAny_setField hx hd sz (wpAny_throw (k _ (λb hb=>A8_ _ _ (Ne.symm hb)) ⟨_,Ci_ _ hx (Obj.isFreed_of_fields (Obj.data_mapFields hd _)),Obj.cls_mapFields _ _⟩)))⟩
theorem ro_{α:Type}{Q:α->Shared->Prop}(hq:QuA A s.heap)(k:∀g x,(∀b o,s.heap.get? b=some o->g.get? b=some o)->(∃u,g.get? x=some u/\u.cls=.type "StopIteration")->E (.ref x) {s with heap:=g}):
  wpAny (model prog w) A (newExc (.type "StopIteration") [] >>= λe=>(raiseNew e:Sem α)) Q E s:=by
 show Af_ ?_;simp only[newExc,newTuple];show Af_ (Cf_ ?_ (by size_fits));show Af_ (m:=firstArgMember _ _) (wpAny_of_eq (a:=Value.none) (by first|rfl|(simp only[firstArgMember];rfl)) ?_);show Cf_ ?_ (by size_fits);have kp:∀{o1 o2:Obj}(b:Addr)(o:Obj),s.heap.get? b=some o->((s.heap.push o1).push o2).get? b=some o:=λb o e=>Aj_ _ (Aj_ _ e);show qn_ (hq.imp id λ⟨ea,z,oe,us,he,z2⟩=>⟨ea,z,oe,us,kp ea oe he,z2⟩) (AC_ _ rfl) rfl (by rw[Array.size_append];show AH_ (show 2<6 by decide) (BI_ 6 _)) (λea z=>?_) λg g1 g2=>k g _ (λb o e=>(g1 b ?_).trans (kp b o e)) g2
 .rcases hq with q|⟨ea',q,oe,us,he,_⟩
  .rw[q]at z;cases z
  .rw[q]at z;cases z;show AE_ (AH_ (Au_ he) s_)
 .show AE_ (AH_ (Au_ e) s_)
theorem QuA.but{h h':Heap}{it:Addr}(hq:QuA A h)(hne:∀ea,A.handled=some (.ref ea)->ea≠it)(k:∀b,b≠it->h'.get? b=h.get? b):QuA A h' :=
 hq.imp id λ⟨ea,z,oe,us,he,z2⟩=>⟨ea,z,oe,us,(k ea (hne ea z)).trans he,z2⟩
theorem oE_{it l:Addr}{i:Nat}{items:Array Value}{Q:Option Value->Shared->Prop}(hq:QuA A s.heap)(hne:∀ea,A.handled=some (.ref ea)->ea≠it)(hit:s.heap.IsListIter it l i)(hl:s.heap.IsList l items)(hx:items[i]?=none)
  (k:∀g,Heap.ExtBut it s.heap g->Q none {s with heap:=g}):wpAny (model prog w) A (pyNext (.ref it)) Q E s:=by
 obtain⟨o,ho,hc,hd⟩:=id hit;obtain⟨ol,hol,_,nl,hdl⟩:=hl;unfold pyNext;show Af_ (wpAny_attempt (DO_ (name:=Str.ofString "__next__") hit.typeIs slot_listiter_next (C6_ slot_listiter_next hit.typeIs entry_listiter_next ?_ (args_listiter_next _))));change wpAny _ _ (field (.ref it) 0 >>= _) _ _ s;show Af_ (Co_ ho hd (x:=.ref l) rfl ?_);change wpAny _ _ (if(Value.ref l == Value.none)=true then _ else _) _ _ s;rw[if_neg s_];change wpAny _ _ (field (.ref it) 1 >>= _) _ _ s;show Af_ (Co_ ho hd (x:=.int i 0) rfl ?_);change wpAny _ _ (seqItems? (.ref l) >>= _) _ _ s;show Af_ (Dm_ hol hdl ?_);simp only[AD_,hx];show Af_ (CJ_ (Af_ (wpAny_setField ho hd s_ ?_)));show ro_ (A:=A.in1) (QuA.but (A:=A.in1) hq hne λb hb=>A8_ _ _ (Ne.symm hb)) λg x g1 ⟨u,hu,cu⟩=>?_;show Af_ (DV_ (T := "StopIteration") (b:=true) ⟨u,hu,cu⟩ isSubtype_stop ?_);show Ax_ (k g λb o hb e=>g1 b o ((A8_ _ _ (Ne.symm hb)).trans e))
def IJ_(o:Obj):Prop:=∃vs,o.data=.fields vs/\vs[2]?=some .none
def Qx(X:Cx):Prop:=X.A.handled=none\/∃ea o,X.A.handled=some (.ref ea)/\(ea,o)∈X.pn/\IJ_ o
variable {X:Cx}{pins:List (Addr×Obj)}{σ:St}{H:Hp}
theorem Qx.qa(h:Qx X)(I:Inv X pins σ H s):QuA X.A s.heap:=h.imp id λ⟨ea,o,h1,h2,vs,h3,h4⟩=>⟨ea,h1,o,vs,(I.pin (ea,o) (AB_ _ h2)).1,h3,h4⟩
theorem Qx.ne(h:Qx X){it:Addr}(hp:∀p∈X.pn++pins,p.1≠it):∀ea,X.A.handled=some (.ref ea)->ea≠it:=λea z=>by
 rcases h with q|⟨ea',o,q,h2,_⟩
 .rw[q]at z;cases z
 .rw[q]at z;cases z;show hp _ (AB_ _ h2)
theorem Lf_{P:Program}{K:PySem.W.Frag}{tg:Expr}(a it:Addr):Ki_ Qx P w K tg (Itl K a) [it] it (λi h=>h.IsListIter it a i) where
 obj:=λi h st b hb=>by
  cases Ad_.mp hb;obtain⟨o,e,c,d⟩:=st;show⟨o,e,λv z=>by rw[d]at z;cases z⟩
 keep:=λi h h' st k=>st.at λo e=>k it s_ o e
 item:=by intro X hP hw hK hc i pins s σ H E I hf st ⟨xs,x,hq,hx⟩;subst hP hw hK;obtain⟨its,rv,p,hz⟩:=I.list hq;obtain⟨u,hu,ru⟩:=rv.get hx;obtain⟨f0,f1,f2,f3,f4,f5⟩:=hf it s_;show BV_ st p.isList (x:=u) (by simpa using hu) λg st' sb=>?_;have I1:Inv X pins σ H {s with heap:=g}:=I.turned (t':=s.toks) (λb o hb e=>(sb.2 b hb).trans e) f0 f1 f3 f4 f5;obtain⟨o,e,c,d⟩:=id st';show⟨u,rfl,HQ_ (s:={s with heap:=g}) e c d d_ ⟨x,H,I1,ru,⟨rfl,λys hy=>by rw[I.list_inj hy hq];show hx⟩,st',λb hb=>(hf b hb).1⟩⟩
 done:=by intro X hP hw hK hc i pins s σ H E I hf st ⟨xs,hq,hx⟩;subst hP hw hK;obtain⟨its,rv,p,hz⟩:=I.list hq;obtain⟨f0,f1,f2,f3,f4,f5⟩:=hf it s_;have hl:=rv.length;show oE_ (hc.qa I) (hc.ne f5) st p.isList (by simp;lia) λg eb=>⟨rfl,I.turned (t':=s.toks) (λb o hb e=>eb b o hb e) f0 f1 f3 f4 f5⟩
 self:=λ_ _ _ _ _ st h=>wpAny_pyIter_listiter st h
theorem oF_{K:PySem.W.Frag}{tg l:Expr}{tl:TE}(hK:X.K=K)(hl:PE X l tl):PIc Qx X tg l (IG_ K tl):=by subst hK;intro pins s σ H R I h;show thn (hl pins s σ H _ I h) λv s1 ⟨x,H1,I1,r1,q9⟩=>?_;obtain⟨a,e,⟨xs,hq⟩,q⟩:=dx_ q9;subst e;cases r1;obtain⟨its,rv,p,hz⟩:=I1.list hq;show BT_ p.isList ⟨s1.heap.objs.size,[s1.heap.objs.size],_,_,H1,rfl,I1.kept (t':=s1.toks) λb o e=>Aj_ _ e,Lf_ a _,⟨_,AC_ _ rfl,rfl,rfl⟩,λb hb=>?_,q⟩;cases Ad_.mp hb;show I1.fpOk (Ah_ _) (I1.hok.fresh (Ah_ _))
theorem oG_{N':List Str}{ix:List (Option Nat)}{scope:Scope}{tg iter elt:Expr}{ifs:List Expr}{wi:TI}{g:TG}{tt:TT}{te:TE}{pos:Pos}(hc:Qx X)(hxe:X.xe=λ_ _=>False)(S:Scp X.env.scope X.N N' ix scope)(hi:PIc Qx X tg iter wi)
  (hg:∀s H ex,PG (cxC X N' scope s H ex) tg g) (ht:∀s H ex,PF (cxC X N' scope s H ex) ifs tt) (he:∀s H ex,PE (cxC X N' scope s H ex) elt te) (hs:∀x,foldedSetIterable iter X.env x=pure x:=by intro _;rfl):PE X (.ListComp elt [⟨tg,iter,ifs,0⟩] scope pos) (H7_ ix wi g tt te):=by
 intro pins s σ H Q I h;rw[eval_ListComp];show Cq_ (use:=none) rfl hs (gb_ λp hp e=>I.ok.has p.1 (S.free p hp e)) S.kind S.names (hx_ (C:=Qx) (λ_ _ _=>hc) hxe S hi hg ht he I h λD C H' s' K1 ⟨g0,g1,g2,g3,g4,g5⟩ ⟨m,hn⟩ q=>⟨m,hn,λh' sb=>?_⟩);show⟨.ref D,H',K1.turned (t':=s'.toks) (λb o hb e=>sb.extBut b o hb e) g0 g1 g3 g4 g5,rfl,q⟩
abbrev Cx.suiteQ(X:Cx)(ea:Addr)(o:Obj):Cx:={X with A:=X.A.mark (some (.ref ea)),calm:=false,xe:=λ_ _=>False,pn:=[(ea,o)]}
theorem Inv.suiteQ{ea:Addr}{o:Obj}(I:Inv X pins σ H s)(h1:s.heap.get? ea=some o)(h2:H ea=none)(h3:ea≠X.env.locals)(h4:ea∉X.fs)(h5:IJ_ o):Inv (X.suiteQ ea o) pins σ H s :=
 ⟨⟨I.ok.mod,I.ok.kind,I.ok.glob,I.ok.blt,I.ok.above,I.ok.inj,I.ok.has,I.ok.cab,(λz=>nomatch z),I.ok.frames,I.ok.stk,I.ok.exf,I.ok.bs,I.ok.bsz,I.ok.noex,I.ok.exfs,I.ok.funs,I.ok.frf⟩,I.os,I.bare,I.base,I.loc,I.cell,I.free,I.freeC,λp hp=>(Aq_.mp hp).elim (λe=>by rw[e];show⟨h1,h2,h3,h4,λv q=>by obtain⟨vs,z,_⟩:=h5;rw[z]at q;cases q⟩) λz=>I.pin p (Aw_ _ z),I.hok,I.len⟩
theorem Inv.unsuiteQ{ea:Addr}{o:Obj}(J:Inv (X.suiteQ ea o) pins σ H s)(ok:X.Ok)(pn:X.pn=[]):Inv X pins σ H s :=
 ⟨ok,J.os,J.bare,J.base,J.loc,J.cell,J.free,J.freeC,λp hp=>J.pin p (Ak_ _ (by rw[pn]at hp;show hp)),J.hok,J.len⟩
def KI_(P:Program)(w:World)(K:PySem.W.Frag)(mg:Str->Option Value)(base:Heap)(C:Addr)(m:Str)(ps:List Str)(k:Nat)(sp:Sp):Prop :=
 ∃f fd,KH_ K C m f/\Gl_ K fd ps []/\GU_ P w K mg base CX0 k f fd ps sp
def Jt_(P:Program)(w:World)(K:PySem.W.Frag)(mg:Str->Option Value)(base:Heap)(C:Addr)(ps:List Str)(k:Nat)(sp:Sp):Prop :=
 ∃f fd,Mk K C f/\Gl_ K fd ps []/\GU_ P w K mg base (CXR P w) k f fd ps sp
def FnM(K:PySem.W.Frag)(C:Addr)(m qual:Str)(st:Stmt):Prop:=∃f fd,Fun K m qual st f fd/\KH_ K C m f
def FnI(K:PySem.W.Frag)(C:Addr)(qual:Str)(st:Stmt):Prop:=∃f fd,Fun K "__init__" qual st f fd/\Mk K C f
variable {P:Program}{K:PySem.W.Frag}{mg:Str->Option Value}{base:Heap}
theorem qo_{C:Addr}{m qual:Str}{st:Stmt}{N ps:List Str}{k:Nat}{sp:Sp}(F:FnM K C m qual st)(S:EU_ N ps (EL_ st))
  (hb:∀(kV doc pm:Value)(an:Option Addr)(cdv ct:Value)(us:List Value),us.length=ps.length->bindArgs (PySem.W.fnOf m qual (FR_ st) (Fs_ st) (EL_ st) .none kV doc pm an cdv ct) ⟨us,[]⟩=pure (ps.zip us))
  (len:∀vs H Q E,sp vs H Q E->vs.length=ps.length)
  (hbody:∀(f:Addr)(cdv:Value)(A:Around)(outer:List Env)(s:Shared)(H:Hp)(vs:List V)(Q:VK)(E:XK),F3_ k (A.deeper (envOfC qual (EL_ st) s.heap.objs.size f cdv))->sp vs H Q E ->
   ∃t,PSs (Hj_ CX0 P w K mg base N qual (EL_ st) f cdv A outer s H E).nox (Fs_ st) t/\t {nx:=λ_ H'=>Q .non H',rt:=Q} (start N vs) H):KI_ P w K mg base C m ps (k+1) sp:=by
 obtain⟨f,fd,F,m⟩:=F;show⟨f,fd,m,F.binds hb,F.ok S len λcdv A outer s H vs Q E=>hbody f cdv A outer s H vs Q E⟩
theorem qp_{C:Addr}{qual:Str}{st:Stmt}{N ps:List Str}{k:Nat}{sp:Sp}(F:FnI K C qual st)(S:EU_ N ps (EL_ st))
  (hb:∀(kV doc pm:Value)(an:Option Addr)(cdv ct:Value)(us:List Value),us.length=ps.length->bindArgs (PySem.W.fnOf "__init__" qual (FR_ st) (Fs_ st) (EL_ st) .none kV doc pm an cdv ct) ⟨us,[]⟩=pure (ps.zip us))
  (len:∀vs H Q E,sp vs H Q E->vs.length=ps.length)
  (hbody:∀(f:Addr)(cdv:Value)(A:Around)(outer:List Env)(s:Shared)(H:Hp)(vs:List V)(Q:VK)(E:XK),F3_ k (A.deeper (envOfC qual (EL_ st) s.heap.objs.size f cdv))->sp vs H Q E ->
   ∃t,PSs (Hj_ (CXR P w) P w K mg base N qual (EL_ st) f cdv A outer s H E) (Fs_ st) t/\t {nx:=λ_ H'=>Q .non H',rt:=Q} (start N vs) H):Jt_ P w K mg base C ps (k+1) sp:=by
 obtain⟨f,fd,F,m⟩:=F;show⟨f,fd,m,F.binds hb,?_⟩;obtain⟨oc,od,kV,doc,pm,an,cdv,ct,osl,rfl,lk,hcd⟩:=F.ex;show Jz_ lk hcd S len λA outer s H vs Q E hr hsp=>hbody f cdv A outer s H vs Q E hr hsp
def Ji_(C:Addr)(sp:Sp)(t:TA):TE:=λσ H Q=>t σ H λvs H1=>∀x dx,H1 x=none->H1 dx=none->dx≠x ->
 sp (.ref x::vs) (upd (upd H1 dx (.own x)) x (.ins C dx [])) (λv H2=>v=.non/\Q (.ref x) H2) E0
section
variable {C:Addr}{x m:Str}{ps:List Str}{k:Nat}{sp:Sp}{e o:Expr}{es:List Expr}{t:TA}{ta:TE}{p pos apos:Pos}
theorem GU_.calm{f:Addr}{fd:FuncData}(F:GU_ P w K mg base (CXR P w) k f fd ps sp):GU_ P w K mg base CX0 k f fd ps (λvs H Q _=>sp vs H Q E0):=by
 show⟨λvs H Q E h=>F.len vs H Q E0 h,λA outer s H args us vs Q E hr e0 hb r h=>?_⟩;show B1_ (F.run A outer s H args us vs Q E0 hr e0 hb r h) λr s' hq=>?_;cases r with
 |ok f =>
  cases f with
  |ret u=>show hq
  |next=>show hq
  |brk=>show hq
  |cont=>show hq
 |error e =>obtain⟨_,_,_,_,_,_,_,_,_,_,_,_,_,_,z⟩:=hq;show z.elim
theorem lx_(CI:Jt_ X.prog X.w X.K X.mg X.base C ps k sp)(hr:F3_ (k+1) X.A)(hg:Gl X x)(hm:X.mg x=some (.ref C))(ha:PA X (e::es) t)(hs:EY_ (e::es)=true:=by rfl) (hdb:(x == ("__debug__" : Str))=false:=by decide):
  PE X (.Call (.Name x p) (e::es) [] pos) (Ji_ C sp t):=by
 obtain⟨f,fd,M,b,F⟩:=CI;have h':FJ_ e=true/\EY_ es=true:=by simpa[EY_]using hs
 intro pins s σ H Q I h;show pS_ M F.calm hr hg hm b .nil JF_ (E:=E0) ha hdb (ax_ h'.1) (bu_ h'.2) pins s σ H Q I ?_;change t σ H _;have e:∀vs:List V,vs++[]=vs:=λvs=>A6_ vs;simp only[e];show h
def Ia_(C:Addr)(m:Str)(sp:Sp)(ta:TE):TE:=λσ H Q=>ta σ H λx H1=>∃a dx fs,x=.ref a/\H1 a=some (.ins C dx fs)/\fs.lookup m=none/\sp [x] H1 Q E0
theorem ly_{pl:Sem Bool}(CM:KI_ X.prog X.w X.K X.mg X.base C m ps k sp)(c:Cls X.K C)(hr:F3_ k X.A)(he:PE X o ta)
  (ht:eval (.Call (.Attribute o m apos) [] [] pos) X.env=(do
   let ov <-eval o X.env
   standAt apos.atName
   let(f,first) <-holding [ov] (getMethod ov m pl)
   callWith pos f first (backTo pos (starEach [] X.env)) (backToKw pos (keywordEach [] X.env))):=by rfl):PE X (.Call (.Attribute o m apos) [] [] pos) (Ia_ C m sp ta):=by
 obtain⟨f,fd,M,b,F⟩:=CM;intro pins s σ H Q I h;show n4_ (pl:=pl) he c M F hr b .nil JF_ ht pins s σ H Q I h
structure G8_(C:Addr) where
 ea:Addr
 o:Obj
 rok:IJ_ o
 cls:o.cls=.ref C
def Jg_(K:PySem.W.Frag)(CB Py:Addr)(sp:Sp)(ta:TA)(i:Nat)(ts:∀C:Addr,G8_ C->TS):TS:=λD σ H=>ta σ H λvs H1=>∀x dx,H1 x=none->H1 dx=none->dx≠x ->
 sp (.ref x::vs) (upd (upd H1 dx (.own x)) x (.ins CB dx [])) (λ_ _=>False) λc _ H2=>∃C,c=.ref C/\PySem.W.mroIn K C (.ref Py)=some true/\∀q:G8_ C,H2 q.ea=none->ts C q (D.unb i) (σ.set i (some (.ref q.ea))) H2
theorem kz_{E:XK}{e₀:Expr}{cpos:Pos}{CB:Addr}{pins:List (Addr×Obj)}{σ:St}{H:Hp}{s:Shared}{EE:Value->Shared->Prop}{Q:Value->Shared->Prop}
  (CI:Jt_ X.prog X.w X.K X.mg X.base CB ps k sp) (hr:F3_ (k+1) X.A) (hg:Gl X x) (hm:X.mg x=some (.ref CB)) (ha:PA (X.wish EE) (e₀::es) t) (I:Inv X pins σ H s)
  (h:t σ H λvs H1=>∀x dx,H1 x=none->H1 dx=none->dx≠x->sp (.ref x::vs) (upd (upd H1 dx (.own x)) x (.ins CB dx [])) (λ_ _=>False) E)
  (hE:∀H1 s1 e s',Inv X pins σ H1 s1->CXR X.prog X.w X.stack H1 s1 E e s'->EE e s') (hdb:(x == ("__debug__" : Str))=false) (he:starEach (e₀::es) X.env=(false,eval e₀ X.env)::starEach es X.env) (hpl:(backTo cpos (starEach es X.env)).any (·.1)=false):
  wpAny (model X.prog X.w) X.A (eval (.Call (.Name x p) (e₀::es) [] cpos) X.env) Q EE s:=by
 obtain⟨f,fd,M,hb,F⟩:=CI;show BK_ (ga_ I hg hm ?_ hdb);show PySem.W.callWith_K (h₀:=X.base) I.ok.mod.kin M.kp ?_ he hpl;have z:=ha cpos pins s σ H _ (I.wish EE) h;show thn z λus s1 z1=>?_;obtain⟨vs,H1,I1,r,hq0⟩:=z1;show⟨I1.kIn,?_⟩
 replace I1:Inv X pins σ H1 s1:=I1.unwish
 have hq:=hq0 (s1.heap.objs.size+1) s1.heap.objs.size (I1.hok.fresh (Cn_ _)) (I1.hok.fresh (Ah_ _)) (AE_ (B3_ _));have I2:=Inv.made (C:=CB) I1;have r2:Fe_ (V.ref (s1.heap.objs.size+1)::vs) (Value.ref (s1.heap.objs.size+1)::(us++[])):=.cons rfl (by rw[A6_];show r);have hl:(Value.ref (s1.heap.objs.size+1)::us++[]).length=ps.length:=by have e:=r2.length;rw[F.len _ _ _ _ hq]at e;show e.symm
 have hb':=hb _ (Value.ref (s1.heap.objs.size+1)::us) I2.kIn hl;rw[Bt_]at hb'
 show wpAny_call (k4_ (f:=f) I1.kIn M.makes M.init (beq_iff_eq.mp M.fn) (B1_ (F.run _ X.stack _ _ ⟨Value.ref (s1.heap.objs.size+1)::us,[]⟩ (Value.ref (s1.heap.objs.size+1)::(us++[])) _ _ _ (hr.make CB us [])
  (I2.env0.make CB us []) hb' r2 hq) λres s' hq'=>?_))
 cases res with
 |ok fl =>
  cases fl with
  |ret u=>obtain⟨_,_,_,_,_,_,_,z⟩:=hq';show z.elim
  |next=>show False.elim hq'
  |brk=>show False.elim hq'
  |cont=>show False.elim hq'
 |error e=>show hE _ _ e s' I2 hq'
theorem oH_{y n:Str}{i:Nat}{e₀:Expr}{ta:TA}{more suite:List Stmt}{b₀:Stmt}{ts:∀C:Addr,G8_ C->TS}{cpos epos np hpos:Pos}{Py CB:Addr}
  (CI:Jt_ X.prog X.w X.K X.mg X.base CB ps k sp) (hr:F3_ (k+1) X.A) (hg:Gl X x) (hm:X.mg x=some (.ref CB)) (hst:X.stack=X.env::X.outer) (hfr:X.env.frame=some X.env.locals) (hpn:X.pn=[]) (hy:X.mg y=some (.ref Py)) (HC:HnC X.K Py) (hgy:Gl X y)
  (hN:X.N.Nodup) (hi:X.N[i]?=some n) (hn:X.env.scope.names.lookup n=some .local) (ha:∀EE,PA (X.wish EE) (e₀::es) ta) (hs:∀(C:Addr)(q:G8_ C),Qx (X.suiteQ q.ea q.o)->PSs (X.suiteQ q.ea q.o) (b₀::suite) (ts C q))
  (hdb:(x == ("__debug__" : Str))=false:=by decide) (hdy:(y == ("__debug__" : Str))=false:=by decide) (hsw:swapsWith (.Call (.Name x p) (e₀::es) [] cpos) none epos.line X.env=pure false:=by rfl)
  (he:starEach (e₀::es) X.env=(false,eval e₀ X.env)::starEach es X.env:=by rfl) (hpl:(backTo cpos (starEach es X.env)).any (·.1)=false:=by rfl):
  PS X (.Try (.Expr (.Call (.Name x p) (e₀::es) [] cpos) epos::more) [.ExceptHandler (some (.Name y np)) (some n) (b₀::suite) hpos] [] [] pos) (Jg_ X.K CB Py sp ta i ts):=by
 intro pins s σ H D I h;show wpAny_Try_except (wpAny_execs_cons (wpAny_Expr_any (kz_ CI hr hg hm (ha _) I h ?_ hdb he hpl) I.quiet hsw));intro H1 s1 e s' I1 hq;obtain⟨ea,C0,a0,B,H',rfl,os,bare,un,hok,fl,new,b1,b2,C,rfl,hsub,hts⟩:=hq;have fl':Fly B (X.env::X.outer) ea (.ref C) a0 s'.heap:=hst▸fl;show jy_ (L:=X.env.locals) (by rw[I.ok.frames,hst]) hfr fl' λh₄ hd₄ sm₄=>?_;show fA_ hd₄ λh₅ fl₅ sm₅=>?_;obtain⟨un5,ok5⟩:=ha_ un hok fl.1 fl₅.1 fl.2.2.1 (sm₄.trans sm₅) b1 b2;have I5:Inv X pins σ H' {s' with heap:=h₅}:=I1.call' (s':={s' with heap:=h₅}) os un5 ok5 bare (λb z=>nomatch z);show wpAny_handleBy_cons (codeAny_handlers_test ?_) (by intro q;cases q);show ga_ (X:=X.suite (.ref ea)) (I5.suite _) hgy hy ?_ hdy;show kq_ (K:=X.K) I5.kIn HC hsub fl₅.there ?_;show codeAny_handlers_suite_as ?_;show fA_ fl₅ λh₆ fl₆ sm₆=>?_;obtain⟨un6,ok6⟩:=ha_ un hok fl.1 fl₆.1 fl.2.2.1 ((sm₄.trans sm₅).trans sm₆) b1 b2;have I7:Inv X pins σ H' {s' with heap:=h₆}:=I1.call' (s':={s' with heap:=h₆}) os un6 ok6 bare (λb z=>nomatch z);obtain⟨o,vs',g1,g2,g3⟩:=fl₆.2.2.2.2;have hcls:o.cls=.ref C:=by obtain⟨ob,h1,h2⟩:=fl₆.there;rw[g1]at h1;cases h1;show h2
 have hne:H' ea=none:=by
  cases q:H' ea with
  |none=>rfl
  |some z=>obtain⟨u,hu⟩:=b2 ea z q;rw[fl.2.1]at hu;cases hu
 have nf:∀b∈(X.env::X.outer).filterMap (·.frame),ea≠b:=λb hb z=>by obtain⟨_,o',q,nf⟩:=fl₆.2.2.1.mem hb;rw[<-z,g1]at q;cases q;show nf _ g2
 have lf:X.env.locals∈(X.env::X.outer).filterMap (·.frame):=by rw[B5_,hfr];show An_
 have of_:∀b∈X.fs,b∈(X.env::X.outer).filterMap (·.frame):=λb hb=>by rw[B5_,hfr];show Ak_ _ hb
 have ro:IJ_ o:=⟨vs',g2,g3⟩;have IQ:=I7.suiteQ g1 hne (nf _ lf) (λz=>nf _ (of_ _ z) rfl) ro;show fx_ (X:=X.suiteQ ea o) IQ hN hi (.inl hn) (v:=.ref ea) rfl (λs₈ I8=>?_) (.inr hn);show Bl_ (hs C ⟨ea,o,ro,hcls⟩ (.inr ⟨ea,o,rfl,Ad_.mpr rfl,ro⟩) pins s₈ _ _ (D.unb i) I8 (hts ⟨ea,o,ro,hcls⟩ hne)) (λfw s₉ q=>?_) λ_ _ z=>z.elim;change wpAny _ _ (do bindName X.env n .none;unbindBehindTheSuite X.env n hpos) _ _ s₉;cases fw with
 |next=>obtain⟨σ',H9,J,d⟩:=q;show iB_ (J.unsuiteQ I.ok hpn) hN hi hn λs' J'=>⟨_,_,J',d⟩
 |brk=>obtain⟨σ',H9,J,d⟩:=q;show iB_ (J.unsuiteQ I.ok hpn) hN hi hn λs' J'=>⟨_,_,J',d⟩
 |cont=>obtain⟨σ',H9,J,d⟩:=q;show iB_ (J.unsuiteQ I.ok hpn) hN hi hn λs' J'=>⟨_,_,J',d⟩
 |ret u=>obtain⟨v,σ',H9,J,rv,d⟩:=q;show iB_ (J.unsuiteQ I.ok hpn) hN hi hn λs' J'=>⟨v,_,_,J',rv,d⟩
end
def JO_(K:PySem.W.Frag)(C ea:Addr):List V->Hp->VK->Prop:=λxs H Q=>∃(D:Addr)(b:Bool),xs=[.ref ea,.ref D]/\Js_ K C/\PySem.W.kitOne K (.ref C) (.ref D)=some b/\Q (.bl b) H
theorem hQ_(hK:X.K=K){C:Addr}(q:G8_ C)(hq:(q.ea,q.o)∈X.pn):FE_ X (.builtin "isinstance") (JO_ K C q.ea):=by subst hK;intro pins s σ H xs us Q I r h;obtain⟨D,b,rfl,KE,e,z⟩:=h;obtain⟨u,w',rfl,rx,ry⟩:=Gz_ r;cases(show u=Value.ref q.ea from rx);cases(show w'=Value.ref D from ry);have ob:Jn_ q.ea (.ref C) s.heap:=⟨q.o,(I.pin (q.ea,q.o) (AB_ _ hq)).1,q.cls⟩;show PySem.W.kia_one (oi_ KE) I.kIn ob e (by intro z;cases z) λtk=>⟨.bl b,H,I.tok tk,rfl,z⟩
open PySem.W
def noD(D:Addr)(H:Hp):Hp:=λb=>if b=D then none else H b
theorem fO_{D b:Addr}(h:b≠D):noD D H b=H b:=if_neg h
theorem lz_{D:Addr}:EM_ (noD D H) H:=λb o e=>by
 unfold noD at e;split at e
 .cases e
 .show e
theorem ns_{D:Addr}{o:HO}:noD D (upd H D o)=noD D H:=by
 funext b;unfold noD;by_cases h:b=D
 .rw[if_pos h,if_pos h]
 .rw[if_neg h,if_neg h,af_ h]
theorem rp_{D:Addr}{H':Hp}(s:EM_ H H')(h:H D=none):EM_ H (noD D H'):=λb o e=>by rw[fO_ (ae_ e h)];show s _ _ e
theorem jQ_{J:It}{g:TG}{tt:TT}{te:TE}{σ:St}{H:Hp}{Q:VK}(n:Nat)(Pσ:St->Prop)(Pv:Nat->List V->Hp->Prop)(h0:Pσ σ)(hz:n<=1000)(p0:Pv 0 [] H)(mono:∀i vs H1 H2,EM_ H1 H2->Pv i vs H1->Pv i vs H2)(len:∀i vs H1,Pv i vs H1->vs.length<=i)
  (hgo:∀i H',i<n->EM_ H H'->J.go i H') (hst:∀H',EM_ H H'->J.stop n H')
  (hs:∀D i x σ' H' H'' vs,H D=none->(∃o,H' D=some o)->EM_ H H'->i<n->J.yld i H' x H''->Pσ σ'->Pv i vs (noD D H')->∀(Y:St->V->Hp->Prop)(R:St->Hp->Prop),(∀v σ2 H3,Pσ σ2->EM_ H' H3->Pv (i+1) (vs++[v]) (noD D H3)->Y σ2 v H3)->(∀σ2 H3,Pσ σ2->EM_ H' H3->Pv (i+1) vs (noD D H3)->R σ2 H3) ->
   g x σ' H'' λσ2 H2=>tt σ2 H2 λb H3=>if b=true then te σ2 H3 λv H4=>Y σ2 v H4 else R σ2 H3)
  (hd:∀D H' vs,H D=none->EM_ H H'->H' D=some (.lst vs)->Pv n vs (noD D H')->Q (.ref D) H'):Hy_ J g tt te σ H Q:=by
 intro D hD;show⟨λi m σ' H'=>m=n-i/\i<=n/\Pσ σ'/\EM_ H H'/\∃vs,H' D=some (.lst vs)/\Pv i vs (noD D H'),⟨n,s_,AP_ _,h0,EM_.new hD,[],ab_,mono _ _ _ _ (by rw[ns_];show rp_ (λ_ _ e=>e) hD) p0⟩,?_⟩;rintro i m σ' H' ⟨rfl,hi,hp,hs',vs,hDD,pv⟩;by_cases hlt:i<n
 .show .inr ⟨hgo i H' hlt hs',λσ2 H2=>Pσ σ2/\EM_ H H2/\∃vs,H2 D=some (.lst vs)/\Pv (i+1) vs (noD D H2),λσ2 H2 ⟨a,b,c⟩=>⟨n-(i+1),o_,rfl,hlt,a,b,c⟩,λx H'' hy=>?_⟩;show hs D i x σ' H' H'' vs hD ⟨_,hDD⟩ hs' hlt hy hp pv _ _ (λv σ2 H3 hp2 s3 pv3=>?_) λσ2 H3 hp2 s3 pv3=>?_
  .show⟨_,s3 _ _ hDD,?_,hp2,(hs'.trans s3).upd hD,_,ab_,by rw[ns_];show pv3⟩;have:=len _ _ _ pv;show EN_ o_
  .show⟨hp2,hs'.trans s3,vs,s3 _ _ hDD,pv3⟩
 .have e:i=n:=o_
  subst e;show .inl ⟨hst H' hs',hd D H' vs hD hs' hDD pv⟩
def Ju_:List V->Hp->VK->Prop:=λvs H Q=>∃(d:Addr)(kvs:List (Key×V))(ns:List Str),vs=[.ref d]/\H d=some (.dK kvs)/\kvs.map (λq=>q.1)=ns.map (λn=>(Sum.inr n:Key))/\ns.length<900 /\
 ∀l,H l=none->Q (.ref l) (upd H l (.lst (ns.map V.str)))
theorem kA_(hc:X.calm=true):FE_ X (.type "list") Ju_:=by
 intro pins s σ H xs us Q I r h;obtain⟨d,kvs,ns,rfl,hd,hk,h64,q⟩:=h;obtain⟨u,rfl,e⟩:=FU_ r;cases e;obtain⟨hsz,hsys,vs,rel,dd⟩:=HL_ I.hok hd;obtain⟨m,hn,F0⟩:=I.frm;obtain⟨ep,hat⟩:=dd.dictAt;have hl:kvs.length=vs.length:=rel.length;have hl2:kvs.length=ns.length:=by simpa using congrArg List.length hk
 show kdl_N (kdl_dict (knd:=E1_ X.prog X.w) (kvs:=vs) (ep:=ep) hsys) (I.ok.hd hc) F0 fw_ hat o_ ?_;intro D c h' tk us F N l1 hlu hv
 have hS:StrsAre us ns:=fe_ o_ λj v n ev en=>by
  obtain⟨k,x,ekx,kis⟩:=hv j v ev;have hj:j<ns.length:=(Al_.mp en).1;obtain⟨e1,_⟩:=eX_ rel (Aa_ (show j<kvs.length by lia)) ekx;have e2:(kvs.map (λq=>q.1))[j]?=(ns.map (λn=>(Sum.inr n:Key)))[j]?:=by rw[hk]
  rw[Ag_,Ag_,en,Aa_ (show j<kvs.length by lia)]at e2;have e3:k=Sum.inr n:=e1.symm.trans (At_ e2);subst e3;have kis':G9_ (Sum.inr n) v=true:=kis
  rcases aV_ kis' with⟨i,t,ek,ev⟩|⟨y,t,ek,ev⟩
  .cases ek
  .cases ek;show⟨t,ev⟩
 have hD:=(N (D,_) An_).1;obtain⟨HD,I2⟩:=I.led_new (t':=tk) (o:=.lst (ns.map V.str)) hn F N l1 ⟨AO_ (EN_ (by rw[Ab_];lia)),us,c,ev_ hS,hD⟩;show⟨.ref D,_,I2,rfl,q D HD⟩
end L2
namespace RimT
variable {S:Type}[DecidableEq S]
def Adj(N:Net S)(x y:S):Prop:=∃r1∈N.rows,∃r2∈N.rows,r1.1=x/\r2.1=y/\∃w,w∈r1.2/\w∈r2.2
inductive Rch(N:Net S):S->Prop
 |post {x}:x∈N.posts->Rch N x
 |step {x y}:Rch N x->Adj N x y->Rch N y
structure G2_(N:Net S)(A:List S):Prop where
 nd:A.Nodup
 rch:∀x∈A,Rch N x
 po:∀x∈N.posts,x∈A
 cl:∀x y,x∈A->Adj N x y->y∈A
theorem G2_.all{N:Net S}{A:List S}(h:G2_ N A){x:S}(r:Rch N x):x∈A:=by
 induction r with
 |post hx=>show h.po _ hx
 |step _ a ih=>show h.cl _ _ ih a
theorem oI_{N:Net S}{A B:List S}(a:G2_ N A)(b:G2_ N B):A.length=B.length :=
 (bw_ a.nd b.nd λx=>⟨λh=>b.all (a.rch x h),λh=>a.all (b.rch x h)⟩).length_eq
theorem nt_{N:Net S}(po:EZ_ N){x:S}(r:Rch N x):x∈N.rows.map (·.1):=by
 cases r with
 |post h=>show po.pin x h
 |step _ a =>obtain⟨_,_,r2,h2,_,e2,_⟩:=a;show Ai_.mpr ⟨r2,h2,e2⟩
def Two(N:Net S)(a b:End S):Prop:=∃kv∈E8_ N,kv.2=[a,b]\/kv.2=[b,a]
theorem iS_{N:Net S}{w:S}{a:End S}(h:(w,a)∈occ N.rows):∃kv∈E8_ N,kv.1=w/\a∈kv.2:=by obtain⟨_,h2,h3,_⟩:=aU_ _ (occ N.rows) rfl;obtain⟨kv,hkv,ekv⟩:=h3 _ h;have ekv':kv.1=w:=ekv;show⟨kv,hkv,ekv',?_⟩;rw[h2 kv hkv];show Ai_.mpr ⟨_,Bq_.mpr ⟨h,by simp[ekv']⟩,rfl⟩
theorem pw_{N:Net S}(ok:Fi_ N){r:S×List S}(hr:r∈N.rows){k:Nat}(hk:k<r.2.length):∃e,Two N (r.1,k) e/\Adj N r.1 e.1:=by
 have ho:(r.2[k],((r.1,k):End S))∈occ N.rows:=gj_.mpr ⟨r,hr,rfl,Aa_ hk⟩;obtain⟨kv,hkv,ekv,ha⟩:=iS_ ho;obtain⟨a,b,eab⟩:=iM_ ok hkv;have adj:∀e,e∈kv.2->Adj N r.1 e.1:=λe he=>by obtain⟨r2,h2,e1,e2⟩:=gj_.mp (lj_ hkv he);show⟨r,hr,r2,h2,rfl,e1,r.2[k],A3_ hk,?_⟩;have:r2.2[e.2]?=some kv.1:=e2;rw[ekv]at this;show Am_ this
 rw[eab]at ha
 rcases Aq_.mp ha with h|h
 .show⟨b,⟨kv,hkv,.inl (by rw[eab,h])⟩,adj b (by rw[eab];simp)⟩
 .rw[Ad_]at h;show⟨a,⟨kv,hkv,.inr (by rw[eab,h])⟩,adj a (by rw[eab];simp)⟩
theorem qq_{N:Net S}(ok:Fi_ N){x y:S}(h:Adj N x y):y=x\/∃r∈N.rows,r.1=x/\∃k,k<r.2.length/\∀e,Two N (x,k) e->e.1=y:=by
 obtain⟨r1,h1,r2,h2,e1,e2,w,w1,w2⟩:=h;obtain⟨k,hk,ek⟩:=As_.mp w1;obtain⟨j,hj,ej⟩:=As_.mp w2;have o1:(w,((x,k):End S))∈occ N.rows:=gj_.mpr ⟨r1,h1,e1,by rw[<-ek];show Aa_ hk⟩;have o2:(w,((y,j):End S))∈occ N.rows:=gj_.mpr ⟨r2,h2,e2,by rw[<-ej];show Aa_ hj⟩;by_cases same:((y,j):End S)=(x,k)
 .show .inl (congrArg (λe:End S=>e.1) same)
 .show .inr ⟨r1,h1,e1,k,hk,λe te=>?_⟩;obtain⟨kv,hkv,ekv⟩:=te;have hin:((x,k):End S)∈kv.2:=by rcases ekv with z|z <;> rw[z] <;> simp
  obtain⟨kv2,hkv2,e22,hy⟩:=iS_ o2;obtain⟨kv1,hkv1,e11,hx⟩:=iS_ o1;have k1:kv.1=w:=(gg_ ok hkv hkv1 hin hx).trans e11;obtain⟨_,s2,_,_⟩:=aU_ _ (occ N.rows) rfl;have ee:kv2.2=kv.2:=by rw[s2 kv2 hkv2,s2 kv hkv,e22,k1]
  rw[ee]at hy
  rcases ekv with z|z
  .rw[z]at hy
   rcases Aq_.mp hy with h|h
   .show absurd h same
   .rw[<-Ad_.mp h]
  .rw[z]at hy
   rcases Aq_.mp hy with h|h
   .rw[<-h]
   .show absurd (Ad_.mp h) same
theorem qr_{N:Net S}(ok:Fi_ N){a b c:End S}(h1:Two N a b)(h2:Two N a c):b=c:=by
 obtain⟨k1,m1,e1⟩:=h1;obtain⟨k2,m2,e2⟩:=h2;have i1:a∈k1.2:=by rcases e1 with z|z <;> rw[z] <;> simp
 have i2:a∈k2.2:=by rcases e2 with z|z <;> rw[z] <;> simp
 have ek:=gg_ ok m1 m2 i1 i2;obtain⟨_,s2,_,_⟩:=aU_ _ (occ N.rows) rfl;have ee:k1.2=k2.2:=by rw[s2 k1 m1,s2 k2 m2,ek]
 rcases e1 with z|z <;> rcases e2 with y|y <;> rw[z,y]at ee
 .show(BY_ (BY_ ee).2).1
 .obtain⟨q1,q2⟩:=BY_ ee;have q3:=(BY_ q2).1;rw[q3,q1]
 .obtain⟨q1,q2⟩:=BY_ ee;have q3:=(BY_ q2).1;rw[q1,q3]
 .show(BY_ ee).1
section
variable {α:Type}[DecidableEq α]
theorem jR_{T:List (List α)}{P W:Nat}{c:Nat×Nat}{a b:α}(ic:IsC T P c)(h:Pl P W T):Pl P W (EP_ (EP_ (EP_ (EP_ T c a) c b) c a) c b):=by
 obtain⟨L,hL,perm,cnt⟩:=h;have i1:IsC (EP_ T c a) P c:=(cP_ ic).mpr (.inl rfl);have i2:IsC (EP_ (EP_ T c a) c b) P c:=(cP_ i1).mpr (.inl rfl);have i3:IsC (EP_ (EP_ (EP_ T c a) c b) c a) P c:=(cP_ i2).mpr (.inl rfl);have k0:=fM_ ic;have k1:=fM_ i1;have k2:=fM_ i2;have k3:=fM_ i3;generalize hT1:EP_ T c a=T1 at*;generalize hT2:EP_ T1 c b=T2 at*;generalize hT3:EP_ T2 c a=T3 at*;generalize hT4:EP_ T3 c b=T4 at*;have s1:∀x,IsC T P x->IsC T1 P (fs c x):=λx ix=>by rw[<-hT1];show(cP_ ic).mpr (.inr ⟨x,ix,rfl⟩)
 have s2:∀x,IsC T1 P x->IsC T2 P (fs c x):=λx ix=>by rw[<-hT2];show(cP_ i1).mpr (.inr ⟨x,ix,rfl⟩)
 have s3:∀x,IsC T2 P x->IsC T3 P (fs c x):=λx ix=>by rw[<-hT3];show(cP_ i2).mpr (.inr ⟨x,ix,rfl⟩)
 have go:∀x y,IsC T P x->Nx T P x y->Nx T4 P (fs c (fs c (fs c (fs c x)))) (ft c (ft c (ft c (ft c y)))):=λx y ix n=>by have n1:=hP_ (w:=a) ic ix n;rw[hT1]at n1;have n2:=hP_ (w:=b) i1 (s1 x ix) n1;rw[hT2]at n2;have n3:=hP_ (w:=a) i2 (s2 _ (s1 x ix)) n2;rw[hT3]at n3;have n4:=hP_ (w:=b) i3 (s3 _ (s2 _ (s1 x ix))) n3;rw[hT4]at n4;show n4
 have F1:∀x:Nat×Nat,x.1=c.1->c.2<=x.2->fs c x=(x.1,x.2+1):=λx h1 h2=>by unfold fs;rw[if_pos ⟨h1,h2⟩]
 have Fc:fs c c=(c.1,c.2+1):=F1 c rfl (Ah_ _);have Fc2:fs c (c.1,c.2+1)=(c.1,c.2+2):=F1 _ rfl (by change c.2<=c.2+1;lia);have Fc3:fs c (c.1,c.2+2)=(c.1,c.2+3):=F1 _ rfl (by change c.2<=c.2+2;lia);have Fc4:fs c (c.1,c.2+3)=(c.1,c.2+4):=F1 _ rfl (by change c.2<=c.2+3;lia);have Gc:ft c c=c:=fN_ (.inr (Ah_ _));have eF:∀x,x≠c->ft c (ft c (ft c (ft c x)))=fs c (fs c (fs c (fs c x))):=λx h=>by rw[<-GV_ h,<-GV_ (It_ c x),<-GV_ (It_ c _),<-GV_ (It_ c _)]
 have w0:wi T4 c=some b:=by rw[<-hT4];show fg_ i3.1 k3
 have w3':wi T3 c=some a:=by rw[<-hT3];show fg_ i2.1 k2
 have w2':wi T2 c=some b:=by rw[<-hT2];show fg_ i1.1 k1
 have w1':wi T1 c=some a:=by rw[<-hT1];show fg_ ic.1 k0
 have w1:wi T4 (c.1,c.2+1)=some a:=by rw[<-Fc,<-hT4];show fL_ i3.1 w3' k3
 have w2:wi T4 (c.1,c.2+2)=some b:=by
  have:wi T3 (fs c c)=some b:=by rw[<-hT3];show fL_ i2.1 w2' k2
  have:=fL_ (w:=b) i3.1 this k3;rw[hT4,Fc,Fc2]at this;show this
 have w3:wi T4 (c.1,c.2+3)=some a:=by
  have:wi T2 (fs c c)=some a:=by rw[<-hT2];show fL_ i1.1 w1' k1
  have:=fL_ (w:=a) i2.1 this k2;rw[hT3]at this;have:=fL_ (w:=b) i3.1 this k3;rw[hT4,Fc,Fc2,Fc3]at this;show this
 have r4:rl T4 c.1=rl T c.1+4:=by rw[<-hT4,ez_ i3.1,<-hT3,ez_ i2.1,<-hT2,ez_ i1.1,<-hT1,ez_ ic.1];simp
 have lc:P<=c.1->c.2<rl T c.1:=λh=>by have:=ic.2;rw[if_neg o_]at this;show this
 have nxt:∀(x m:Nat×Nat)(v:α),x≠m->wi T4 x=some v->wi T4 m=some v->m.1=c.1->m.2<=c.2+3->Nx T4 P x (m.1,m.2+1):=λx m v ne h1 h2 h3 h4=>by
  show .inr ⟨(FN_ h1).1,m,⟨ne,v,h1,h2⟩,?_⟩;split
  .rfl
  .rename_i h;have:=lc (by rw[<-h3];lia);rw[h3,r4,Nat.mod_eq_of_lt o_]
 have pne:∀{i j:Nat},i≠j->((c.1,i):Nat×Nat)≠(c.1,j):=λh z=>h (BG_ z).2;have ec:c=(c.1,c.2):=rfl;have n0:Nx T4 P c (c.1,c.2+3):=nxt c (c.1,c.2+2) b (by rw[ec];show pne o_) w0 w2 rfl (by change c.2+2<=_;lia);have n1:Nx T4 P (c.1,c.2+1) (c.1,c.2+4):=nxt _ (c.1,c.2+3) a (pne o_) w1 w3 rfl (by change c.2+3<=_;lia);have n2:Nx T4 P (c.1,c.2+2) (c.1,c.2+1):=nxt _ c b (by rw[ec];show pne o_) w2 w0 rfl o_;have n3:Nx T4 P (c.1,c.2+3) (c.1,c.2+2):=nxt _ (c.1,c.2+1) a (pne o_) w3 w1 rfl (by change c.2+1<=_;lia);have hcl:c∈L.flatten:=perm.mem_iff.mpr (ak_.mpr ic);obtain⟨l,hl,hcl⟩:=AX_.mp hcl;have pL:L.Perm (l::L.erase l):=List.perm_cons_erase hl;have len0:=pL.length_eq;rw[AF_]at len0;have hL':∀m∈L.erase l,Cyl (Nx T P) m:=λm hm=>hL m (List.mem_of_mem_erase hm);have perm':(l++(L.erase l).flatten).Perm (corners T P):=by have:=dB_ pL;rw[AR_]at this;show this.symm.trans perm
 generalize L.erase l=M at*;have nd':=perm'.nodup_iff.mpr (aP_ T P);have isl:∀x∈l,IsC T P x:=λx hx=>ak_.mp (perm'.mem_iff.mp (AB_ _ hx))
 have lkm:∀{m:List (Nat×Nat)}{x y:Nat×Nat},(∀z∈x::m,IsC T P z)->(∀z∈m,z≠c)->Lk (Nx T P) x m y->Lk (Nx T4 P) (fs c (fs c (fs c (fs c x)))) (m.map λz=>fs c (fs c (fs c (fs c z)))) (ft c (ft c (ft c (ft c y)))):=by
  intro m
  induction m with
  |nil=>show λ{x y} i _ k=>go x y (i x An_) k
  |cons z m ih =>intro x y i e k;show⟨?_,ih (λq hq=>i q (Ak_ _ hq)) (λq hq=>e q (Ak_ _ hq)) k.2⟩;have:=go x z (i x An_) k.1;rw[eF z (e z An_)]at this;show this
 obtain⟨r,k,pr⟩:=Lk.rot (hL l hl) hcl;have ndr:=pr.nodup_iff.mpr (AA_.mp nd').1;have q1:=lkm (λz hz=>isl z (pr.mem_iff.mp hz)) (λz hz q=>(AM_.mp ndr).1 (q▸hz)) k;rw[Gc,Gc,Gc,Gc,Fc,Fc2,Fc3,Fc4]at q1
 have pc:(corners T4 P).Perm (c::(c.1,c.2+1)::(c.1,c.2+2)::(c.1,c.2+3)::(corners T P).map λz=>fs c (fs c (fs c (fs c z)))):=by
  have c1:(corners T1 P).Perm (c::(corners T P).map (fs c)):=by rw[<-hT1];show bJ_ ic
  have c2:(corners T2 P).Perm (c::(corners T1 P).map (fs c)):=by rw[<-hT2];show bJ_ i1
  have c3:(corners T3 P).Perm (c::(corners T2 P).map (fs c)):=by rw[<-hT3];show bJ_ i2
  have c4:(corners T4 P).Perm (c::(corners T3 P).map (fs c)):=by rw[<-hT4];show bJ_ i3
  have d2:=c2.trans ((c1.map (fs c)).cons c);rw[Az_,AZ_,Fc]at d2;have d3:=c3.trans ((d2.map (fs c)).cons c);rw[Az_,Az_,AZ_,Fc,Fc2]at d3;have d4:=c4.trans ((d3.map (fs c)).cons c);rw[Az_,Az_,Az_,AZ_,Fc,Fc2,Fc3]at d4;show d4
 show⟨((c.1,c.2+4)::(r.map (λz=>fs c (fs c (fs c (fs c z))))++[c,(c.1,c.2+3),(c.1,c.2+2),(c.1,c.2+1)]))::M.map λm=>m.map λz=>fs c (fs c (fs c (fs c z))),λm hm=>?_,?_,?_⟩
 .rcases Aq_.mp hm with rfl|hm
  .show⟨_,_,rfl,?_⟩;rw[Lk.app];show⟨q1,n0,n3,n2,n1⟩
  .obtain⟨m',hm',rfl⟩:=Ai_.mp hm;obtain⟨x,r',e,k'⟩:=hL' m' hm';have im:∀z∈m',IsC T P z/\z≠c:=λz hz=>by have hz':z∈M.flatten:=AX_.mpr ⟨m',hm',hz⟩;show⟨ak_.mp (perm'.mem_iff.mp (Aw_ _ hz')),λq=>(AA_.mp nd').2.2 c hcl z hz' q.symm⟩
   subst e;show⟨_,_,rfl,?_⟩;have:=lkm (λz hz=>(im z hz).1) (λz hz=>(im z (Ak_ _ hz)).2) k';rw[eF x (im x An_).2]at this;show this
 .show List.Perm.trans ?_ pc.symm;rw[AR_];have fm:(M.map λm=>m.map λz=>fs c (fs c (fs c (fs c z)))).flatten=M.flatten.map λz=>fs c (fs c (fs c (fs c z))):=List.map_flatten.symm;rw[fm]
  have q:((c.1,c.2+4)::(r.map (λz=>fs c (fs c (fs c (fs c z))))++[c,(c.1,c.2+3),(c.1,c.2+2),(c.1,c.2+1)])).Perm (c::(c.1,c.2+1)::(c.1,c.2+2)::(c.1,c.2+3)::l.map λz=>fs c (fs c (fs c (fs c z)))):=by
   have h1:([c,(c.1,c.2+1),(c.1,c.2+2),(c.1,c.2+3)]++(c::r).map λz=>fs c (fs c (fs c (fs c z)))).Perm ([c,(c.1,c.2+1),(c.1,c.2+2),(c.1,c.2+3)]++l.map λz=>fs c (fs c (fs c (fs c z)))):=(pr.map _).append_left _;show List.Perm.trans ?_ h1;have e1:(c.1,c.2+4)::(r.map (λz=>fs c (fs c (fs c (fs c z))))++[c,(c.1,c.2+3),(c.1,c.2+2),(c.1,c.2+1)])=((c::r).map λz=>fs c (fs c (fs c (fs c z))))++[c,(c.1,c.2+3),(c.1,c.2+2),(c.1,c.2+1)]:=by rw[Az_,Fc,Fc2,Fc3,Fc4];rfl
   rw[e1];show Bx_.trans (List.Perm.append_right _ ?_);show List.Perm.cons _ (DA_ [(c.1,c.2+1),(c.1,c.2+2),(c.1,c.2+3)])
  show(q.append_right _).trans ?_;rw[Bt_,Bt_,Bt_,Bt_,<-Ar_];show((((perm'.map _).cons _).cons _).cons _).cons _
 .rw[AF_,Ab_,<-hT4,al_,<-hT3,al_,<-hT2,al_,<-hT1,al_];lia
theorem ins4{T:List (List α)}{c:Nat×Nat}{a b:α}(hc:c.1<T.length)(hk:c.2<=rl T c.1):EP_ (EP_ (EP_ (EP_ T c a) c b) c a) c b=T.set c.1 ((T.getD c.1 []).take c.2++([b,a,b,a]++(T.getD c.1 []).drop c.2)):=by
 have step:∀(ys:List α)(y:α),EP_ (T.set c.1 ((T.getD c.1 []).take c.2++(ys++(T.getD c.1 []).drop c.2))) c y=T.set c.1 ((T.getD c.1 []).take c.2++((y::ys)++(T.getD c.1 []).drop c.2)):=λys y=>by
  have tl:((T.getD c.1 []).take c.2).length=c.2:=by rw[AW_];unfold rl at hk;lia
  unfold EP_;rw[List.set_set];congr 1;have e:(T.set c.1 ((T.getD c.1 []).take c.2++(ys++(T.getD c.1 []).drop c.2))).getD c.1 []=(T.getD c.1 []).take c.2++(ys++(T.getD c.1 []).drop c.2):=by rw[Ac_,List.getElem?_set,if_pos rfl,if_pos hc];rfl
  rw[e];unfold ins;rw[List.take_append_of_le_length o_,List.drop_append_of_le_length o_,A4_ o_,Dj_ (Nat.le_of_eq tl)];rfl
 have s0:T=T.set c.1 ((T.getD c.1 []).take c.2++(([]:List α)++(T.getD c.1 []).drop c.2)):=by
  rw[Cd_,A5_]
  show List.ext_getElem? λj=>by
   rw[List.getElem?_set];split
   .rename_i e;subst e;rw[Ac_,Aa_ hc];rfl
   .rfl
 conv=>lhs;rw[s0]
 rw[step,step,step,step]
end
end RimT
namespace Rim73
open PySem PySem.Spec PyProof.Rows L2 RimM
variable{p:List Value->Prop}
theorem byL1(h:∀a,p [a])(us:List Value)(e:us.length=1):p us:=by obtain⟨a,rfl⟩:=CA_.mp e;show h a
theorem byLc{n:Nat}(h:∀a,∀us:List Value,us.length=n->p (a::us))(us:List Value)(e:us.length=n+1):p us:=by
 cases us with
 |nil=>cases e
 |cons a us=>show h a us (C8_ e)
theorem byL2(h:∀a b,p [a,b]):∀us:List Value,us.length=2->p us:=byLc λa=>byL1 (h a)
theorem byL3(h:∀a b c,p [a,b,c]):∀us:List Value,us.length=3->p us:=byLc λa=>byL2 (h a)
theorem byL4(h:∀a b c d,p [a,b,c,d]):∀us:List Value,us.length=4->p us:=byLc λa=>byL3 (h a)
theorem me_:GK_ "int"=True:=eq_true (.inl rfl)
theorem kB_:GK_ "bool"=True:=eq_true (.inr (.inl rfl))
theorem jS_:GK_ "tuple"=True:=eq_true (.inr (.inr (.inl rfl)))
theorem kC_:GK_ "list"=True:=eq_true (.inr (.inr (.inr (.inl rfl))))
theorem mf_:GK_ "str"=True:=eq_true (.inr (.inr (.inr (.inr rfl))))
theorem lA_{x y:Int}(hx:0<=x)(hy:0<y):Int.gcd y (x%y)=Int.gcd x y:=by obtain⟨m,rfl⟩:=Db_ hx;obtain⟨n,rfl⟩:=Db_ (Int.le_of_lt hy);change Int.gcd (n:Int) ((m:Int)%(n:Int))=Int.gcd (m:Int) (n:Int);rw[<-Int.natCast_emod,Dc_,Dc_,Nat.gcd_comm n,<-Nat.gcd_rec,Nat.gcd_comm]
variable{v:V}
theorem Kr_{Q:V->Prop}:onV (some (some v)) Q=Q v:=rfl
theorem Kt_{i:Int}{Q:Int->Prop}:onI (.int i) Q=Q i:=rfl
theorem KB_{i:Bool}{Q:Bool->Prop}:onB (.bl i) Q=Q i:=rfl
theorem Kq_{i:Addr}{Q:Addr->Prop}:onR (.ref i) Q=Q i:=rfl
theorem KC_{x:V}{Q:V->Prop}:on1 [x] Q=Q x:=rfl
theorem Kw_{x y:V}{Q:V->V->Prop}:on2 [x,y] Q=Q x y:=rfl
local macro_rules | `(tactic|walk_at "s2")=>`(tactic|simp only[Kr_,Kt_,KB_,Kq_,KC_,Kw_,qM_,qN_,qO_,qP_,qQ_,qR_,scal,tyV,List.map_cons,List.map_nil,List.length_cons,List.length_nil,List.replicate,List.cons_append,List.nil_append,List.append_nil,List.set_cons_zero,List.set_cons_succ,List.getElem?_cons_zero,List.getElem?_cons_succ,Option.some.injEq,List.cons.injEq,V.int.injEq,V.bl.injEq,V.str.injEq,V.ref.injEq,V.ty.injEq,HO.tup.injEq,HO.lst.injEq,exists_eq_left,exists_eq_left',exists_and_left,and_assoc,and_true,true_and,ab_,FL_,FX_,GG_,Nat.zero_add,Nat.reduceAdd,Nat.reduceSub,decide_eq_true_eq,Bool.not_eq_true',decide_eq_false_iff_not,reduceCtorEq,false_or,or_false,true_or,or_true,me_,kB_,jS_,kC_,mf_,Bool.false_eq_true,if_false,if_true,Bool.not_false,Bool.not_true,Bool.not_not,q4_,pI_,pW_,List.map,Option.bind,pm_])
local macro_rules | `(tactic|walk_at "s0")=>`(tactic|dsimp only[Kr_,Kt_,KB_,Kq_,KC_,Kw_,Je_,ipI,J6_,Jb_,tAug,JX_,G5_,LB_,LF_,Lo_,Ia_,Ji_,Jg_,JO_,KO_,Jo_,Gv_,Ls_,LE_,GE_,Jl_,H2_,tC,tCB,tOp,rI,rI0,IL_,K3_,Jq_,KL_,K9_,Jk_,tB,Lt_,tOr,Lr_,JQ_,tOrV,Kb_,rU,tUn,LD_,tBM,JR_,GQ_,L2.start,Kl_,JS_,Kf_,KR_,rEq,rNe,KG_,KM_,J9_,KX_,LA_,List.map_cons,List.map_nil,List.length_cons,List.length_nil,List.replicate,List.cons_append,List.nil_append,List.set_cons_zero,List.set_cons_succ,List.getElem?_cons_zero,List.getElem?_cons_succ,LM_,Kh_,LO_,J3_,Lq_,IG_,H7_,pick,KK_,iZip,KJ_,IH_,K7_,rSum,I3_,List.map,JU_,KT_,tSl,Lu_,Kg_,Il_,KP_,JP_,Ly_,Im_,JZ_,I2_,I0_,If_,LP_,IN_,In_,Kd_,LI_,rSlS,Ie_,I9_,Ii_,JN_,iDV,iDK,rIn,Ih_,Jf_,Hz_,K8_,Kk_,Ic_,Lp_,K1_,pm_,KW_,J7_,iDI,tIsN,KQ_,Lv_,rIsT,LQ_,LC_,I1_,K6_,tTry,KV_,Ke_,KS_,K0_,Kc_,rRep,K5_,JV_,Km_,JT_,JL_,J8_,Kj_,KN_,Ja_])
local macro_rules | `(tactic|walk_at "s3")=>`(tactic|(walk_at "s2";try (walk_at "s0";try walk_at "s2")))
local macro_rules | `(tactic|walk_at "s1")=>`(tactic|first|(walk_at "s0";try walk_at "s3")|walk_at "s3")
local macro_rules | `(tactic|walk_at "bx")=>`(tactic|first|(show qa_ ?_;intro _ _)|show ri_ (by assumption) ?_|show Lg_ (by assumption) ?_)
local macro_rules | `(tactic|walk_at "rd")=>`(tactic|((first|walk_at "s1" | (walk_at "bx";try walk_at "s1"));repeat (walk_at "bx";try walk_at "s1")))
local macro_rules | `(tactic|nofun)=>`(tactic|walk_at "rd")
structure Txt(K:PySem.W.Frag)(mg:Str->Option Value):Prop where
 n_abs:mg "abs"=none
 n_max:mg "max"=none
 n_min:mg "min"=none
 c_LONG_BITS:∃t,mg "LONG_BITS"=some (.int 8000 t)
 n_dict:mg "dict"=none
 n_len:mg "len"=none
 n_range:mg "range"=none
 n_list:mg "list"=none
 n_isinstance:mg "isinstance"=none
 n_int:mg "int"=none
 n_bool:mg "bool"=none
 n_tuple:mg "tuple"=none
 n_str:mg "str"=none
 n_enumerate:mg "enumerate"=none
 n_sorted:mg "sorted"=none
 n_set:mg "set"=none
 n_all:mg "all"=none
 c_LONGEST_NAME:∃t,mg "LONGEST_NAME"=some (.int 8 t)
 c_NAME_SIGNS:∃t,mg "NAME_SIGNS"=some (.str "abcdefghijklmnopqrstuvwxyz0123456789" t)
variable {P:Program}{w:World}{K:PySem.W.Frag}{mg:Str->Option Value}{base:Heap}
theorem oJ_{b:Int}(h:b≠0):Builtin.Int.intBits b=b.natAbs.log2+1:=by unfold Builtin.Int.intBits;simp[h]
theorem rq_{g b:Int}(h0:g≠0)(h1:g.natAbs<=b.natAbs)(hb:Builtin.Int.intBits b<=8000):g.natAbs.log2<9000:=by have h:=Cc_ (a:=g) (b:=b) (n:=8000) h1 hb;rw[oJ_ h0]at h;lia
structure ZL(N P:List Str)(sc:Scope):Prop extends EU_ N P sc where
 loc:∀x∈N,sc.names.lookup x=some .local
structure ZM(N P:List Str)(sc:Scope):Prop extends EU_ N P sc where
 loc:∀x∈N,sc.names.lookup x=some .local\/sc.names.lookup x=some .cell
variable{X:Cx}{x:Str}{pos:Pos}{p0:List Str}
theorem zv(i:Nat)(h:ZL X.N p0 X.env.scope)(hN:X.N[i]?=some x:=by rfl)(hd:(x == ("__debug__" : Str))=false:=by decide)(hcd:(x == ("__classdict__" : Str))=false:=by decide):PE X (.Name x pos) (H2_ i):=o3_ hN (.inl (h.loc x (List.mem_of_getElem? hN))) hd hcd
theorem zw(i:Nat)(h:ZM X.N p0 X.env.scope)(hN:X.N[i]?=some x:=by rfl)(hd:(x == ("__debug__" : Str))=false:=by decide)(hcd:(x == ("__classdict__" : Str))=false:=by decide):PE X (.Name x pos) (H2_ i):=o3_ hN ((h.loc x (List.mem_of_getElem? hN)).elim .inl λz=>.inr (.inl z)) hd hcd
theorem zh(i:Nat)(h:ZL X.N p0 X.env.scope)(hi:X.N[i]?=some x:=by rfl):PG X (.Name x pos) (Gv_ i):=ai_ h.nd hi (h.loc x (List.mem_of_getElem? hi))
theorem zas{e:Expr}{te:TE}(i:Nat){pos':Pos}(h:ZL X.N p0 X.env.scope)(he:PE X e te)(hi:X.N[i]?=some x:=by rfl)(hs:H6_ e=false:=by rfl):PS X (.Assign [.Name x pos'] e pos) (Jo_ te (Gv_ i)):=ah_ h.nd hi (h.loc x (List.mem_of_getElem? hi)) he hs
theorem zL{N P:List Str}{sc:Scope}(a:sc.kind=.function:=by rfl)(b:sc.isCoroutine=false:=by rfl)(c:sc.isGenerator=false:=by rfl)(d:N.Nodup:=by rfl')(e:N.take P.length=P:=by rfl)(f:∀x∈P,sc.names.lookup x=some .local\/sc.names.lookup x=some .cell:=by rfl')(g:∀y∈sc.names,y.2≠.free:=by rfl')(l:∀x∈N,sc.names.lookup x=some .local:=by rfl'):ZL N P sc:=⟨⟨a,b,c,d,e,f,g⟩,l⟩
theorem zM{N P:List Str}{sc:Scope}(a:sc.kind=.function:=by rfl)(b:sc.isCoroutine=false:=by rfl)(c:sc.isGenerator=false:=by rfl)(d:N.Nodup:=by rfl')(e:N.take P.length=P:=by rfl)(f:∀x∈P,sc.names.lookup x=some .local\/sc.names.lookup x=some .cell:=by rfl')(g:∀y∈sc.names,y.2≠.free:=by rfl')(l:∀x∈N,sc.names.lookup x=some .local\/sc.names.lookup x=some .cell:=by rfl'):ZM N P sc:=⟨⟨a,b,c,d,e,f,g⟩,l⟩
abbrev LK(s:Stmt)(x:Str)(k:NameKind):Prop:=(EL_ s).names.lookup x=some k
abbrev stN(i:Nat):Stmt:=PySem.Challenge.pw_rimread_k73_bench_refusals.main.body.getD i (.Pass ⟨0,0,0,0⟩)
abbrev FO_:Stmt:=stN 40
theorem kD_:ZL ["_law_script","_law_k"] ["_law_script","_law_k"] (EL_ FO_):=zL
theorem hR_:LK FO_ "len" .globalImplicit:=r_
def H9_(K:PySem.W.Frag):Sp:=λvs H Q _=>∃(a:Addr)(ns:List Int)(i:Int),vs=[.ref a,.int i]/\SqL K H a (ns.map V.int)/\0<=i/\∀z,Q (.int z) H
theorem kE_(T:Txt K mg)(F:Fn0 K mg "_law_cell_at" FO_):Cal P w K mg base "_law_cell_at" ["_law_script","_law_k"] 1 (H9_ K):=by
  show aZ_ F kD_.1 λf cdv A outer s H vs Q E hr h=>?_;obtain⟨a,ns,i,rfl,hS,h0,k⟩:=h;refine'⟨_,?D,?R⟩
  case D =>
   refine' ad_ ?a (ag_ (aB_ ac_))
   case' a=>refine' Ft_ (aE_ HN_ (zv 1 kD_) (aj_ gK_ hR_ T.n_len aK_ (pa_c (zv 0 kD_) aa_)) (E5_ _)) (ag_ (aB_ (ES_ (od_ (K:=K) rfl) (zv 0 kD_) (zv 1 kD_)))) aJ_
  case R =>
   nofun;show⟨_,.inl hS,?_⟩;rw[Ab_];show ite2 (λhl=>?_) (λhl=>?_)
   .show⟨a,_,i,V.int (ns.getD i.toNat 0),rfl,rfl,hS,cN_ h0 ?_,k _⟩;have:i.toNat<ns.length:=o_
    simp[Ag_,this,List.getD]
   .show k 0
abbrev FY_:Stmt:=stN 41
theorem eA_:ZL ["_law_script","_law_at","_law_by","_law_prime","_law_cell","_law_big_here","_law_k","_law_one"] ["_law_script","_law_at"] (EL_ FY_):=zL
theorem el_:LK FY_ "_law_cell_at" .globalImplicit:=r_
theorem iT_:LK FY_ "range" .globalImplicit:=r_
def HD_(K:PySem.W.Frag):Sp:=λvs H Q _=>∃(a:Addr)(ns:List Int)(j:Int),vs=[.ref a,.int j]/\0<=j/\SqL K H a (ns.map V.int)/\∀z H',EM_ H H'->Q (.int z) H'
theorem Kz_{a0 a1 a2 a3 a4 a5 a6 a7:Int}(i:Int)(h0:0<=i)(h1:i<8)(P:Int->Prop)(p0:P a0)(p1:P a1)(p2:P a2)(p3:P a3)(p4:P a4)(p5:P a5)(p6:P a6)(p7:P a7):
  ∃v,atI [V.int a0,.int a1,.int a2,.int a3,.int a4,.int a5,.int a6,.int a7] i=some (.int v)/\P v:=by
 have:i=0\/i=1\/i=2\/i=3\/i=4\/i=5\/i=6\/i=7:=o_
 rcases this with rfl|rfl|rfl|rfl|rfl|rfl|rfl|rfl
 .show⟨_,rfl,p0⟩
 .show⟨_,rfl,p1⟩
 .show⟨_,rfl,p2⟩
 .show⟨_,rfl,p3⟩
 .show⟨_,rfl,p4⟩
 .show⟨_,rfl,p5⟩
 .show⟨_,rfl,p6⟩
 .show⟨_,rfl,p7⟩
theorem qs_(T:Txt K mg)(F:Fn0 K mg "_law_big" FY_) (GN_:Cal P w K mg base "_law_cell_at" ["_law_script","_law_k"] 1 (H9_ K)):Cal P w K mg base "_law_big" ["_law_script","_law_at"] 2 (HD_ K):=by
  show aZ_ F eA_.1 λf cdv A outer s H vs Q E hr h=>?_;obtain⟨a,ns,j,rfl,hj,hS,k⟩:=h;refine'⟨_,?D,?R⟩
  case D =>
   refine' ad_ (zas 2 eA_ (au_ ?a)) ?b
   case' a=>refine' pa_c ac_ (pa_c ac_ (pa_c ac_ (pa_c ac_ (pa_c ac_ (pa_c ac_ (pa_c ac_ (pa_c ac_ aa_)))))))
   case' b=>refine' ad_ (zas 3 eA_ (au_ ?c)) (ad_ (zas 4 eA_ (an_ GN_ (hr.mono d_) el_ (pa_c (zv 0 eA_) (pa_c (zv 1 eA_) aa_)))) ?d)
   case' c=>refine' pa_c ac_ (pa_c ac_ (pa_c ac_ (pa_c ac_ (pa_c ac_ (pa_c ac_ (pa_c ac_ (pa_c ac_ aa_)))))))
   case' d=>refine' ad_ (Ft_ (aE_ Lk_ (zv 4 eA_) (EO_ o7_ ac_ ac_) (E5_ _)) (ag_ (aB_ (zv 4 eA_))) aJ_) ?e
   case' e=>refine' ad_ (zas 5 eA_ ac_) (ad_ (bT_ AS_ rfl (aQ_ iT_ T.n_range (pa_c ac_ aa_)) ?f ?g) (ag_ (aB_ (zv 5 eA_))))
   case f=>show zh 6 eA_
   case' g=>refine' ad_ (zas 7 eA_ (EO_ aO_ ?h (EO_ jd_ (zv 6 eA_) (zv 6 eA_)))) (ag_ (zas 5 eA_ (EO_ aO_ (EO_ jd_ (zv 5 eA_) ac_) ?i)))
   case' h=>refine' EO_ aO_ (EO_ aL_ (an_ GN_ (hr.mono d_) el_ (pa_c (zv 0 eA_) (pa_c (EO_ aO_ (zv 1 eA_) (EO_ aL_ (zv 6 eA_) ac_)) aa_))) (EO_ o7_ ac_ ac_)) ac_
   case' i=>refine' EO_ aL_ (EO_ aL_ (EO_ jd_ (zv 7 eA_) (ES_ ao_ (zv 2 eA_) (EO_ aL_ (zv 6 eA_) ac_))) (ES_ ao_ (zv 3 eA_) (EO_ aL_ (zv 6 eA_) ac_))) ac_
  case R =>
   nofun;show⟨d_,λp hp=>⟨d_,λq hq=>?_⟩⟩;generalize e1:upd H p (HO.tup _)=H1 at hq⊢;have s1:EM_ H H1:=e1▸EM_.new hp;have p1:H1 p=some (.tup _):=e1▸ab_;generalize e2:upd H1 q (HO.tup _)=H2;have s2:EM_ H1 H2:=e2▸EM_.new hq;have q2:H2 q=some (.tup _):=e2▸ab_;have p2:=s2 _ _ p1;have sS:EM_ H H2:=s1.trans s2;clear e1 e2;show⟨a,ns,j,rfl,sS.seq hS,hj,λz=>?_⟩;nofun;show⟨d_,d_,d_,?_⟩;show ite2 (λ_=>k _ _ sS) (λ_=>⟨d_,d_,?_⟩);show de_ (λi σ H'=>H'=H2/\∃(b:Int)(v6 v7:Option V),σ=[some (V.ref a),some (V.int j),some (V.ref p),some (V.ref q),some (V.int z),some (V.int b),v6,v7]) ⟨rfl,0,none,none,rfl⟩ ?_ ?_
   .rintro i σ H' hi ⟨rfl,b,v6,v7,rfl⟩;have hi':i<60:=hi;nofun;have m9:=AV_ (0+(i:Int)) (show(9:Int)≠0 by decide);show⟨d_,a,ns,_,rfl,sS.seq hS,o_,λy=>?_⟩;nofun;show⟨d_,d_,d_,d_,.inl ⟨o_,o_⟩,.inr ⟨d_,d_⟩,d_,?_⟩;have m8:=AV_ (0+(i:Int)) (show(8:Int)≠0 by decide);have l8:=AT_ (0+(i:Int)) (show(0:Int)<8 by decide);obtain⟨v,hv,v0,v1⟩:=Kz_ (a0:=48271) (a1:=69621) (a2:=16807) (a3:=39373) (a4:=21401) (a5:=60493) (a6:=87721) (a7:=31337) ((0+(i:Int))%8) m8 l8 (λv=>0<v/\v<100000) d_ d_ d_ d_ d_ d_ d_ d_;obtain⟨u,hu,u0,u1⟩:=Kz_ (a0:=99991) (a1:=99989) (a2:=99971) (a3:=99961) (a4:=99929) (a5:=99923) (a6:=99907) (a7:=99901) ((0+(i:Int))%8) m8 l8 (λv=>0<v/\v<100000) d_ d_ d_ d_ d_ d_ d_ d_;simp only[p2,q2,Option.some.injEq,HO.tup.injEq,exists_eq_left'];simp only[hv,hu];nofun;show⟨.inr ⟨o_,o_⟩,d_,u0,d_,_,rfl⟩
   .rintro σ H' ⟨rfl,b,v6,v7,rfl⟩;nofun;show k _ _ sS
def dF(p:Int×Int):Dt:=.tup [.int p.1,.int p.2]
variable{H:Hp}
theorem rr_{p:Int×Int}(h:Rep H v (dF p)):∃q,v=.ref q/\H q=some (.tup [.int p.1,.int p.2]):=by obtain⟨q,xs,e,hq,x,r,e1,hx,y,r',e2,hy,e3⟩:=h;cases hx;cases hy;subst e1 e2 e3;show⟨q,e,hq⟩
abbrev Gk_:Stmt:=stN 42
theorem kF_:ZL ["_law_top","_law_bottom","_law_one","_law_other"] ["_law_top","_law_bottom"] (EL_ Gk_):=zL
theorem eB_:LK Gk_ "_law_one" .local:=r_
theorem eC_:LK Gk_ "_law_other" .local:=r_
theorem kG_:LK Gk_ "abs" .globalImplicit:=r_
def I4_:Sp:=λvs H Q _=>∃t b:Int,vs=[.int t,.int b]/\0<b/\Builtin.Int.intBits b<=8000/\∀p H',EM_ H H'->Rep (G0_ H H') (.ref p) (dF (nf t b))->Q (.ref p) H'
theorem qt_(T:Txt K mg)(F:Fn0 K mg "_law_low" Gk_):Cal P w K mg base "_law_low" ["_law_top","_law_bottom"] 1 I4_:=by
  show aZ_ F kF_.1 λf cdv A outer s H vs Q E hr h=>?_;obtain⟨a,b,rfl,hb,lb,k⟩:=h;refine'⟨_,?D,?R⟩
  case D =>
   refine' ad_ (o6_ (i:=2) (j:=3) rfl kF_.nd rfl rfl d_ eB_ eC_ (pa_c (aj_ n2_ kG_ T.n_abs q5_ (pa_c (zv 0 kF_) aa_)) (pa_c (zv 1 kF_) aa_)) rfl) ?a
   case' a=>refine' ad_ (dQ_ AS_ (aE_ HO_ (zv 3 kF_) ac_ (E5_ _)) (ag_ (o6_ (i:=2) (j:=3) rfl kF_.nd rfl rfl d_ eB_ eC_ (pa_c (zv 3 kF_) (pa_c (EO_ aL_ (zv 2 kF_) (zv 3 kF_)) aa_)) rfl))) ?b
   case' b=>refine' ag_ (aB_ (au_ (pa_c (EO_ av_ (zv 0 kF_) (zv 2 kF_)) (pa_c (EO_ av_ (zv 1 kF_) (zv 2 kF_)) aa_))))
  case R =>
   nofun
   show fa_ (λσ H1=>∃(x y:Int),σ=[some (.int a),some (.int b),some (.int x),some (.int y)]/\H1=H/\0<=x/\0<=y/\Int.gcd x y=Int.gcd a b)
    (λσ _=>match σ with | [_,_,_,some (.int y)]=>y.toNat|_=>0) ?_ ?_
   .show⟨_,_,rfl,rfl,?_,o_,?_⟩
    .split <;> lia
    .split
     .rw[Int.neg_gcd]
     .rfl
   .rintro σ H1 ⟨x,y,rfl,rfl,hx,hy,e⟩;nofun;show ite2 (λhne=>?_) (λhe=>?_)
    .show⟨_,N_ok,?_⟩;nofun;have h1:=AV_ x (show y≠0 by lia);have h2:=AT_ x hne;show⟨hne,hy,h1,(lA_ hx hne).trans e,o_⟩
    .have hy0:y=0:=o_
     have hx':x=(Int.gcd a b:Nat):=by rw[<-e,hy0,Int.gcd_zero_right];lia
     have g0:=gpos (t:=a) (b:=b) o_;have hl:=rq_ (g:=(Int.gcd a b:Int)) (b:=b) o_ (Nat.le_of_dvd o_ (Int.natAbs_dvd_natAbs.mpr (Int.gcd_dvd_right ..))) lb;subst hx';show⟨g0,hl,g0,hl,d_,λp hp=>k p _ (EM_.new hp) ⟨p,_,rfl,?_,_,_,rfl,rfl,_,_,rfl,rfl,rfl⟩⟩;rw[dU_ hp,ab_,m6_ hb]
abbrev Fv_:Stmt:=stN 43
theorem ba_:ZL ["_law_big_here","_law_bottom","_law_top"] ["_law_big_here"] (EL_ Fv_):=zL
theorem gk_:LK Fv_ "_law_low" .globalImplicit:=r_
def HC_:Sp:=λvs H Q _=>∃z:Int,vs=[.int z]/\∀(p q:Addr) H' (t b y:Int),EM_ H H'->H p=none->H q=none->Ws (nf t b)->H' p=some (.tup [.ref q,.int y])->H' q=some (.tup [.int (nf t b).1,.int (nf t b).2])->Q (.ref p) H'
theorem j0_(T:Txt K mg)(F:Fn0 K mg "_law_worth_of" Fv_) (KD_:Cal P w K mg base "_law_low" ["_law_top","_law_bottom"] 1 I4_):Cal P w K mg base "_law_worth_of" ["_law_big_here"] 2 HC_:=by
  show aZ_ F ba_.1 λf cdv A outer s H vs Q E hr h=>?_;obtain⟨z,rfl,k⟩:=h;refine'⟨_,?D,?R⟩
  case D =>
   refine' ad_ (zas 1 ba_ (EO_ aO_ ac_ (EO_ aL_ (zv 0 ba_) ac_))) ?a
   case' a=>refine' ad_ (ih_ (Ft_ (aE_ Gh_ (EO_ aL_ (EO_ av_ (zv 0 ba_) ac_) ac_) ac_ (E5_ _)) ?b aJ_)) ?c
   case' b=>refine' ag_ (zas 1 ba_ (EO_ aO_ ac_ (EO_ aL_ (EO_ av_ (zv 0 ba_) ac_) ac_)))
   case' c=>refine' ad_ (ih_ (Ft_ (aE_ Gh_ (EO_ aL_ (EO_ av_ (zv 0 ba_) ac_) ac_) ac_ (E5_ _)) ?d aJ_)) ?e
   case' d=>refine' ag_ (zas 1 ba_ (EO_ aO_ ac_ (EO_ aL_ (EO_ av_ (zv 0 ba_) ac_) ac_)))
   case' e=>refine' ad_ (zas 0 ba_ (EO_ av_ (zv 0 ba_) ac_)) (ad_ (zas 2 ba_ (EO_ aO_ ac_ (EO_ aL_ (zv 0 ba_) ac_))) ?f)
   case' f=>refine' ad_ (ih_ (Ft_ (aE_ Gh_ (EO_ aL_ (EO_ av_ (zv 0 ba_) ac_) ac_) ac_ (E5_ _)) ?g aJ_)) ?h
   case' g=>refine' ag_ (zas 2 ba_ (EO_ aO_ ac_ (EO_ aL_ (EO_ av_ (zv 0 ba_) ac_) ac_)))
   case' h=>refine' ad_ (ih_ (Ft_ (aE_ Gh_ (EO_ aL_ (EO_ av_ (zv 0 ba_) ac_) ac_) ac_ (E5_ _)) ?i aJ_)) (ag_ ?j)
   case' i=>refine' ag_ (zas 2 ba_ (EO_ aO_ ac_ (EO_ aL_ (EO_ av_ (zv 0 ba_) ac_) ac_)))
   case' j=>refine' aB_ (au_ (pa_c (an_ KD_ (hr.mono d_) gk_ (pa_c (zv 2 ba_) (pa_c (zv 1 ba_) aa_))) (pa_c (EO_ av_ (zv 0 ba_) ac_) aa_)))
  case R =>
   nofun;show⟨d_,λσ H1=>∃b:Int,σ=[some (.int z),some (.int b),none]/\H=H1/\0<b/\b<=1000,?_,?_⟩
   .nofun;show⟨d_,d_,d_,ite2 (λ_=>?_) (λ_=>?_)⟩
    .have:=AV_ (z/12) (show(12:Int)≠0 by decide);have:=AT_ (z/12) (show(0:Int)<12 by decide);show⟨d_,d_,d_,o_,o_⟩
    .have:=AV_ z (show(3:Int)≠0 by decide);have:=AT_ z (show(0:Int)<3 by decide);lia
   rintro σ H1 ⟨b,rfl,rfl,b0,b1⟩;nofun;show⟨λσ H1=>∃b:Int,σ=[some (.int z),some (.int b),none]/\H=H1/\0<b/\b<=1000,?_,?_⟩
   .nofun;show⟨d_,d_,d_,ite2 (λ_=>?_) (λ_=>⟨b0,b1⟩)⟩;have:=AV_ (z/48) (show(1000:Int)≠0 by decide);have:=AT_ (z/48) (show(0:Int)<1000 by decide);show⟨d_,d_,d_,o_,o_⟩
   clear b0 b1 b;rintro σ H1 ⟨b,rfl,rfl,b0,b1⟩;nofun;show⟨d_,d_,d_,?_⟩;generalize z/48000=y;show⟨λσ H1=>∃t:Int,σ=[some (.int y),some (.int b),some (.int t)]/\H=H1/\0<t/\t<=1000,?_,?_⟩
   .nofun;show⟨d_,d_,d_,ite2 (λ_=>?_) (λ_=>?_)⟩
    .have:=AV_ (y/20) (show(12:Int)≠0 by decide);have:=AT_ (y/20) (show(0:Int)<12 by decide);show⟨d_,d_,d_,o_,o_⟩
    .have:=AV_ y (show(5:Int)≠0 by decide);have:=AT_ y (show(0:Int)<5 by decide);lia
   rintro σ H1 ⟨t,rfl,rfl,t0,t1⟩;nofun;show⟨λσ H1=>∃t:Int,σ=[some (.int y),some (.int b),some (.int t)]/\H=H1/\0<t/\t<=1000,?_,?_⟩
   .nofun;show⟨d_,d_,d_,ite2 (λ_=>?_) (λ_=>⟨t0,t1⟩)⟩;have:=AV_ (y/80) (show(1000:Int)≠0 by decide);have:=AT_ (y/80) (show(0:Int)<1000 by decide);show⟨d_,d_,d_,o_,o_⟩
   clear t0 t1 t;rintro σ H1 ⟨t,rfl,rfl,t0,t1⟩;nofun;show⟨t,b,rfl,b0,Cc_ (b:=1000) o_ d_,λq H1 s1 r1=>?_⟩;nofun;obtain⟨q',eq,hq⟩:=rr_ r1;cases eq;obtain⟨q0,q1⟩:=bq_ hq;show⟨d_,d_,d_,λp hp=>k p q _ t b (y/80000) (s1.trans (EM_.new hp)) (s1.free hp) q0 (Lc_ t0 t1 b0 b1) ab_ (EM_.new hp _ _ q1)⟩
open RimT
theorem un1{n c:Nat}(h:n+64<c):n+1<c:=o_
structure Tg{α:Type}(lab:α->V)(H:Hp)(l:Addr)(as_:List Addr)(T:List (List α)):Prop where
 top:H l=some (.lst (as_.map V.ref))
 len:as_.length=T.length
 row:∀p a,as_[p]?=some a->H a=some (.lst ((T.getD p []).map lab))
variable{l:Addr}{as_:List Addr}
theorem Tg.mono{α:Type}{lab:α->V}{H':Hp}{T:List (List α)}(h:Tg lab H l as_ T)(s:EM_ H H'):Tg lab H' l as_ T:=⟨s _ _ h.top,h.len,λp a e=>s _ _ (h.row p a e)⟩
theorem Tg.at_{α:Type}{lab:α->V}{T:List (List α)}(h:Tg lab H l as_ T){p:Nat}(hp:p<T.length):∃a,as_[p]?=some a/\atI (as_.map V.ref) (p:Int)=some (.ref a)/\H a=some (.lst ((T.getD p []).map lab)):=by have e:as_[p]?=some (as_[p]'(by rw[h.len];show hp)):=Aa_ _;show⟨_,e,?_,h.row p _ e⟩;rw[cN_ o_ (by rw[AD_,Ag_,e];rfl)]
abbrev Tn:=Tg (λn:Nat=>V.int n)
def cV(c:Nat×Nat):HO:=.tup [.int c.1,.int c.2]
def cK(c:Nat×Nat):List Key:=[.inl c.1,.inl c.2]
def Gd_{α:Type}(H:Hp)(m:Addr)(T:List (List α)):Prop:=∃kvs,H m=some (.dT kvs)/\∀a b,Hn_ T a b->∃q,FH_ kvs (cK a)=some (.ref q)/\H q=some (cV b)
theorem Gd_.mono{α:Type}{H':Hp}{m:Addr}{T:List (List α)}(h:Gd_ H m T)(s:EM_ H H'):Gd_ H' m T:=by obtain⟨kvs,e,k⟩:=h;show⟨kvs,s _ _ e,λa b hab=>(k a b hab).elim λq hq=>⟨q,hq.1,s _ _ hq.2⟩⟩
abbrev EW_:Stmt:=stN 46
theorem a7_:ZL ["_law_turns","_law_posts","_law_mates_here","_law_corner","_law_p","_law_k","_law_q","_law_j"] ["_law_turns","_law_posts","_law_mates_here","_law_corner"] (EL_ EW_):=zL
theorem cj_:LK EW_ "len" .globalImplicit:=r_
def G7_:Sp:=λvs H Q _=>∃(α:Type)(_:DecidableEq α)(lab:α->V)(l m c:Addr)(as_:List Addr)(T:List (List α))(P:Nat)(e:Nat×Nat),vs=[.ref l,.int P,.ref m,.ref c]/\Tg lab H l as_ T/\Gd_ H m T/\Tw T/\0<P/\H c=some (cV e)/\IsC T P e /\
 ∀q H' d,EM_ H H'->H q=none->H' q=some (cV d)->Nx T P e d->Q (.ref q) H'
theorem gl_(T:Txt K mg)(F:Fn0 K mg "_law_corner_behind" EW_):Cal P w K mg base "_law_corner_behind" ["_law_turns","_law_posts","_law_mates_here","_law_corner"] 1 G7_:=by
  show aZ_ F a7_.1 λf cdv A outer s H vs Q E hr h=>?_;obtain⟨α,dec,lab,l,m,c,as_,Tt,Pp,e,rfl,hT,hm,tw,P0,hc,ic,k⟩:=h;refine'⟨_,?D,?R⟩
  case D =>
   refine' ad_ (gJ_ (zv 3 a7_) (br_ (K:=K) (n:=2) rfl rfl (ar_ ?a (ar_ ?b bp_)))) ?c
   case a=>show zh 4 a7_
   case b=>show zh 5 a7_
   case' c=>refine' ad_ ?d (ad_ ?e (ad_ ?f (ag_ (aB_ ?g))))
   case' d=>refine' Ft_ (aE_ Gh_ (zv 5 a7_) (aj_ aq_ cj_ T.n_len aK_ (pa_c (ES_ ap_ (zv 0 a7_) (zv 4 a7_)) aa_)) (E5_ _)) ?h aJ_
   case' h=>refine' ag_ (aB_ (au_ (pa_c (EO_ aL_ (EO_ mz_ (zv 4 a7_) ac_) (zv 1 a7_)) (pa_c ac_ aa_))))
   case' e=>refine' gJ_ (es_ (un1 hr.units) (zv 2 a7_) (au_ (pa_c (zv 4 a7_) (pa_c (zv 5 a7_) aa_)))) (br_ (K:=K) (n:=2) rfl rfl (ar_ ?i (ar_ ?j bp_)))
   case i=>show zh 6 a7_
   case j=>show zh 7 a7_
   case' f=>refine' Ft_ (aE_ HN_ (zv 6 a7_) (zv 1 a7_) (E5_ _)) (ag_ (aB_ (au_ (pa_c (zv 6 a7_) (pa_c (EO_ aO_ (zv 7 a7_) ac_) aa_))))) aJ_
   case' g=>refine' au_ (pa_c (zv 6 a7_) (pa_c (EO_ aL_ (EO_ aO_ (zv 7 a7_) ac_) (aj_ aq_ cj_ T.n_len aK_ (pa_c (ES_ ap_ (zv 0 a7_) (zv 6 a7_)) aa_))) aa_))
  case R =>
   nofun;obtain⟨a,ea,at0,ra⟩:=hT.at_ ic.1;show⟨_,SqT.of hc,rfl,_,_,rfl,_,_,rfl,rfl,_,_,rfl,hT.top,_,at0,_,rfl,_,.inl ra,?_⟩;nofun;rw[Ab_];show ite2 (λhe=>?_) (λhe=>?_)
   .have hz:((e.1:Int)-1)%(Pp:Int)=(((e.1+Pp-1)%Pp:Nat):Int):=by rw[Int.natCast_emod,show((e.1+Pp-1:Nat):Int)=(e.1:Int)-1+Pp by lia];simp
    have he':e.2=rl Tt e.1:=by unfold rl;lia
    show⟨o_,d_,λp hp=>k p _ ((e.1+Pp-1)%Pp,0) (EM_.new hp) hp ?_ (.inl ⟨he',rfl⟩)⟩;rw[ab_,hz];rfl
   .have hlt:e.2<rl Tt e.1:=by have:=ic.2;unfold rl at this⊢;split at this <;> lia
    obtain⟨ww,hw⟩:=gd_ hlt;obtain⟨b,hb⟩:=ks_ tw hw;obtain⟨kvs,hkv,hall⟩:=hm;obtain⟨q,vq,hq⟩:=hall e b hb;show⟨d_,λp hp=>?_⟩;have s1:EM_ H (upd H p (.tup [.int e.1,.int e.2])):=EM_.new hp;generalize e1:upd H p (.tup [.int e.1,.int e.2])=H1 at s1⊢;have hp1:H1 p=some (cV e):=e1▸ab_;have g:Ge_ H1 m (.ref p) (some (.ref q)):=vq▸Ge_.t (k:=cK e) (s1 _ _ hkv) hp1;have hT1:=hT.mono s1;have hbl:=FN_ hb.2.choose_spec.2;show⟨_,g,_,rfl,_,SqT.of (s1 _ _ hq),rfl,_,_,rfl,_,_,rfl,rfl,_,rfl,?_⟩;show ite2 (λhlp=>?_) (λhlp=>?_)
    .show⟨_,rfl,d_,λr hr=>k r _ (b.1,b.2+1) (s1.trans (EM_.new hr)) (s1.free hr) ?_ (.inr ⟨hlt,b,hb,?_⟩)⟩
     .rw[ab_];rfl
     .rw[if_pos o_]
    .obtain⟨a2,ea2,at2,ra2⟩:=hT1.at_ hbl.2;have hl2:(0:Int)<(rl Tt b.1:Nat):=o_
     show⟨_,rfl,_,_,rfl,hT1.top,_,at2,_,rfl,_,.inl ra2,?_⟩;rw[Ab_];show⟨hl2,d_,λr hr=>k r _ (b.1,(b.2+1)%rl Tt b.1) (s1.trans (EM_.new hr)) (s1.free hr) ?_ (.inr ⟨hlt,b,hb,?_⟩)⟩
     .rw[ab_];change some (HO.tup [V.int b.1,V.int (((b.2:Int)+1)%(rl Tt b.1:Nat))])=some (HO.tup [V.int b.1,V.int (((b.2+1)%rl Tt b.1:Nat):Int)]);rw[Int.natCast_emod,Int.natCast_add];rfl
     .rw[if_neg o_]
def Cs(H:Hp):List Addr->List (Nat×Nat)->Prop
 |[],[]=>True
 |x::xs,c::cs=>H x=some (cV c)/\Cs H xs cs
 |_,_=>False
theorem Cs.mono{H H':Hp}(s:EM_ H H'):∀{xs:List Addr}{cs:List (Nat×Nat)},Cs H xs cs->Cs H' xs cs
 |[],[],_=>trivial
 |x::xs,c::cs,h=>⟨s _ _ h.1,Cs.mono s h.2⟩
theorem Cs.len{H:Hp}:∀{xs:List Addr}{cs:List (Nat×Nat)},Cs H xs cs->xs.length=cs.length
 |[],[],_=>rfl
 |x::xs,c::cs,h=>by rw[AF_,AF_,Cs.len h.2]
theorem Cs.snoc{H:Hp}{y:Addr}{d:Nat×Nat}(hy:H y=some (cV d)):∀{xs:List Addr}{cs:List (Nat×Nat)},Cs H xs cs->Cs H (xs++[y]) (cs++[d])
 |[],[],_=>⟨hy,trivial⟩
 |x::xs,c::cs,h=>⟨h.1,Cs.snoc hy h.2⟩
theorem Cs.get{H:Hp}:∀{xs:List Addr}{cs:List (Nat×Nat)}{i:Nat}{d:Nat×Nat},Cs H xs cs->cs[i]?=some d->∃x,xs[i]?=some x/\H x=some (cV d)
 |[],[],i,d,h,e=>by cases e
 |[],_::_,_,_,h,_=>h.elim
 |_::_,[],_,_,h,_=>h.elim
 |x::xs,c::cs,0,d,h,e=>by cases e;show⟨x,rfl,h.1⟩
 |x::xs,c::cs,i+1,d,h,e=>Cs.get (i:=i) h.2 e
def dC(c:Nat×Nat):Dt:=.tup [.int c.1,.int c.2]
theorem nu_{x:Addr}{c:Nat×Nat}(h:H x=some (cV c)):Rep H (.ref x) (dC c):=⟨x,_,rfl,h,_,_,rfl,rfl,_,_,rfl,rfl,rfl⟩
theorem rs_(a b:Nat×Nat):deq (dC a) (dC b)=some (decide (a=b)):=by
 by_cases h1:(a.1:Int)=b.1 <;> by_cases h2:(a.2:Int)=b.2
 .have e:a=b:=Bd_ o_ o_;subst e;simp[dC,deq,deqs]
 .have e:a≠b:=λz=>h2 (by rw[z]);simp[dC,deq,deqs,h1,h2,e]
 .have e:a≠b:=λz=>h1 (by rw[z]);simp[dC,deq,deqs,h1,h2,e]
 .have e:a≠b:=λz=>h1 (by rw[z]);simp[dC,deq,deqs,h1,h2,e]
abbrev Fu_:Stmt:=stN 47
theorem eZ_:ZL ["_law_turns","_law_posts","_law_mates_here","_law_corner","_law_found","_law_here"] ["_law_turns","_law_posts","_law_mates_here","_law_corner"] (EL_ Fu_):=zL
theorem bI_:LK Fu_ "_law_corner_behind" .globalImplicit:=r_
def G3_:Sp:=λvs H Q _=>∃(α:Type)(_:DecidableEq α)(lab:α->V)(l m c:Addr)(as_:List Addr)(T:List (List α))(P:Nat)(e:Nat×Nat),vs=[.ref l,.int P,.ref m,.ref c]/\Tg lab H l as_ T/\Gd_ H m T/\Tw T/\0<P/\P<=T.length/\H c=some (cV e)/\IsC T P e/\(corners T P).length<=900 /\
 ∀R H' xs cs,EM_ H H'->H R=none->H' R=some (.lst (xs.map V.ref))->Cs H' xs cs->cs≠[]->cs.length<=(corners T P).length->(∀d∈cs,IsC T P d)->Way T P cs e->cs.head?=some e->cs.Nodup->Q (.ref R) H'
theorem mg_(T:Txt K mg)(F:Fn0 K mg "_law_region" Fu_) (F0_:Cal P w K mg base "_law_corner_behind" ["_law_turns","_law_posts","_law_mates_here","_law_corner"] 1 G7_):Cal P w K mg base "_law_region" ["_law_turns","_law_posts","_law_mates_here","_law_corner"] 2 G3_:=by
  show aZ_ F eZ_.1 λf cdv A outer s H vs Q E hr h=>?_;obtain⟨α,dec,lab,l,m,c,as_,Tt,Pp,e,rfl,hT,hm,tw,P0,PT,hc,ic,c9,k⟩:=h;refine'⟨_,?D,?R⟩
  case D =>
   refine' ad_ (zas 4 eZ_ (bH_ (pa_c (zv 3 eZ_) aa_))) (ad_ ?a (ad_ ?b (ag_ (aB_ (zv 4 eZ_)))))
   case' a=>refine' zas 5 eZ_ (an_ F0_ (hr.mono d_) bI_ (pa_c (zv 0 eZ_) (pa_c (zv 1 eZ_) (pa_c (zv 2 eZ_) (pa_c (zv 3 eZ_) aa_)))))
   case' b=>refine' dQ_ AS_ (aE_ (ju_ (hr.units)) (zv 5 eZ_) (zv 3 eZ_) (E5_ _)) (ad_ (aw_ (FM_ Av_ A0_ A1_ aY_ (zv 4 eZ_) (pa_c (zv 5 eZ_) aa_))) ?c)
   case' c=>refine' ag_ (zas 5 eZ_ (an_ F0_ (hr.mono d_) bI_ (pa_c (zv 0 eZ_) (pa_c (zv 1 eZ_) (pa_c (zv 2 eZ_) (pa_c (zv 5 eZ_) aa_))))))
  case R =>
   nofun;show⟨d_,λR hR=>?_⟩;have s0:EM_ H (upd H R (.lst [.ref c])):=EM_.new hR;show⟨_,_,_,l,m,c,as_,Tt,Pp,e,rfl,hT.mono s0,hm.mono s0,tw,P0,s0 _ _ hc,ic,λq H1 d s1 hq hd nx=>?_⟩;nofun
   show fa_ (λσ H'=>∃(S:Hp)(xs:List Addr)(cs:List (Nat×Nat))(h:Addr)(d:Nat×Nat),σ=[some (.ref l),some (.int Pp),some (.ref m),some (.ref c),some (.ref R),some (.ref h)]/\EM_ H S/\S R=none/\EM_ S H'/\H' R=some (.lst (xs.map V.ref))/\Cs S xs cs/\S h=some (cV d)/\Way Tt Pp cs d/\cs.head?=some e/\cs.Nodup)
    (λσ H'=>match H' R with|some (.lst xs)=>(corners Tt Pp).length+1-xs.length|_=>0) ?_ ?_
   .have h0R:upd H R (.lst [.ref c]) R=some (.lst [.ref c]):=ab_;show⟨grow H (upd H R (.lst [.ref c])) H1,[c],[e],q,d,rfl,bY_ s0,by rw[cB_ h0R];show hR,gc_ s0 s1,s1 _ _ h0R,⟨bY_ s0 _ _ hc,trivial⟩,by rw[fc_ hq];show hd,.one nx,rfl,s_⟩
   .rintro σ H' ⟨S,xs,cs,h,d,rfl,hS,SR,SH,hxs,hcs,hh,wy,hd0,nd⟩;nofun;have wl:=iG_ tw P0 PT wy hd0 ic nd;have wa:=dX_ tw P0 PT wy hd0 ic;have xl:=hcs.len;show⟨_,nu_ (SH _ _ hh),_,nu_ (SH _ _ (hS _ _ hc)),_,rs_ d e,by simp[dC,dep,deps],?_⟩;by_cases hde:d=e
    .rw[if_neg (by simp[hde])];show k R H' xs cs (hS.trans SH) hR hxs (hcs.mono SH) (gM_ wy) wl wa.2.1 (hde▸wy) hd0 nd
    .rw[if_pos (by simp[hde])];show⟨_,N_ok,?_⟩;nofun;have sz:(xs.map V.ref).length<sizeLine:=by have:=EN_ (show xs.length+1<=1000 by lia);rw[Ab_];lia
     have dn:=iF_ tw P0 PT wy hd0 ic nd hde;show⟨.inl ⟨_,SqL.of hxs⟩,_,hxs,sz,?_⟩;have SH2:EM_ S (upd H' R (.lst (xs.map V.ref++[.ref h]))):=aT_ SH SR;have e2:upd H' R (.lst (xs.map V.ref++[.ref h])) R=some (.lst (xs.map V.ref++[.ref h])):=ab_;generalize upd H' R (.lst (xs.map V.ref++[.ref h]))=H2 at SH2 e2⊢;show⟨_,_,_,l,m,h,as_,Tt,Pp,d,rfl,(hT.mono hS).mono SH2,(hm.mono hS).mono SH2,tw,P0,SH2 _ _ hh,wa.1,λq2 H3 d2 s3 hq2 hd2 nx2=>⟨⟨grow S H2 H3,xs++[h],cs++[d],q2,rfl,hS.trans (bY_ SH2),?_,gc_ SH2 s3,?_,?_,d2,?_,.more wy nx2,?_,?_⟩,?_⟩⟩
     .rw[cB_ e2];show SR
     .rw[Ar_];show s3 _ _ e2
     .show Cs.snoc (bY_ SH2 _ _ hh) (hcs.mono (bY_ SH2))
     .rw[fc_ hq2];show hd2
     .cases cs with
      |nil=>show absurd rfl (gM_ wy)
      |cons a b=>show hd0
     .rw[AA_];show⟨nd,s_,λa ha b hb ab=>?_⟩;rw[Ad_.mp hb]at ab;show dn (ab▸ha)
     .rw[s3 _ _ e2,hxs];simp only[Ae_,Ab_,AL_];lia
def FP_(T:List (List Nat))(P n:Nat):List (Nat×Nat):=(List.range n).flatMap λp=>(List.range (rl T p+(if p<P then 1 else 0))).map λk=>(p,k)
theorem dq_(T:List (List Nat))(P n:Nat):FP_ T P (n+1)=FP_ T P n++(List.range (rl T n+(if n<P then 1 else 0))).map λk=>(n,k):=by unfold FP_;rw[BE_,List.flatMap_append];simp
theorem gR_(T:List (List Nat))(P:Nat){n:Nat}:∀{m:Nat},n<=m->(FP_ T P n).length<=(FP_ T P m).length
 |0,h=>by rw[Nat.le_zero.mp h];show Ah_ _
 |m+1,h=>by
  by_cases e:n=m+1
  .rw[e];show Ah_ _
  .have:=gR_ T P (n:=n) (m:=m) o_;rw[dq_,Ae_];lia
theorem px_{H:Hp}:∀{vs:List V}{cs:List (Nat×Nat)},E7_ H vs (cs.map dC)->∃xs:List Addr,vs=xs.map V.ref/\Cs H xs cs
 |[],[],_=>⟨[],rfl,trivial⟩
 |v::vs,c::cs,h=>by
  obtain⟨x,r,e,hx,hr⟩:=h;cases e;obtain⟨q,ys,e1,hq,a,b,e2,ha,a2,b2,e3,ha2,e4⟩:=hx;cases ha;cases ha2;subst e1 e2 e3 e4;obtain⟨xs,e5,hc⟩:=px_ hr;show⟨q::xs,by rw[e5];rfl,hq,hc⟩
 |[],_::_,h=>by obtain⟨x,r,e,_⟩:=h;cases e
 |_::_,[],h=>by cases h
abbrev Fk_:Stmt:=stN 45
theorem d1_:ZM ["_law_turns","_law_posts","_law_found","_law_p"] ["_law_turns","_law_posts"] (EL_ Fk_):=zM
theorem cC_:LK Fk_ "_law_found" .local:=r_
theorem d2_:LK Fk_ "_law_p" .cell:=r_
theorem hT_:LK Fk_ "int" .globalImplicit:=r_
theorem eF_:LK Fk_ "len" .globalImplicit:=r_
theorem dF_:LK Fk_ "range" .globalImplicit:=r_
def GL_:Sp:=λvs H Q _=>∃(l:Addr)(as_:List Addr)(T:List (List Nat))(P:Nat),vs=[.ref l,.int P]/\Tn H l as_ T/\T.length<=16/\(corners T P).length<=900 /\
 ∀R H',EM_ H H'->Rep (G0_ H H') (.ref R) (.lst ((corners T P).map dC))->Q (.ref R) H'
theorem kH_(T:Txt K mg)(F:Fn0 K mg "_law_corners" Fk_):Cal P w K mg base "_law_corners" ["_law_turns","_law_posts"] 1 GL_:=by
  show aZ_ F d1_.1 λf cdv A outer s H vs Q E hr h=>?_;obtain⟨l,as_,Tt,Pp,rfl,hT,t16,c9,k⟩:=h;refine'⟨_,?D,?R⟩
  case D =>
   refine' ad_ (ah_ (i:=2) d1_.nd rfl cC_ (bH_ aa_)) ?a
   case' a=>refine' ad_ (bT_ AS_ rfl (aQ_ dF_ T.n_range (pa_c (aj_ aq_ eF_ T.n_len aK_ (pa_c (zw 0 d1_) aa_)) aa_)) ?b ?c) (ag_ (aB_ (zw 2 d1_)))
   case b=>show g9_ (i:=3) d1_.nd rfl d2_ rfl
   case' c=>refine' ag_ (ah_ (i:=2) d1_.nd rfl cC_ (EO_ e5_ (zw 2 d1_) (bb_ (N':=["_law_k","_law_p"]) (ix:=[none,some 3]) rfl rfl (bG_ ?d) (aQ_ dF_ T.n_range ?e) (λ_ _ _=>?f) (λ_ _ _=>?g) (λ_ _ _=>(au_ (pa_c (pvc 1 rfl rfl) (pa_c (pv1 0 rfl rfl) aa_)))))))
   case d=>show(by change Gr_ (EL_ Fk_) ["_law_turns","_law_posts","_law_found","_law_p"] _ _ _=true;decide +kernel)
   case' e=>refine' pa_c (EO_ aO_ (aj_ aq_ eF_ T.n_len aK_ (pa_c (ES_ ap_ (zw 0 d1_) (zw 3 d1_)) aa_)) (a0_ hl_ hT_ T.n_int k8_ (pa_c (cM_ HN_ (zw 3 d1_) (zw 1 d1_) (E5_ _)) aa_))) aa_
   case f=>show ai_ (i:=0) (by change List.Nodup (["_law_k","_law_p"]:List Str);decide +kernel) rfl rfl
   case g=>show bU_
  case R =>
   nofun;show⟨d_,λR hR=>?_⟩;have s0:EM_ H (upd H R (.lst [])):=EM_.new hR;show⟨_,.inl (s0 _ _ hT.top),?_⟩;rw[Ab_,hT.len];show⟨o_,o_,?_⟩;rw[AD_];show de_ (λi σ H'=>∃(R:Addr)(e:Option V),σ=[some (.ref l),some (.int Pp),some (.ref R),e]/\EM_ H H'/\Rep (G0_ H H') (.ref R) (.lst ((FP_ Tt Pp i).map dC))) ?_ ?_ ?_
   .show⟨R,none,rfl,s0,R,[],rfl,?_,rfl⟩;rw[dU_ hR,ab_]
   .rintro i σ H' hi ⟨R,e,rfl,sH,rep⟩;nofun;have hT':=hT.mono sH;obtain⟨a,ea,at0,ra⟩:=hT'.at_ hi;rw[BS_];show⟨_,hT'.top,_,at0,_,rfl,_,.inl ra,?_⟩;right
    have eN:(((Tt.getD i []).map λn:Nat=>V.int n).length:Int)+(if(i:Int)<(Pp:Int)then 1 else 0)=((rl Tt i+(if i<Pp then 1 else 0):Nat):Int):=by
     rw[Ab_];unfold rl;by_cases z:i<Pp
     .rw[if_pos o_,if_pos z];lia
     .rw[if_neg o_,if_neg z];lia
    rw[eN];have c1:=gR_ Tt Pp (n:=i+1) (m:=Tt.length) hi;have c2:(FP_ Tt Pp Tt.length).length<=900:=c9;rw[dq_,Ae_,Ab_,A9_]at c1;clear eN;generalize hN:rl Tt i+(if i<Pp then 1 else 0)=N at c1⊢;show⟨o_,o_,?_⟩;obtain⟨R',vs,eR,hR',reps⟩:=rep;cases eR;obtain⟨nR,hR1⟩:=bq_ hR';have lv:=reps.length;rw[Ab_]at lv;show cc_ (n:=N) (B:=H) (Pσ:=λσ=>∃e,σ=[e,some (.int i)]) (ds:=((List.range N).map λk=>(i,k)).map dC) sH ⟨none,rfl⟩ s_ o_ (λj H2 hj s2=>by change j<Int.toNat _;lia) (λH2 s2=>by change Int.toNat _<=_;lia) ?_ ?_
    .rintro D j z d σ' H2 H2' hD hDo hs2 hj hdj ⟨rfl,rfl⟩ ⟨e2,rfl⟩ R2 kR;nofun;show⟨d_,λp hp=>kR _ _ _ ⟨_,rfl⟩ (EM_.new hp) ?_⟩;have:d=dC (i,j):=by rw[AZ_,Ag_,Bo_ hj]at hdj;show(At_ hdj).symm
     rw[this];show nu_ ?_;obtain⟨oD,hoD⟩:=hDo;rw[dV_ (λz=>by rw[z,hoD]at hp;cases hp) ((sH.trans hs2).free hp),ab_];change some (HO.tup [V.int i,V.int (0+(j:Int))])=some (HO.tup [V.int i,V.int j]);rw[BS_]
    .intro D H2 hD s2 rep2;obtain⟨D',ws,eD,hD',reps2⟩:=rep2;cases eD;obtain⟨nD,hD1⟩:=bq_ hD';have lw:=reps2.length;rw[Ab_,Ab_,A9_]at lw;show⟨_,rfl,_,s2 _ _ hR1,_,hD1,AO_ (EN_ (show vs.length+ws.length<=1000 by rw[lv,lw];lia)),λp hp=>⟨(sH.trans s2).trans (EM_.new hp),p,vs++ws,rfl,?_,?_⟩⟩
     .rw[dU_ ((sH.trans s2).free hp),ab_]
     .rw[dq_,hN,Ar_];show(E7_.mono (jw_ (s2.trans (EM_.new hp))) _ reps).append (E7_.mono (jw_ (EM_.new hp)) _ reps2)
   .rintro σ H' ⟨R,e,rfl,sH,rep⟩;nofun;show k R H' sH rep
def Dn(p k:Nat)(e:Nat×Nat):Prop:=e.1<p\/(e.1=p/\e.2<k)
theorem py_{a b:Nat×Nat}(h:cK a=cK b):a=b:=by
 unfold cK at h;injection h with h1 h2
 injection h2 with h2 _
 injection h1 with h1
 injection h2 with h2
 show Bd_ o_ o_
structure Mi{α:Type}(ky:α->Key)(T:List (List α))(S:Hp)(D:Nat×Nat->Prop)(k1:List (Key×V))(k2:List (List Key×V)):Prop where
 fi:∀w:α,(∃c q,D c/\wi T c=some w/\FH_ k1 (ky w)=some (.ref q)/\S q=some (cV c))\/((∀c,D c->wi T c≠some w)/\FH_ k1 (ky w)=none)
 ma:∀a b,Hn_ T a b->D a->D b->∃q,FH_ k2 (cK a)=some (.ref q)/\S q=some (cV b)
variable{S:Hp}{k1:List (Key×V)}{k2:List (List Key×V)}
theorem Mi.mono{α:Type}{ky:α->Key}{T:List (List α)}{S':Hp}{D:Nat×Nat->Prop}(h:Mi ky T S D k1 k2)(s:EM_ S S'):Mi ky T S' D k1 k2 :=
 ⟨λw=>(h.fi w).imp (λ⟨c,q,a,b,d,e⟩=>⟨c,q,a,b,d,s _ _ e⟩) id,λa b m x y=>(h.ma a b m x y).elim λq z=>⟨q,z.1,s _ _ z.2⟩⟩
theorem Mi.imp{α:Type}{ky:α->Key}{T:List (List α)}{D D':Nat×Nat->Prop}(h:Mi ky T S D k1 k2)(i:∀c w,wi T c=some w->(D c↔D' c)):Mi ky T S D' k1 k2 :=
 ⟨λw=>(h.fi w).imp (λ⟨c,q,a,b,d,e⟩=>⟨c,q,(i c _ b).mp a,b,d,e⟩) (λ⟨a,b⟩=>⟨λc x y=>a c ((i c _ y).mpr x) y,b⟩),λa b m x y=>by obtain⟨_,w,wa,wb⟩:=id m;show h.ma a b m ((i a _ wa).mpr x) ((i b _ wb).mpr y)⟩
theorem Mi.new{α:Type}[DecidableEq α]{ky:α->Key}{T:List (List α)}{D:Nat×Nat->Prop}(h:Mi ky T S D k1 k2){c0:Nat×Nat}{w:α}{q0:Addr}(inj:∀a b,ky a=ky b->a=b)(hw:wi T c0=some w)(hn:FH_ k1 (ky w)=none)(h0:S q0=some (cV c0)):
  Mi ky T S (λc=>D c\/c=c0) (FQ_ k1 (ky w) (.ref q0)) k2:=by
 have no:∀c,D c->wi T c≠some w:=by
  rcases h.fi w with⟨c,q,_,_,e,_⟩|⟨a,_⟩
  .rw[hn]at e;cases e
  .show a
 show⟨λw'=>?_,λa b m x y=>?_⟩
 .rw[bt_];by_cases e:w'=w
  .subst e;show .inl ⟨c0,q0,.inr rfl,hw,by rw[if_pos rfl],h0⟩
  .rw[if_neg (λz=>e (inj _ _ z))]
   rcases h.fi w' with⟨c,q,a,b,d,f⟩|⟨a,b⟩
   .show .inl ⟨c,q,.inl a,b,d,f⟩
   .show .inr ⟨λc hc hcw=>?_,b⟩
    rcases hc with hc|hc
    .show a c hc hcw
    .rw[hc,hw]at hcw;cases hcw;show e rfl
 .obtain⟨ne,w',wa,wb⟩:=id m
  rcases x with x|x <;> rcases y with y|y
  .show h.ma a b m x y
  .rw[y,hw]at wb;cases wb;show absurd wa (no a x)
  .rw[x,hw]at wa;cases wa;show absurd wb (no b y)
  .show absurd (x.trans y.symm) ne
variable{q:Addr}
theorem Mi.old{α:Type}[DecidableEq α]{ky:α->Key}{T:List (List α)}{D:Nat×Nat->Prop}(tw:Tw T)(h:Mi ky T S D k1 k2){c0 c:Nat×Nat}{w:α}{q0:Addr}(hw:wi T c0=some w)(hD:¬ D c0)(hc:D c)(hcw:wi T c=some w)(hq:S q=some (cV c))(h0:S q0=some (cV c0)):
  Mi ky T S (λc=>D c\/c=c0) k1 (FQ_ (FQ_ k2 (cK c0) (.ref q)) (cK c) (.ref q0)):=by
 have ne:c≠c0:=λz=>hD (z▸hc);have m0:Hn_ T c c0:=⟨ne,w,hcw,hw⟩;show⟨λw'=>?_,λa b m x y=>?_⟩
 .rcases h.fi w' with⟨c,q,a,b,d,f⟩|⟨a,b⟩
  .show .inl ⟨c,q,.inl a,b,d,f⟩
  .show .inr ⟨λc' hc' hcw'=>?_,b⟩
   rcases hc' with hc'|hc'
   .show a c' hc' hcw'
   .rw[hc',hw]at hcw';cases hcw';show a c hc hcw
 .rw[bt_,bt_];by_cases e1:a=c
  .subst e1;rw[if_pos rfl,fC_ tw m m0];show⟨q0,rfl,h0⟩
  .rw[if_neg (λz=>e1 (py_ z))];by_cases e2:a=c0
   .subst e2;rw[if_pos rfl,fC_ tw m m0.symm];show⟨q,rfl,hq⟩
   .rw[if_neg (λz=>e2 (py_ z))];have da:=x.resolve_right e2
    rcases y with y|y
    .show h.ma a b m da y
    .rw[y]at m;show absurd (fC_ tw m.symm m0.symm) e1
structure MS(H S H':Hp)(F M:Addr)(k1:List (Key×V))(k2:List (List Key×V)):Prop where
 hS:EM_ H S
 sF:S F=none
 sM:S M=none
 sH:EM_ S H'
 f:H' F=some (.dK k1)
 m:H' M=some (.dT k2)
variable{H':Hp}{F M:Addr}
theorem MS.new{p:Addr}{o:HO}(h:MS H S H' F M k1 k2)(hp:H' p=none):MS H (upd S p o) (upd H' p o) F M k1 k2:=by
 have nF:F≠p:=λz=>by rw[<-z,h.f]at hp;cases hp
 have nM:M≠p:=λz=>by rw[<-z,h.m]at hp;cases hp
 show⟨h.hS.trans (bn_ h.sH hp),by rw[af_ nF];show h.sF,by rw[af_ nM];show h.sM,hb_ h.sH hp,by rw[af_ nF];show h.f,by rw[af_ nM];show h.m⟩
theorem MS.ne(h:MS H S H' F M k1 k2):F≠M:=λz=>by have:=h.f;rw[z,h.m]at this;cases this
theorem MS.putF(h:MS H S H' F M k1 k2)(k1':List (Key×V)):MS H S (upd H' F (.dK k1')) F M k1' k2 :=
 ⟨h.hS,h.sF,h.sM,aT_ h.sH h.sF,ab_,by rw[af_ h.ne.symm];show h.m⟩
theorem MS.putM(h:MS H S H' F M k1 k2)(k2':List (List Key×V)):MS H S (upd H' M (.dT k2')) F M k1 k2' :=
 ⟨h.hS,h.sF,h.sM,aT_ h.sH h.sM,by rw[af_ h.ne];show h.f,ab_⟩
abbrev Fy_:Stmt:=stN 44
theorem dG_:ZL ["_law_turns","_law_first","_law_mates_here","_law_p","_law_k","_law_wire"] ["_law_turns"] (EL_ Fy_):=zL
theorem fT_:LK Fy_ "len" .globalImplicit:=r_
theorem eG_:LK Fy_ "range" .globalImplicit:=r_
def HA_:Sp:=λvs H Q _=>∃(α:Type)(_:DecidableEq α)(lab:α->V)(ky:α->Key)(l:Addr)(as_:List Addr)(T:List (List α)),vs=[.ref l]/\(∀w,lab w=kV (ky w))/\(∀a b,ky a=ky b->a=b)/\Tg lab H l as_ T/\Tw T/\T.length<=16/\(∀p,rl T p<=30)/\∀m H',EM_ H H'->H m=none->Gd_ H' m T->Q (.ref m) H'
theorem nv_(T:Txt K mg)(F:Fn0 K mg "_law_mates" Fy_):Cal P w K mg base "_law_mates" ["_law_turns"] 1 HA_:=by
  show aZ_ F dG_.1 λf cdv A outer s H vs Q E hr h=>?_;obtain⟨α,dec,lab,ky,l,as_,Tt,rfl,hlab,inj,hT,tw,t16,r30,k⟩:=h;refine'⟨_,?D,?R⟩
  case D =>
   refine' ad_ ?a (ad_ ?b ?c)
   case a=>show zas 1 dG_ ld_
   case b=>show zas 2 dG_ hc_
   case' c=>refine' ad_ (bT_ AS_ rfl (aQ_ eG_ T.n_range (pa_c (aj_ aq_ fT_ T.n_len aK_ (pa_c (zv 0 dG_) aa_)) aa_)) ?d ?e) (ag_ (aB_ (zv 2 dG_)))
   case d=>show zh 3 dG_
   case' e=>refine' ag_ (bT_ AS_ rfl ?f ?g (am_ (zas 5 dG_ (ES_ ap_ (ES_ ap_ (zv 0 dG_) (zv 3 dG_)) (zv 4 dG_))) ?h))
   case' f=>refine' aQ_ eG_ T.n_range (pa_c (aj_ aq_ fT_ T.n_len aK_ (pa_c (ES_ ap_ (zv 0 dG_) (zv 3 dG_)) aa_)) aa_)
   case g=>show zh 4 dG_
   case' h=>refine' ag_ (Ft_ (jc_ (m4_ (un1 hr.units) (zv 5 dG_) (zv 1 dG_))) ?i (ag_ (et_ (un1 hr.units) (zv 1 dG_) (zv 5 dG_) (au_ (pa_c (zv 3 dG_) (pa_c (zv 4 dG_) aa_))) rfl)))
   case' i=>refine' am_ (et_ (un1 hr.units) (zv 2 dG_) (au_ (pa_c (zv 3 dG_) (pa_c (zv 4 dG_) aa_))) (es_ (un1 hr.units) (zv 1 dG_) (zv 5 dG_)) rfl) ?j
   case' j=>refine' ag_ (et_ (un1 hr.units) (zv 2 dG_) (es_ (un1 hr.units) (zv 1 dG_) (zv 5 dG_)) (au_ (pa_c (zv 3 dG_) (pa_c (zv 4 dG_) aa_))) rfl)
  case R =>
   nofun;intro Fd hFd Md hMd;have s0:EM_ H (upd (upd H Fd (HO.dK [])) Md (HO.dT [])):=(EM_.new hFd).trans (EM_.new hMd);have nF:Fd≠Md:=λz=>by rw[<-z,ab_]at hMd;cases hMd
   have hM0:H Md=none:=(EM_.new hFd).free hMd;have ms0:MS H H (upd (upd H Fd (HO.dK [])) Md (HO.dT [])) Fd Md [] []:=⟨EM_.refl _,hFd,hM0,s0,by rw[af_ nF];show ab_,ab_⟩;generalize upd (upd H Fd (HO.dK [])) Md (HO.dT [])=H0 at s0 ms0⊢;show⟨_,.inl (s0 _ _ hT.top),?_⟩;rw[Ab_,hT.len];show⟨o_,o_,?_⟩;rw[AD_];show ex_ (λi σ H'=>∃(S:Hp)(k1:List (Key×V))(k2:List (List Key×V))(e3 e4 e5:Option V),σ=[some (.ref l),some (.ref Fd),some (.ref Md),e3,e4,e5]/\MS H S H' Fd Md k1 k2/\Mi ky Tt S (Dn i 0) k1 k2/\k1.length<=30*i/\k2.length<=60*i) ?_ ?_ ?_
   .show⟨H,[],[],_,_,_,rfl,ms0,⟨λw=>.inr ⟨λc hc=>?_,rfl⟩,λa b m x y=>?_⟩,Ah_ _,Ah_ _⟩
    .rcases hc with z|z <;> lia
    .rcases x with z|z <;> lia
   .rintro i σ H' hi kc kb hkc hkb G hG ⟨S,k1,k2,e3,e4,e5,rfl,ms,mi,l1,l2⟩;show hG ?_;have hT1:=(hT.mono ms.hS).mono ms.sH;obtain⟨a,ea,at0,ra⟩:=hT1.at_ hi;nofun;rw[BS_];show⟨_,hT1.top,_,at0,_,rfl,_,.inl ra,?_⟩;rw[Ab_];have r3:=r30 i;unfold rl at r3;show⟨o_,o_,?_⟩;rw[AD_];show ex_ (λj σ H'=>∃(S:Hp)(k1:List (Key×V))(k2:List (List Key×V))(e4 e5:Option V),σ=[some (.ref l),some (.ref Fd),some (.ref Md),some (.int i),e4,e5]/\MS H S H' Fd Md k1 k2/\Mi ky Tt S (Dn i j) k1 k2/\k1.length<=30*i+j/\k2.length<=60*i+2*j) ?_ ?_ ?_
    .show⟨S,k1,k2,_,_,rfl,ms,mi,o_,o_⟩
    .clear ms mi l1 l2 hT1 ra ea at0 a k1 k2 S;rintro j σ H' hj kc2 kb2 hkc2 hkb2 G2 hG2 ⟨S,k1,k2,e4,e5,rfl,ms,mi,l1,l2⟩;show hG2 ?_;have hT1:=(hT.mono ms.hS).mono ms.sH;obtain⟨a,ea,at0,ra⟩:=hT1.at_ hi;nofun;simp only[BS_];obtain⟨w,hw⟩:∃w,(Tt.getD i [])[j]?=some w:=⟨_,Aa_ hj⟩;have hwi:wi Tt (i,j)=some w:=hw;have i16:i<16:=o_
     have nD:¬ Dn i j (i,j):=by unfold Dn;lia
     have eD:∀c w',wi Tt c=some w'->((Dn i j c\/c=(i,j))↔Dn i (j+1) c):=λc w' _=>by
      unfold Dn;constructor
      .rintro((z|⟨z,z2⟩)|z)
       .show .inl z
       .show .inr ⟨z,o_⟩
       .rw[z];show .inr ⟨rfl,B3_ _⟩
      .rintro(z|⟨z,z2⟩)
       .show .inl (.inl z)
       .by_cases y:c.2=j
        .show .inr (Bd_ z y)
        .show .inl (.inr ⟨z,o_⟩)
     show⟨_,hT1.top,_,at0,_,rfl,_,ra,kV (ky w),?_,?_⟩
     .show cN_ o_ (by rw[AD_,Ag_,hw,B8_,hlab])
     nofun;show⟨_,Ge_.k (k:=ky w) ms.f,?_⟩
     rcases mi.fi w with⟨c,q,dc,wc,hv,hq⟩|⟨no,hv⟩
     .rw[if_pos (by rw[hv];rfl)];nofun;show⟨.ref q,hv▸Ge_.k (k:=ky w) ms.f,d_,λp hp=>?_⟩;have ms1:=ms.new (o:=cV (i,j)) hp;have ms2:=ms1.putM (FQ_ k2 (cK (i,j)) (.ref q));have z1:=bv_ k2 (cK (i,j)) (.ref q);show⟨_,HH_.t (k:=cK (i,j)) ms1.m ab_ (EN_ o_),?_⟩;nofun;show⟨d_,λq0 hq0=>?_⟩;have ms3:=ms2.new (o:=cV (i,j)) hq0;have mi3:=(mi.mono (bn_ (o:=cV (i,j)) ms.sH hp)).mono (bn_ (o:=cV (i,j)) ms2.sH hq0);have hqS:=bn_ (o:=cV (i,j)) ms2.sH hq0 _ _ (bn_ (o:=cV (i,j)) ms.sH hp _ _ hq);have z2:=bv_ (FQ_ k2 (cK (i,j)) (.ref q)) (cK c) (.ref q0);show⟨.ref q,hv▸Ge_.k (k:=ky w) ms3.f,_,HH_.t (k:=cK c) ms3.m (ms3.sH _ _ hqS) (EN_ o_),?_⟩;show hkc2 _ _ ⟨_,_,_,_,_,rfl,ms3.putM _,(Mi.old tw mi3 hwi nD dc wc hqS ab_).imp eD,o_,o_⟩
     .rw[if_neg (by rw[hv];decide)];show⟨d_,λq0 hq0=>?_⟩;have ms1:=ms.new (o:=cV (i,j)) hq0;have z1:=bv_ k1 (ky w) (.ref q0);show⟨_,HH_.k (k:=ky w) ms1.f (EN_ o_),?_⟩;show hkc2 _ _ ⟨_,_,_,_,_,rfl,ms1.putF _,((mi.mono (bn_ ms.sH hq0)).new inj hwi hv ab_).imp eD,o_,o_⟩
    .rintro σ H' ⟨S,k1,k2,e4,e5,rfl,ms,mi,l1,l2⟩;show hkc _ _ ⟨S,k1,k2,_,_,_,rfl,ms,mi.imp λc w hw=>?_,o_,o_⟩;have:=(FN_ hw).1;unfold rl at this;unfold Dn;constructor
     .rintro(z|⟨z,z2⟩)
      .show .inl o_
      .show .inl o_
     .rintro(z|⟨z,z2⟩)
      .by_cases y:c.1=i
       .rw[y]at this;show .inr ⟨y,this⟩
       .show .inl o_
      .lia
   .rintro σ H' ⟨S,k1,k2,e3,e4,e5,rfl,ms,mi,l1,l2⟩;nofun;show k Md H' (ms.hS.trans ms.sH) hM0 ⟨k2,ms.m,λa b m=>?_⟩;obtain⟨ne,w,wa,wb⟩:=id m;obtain⟨q,h1,h2⟩:=mi.ma a b m (.inl (FN_ wa).2) (.inl (FN_ wb).2);show⟨q,h1,ms.sH _ _ h2⟩
structure To(B H:Hp)(l:Addr)(as_:List Addr)(T:List (List Nat)):Prop where
 tn:Tn H l as_ T
 nd:as_.Nodup
 nl:l∉as_
 fl:B l=none
 fa:∀a∈as_,B a=none
variable{T:List (List Nat)}
theorem To.mono{B:Hp}(h:To B H l as_ T)(s:EM_ H H'):To B H' l as_ T:=⟨h.tn.mono s,h.nd,h.nl,h.fl,h.fa⟩
theorem kI_(n p:Nat):(List.replicate n ([]:List Nat)).getD p []=[]:=by rw[Ac_,Ct_];split <;> rfl
theorem Iv_(T:List (List Nat))(p:Nat):rl T p<=T.flatten.length:=by
 unfold rl;rw[Ac_];cases e:T[p]? with
 |none=>show AP_ _
 |some l =>
  obtain⟨hp,e1⟩:=Al_.mp e;have h2:T.flatten.length=(T.take p).flatten.length+(T.drop p).flatten.length:=by rw[<-Ae_,<-Ba_,A5_]
  rw[C1_ hp,e1,AR_,Ae_]at h2;change l.length<=_;lia
theorem both{c1:Prop}[Decidable c1]{α:Type}{C:α->Prop}{c2:α->Prop}[∀x,Decidable (c2 x)]{X:α->Prop}{Y:Prop}(a:α)(ha:C a)(hX:c1->c2 a->X a)(hY:Y):if c1 then ∃x,C x/\(if c2 x then X x else Y)else Y:=by
 by_cases h1:c1
 .rw[if_pos h1];show⟨a,ha,?_⟩;by_cases h2:c2 a
  .rw[if_pos h2];show hX h1 h2
  .rw[if_neg h2];show hY
 .rw[if_neg h1];show hY
theorem kJ_(l:List Nat)(k wire:Nat):(l.map λn:Nat=>V.int n).take k++V.int (0+(wire:Nat))::(l.map λn:Nat=>V.int n).drop k=(RimT.ins l k wire).map λn:Nat=>V.int n:=by unfold RimT.ins;rw[Ar_,Az_,CB_,Ds_,BS_]
theorem To.ins{B:Hp}(h:To B H l as_ T){c:Nat×Nat}{a:Addr}(ha:as_[c.1]?=some a)(wire:Nat):To B (upd H a (.lst ((RimT.ins (T.getD c.1 []) c.2 wire).map λn:Nat=>V.int n))) l as_ (EP_ T c wire):=by
 have la:l≠a:=λe=>h.nl (by rw[e];show Am_ ha);have cl:c.1<as_.length:=(Al_.mp ha).1;show⟨⟨by rw[af_ la];show h.tn.top,by rw[al_];show h.tn.len,λp b hb=>?_⟩,h.nd,h.nl,h.fl,h.fa⟩;by_cases e:c.1=p
 .subst e;rw[ha]at hb;cases hb;rw[ab_];unfold EP_;rw[Ac_ (l:=T.set _ _),List.getElem?_set,if_pos rfl,if_pos (by rw[<-h.tn.len];show cl)];rfl
 .have ba:b≠a:=λz=>by rw[z]at hb;show e ((AY_ cl h.nd).mp (ha.trans hb.symm))
  rw[af_ ba,h.tn.row p b hb];unfold EP_;rw[Ac_ (l:=T.set _ _),List.getElem?_set,if_neg e,<-Ac_]
theorem To.more{B:Hp}(h:To B H l as_ T)(sB:EM_ B H){a:Addr}(na:H a=none)(r:List Nat):To B (upd (upd H a (.lst (r.map λn:Nat=>V.int n))) l (.lst ((as_++[a]).map V.ref))) l (as_++[a]) (T++[r]):=by
 have la:l≠a:=ae_ h.tn.top na;have an:a∉as_:=λz=>by obtain⟨p,hp,e⟩:=As_.mp z;have:=h.tn.row p a (by rw[Aa_ hp,e]);rw[na]at this;cases this
 show⟨⟨ab_,by simp[h.tn.len],λp b hb=>?_⟩,AA_.mpr ⟨h.nd,s_,λx hx y hy e=>an (by rw[<-Ad_.mp hy,<-e];show hx)⟩,λz=>?_,h.fl,λb hb=>?_⟩
 .have bl:b≠l:=λe=>by
   rw[e]at hb
   rcases Ao_.mp (Am_ hb)with z|z
   .show h.nl z
   .show la (Ad_.mp z)
  rw[af_ bl];by_cases hp:p<as_.length
  .rw[Ay_ hp]at hb;have e:=h.tn.row p b hb;rw[af_ (λz=>by rw[z,na]at e;cases e),e,Ac_,Ac_,Ay_ (by rw[<-h.tn.len];show hp)]
  .rw[AK_ o_]at hb;have e:=Ad_.mp (Am_ hb);have hz:p=as_.length:=by have:=(Al_.mp hb).1;simp at this;lia
   rw[e,ab_,hz,h.tn.len,Ac_,AK_ (Ah_ _)];simp
 .rcases Ao_.mp z with z|z
  .show h.nl z
  .show la (Ad_.mp z)
 .rcases Ao_.mp hb with z|z
  .show h.fa b z
  .rw[Ad_.mp z];show sB.free na
abbrev E3_:Stmt:=stN 48
theorem a8_:ZL ["_law_big_here","_law_posts","_law_many","_law_within","_law_turns","_law_wire","_law_corners_here","_law_one","_law_way","_law_region_here","_law_other","_law_p","_law_k"] ["_law_big_here","_law_posts","_law_many","_law_within"] (EL_ E3_):=zL
theorem bd_:LK E3_ "_law_turns" .local:=r_
theorem fU_:LK E3_ "_law_corners" .globalImplicit:=r_
theorem g0_:LK E3_ "_law_mates" .globalImplicit:=r_
theorem gm_:LK E3_ "_law_region" .globalImplicit:=r_
theorem bZ_:LK E3_ "len" .globalImplicit:=r_
theorem eH_:LK E3_ "range" .globalImplicit:=r_
theorem g1_:LK E3_ "sorted" .globalImplicit:=r_
def Hw_:Sp:=λvs H Q _=>∃(z:Int)(P W:Nat),vs=[.int z,.int P,.int W,.int 10]/\1<=P/\P<=6/\W<=15 /\
 ∀(p l:Addr)(as_:List Addr)(T:List (List Nat))(y:Int) H',EM_ H H'->H' p=some (.tup [.ref l,.int y])->To H H' l as_ T->GrP P W T->Q (.ref p) H'
theorem nw_(T:Txt K mg)(F:Fn0 K mg "_law_grown" E3_) (HR_:Cal P w K mg base "_law_corners" ["_law_turns","_law_posts"] 1 GL_) (IS_:Cal P w K mg base "_law_mates" ["_law_turns"] 1 HA_) (Iw_:Cal P w K mg base "_law_region" ["_law_turns","_law_posts","_law_mates_here","_law_corner"] 2 G3_):Cal P w K mg base "_law_grown" ["_law_big_here","_law_posts","_law_many","_law_within"] 3 Hw_:=by
  show aZ_ F a8_.1 λf cdv A outer s H vs Q E hr h=>?_;obtain⟨z,Pp,W,rfl,P1,P6,W15,k⟩:=h;refine'⟨_,?D,?R⟩
  case D =>
   refine' am_ (mV_ (i:=4) (N':=["_law_p"]) (ix:=[none]) rfl rfl a8_.nd rfl bd_ rfl (bG_ ?a) (aQ_ eH_ T.n_range (pa_c (zv 1 a8_) aa_)) (λ_ _ _=>?b) (λ_ _ _=>?c) (λ_ _ _=>(bH_ aa_))) ?d
   case a=>show(by change Gr_ (EL_ E3_) ["_law_big_here","_law_posts","_law_many","_law_within","_law_turns","_law_wire","_law_corners_here","_law_one","_law_way","_law_region_here","_law_other","_law_p","_law_k"] _ _ _=true;decide +kernel)
   case b=>show ai_ (i:=0) (by change List.Nodup (["_law_p"]:List Str);decide +kernel) rfl rfl
   case c=>show bU_
   case' d=>refine' ad_ ?e (ag_ (aB_ (au_ (pa_c (zv 4 a8_) (pa_c (zv 0 a8_) aa_)))))
   case' e=>refine' bT_ AS_ rfl (aQ_ eH_ T.n_range (pa_c (zv 2 a8_) aa_)) ?f (am_ (zas 6 a8_ (an_ HR_ (hr.mono d_) fU_ (pa_c (zv 4 a8_) (pa_c (zv 1 a8_) aa_)))) ?g)
   case f=>show zh 5 a8_
   case' g=>refine' am_ (zas 7 a8_ (ES_ ap_ (zv 6 a8_) (EO_ aL_ (zv 0 a8_) (aj_ aq_ bZ_ T.n_len aK_ (pa_c (zv 6 a8_) aa_))))) ?h
   case' h=>refine' am_ (zas 0 a8_ (EO_ av_ (zv 0 a8_) (aj_ aq_ bZ_ T.n_len aK_ (pa_c (zv 6 a8_) aa_)))) ?i
   case' i=>refine' am_ (zas 8 a8_ (EO_ aL_ (zv 0 a8_) ac_)) (am_ (zas 0 a8_ (EO_ av_ (zv 0 a8_) ac_)) (ag_ ?j))
   case' j=>refine' Ft_ ?k (am_ ?l (ag_ (aw_ (FM_ Av_ A0_ A1_ aY_ (zv 4 a8_) (pa_c (bH_ (pa_c (zv 5 a8_) aa_)) aa_))))) ?m
   case' k=>refine' PW.pt (qT_ (aE_ Gh_ (zv 8 a8_) ac_ (E5_ _)) (pL_ (aE_ HN_ (aj_ aq_ bZ_ T.n_len aK_ (pa_c (zv 4 a8_) aa_)) (EO_ aO_ (zv 1 a8_) (zv 3 a8_)) (E5_ _))))
   case' l=>refine' aw_ (FM_ Av_ PySem.F.slot_list_insert PySem.F.type_list_insert dz_ (ES_ ap_ (zv 4 a8_) (ES_ ao_ (zv 7 a8_) ac_)) (pa_c (ES_ ao_ (zv 7 a8_) ac_) (pa_c (zv 5 a8_) aa_)))
   case' m=>refine' am_ ?n (am_ (zas 10 a8_ (ES_ ap_ (zv 9 a8_) (EO_ aL_ (zv 0 a8_) (aj_ aq_ bZ_ T.n_len aK_ (pa_c (zv 9 a8_) aa_))))) ?o)
   case' n=>refine' zas 9 a8_ (an_ Iw_ (hr.mono d_) gm_ (pa_c (zv 4 a8_) (pa_c (zv 1 a8_) (pa_c (an_ IS_ (hr.mono d_) g0_ (pa_c (zv 4 a8_) aa_)) (pa_c (zv 7 a8_) aa_)))))
   case' o=>refine' am_ (zas 0 a8_ (EO_ av_ (zv 0 a8_) (aj_ aq_ bZ_ T.n_len aK_ (pa_c (zv 9 a8_) aa_)))) ?p
   case' p=>refine' ag_ (bT_ AS_ rfl ?q (br_ (K:=K) (n:=2) rfl rfl (ar_ ?r (ar_ ?s bp_))) ?t)
   case' q=>refine' aS_ (K:=K) rfl (ky_ hr.units g1_ T.n_sorted (pa_c (bH_ (pa_c (zv 7 a8_) (pa_c (zv 10 a8_) aa_))) aa_))
   case r=>show zh 11 a8_
   case s=>show zh 12 a8_
   case' t=>refine' ag_ (aw_ (FM_ Av_ PySem.F.slot_list_insert PySem.F.type_list_insert dz_ (ES_ ap_ (zv 4 a8_) (zv 11 a8_)) (pa_c (zv 12 a8_) (pa_c (zv 5 a8_) aa_))))
  case R =>
   nofun;show⟨o_,o_,?_⟩;rw[show Int.toNat (Pp:Int)=Pp by lia];intro D hD;show⟨λi m σ H'=>m=Pp-i/\i<=Pp/\(∃e,σ=[e])/\EM_ H H'/\∃as_:List Addr,as_.length=i/\To H H' D as_ (List.replicate i []),⟨Pp,s_,AP_ _,⟨_,rfl⟩,EM_.new hD,[],rfl,⟨⟨ab_,rfl,λp a h=>(by cases h)⟩,Bf_,λh=>(by cases h),hD,λa h=>(by cases h)⟩⟩,?_⟩;rintro i m σ H' ⟨rfl,hi,⟨e,rfl⟩,s1,as_,al,hT⟩;by_cases hlt:i<Pp
   .show .inr ⟨hlt,λσ2 H2=>(∃e,σ2=[e])/\EM_ H H2/\∃as_:List Addr,as_.length=i+1/\To H H2 D as_ (List.replicate (i+1) []),λσ2 H2 ⟨a,b,c⟩=>⟨Pp-(i+1),o_,rfl,hlt,a,b,c⟩,?_⟩;rintro x H'' ⟨rfl,rfl⟩;nofun;show⟨AP_ _,λa na=>?_⟩;have fa:H a=none:=s1.free na;have Da:D≠a:=ae_ hT.tn.top na;show⟨as_.map V.ref,by rw[af_ Da];show hT.tn.top,EN_ (by rw[Ab_];lia),⟨_,rfl⟩,λb o hb=>?_,as_++[a],by simp[al],?_⟩
    .rw[af_ (ae_ hb hD),af_ (ae_ hb fa)];show s1 _ _ hb
    .have an:a∉as_:=λh=>by obtain⟨p,hp,e⟩:=As_.mp h;have:=hT.tn.row p a (by rw[Aa_ hp,e]);rw[na]at this;cases this
     show⟨⟨by rw[ab_,Ar_];rfl,by simp[al],λp b hb=>?_⟩,?_,?_,hD,λb hb=>?_⟩
     .have hbD:b≠D:=λe=>by
       rw[e]at hb
       rcases Ao_.mp (Am_ hb)with h|h
       .show hT.nl h
       .show Da (Ad_.mp h)
      rw[af_ hbD];by_cases hp:p<as_.length
      .rw[Ay_ hp]at hb;have e:=hT.tn.row p b hb;rw[af_ (λz=>by rw[z,na]at e;cases e),e,kI_,show([]:List Nat)::List.replicate i []=List.replicate (i+1) []from rfl,kI_]
      .have e:b=a:=by rw[AK_ o_]at hb;have:=Am_ hb;show Ad_.mp this
       rw[e,ab_,show([]:List Nat)::List.replicate i []=List.replicate (i+1) []from rfl,kI_];rfl
     .show AA_.mpr ⟨hT.nd,s_,λx hx y hy e=>an (by rw[<-Ad_.mp hy,<-e];show hx)⟩
     .intro h
      rcases Ao_.mp h with h|h
      .show hT.nl h
      .show Da (Ad_.mp h)
     .rcases Ao_.mp hb with h|h
      .show hT.fa b h
      .rw[Ad_.mp h];show fa
   .have e:i=Pp:=o_
    subst e;show .inl ⟨Ah_ _,?_⟩;nofun;show⟨o_,o_,?_⟩;rw[show Int.toNat (W:Int)=W by lia];show ex_ (λv σ H2=>∃(z:Int)(e5 e6 e7 e8 e9 e10 e11 e12:Option V)(as_:List Addr)(T:List (List Nat)),σ=[some (.int z),some (.int i),some (.int W),some (.int 10),some (.ref D),e5,e6,e7,e8,e9,e10,e11,e12]/\EM_ H H2/\To H H2 D as_ T/\GrP i v T) ⟨z,none,none,none,none,none,none,none,none,as_,_,rfl,s1,hT,nr_ o_⟩ ?_ ?_
    .rintro v σ H2 hv kc kb hkc hkb G hG ⟨z,e5,e6,e7,e8,e9,e10,e11,e12,as_,T,rfl,s2,hT,gr⟩;show hG ?_;have hv':v<W:=hv;have gc:=gr.corners;have gl:=gr.len;have gm:=gr.most;nofun;show⟨D,as_,T,i,rfl,hT.tn,o_,o_,λR H3 s3 repR=>?_⟩;obtain⟨_,vs,e0,hR',hvs⟩:=id repR;cases e0;obtain⟨nR,hR⟩:=bq_ hR';have hvl:vs.length=(corners T i).length:=by rw[hvs.length,Ab_]
     have c0:0<(corners T i).length:=by have:(0,0)∈corners T i:=ak_.mpr ⟨by change 0<T.length;lia,by change 0<_+(if 0<i then 1 else 0);rw[if_pos o_];lia⟩;show List.length_pos_of_mem this
     obtain⟨j,hj,jl⟩:∃j:Nat,z%(vs.length:Int)=j/\j<vs.length:=⟨(z%(vs.length:Int)).toNat,by have:=AV_ z (show(vs.length:Int)≠0 by lia);lia,by have:=AV_ z (show(vs.length:Int)≠0 by lia);have:=AT_ z (show(0:Int)<(vs.length:Int) by lia);lia⟩;obtain⟨xs,ex,hcs⟩:=px_ (E7_.mono ci_ _ hvs);have ec:(corners T i)[j]?=some ((corners T i)[j]'o_):=Aa_ _;obtain⟨q,hxq,hq⟩:=hcs.get ec;have ic:IsC T i ((corners T i)[j]'o_):=ak_.mp (A3_ _);generalize(corners T i)[j]'o_=c at*
     have lg:((vs.length:Int)).natAbs.log2<9000:=by
      have:((vs.length:Int)).natAbs<=1000:=o_
      by_cases h0:((vs.length:Int)).natAbs=0
      .rw[h0];decide
      .rw[Nat.log2_lt h0];show Bn_ this r_
     nofun;show⟨vs,.inl hR,o_,vs,hR,.ref q,?_,?_⟩
     .rw[hj];show cN_ o_ ?_;rw[AD_,ex,Ag_,hxq];rfl
     nofun;show⟨vs,.inl hR,o_,lg,?_⟩;nofun;show⟨d_,?_⟩;nofun;show⟨d_,r_,?_⟩;nofun;have hT3:=hT.mono s3;have s23:=s2.trans s3;have cb:c.2<=rl T c.1:=by have:=ic.2;split at this <;> lia
     show both (as_.map V.ref) (.inl hT3.tn.top) (λh1 h2=>?_) ?_
     .obtain⟨a,ea,at0,ra⟩:=hT3.tn.at_ ic.1;have rw30:rl T c.1<=30:=by have:=Iv_ T c.1;rw[gr.tot]at this;lia
      have rln:(T.getD c.1 []).length=rl T c.1:=rfl;have Da:D≠a:=λe=>hT3.nl (by rw[e];show Am_ ea);have fa:=hT3.fa a (Am_ ea);nofun;show⟨_,hq,_,FL_,_,_,rfl,hT3.tn.top,.ref a,at0,.inl ⟨_,.inl (.inl ra)⟩,_,hq,_,FX_,a,rfl,_,_,rfl,ra,o_,by rw[Ab_,rln];lia,by rw[Ab_,rln];lia,?_⟩;rw[AD_,kJ_];have hT4:=hT3.ins ea v;have s4:EM_ H (upd H3 a (.lst ((RimT.ins (T.getD c.1 []) c.2 v).map λn:Nat=>V.int n))):=λb o hb=>by rw[af_ (ae_ hb fa)];show s23 _ _ hb
      generalize upd H3 a (.lst ((RimT.ins (T.getD c.1 []) c.2 v).map λn:Nat=>V.int n))=H4 at*;nofun;show⟨.inl ⟨_,.inl (.inl hT4.tn.top)⟩,d_,λp np=>?_⟩;have Dp:D≠p:=ae_ hT4.tn.top np;have hT5:=hT4.more s4 np [v];show⟨as_.map V.ref,by rw[af_ Dp];show hT4.tn.top,EN_ (by rw[Ab_];have:=hT4.tn.len;rw[al_]at this;lia),?_⟩;have e1:as_.map V.ref++[V.ref p]=(as_++[p]).map V.ref:=s_
      have e2:[V.int (0+(v:Nat))]=[v].map λn:Nat=>V.int n:=s_
      rw[e1,e2];show hkc _ _ ⟨_,_,_,_,_,_,_,_,_,_,_,rfl,λb o hb=>?_,hT5,oB_ gr ic (by rw[Ab_]at h2;have:=hT3.tn.len;lia)⟩;rw[af_ (ae_ hb hT.fl),af_ (ae_ hb (s4.free np))];show s4 _ _ hb
     .have rl30:∀p,rl T p<=30:=λp=>by have:=Iv_ T p;rw[gr.tot]at this;lia
      nofun;show⟨Nat,_,_,λn:Nat=>.inl (n:Int),D,as_,T,rfl,λ_=>rfl,λa b h=>Int.ofNat.inj (Sum.inl.inj h),hT3.tn,gr.tw,o_,rl30,λM H4 s4 nM hM=>?_⟩;show⟨_,_,_,D,M,q,as_,T,i,c,rfl,hT3.tn.mono s4,hM,gr.tw,o_,gl,s4 _ _ hq,ic,o_,λR2 H5 xs2 cs2 s5 nR2 hR2 hcs2 ne2 len2 all2 wy2 hd2 nn2=>?_⟩;have x2l:xs2.length=cs2.length:=hcs2.len;have l2:0<cs2.length:=BU_.mpr ne2
      have lg2:(((xs2.map V.ref).length:Int)).natAbs.log2<9000:=by
       rw[Ab_];by_cases h0:((xs2.length:Int)).natAbs=0
       .rw[h0];decide
       .rw[Nat.log2_lt h0];show Bn_ (show((xs2.length:Int)).natAbs<=1000 by lia) r_
      generalize hy:z/(vs.length:Int)/3=y;obtain⟨j2,hj2,jl2⟩:∃j:Nat,y%((xs2.map V.ref).length:Int)=j/\j<xs2.length:=by rw[Ab_];have a1:=AV_ y (show(xs2.length:Int)≠0 by lia);have a2:=AT_ y (show(0:Int)<(xs2.length:Int) by lia);show⟨(y%(xs2.length:Int)).toNat,o_,o_⟩
      have ec2:cs2[j2]?=some (cs2[j2]'o_):=Aa_ _;obtain⟨q2,hxq2,hq2⟩:=hcs2.get ec2;have ic2:IsC T i (cs2[j2]'o_):=all2 _ (A3_ _);have md:(cs2[j2]'o_)∈cs2:=A3_ _;generalize cs2[j2]'o_=d at*;have hq5:=s5 _ _ (s4 _ _ hq);nofun;show⟨_,.inl hR2,by rw[Ab_];lia,_,hR2,.ref q2,?_,?_⟩
      .rw[hj2];show cN_ o_ ?_;rw[AD_,Ag_,hxq2];rfl
      nofun;show⟨_,.inl hR2,by rw[Ab_];lia,lg2,?_⟩;nofun;show⟨d_,λp np=>⟨(c.1,c.2),(EM_.new np) _ _ hq5,(d.1,d.2),(EM_.new np) _ _ hq2,λl zs nl hzs=>⟨⟨_,.inl (.inl ab_)⟩,?_⟩⟩⟩;have cyl:Cyl (Nx T i) cs2:=Reg.cyl ⟨wy2,hd2,nn2⟩;have mc:c∈cs2:=List.mem_of_head? hd2
      obtain⟨r1,r2,a1,a2,ez,g1,g2,i1,i2,ab12,sm12⟩:∃(r1 r2:Addr)(a1 a2:Nat×Nat),zs=[V.ref r1,V.ref r2]/\H5 r1=some (cV a1)/\H5 r2=some (cV a2)/\IsC T i a1/\IsC T i a2/\(a2.1≠a1.1\/a2.2<=a1.2)/\∃l,Cyl (Nx T i) l/\a1∈l/\a2∈l:=by
       rcases hzs with⟨e,lx⟩|⟨e,lx⟩
       .show⟨q,q2,c,d,e,hq5,hq2,ic,ic2,by have:=hO_.mp lx;dsimp only at this;lia,cs2,cyl,mc,md⟩
       .show⟨q2,q,d,c,e,hq2,hq5,ic2,ic,by have:=hO_.mp lx;dsimp only at this;lia,cs2,cyl,md,mc⟩
      have S6:EM_ H5 (upd (upd H5 p (HO.lst [V.ref q,V.ref q2])) l (HO.lst zs)):=(EM_.new np).trans (EM_.new nl);have hT6:=((hT3.mono s4).mono s5).mono S6;have s6:EM_ H (upd (upd H5 p (HO.lst [V.ref q,V.ref q2])) l (HO.lst zs)):=s23.trans (s4.trans (s5.trans S6));have hl6:=ab_ (H:=upd H5 p (HO.lst [V.ref q,V.ref q2])) (a:=l) (o:=HO.lst zs);have h61:=S6 _ _ g1;have h62:=S6 _ _ g2;have lT:l∉as_:=λz=>by obtain⟨p',hp',e⟩:=As_.mp z;have e2:=((hT3.mono s4).mono s5).tn.row p' l (by rw[Aa_ hp',e]);have e3:=(EM_.new np (o:=HO.lst [V.ref q,V.ref q2])) _ _ e2;rw[nl]at e3;cases e3
      generalize upd (upd H5 p (HO.lst [V.ref q,V.ref q2])) l (HO.lst zs)=H6 at*;have notT:∀r a,H6 r=some (cV a)->r∉as_:=λr a hr z=>by obtain⟨p',hp',e⟩:=As_.mp z;have e2:=hT6.tn.row p' r (by rw[Aa_ hp',e]);rw[hr]at e2;cases e2
      subst ez
      have step:∀(T':List (List Nat))(a:Nat×Nat)(H7:Hp),T'.length=T.length->(∀p,rl T p<=rl T' p)->(∀p,rl T' p<=40)->IsC T i a->To H H7 D as_ T'->EM_ H H7->∃ad,atI (as_.map V.ref) (a.1:Int)=some (.ref ad)/\H7 ad=some (.lst ((T'.getD a.1 []).map λn:Nat=>V.int n))/\(a.2:Nat)<=(T'.getD a.1 []).length/\(T'.getD a.1 []).length<1000/\ad∈as_/\To H (upd H7 ad (.lst ((RimT.ins (T'.getD a.1 []) a.2 v).map λn:Nat=>V.int n))) D as_ (EP_ T' a v)/\EM_ H (upd H7 ad (.lst ((RimT.ins (T'.getD a.1 []) a.2 v).map λn:Nat=>V.int n))):=λT' a H7 hl hm h40 ia hT7 s7=>by
       obtain⟨ad,ea,at0,ra⟩:=hT7.tn.at_ (p:=a.1) (by rw[hl];show ia.1);have:=ia.2;have m1:=hm a.1;have m2:=h40 a.1;have ab:a.2<=rl T a.1:=by split at this <;> lia
       show⟨ad,at0,ra,by unfold rl at*;lia,by unfold rl at*;lia,Am_ ea,hT7.ins ea v,λb o hb=>?_⟩;rw[af_ (ae_ hb (hT7.fa ad (Am_ ea)))];show s7 _ _ hb
      have lenS:∀(T':List (List Nat))(a:Nat×Nat)(p:Nat),rl (EP_ T' a v) p<=rl T' p+1:=λT' a p=>by
       unfold EP_ rl;rw[Ac_,Ac_,List.getElem?_set];by_cases h:a.1=p
       .subst h;by_cases h2:a.1<T'.length
        .simp only[if_true,h2,Option.getD_some,eW_];rw[Ac_];show Ah_ _
        .simp[h2,Bh_ (BZ_.mp h2)]
       .simp[h]
      show ot_ (xs:=[V.ref r1,V.ref r2]) (λt σ H7=>∃(e11 e12:Option V),σ=[some (.int (y/((xs2.map V.ref).length:Int))),some (.int i),some (.int W),some (.int 10),some (.ref D),some (.int (0+(v:Nat))),some (.ref R),some (.ref q),some (.int (z/(vs.length:Int)%3)),some (.ref R2),some (.ref q2),e11,e12]/\EM_ H H7/\(∀b o,b∉as_->H6 b=some o->H7 b=some o)/\To H H7 D as_ (if t=0 then T else if t=1 then EP_ T a1 v else EP_ (EP_ T a1 v) a2 v)) ⟨e11,e12,rfl,s6,λb o _ h=>h,hT6⟩ ?_ ?_ ?_
      .rintro t σ H7 ht ⟨e11,e12,rfl,s7,k7,hT7⟩;show .inl (.inl (k7 _ _ lT hl6))
      .rintro t x σ H7 hx kc2 kb2 hkc2 hkb2 G2 hG2 ⟨e11,e12,rfl,s7,k7,hT7⟩;show hG2 ?_
       match t,hx with
       |0,hx =>
        cases hx;have hr1:=k7 _ _ (notT _ _ h61) h61;obtain⟨ad,at0,ra,ab,a1000,ain,hT8,s8⟩:=step T a1 H7 rfl (λ_=>Ah_ _) (λp=>by have:=rl30 p;lia) i1 hT7 s7;nofun;show⟨_,SqT.of hr1,rfl,_,_,rfl,_,_,rfl,rfl,_,_,rfl,hT7.tn.top,.ref ad,at0,.inl ⟨_,.inl (.inl ra)⟩,ad,rfl,_,_,rfl,ra,o_,by rw[Ab_,AD_];show ab,by rw[Ab_];show a1000,?_⟩;rw[AD_,kJ_];show hkc2 _ _ ⟨_,_,rfl,s8,λb o hb h=>by rw[af_ (λe=>hb (by rw[e];show ain))];show k7 b o hb h,hT8⟩
       |1,hx =>
        cases hx;have hr2:=k7 _ _ (notT _ _ h62) h62;obtain⟨ad,at0,ra,ab,a1000,ain,hT8,s8⟩:=step (EP_ T a1 v) a2 H7 (al_ ..) (λp=>he_ v p) (λp=>by have:=rl30 p;have:=lenS T a1 p;lia) i2 hT7 s7;nofun;show⟨_,SqT.of hr2,rfl,_,_,rfl,_,_,rfl,rfl,_,_,rfl,hT7.tn.top,.ref ad,at0,.inl ⟨_,.inl (.inl ra)⟩,ad,rfl,_,_,rfl,ra,o_,by rw[Ab_,AD_];show ab,by rw[Ab_];show a1000,?_⟩;rw[AD_,kJ_];show hkc2 _ _ ⟨_,_,rfl,s8,λb o hb h=>by rw[af_ (λe=>hb (by rw[e];show ain))];show k7 b o hb h,hT8⟩
      .rintro σ H7 ⟨e11,e12,rfl,s7,k7,hT7⟩;show hkc _ _ ⟨_,_,_,_,_,_,_,_,_,as_,_,rfl,s7,hT7,qk_ gr i1 i2 ab12 sm12⟩
    .rintro σ H2 ⟨z,e5,e6,e7,e8,e9,e10,e11,e12,as_,T,rfl,s2,hT,gr⟩;nofun;show⟨d_,λp np=>k p D as_ T z _ (s2.trans (EM_.new np)) ab_ (hT.mono (EM_.new np)) gr⟩
def sgs:List Nat:=(Str.ofString "abcdefghijklmnopqrstuvwxyz0123456789").cps.toList
theorem nx_:sgs.length=36:=r_
theorem rt_:sgs.Nodup:=r_
def sg(i:Nat):Nat:=sgs.getD i 0
variable{i:Nat}
theorem IO_(h:i<36):sgs[i]?=some (sg i):=by unfold sg;rw[Ac_,Aa_ (by rw[nx_];show h)];rfl
theorem ny_{j:Nat}(hi:i<36)(hj:j<36)(h:sg i=sg j):i=j:=(AY_ (by rw[nx_];show hi) rt_).mp (by rw[IO_ hi,IO_ hj,h])
theorem lB_{z:Int}(h0:0<=z)(h1:z<36):atI sgs z=some (sg z.toNat):=cN_ h0 (IO_ o_)
def one(c:Nat):Str:=⟨#[c]⟩
def nmA(hd tl:Str)(fi k:Nat):Str:=hd++one (sg ((fi+7*k)%36))++tl
theorem hf_(a b:Str):(a++b).cps.toList=a.cps.toList++b.cps.toList:=by change(a.cps++b.cps).toList=_;simp
theorem qu_{hd tl:Str}{fi a b:Nat}(ha:a<16)(hb:b<16)(h:nmA hd tl fi a=nmA hd tl fi b):a=b:=by have e:=congrArg (λs:Str=>s.cps.toList) h;simp only[nmA,hf_]at e;have e2:=List.append_cancel_right e;have e3:=List.append_cancel_left e2;have e4:sg ((fi+7*a)%36)=sg ((fi+7*b)%36):=(BY_ e3).1;have:=ny_ (Nat.mod_lt _ d_) (Nat.mod_lt _ d_) e4;lia
def nmB(fi k:Nat):Str:=⟨(List.replicate (1+k%7) (sg fi)++if 6<k then[sg ((fi+1+k/7)%36)]else[]).toArray⟩
theorem qv_{fi a b:Nat}(hf:fi<36)(ha:a<16)(hb:b<16)(h:nmB fi a=nmB fi b):a=b:=by
 have e0:=congrArg (λs:Str=>s.cps.toList) h;have e:List.replicate (1+a%7) (sg fi)++(if 6<a then[sg ((fi+1+a/7)%36)]else[])=List.replicate (1+b%7) (sg fi)++(if 6<b then[sg ((fi+1+b/7)%36)]else[]):=by simpa[nmB]using e0
 have ne:∀c,6<c->c<16->sg ((fi+1+c/7)%36)≠sg fi:=λc h1 h2 z=>by have:=ny_ (Nat.mod_lt _ d_) hf z;lia
 have len:=congrArg List.length e;simp only[Ae_,Ch_]at len;have last:=congrArg List.getLast? e;by_cases h1:6<a <;> by_cases h2:6<b
 .rw[if_pos h1,if_pos h2]at last len;rw[List.getLast?_append,List.getLast?_append]at last;have e4:sg ((fi+1+a/7)%36)=sg ((fi+1+b/7)%36):=by simpa using last
  have:=ny_ (Nat.mod_lt _ d_) (Nat.mod_lt _ d_) e4;simp at len;lia
 .rw[if_pos h1,if_neg h2]at last;rw[List.getLast?_append,A6_,Nat.add_comm 1 (b%7),List.replicate_succ',List.getLast?_append]at last;show absurd (by simpa using last) (ne a h1 ha)
 .rw[if_neg h1,if_pos h2]at last;rw[A6_,Nat.add_comm 1 (a%7),List.replicate_succ',List.getLast?_append,List.getLast?_append]at last;show absurd (by simpa using last.symm) (ne b h2 hb)
 .rw[if_neg h1,if_neg h2]at len;simp at len;lia
theorem lC_{f:Nat->Str}{n:Nat}(h:∀a b,a<n->b<n->f a=f b->a=b):((List.range n).map f).Nodup:=by unfold List.Nodup;rw[Bk_];show B4_ (λ{a b} ha hb ne e=>ne (h a b (AJ_.mp ha) (AJ_.mp hb) e)) CD_
theorem mul_one{c:Nat}:∀m:Nat,1<=m->m<=7->MulOk (one c) (m:Int)/\Txt.mul (one c) (m:Int)=⟨(List.replicate m c).toArray⟩
 |0,h,_=>absurd h d_
 |1,_,_=>⟨⟨d_,λ_ h=>absurd h s_,λ_ h=>absurd h s_⟩,rfl⟩
 |2,_,_=>⟨⟨d_,λ_ _=>(by change ¬ ((1:Int) > _);decide),λ_ _=>(by change Builtin.Str.tooLong 2=false;decide +kernel)⟩,rfl⟩
 |3,_,_=>⟨⟨d_,λ_ _=>(by change ¬ ((1:Int) > _);decide),λ_ _=>(by change Builtin.Str.tooLong 3=false;decide +kernel)⟩,rfl⟩
 |4,_,_=>⟨⟨d_,λ_ _=>(by change ¬ ((1:Int) > _);decide),λ_ _=>(by change Builtin.Str.tooLong 4=false;decide +kernel)⟩,rfl⟩
 |5,_,_=>⟨⟨d_,λ_ _=>(by change ¬ ((1:Int) > _);decide),λ_ _=>(by change Builtin.Str.tooLong 5=false;decide +kernel)⟩,rfl⟩
 |6,_,_=>⟨⟨d_,λ_ _=>(by change ¬ ((1:Int) > _);decide),λ_ _=>(by change Builtin.Str.tooLong 6=false;decide +kernel)⟩,rfl⟩
 |7,_,_=>⟨⟨d_,λ_ _=>(by change ¬ ((1:Int) > _);decide),λ_ _=>(by change Builtin.Str.tooLong 7=false;decide +kernel)⟩,rfl⟩
 |m+8,_,h=>absurd h o_
def opt(x:Str)(b:Bool):Str:=if b then x else Str.empty
theorem qw_(x:Str)(p:Prop)[Decidable p]:MulOk x (if p then 1 else 0)/\Txt.mul x (if p then 1 else 0)=opt x (decide p):=by
 by_cases h:p
 .rw[if_pos h,show decide p=true from AG_ h];show⟨⟨d_,λ_ h=>absurd h s_,λ_ h=>absurd h s_⟩,rfl⟩
 .rw[if_neg h,show decide p=false from AI_ h];show⟨⟨d_,λh=>absurd d_ h,λh=>absurd d_ h⟩,rfl⟩
theorem ru_(fi k:Nat):(⟨(List.replicate (1+k%7) (sg fi)).toArray⟩:Str)++opt (one (sg ((fi+1+k/7)%36))) (decide (6<k))=nmB fi k:=by
 unfold nmB opt;by_cases h:6<k
 .rw[if_pos (AG_ h),if_pos h];change(⟨(List.replicate (1+k%7) (sg fi)).toArray++[sg ((fi+1+k/7)%36)].toArray⟩:Str)=_;rw[List.append_toArray]
 .rw[if_neg (by simp[h]),if_neg h];change(⟨_ ++ #[]⟩:Str)=_;simp
theorem b0_{H:Hp}:∀(ts:List Str),E7_ H (ts.map V.str) (ts.map Dt.str)
 |[]=>rfl
 |t::ts=>⟨_,_,rfl,rfl,b0_ ts⟩
theorem dh_{H:Hp}:∀{us:List V}{ts:List Str},E7_ H us (ts.map Dt.str)->us=ts.map V.str
 |us,[],h=>h
 |us,n::ns,⟨x,r,e,hx,hr⟩=>by
  cases hx;rw[e,dh_ hr];rfl
theorem lD_{B:Hp}{D:Addr}{ts:List Str}(hB:B D=none)(h:H D=some (.lst (ts.map V.str))):Rep (G0_ B H) (.ref D) (.lst (ts.map Dt.str)):=⟨D,_,rfl,by rw[dU_ hB];show h,b0_ ts⟩
def Fl_(x:Str):Prop:=1<=x.length/\x.length<=8/\∀c∈x.cps.toList,c∈sgs
theorem IP_(i:Nat)(h:i<36):sg i∈sgs:=Am_ (IO_ h)
theorem rv_{hd tl:Str}{fi k sp size:Nat}(hl:hd.length=sp)(tl1:tl.length+sp+1=size)(s8:size<=8)(hh:∀c∈hd.cps.toList,c∈sgs)(ht:∀c∈tl.cps.toList,c∈sgs):Fl_ (nmA hd tl fi k):=by
 have e:(nmA hd tl fi k).length=hd.length+1+tl.length:=by unfold nmA;rw[iI_,iI_];rfl
 show⟨o_,o_,λc hc=>?_⟩;unfold nmA at hc;rw[hf_,hf_]at hc
 rcases Ao_.mp hc with hc|hc
 .rcases Ao_.mp hc with hc|hc
  .show hh c hc
  .rw[Ad_.mp (show c∈[sg ((fi+7*k)%36)]from hc)];show IP_ _ (Nat.mod_lt _ d_)
 .show ht c hc
theorem rw_{fi k:Nat}(hf:fi<36)(hk:k<16):Fl_ (nmB fi k):=by
 have e:(nmB fi k).length=1+k%7+if 6<k then 1 else 0:=by unfold nmB;change(List.toArray _).size=_;rw[Ap_,Ae_,Ch_];split <;> rfl
 show⟨o_,by split at e <;> lia,λc hc=>?_⟩;have hc':c=sg fi\/6<k/\c=sg ((fi+1+k/7)%36):=by simpa[nmB]using hc
 rcases hc' with e|⟨_,e⟩
 .rw[e];show IP_ _ hf
 .rw[e];show IP_ _ (Nat.mod_lt _ d_)
abbrev Fc_:Stmt:=stN 49
theorem aR_:ZM ["_law_big_here","_law_many","_law_signs","_law_size","_law_spot","_law_word_here","_law_rest","_law_k","_law_first","_law_head","_law_tail","_law_names_here","_law_more"] ["_law_big_here","_law_many"] (EL_ Fc_):=zM
theorem d8_:LK Fc_ "_law_signs" .cell:=r_
theorem fl_:LK Fc_ "_law_size" .local:=r_
theorem fm_:LK Fc_ "_law_spot" .local:=r_
theorem cW_:LK Fc_ "_law_word_here" .local:=r_
theorem b9_:LK Fc_ "_law_rest" .local:=r_
theorem cX_:LK Fc_ "_law_k" .local:=r_
theorem fn_:LK Fc_ "_law_first" .cell:=r_
theorem kM_:LK Fc_ "_law_head" .cell:=r_
theorem j1_:LK Fc_ "_law_tail" .cell:=r_
theorem di_:LK Fc_ "_law_names_here" .local:=r_
theorem gV_:LK Fc_ "_law_more" .local:=r_
theorem iV_:LK Fc_ "int" .globalImplicit:=r_
theorem cY_:LK Fc_ "range" .globalImplicit:=r_
def HE_:Sp:=λvs H Q _=>∃(z:Int)(n:Nat),vs=[.int z,.int n]/\n<=16/\∀D (nms:List Str) H',EM_ H H'->Rep (G0_ H H') (.ref D) (.lst (nms.map Dt.str))->nms.length=n->nms.Nodup->(∀x∈nms,Fl_ x)->Q (.ref D) H'
theorem nz_(T:Txt K mg)(F:Fn0 K mg "_law_names" Fc_):Cal P w K mg base "_law_names" ["_law_big_here","_law_many"] 1 HE_:=by
  show aZ_ F aR_.1 λf cdv A outer s H vs Q E hr h=>?_;obtain⟨z,n,rfl,n16,k⟩:=h;refine'⟨_,?D,?R⟩
  case D =>
   refine' ad_ (hy_ (i:=2) aR_.nd rfl d8_ rfl bm_ rfl) (ad_ (ah_ (i:=3) aR_.nd rfl fl_ (EO_ aO_ ac_ (EO_ aL_ (zw 0 aR_) ac_))) ?a)
   case' a=>refine' ad_ (ah_ (i:=4) aR_.nd rfl fm_ (EO_ aL_ (EO_ av_ (zw 0 aR_) ac_) (zw 3 aR_))) (ad_ (ah_ (i:=5) aR_.nd rfl cW_ bm_) ?b)
   case' b=>refine' ad_ (ah_ (i:=6) aR_.nd rfl b9_ (EO_ av_ (zw 0 aR_) ac_)) (ad_ (bT_ AS_ rfl (aQ_ cY_ T.n_range (pa_c (zw 3 aR_) aa_)) ?c ?d) ?e)
   case c=>show ai_ (i:=7) aR_.nd rfl cX_
   case' d=>refine' ad_ (ah_ (i:=5) aR_.nd rfl cW_ (EO_ dy_ (zw 5 aR_) (ES_ k6_ (zw 2 aR_) (EO_ aL_ (zw 6 aR_) ac_)))) (ag_ (ah_ (i:=6) aR_.nd rfl b9_ (EO_ av_ (zw 6 aR_) ac_)))
   case' e=>refine' ad_ (hy_ (i:=8) aR_.nd rfl fn_ rfl (EO_ aL_ (zw 6 aR_) ac_) rfl) (ad_ (gJ_ ?f (br_ (K:=K) (n:=2) rfl rfl (ar_ ?g (ar_ ?h bp_)))) ?i)
   case' f=>refine' au_ (pa_c (fz_ nm_ (zw 5 aR_) ?j (hq_ (zw 4 aR_))) (pa_c (fz_ nm_ (zw 5 aR_) (hq_ (EO_ aO_ (zw 4 aR_) ac_)) ?k) aa_))
   case j=>show hp_
   case k=>show hp_
   case g=>show g9_ (i:=9) aR_.nd rfl kM_ rfl
   case h=>show g9_ (i:=10) aR_.nd rfl j1_ rfl
   case' i=>refine' ad_ (mV_ (i:=11) (N':=["_law_k","_law_head","_law_signs","_law_first","_law_tail"]) (ix:=[none,some 9,some 2,some 8,some 10]) rfl rfl aR_.nd rfl di_ rfl (bG_ ?l) (aQ_ cY_ T.n_range (pa_c (zw 1 aR_) aa_)) (λ_ _ _=>?m) (λ_ _ _=>?n) (λ_ _ _=>?o)) ?p
   case l=>show(by change Gr_ (EL_ Fc_) ["_law_big_here","_law_many","_law_signs","_law_size","_law_spot","_law_word_here","_law_rest","_law_k","_law_first","_law_head","_law_tail","_law_names_here","_law_more"] _ _ _=true;decide +kernel)
   case m=>show ai_ (i:=0) (by change List.Nodup (["_law_k","_law_head","_law_signs","_law_first","_law_tail"]:List Str);decide +kernel) rfl rfl
   case n=>show bU_
   case' o=>refine' EO_ dy_ (EO_ dy_ (pvc 1 rfl rfl) (ES_ k6_ (pvc 2 rfl rfl) (EO_ aL_ (EO_ aO_ (pvc 3 rfl rfl) (EO_ jd_ ac_ (pv1 0 rfl rfl))) ac_))) (pvc 4 rfl rfl)
   case' p=>refine' ad_ (Ft_ (aE_ Gh_ (EO_ aL_ (EO_ av_ (zw 6 aR_) ac_) ac_) ac_ (E5_ _)) ?q aJ_) (ag_ (aB_ (zw 11 aR_)))
   case' q=>refine' ad_ (ah_ (i:=11) aR_.nd rfl di_ (bH_ aa_)) (ag_ (bT_ AS_ rfl (aQ_ cY_ T.n_range (pa_c (zw 1 aR_) aa_)) ?r ?s))
   case r=>show ai_ (i:=7) aR_.nd rfl cX_
   case' s=>refine' ad_ (ah_ (i:=12) aR_.nd rfl gV_ (ES_ k6_ (zw 2 aR_) (EO_ aL_ (EO_ aO_ (EO_ aO_ (zw 8 aR_) ac_) (EO_ av_ (zw 7 aR_) ac_)) ac_))) (ag_ ?t)
   case' t=>refine' aw_ (FM_ Av_ A0_ A1_ aY_ (zw 11 aR_) (pa_c (EO_ dy_ (EO_ ik_ (ES_ k6_ (zw 2 aR_) (zw 8 aR_)) (EO_ aO_ ac_ (EO_ aL_ (zw 7 aR_) ac_))) ?u) aa_))
   case' u=>refine' EO_ ik_ (zw 12 aR_) (a0_ hl_ iV_ T.n_int k8_ (pa_c (cM_ HO_ (zw 7 aR_) ac_ (E5_ _)) aa_))
  case R =>
   nofun;have m8:=AV_ z (show(8:Int)≠0 by decide);have l8:=AT_ z (show(0:Int)<8 by decide);show⟨d_,d_,r_,o_,d_,r_,o_,o_,?_⟩;have sz:100000<=sizeLine:=by rw[B0_];decide
   have sl:(Str.ofString "abcdefghijklmnopqrstuvwxyz0123456789").length<=sizeLine:=A7_ r_ sz;have e1:∀c,(one c).length=1:=λ_=>rfl;obtain⟨spn,hsp,spl⟩:∃m:Nat,z/8%(1+z%8)=m/\m<(1+z%8).toNat:=by have a1:=AV_ (z/8) (show(1+z%8:Int)≠0 by lia);have a2:=AT_ (z/8) (show(0:Int)<1+z%8 by lia);show⟨(z/8%(1+z%8)).toNat,o_,o_⟩
   rw[hsp];obtain⟨size,hsize,s8⟩:∃m:Nat,(1+z%8).toNat=m/\m<=8:=⟨_,rfl,o_⟩;rw[hsize]at spl;rw[hsize];generalize hz8:1+z%8=z8;generalize z/64=r0;show de_ (λi σ H'=>∃(word:Str)(rest:Int)(e7:Option V),σ=[some (.int z),some (.int n),some (.str (Str.ofString "abcdefghijklmnopqrstuvwxyz0123456789")),some (.int z8),some (.int spn),some (.str word),some (.int rest),e7,none,none,none,none,none]/\H'=H/\word.length=i/\∀c∈word.cps.toList,c∈sgs) ⟨_,r0,none,rfl,rfl,r_,r_⟩ ?_ ?_
   .rintro i σ H' hi ⟨word,rest,e7,rfl,rfl,wl,win⟩;have hi':i<size:=hi;nofun;have m36:=AV_ rest (show(36:Int)≠0 by decide);have l36:=AT_ rest (show(0:Int)<36 by decide);show⟨d_,sl,_,lB_ m36 l36,?_⟩;have e2:(⟨#[sg (rest%36).toNat]⟩:Str).length=1:=rfl;show⟨o_,d_,r_,by rw[iI_];lia,λc hc=>?_⟩;rw[hf_]at hc
    rcases Ao_.mp hc with hc|hc
    .show win c hc
    .rw[Ad_.mp (show c∈[sg (rest%36).toNat]from hc)];show IP_ _ o_
   .rintro σ H' ⟨word,rest,e7,rfl,rfl,wl,win⟩;nofun;have ch:=ls_ (z:=word) (lo:=none) (hi:=some (spn:Int)) (a:=0) (b:=spn) (AP_ _) o_ (.inr ⟨rfl,rfl⟩) (.inl rfl);have ct:=ls_ (z:=word) (lo:=some ((spn:Int)+1)) (hi:=none) (a:=spn+1) (b:=word.length) o_ (Ah_ _) (.inl (by rw[Int.natCast_add];rfl)) (.inr ⟨rfl,rfl⟩);show⟨d_,o_,o_,d_,λp np=>⟨_,SqT.of ab_,rfl,_,_,rfl,_,_,rfl,rfl,o_,o_,?_⟩⟩;generalize Txt.slice word none (some (spn:Int))=hd at*;generalize Txt.slice word (some ((spn:Int)+1)) none=tl at*;have hl:hd.length=spn:=by rw[<-in_,ch,List.drop_zero,AW_,in_];lia
    have tl':tl.length+spn+1=size:=by rw[<-in_,ct,AW_,By_,in_];lia
    have hin:∀c∈hd.cps.toList,c∈sgs:=λc hc=>win c (by rw[show hd.cps.toList=_ from ch,List.drop_zero]at hc;show List.mem_of_mem_take hc);have tin:∀c∈tl.cps.toList,c∈sgs:=λc hc=>win c (by rw[show tl.cps.toList=_ from ct]at hc;show List.mem_of_mem_drop (List.mem_of_mem_take hc));clear ch ct;have S1:EM_ H' (upd H' p (HO.tup [V.str hd,V.str tl])):=EM_.new np;generalize upd H' p (HO.tup [V.str hd,V.str tl])=H1 at*;obtain⟨fi,hfi,fi36⟩:∃fi:Nat,rest%36=fi/\fi<36:=by have a1:=AV_ rest (show(36:Int)≠0 by decide);have a2:=AT_ rest (show(0:Int)<36 by decide);show⟨(rest%36).toNat,o_,o_⟩
    rw[hfi,show Int.toNat (n:Int)=n by lia];show cc_ (n:=n) (B:=λ_=>none) (Pσ:=λσ=>∃e,σ=[e,some (.str hd),some (.str (Str.ofString "abcdefghijklmnopqrstuvwxyz0123456789")),some (.int fi),some (.str tl)]) (ds:=((List.range n).map (nmA hd tl fi)).map Dt.str) (λb o e=>by cases e) ⟨_,rfl⟩ s_ o_ (λj H2 hj s2=>hj) (λH2 s2=>Ah_ _) ?_ ?_
    .rintro D i x d σ' H2 H2' hD hDo hs2 hi hdi ⟨rfl,rfl⟩ ⟨e,rfl⟩ R kR;nofun;have hi':i<n:=hi;have hd2:d=Dt.str (nmA hd tl fi i):=by rw[Ag_,Ag_,Bo_ hi']at hdi;show(At_ hdi).symm
     have eI:((fi:Int)+7*(0+(i:Nat)))%36=(((fi+7*i)%36:Nat):Int):=o_
     have lt36:(fi+7*i)%36<36:=Nat.mod_lt _ d_;rw[eI];show⟨.inl ⟨d_,d_⟩,d_,sl,_,lB_ o_ o_,?_⟩;rw[AD_];have e2:(⟨#[sg ((fi+7*i)%36)]⟩:Str).length=1:=rfl;show⟨o_,by rw[iI_];lia,?_⟩;show kR _ _ _ ⟨_,rfl⟩ (EM_.refl _) ?_;rw[hd2];show rfl
    .intro D H2 hD s2 rep2;show⟨d_,r_,d_,ite2 (λ_=>?_) (λ_=>?_)⟩
     .show⟨AP_ _,λl nl=>⟨o_,o_,?_⟩⟩;have nl':H' l=none:=(S1.trans s2).free nl;show de_ (λi σ H3=>∃(e7 e12:Option V),σ=[some (.int z),some (.int n),some (.str (Str.ofString "abcdefghijklmnopqrstuvwxyz0123456789")),some (.int z8),some (.int spn),some (.str word),some (.int rest),e7,some (.int fi),some (.str hd),some (.str tl),some (.ref l),e12]/\EM_ H' H3/\H3 l=some (.lst (((List.range i).map (nmB fi)).map V.str))) ⟨_,_,rfl,(S1.trans s2).upd nl',ab_⟩ ?_ ?_
      .rintro i σ H3 hi ⟨e7,e12,rfl,s3,hl3⟩;have hi':i<n:=hi;nofun;have eI:((fi:Int)+1+(0+(i:Nat))/7)%36=(((fi+1+i/7)%36:Nat):Int):=o_
       have lt36:(fi+1+i/7)%36<36:=Nat.mod_lt _ d_;have eM:(1:Int)+(0+(i:Nat))%7=((1+i%7:Nat):Int):=o_
       rw[eI,eM];obtain⟨mo,me⟩:=mul_one (c:=sg fi) (1+i%7) o_ o_;show⟨d_,r_,d_,sl,_,lB_ o_ o_,?_⟩;show⟨.inl ⟨_,.inl (.inl hl3)⟩,sl,_,lB_ o_ o_,d_,?_⟩;rw[AD_,AD_];change MulOk (one (sg fi)) _/\_;show⟨mo,.inr ?_⟩;change MulOk (one (sg ((fi+1+i/7)%36))) _/\((Txt.mul (one (sg fi)) _).length+(Txt.mul (one (sg ((fi+1+i/7)%36))) _).length<=sizeLine)/\∃x,_/\_/\EM_ H' (upd H3 l (HO.lst (x++[V.str (Txt.mul (one (sg fi)) _++Txt.mul (one (sg ((fi+1+i/7)%36))) _)])))/\x++[V.str (Txt.mul (one (sg fi)) _++Txt.mul (one (sg ((fi+1+i/7)%36))) _)]=_;obtain⟨p1,p2⟩:=qw_ (one (sg ((fi+1+i/7)%36))) (6<0+(i:Int));have ln:(⟨(List.replicate (1+i%7) (sg fi)).toArray⟩:Str).length<=7:=by change((List.replicate (1+i%7) (sg fi)).toArray).size<=7;simp;lia
       have lo:(opt (one (sg ((fi+1+i/7)%36))) (decide (6<0+(i:Int)))).length<=1:=by
        unfold opt;split
        .show Ah_ _
        .show AP_ _
       rw[me,p2];have eD:decide (6<0+(i:Int))=decide (6<i):=by apply decide_eq_decide.mpr;lia
       show⟨p1,o_,_,hl3,EN_ (by simp;lia),λb o hb=>?_,?_⟩
       .rw[af_ (ae_ hb nl')];show s3 _ _ hb
       .rw[eD,ru_,BE_,Ar_,Ar_];rfl
      .rintro σ H3 ⟨e7,e12,rfl,s3,hl3⟩;nofun;show k l _ H3 s3 (lD_ nl' hl3) s_ (lC_ λa b ha hb e=>qv_ fi36 o_ o_ e) λx hx=>by obtain⟨k,hk,rfl⟩:=Ai_.mp hx;show rw_ fi36 (by have:=AJ_.mp hk;lia)
     .obtain⟨_,us,e0,hD2,hus⟩:=id rep2;cases e0;rw[dh_ hus]at hD2;show k D _ H2 (S1.trans s2) (lD_ (S1.free hD) (bq_ hD2).2) s_ (lC_ λa b ha hb e=>qu_ o_ o_ e) λx hx=>by obtain⟨k,hk,rfl⟩:=Ai_.mp hx;show rv_ hl tl' s8 hin tin
def rot(l:List Nat)(t:Nat):List Nat:=l.drop t++l.take t
theorem nA_(l:List Nat)(t:Nat):(rot l t).length=l.length:=by unfold rot;rw[Ae_,By_,AW_];lia
theorem j2_(l:List Nat)(t x:Nat):(rot l t).count x=l.count x:=by unfold rot;rw[Bc_,Nat.add_comm,<-Bc_,A5_]
theorem rx_{P W p t:Nat}(g:Gr P W T)(hp:p<T.length):Gr P W (T.set p (rot (T.getD p []) t)):=by
 have fc:∀x,(T.set p (rot (T.getD p []) t)).flatten.count x=T.flatten.count x:=λx=>by have:=fD_ x (rot (T.getD p []) t) T p hp;rw[j2_]at this;lia
 show⟨by rw[Be_];show g.len,by rw[Be_];show g.most,λw hw=>by rw[fc];show g.two w hw,λw hw=>?_,λq h1 h2=>?_,?_⟩
 .have:=BO_.mpr hw;rw[fc]at this;show g.lt w (BO_.mp this)
 .rw[Be_]at h2;have:=g.ne q h1 h2;unfold rl at this⊢;rw[Ac_,List.getElem?_set];by_cases e:p=q
  .subst e;rw[if_pos rfl,if_pos hp];change 0<(rot (T.getD p []) t).length;rw[nA_];show this
  .rw[if_neg e,<-Ac_];show this
 .have:=kt_ (rot (T.getD p []) t) T p hp;rw[nA_,g.tot]at this;lia
theorem j3_{a:Addr}:∀{l:List Addr}{p:Nat},a∉l->l.Nodup->(l.set p a).Nodup
 |[],_,_,_=>Bf_
 |x::l,0,ha,h=>by
  rw[List.set_cons_zero];show AM_.mpr ⟨λz=>ha (Ak_ _ z),(AM_.mp h).2⟩
 |x::l,p+1,ha,h=>by
  rw[List.set_cons_succ];show AM_.mpr ⟨λz=>?_,j3_ (λz=>ha (Ak_ _ z)) (AM_.mp h).2⟩
  rcases C2_ z with z|z
  .show(AM_.mp h).1 z
  .show ha (by rw[z];show An_)
theorem To.put{B:Hp}(h:To B H l as_ T)(sB:EM_ B H){a:Addr}{p:Nat}(hp:p<T.length)(na:H a=none)(r:List Nat):To B (upd (upd H a (.lst (r.map λn:Nat=>V.int n))) l (.lst ((as_.set p a).map V.ref))) l (as_.set p a) (T.set p r):=by
 have la:l≠a:=ae_ h.tn.top na;have an:a∉as_:=λz=>by obtain⟨p,hp,e⟩:=As_.mp z;have:=h.tn.row p a (by rw[Aa_ hp,e]);rw[na]at this;cases this
 have mem:∀b,b∈as_.set p a->b=a\/b∈as_:=λb hb=>C2_ hb |>.symm;have pl:p<as_.length:=by rw[h.tn.len];show hp
 show⟨⟨ab_,by rw[Be_,Be_];show h.tn.len,λq b hb=>?_⟩,?_,λz=>?_,h.fl,λb hb=>?_⟩
 .have bl:b≠l:=λe=>by
   rcases mem b (Am_ hb)with z|z
   .show la (e.symm.trans z)
   .show h.nl (by rw[<-e];show z)
  rw[af_ bl,Ac_,List.getElem?_set];rw[List.getElem?_set]at hb;by_cases e:p=q
  .rw[if_pos e,if_pos hp];rw[if_pos e,if_pos pl]at hb;cases hb;rw[ab_];rfl
  .rw[if_neg e]at hb⊢;have e2:=h.tn.row q b hb;rw[af_ (λz=>by rw[z,na]at e2;cases e2),e2,Ac_]
 .show j3_ an h.nd
 .rcases mem l z with z|z
  .show la z
  .show h.nl z
 .rcases mem b hb with z|z
  .rw[z];show sB.free na
  .show h.fa b z
theorem qx_{P W p t:Nat}(g:GrH P W T)(hp:p<T.length):GrH P W (T.set p (rot (T.getD p []) t)):=by
 show⟨rx_ g.toGr hp,?_⟩
 have key:∀q w,w∈(T.set p (rot (T.getD p []) t)).getD q []↔w∈T.getD q []:=λq w=>by
  rw[Ac_,List.getElem?_set];by_cases e:p=q
  .subst e;rw[if_pos rfl,if_pos hp];change w∈rot (T.getD p []) t↔_;rw[<-BO_,j2_,BO_]
  .rw[if_neg e,<-Ac_]
 show λU h0 cl q hq=>g.hang U h0 (λa b w ha hb ua=>cl a b w ((key a w).mpr ha) ((key b w).mpr hb) ua) q (by simpa using hq)
abbrev FF_:Stmt:=stN 50
theorem fV_:ZL ["_law_turns","_law_posts","_law_big_here","_law_p","_law_turn"] ["_law_turns","_law_posts","_law_big_here"] (EL_ FF_):=zL
theorem d9_:LK FF_ "len" .globalImplicit:=r_
theorem hW_:LK FF_ "range" .globalImplicit:=r_
def HF_:Sp:=λvs H Q _=>∃(B:Hp)(l:Addr)(as_:List Addr)(T:List (List Nat))(P W:Nat)(z:Int),vs=[.ref l,.int P,.int z]/\EM_ B H/\To B H l as_ T/\GrP P W T/\P<=6/\W<=15 /\
 ∀bs T' H',EM_ B H'->(∀b o,b≠l->H b=some o->H' b=some o)->To B H' l bs T'->GrP P W T'->T'.length=T.length->Q (.ref l) H'
theorem nB_(T:Txt K mg)(F:Fn0 K mg "_law_begun" FF_):Cal P w K mg base "_law_begun" ["_law_turns","_law_posts","_law_big_here"] 1 HF_:=by
  show aZ_ F fV_.1 λf cdv A outer s H vs Q E hr h=>?_;obtain⟨B,l,as_,Tt,Pp,W,z,rfl,sB,hT,gr,P6,W15,k⟩:=h;have gl:=gr.len;have gm:=gr.most;refine'⟨_,?D,?R⟩
  case D =>
   refine' ad_ ?a (ag_ (aB_ (zv 0 fV_)))
   case' a=>refine' bT_ AS_ rfl (mw_ hW_ T.n_range (pa_c (zv 1 fV_) (pa_c (aj_ aq_ d9_ T.n_len aK_ (pa_c (zv 0 fV_) aa_)) aa_))) ?b ?c
   case b=>show zh 3 fV_
   case' c=>refine' am_ (zas 4 fV_ (EO_ aL_ (zv 2 fV_) (aj_ aq_ d9_ T.n_len aK_ (pa_c (ES_ ap_ (zv 0 fV_) (zv 3 fV_)) aa_)))) ?d
   case' d=>refine' am_ (zas 2 fV_ (EO_ av_ (zv 2 fV_) (aj_ aq_ d9_ T.n_len aK_ (pa_c (ES_ ap_ (zv 0 fV_) (zv 3 fV_)) aa_)))) (ag_ ?e)
   case' e=>refine' gJ_ (EO_ e5_ (fz_ iC_ (ES_ ap_ (zv 0 fV_) (zv 3 fV_)) (hq_ (zv 4 fV_)) ?f) (fz_ iC_ (ES_ ap_ (zv 0 fV_) (zv 3 fV_)) ?g (hq_ (zv 4 fV_)))) (qW_ (zv 0 fV_) (zv 3 fV_) n7_)
   case f=>show hp_
   case g=>show hp_
  case R =>
   nofun;have al:=hT.tn.len;show⟨_,.inl hT.tn.top,o_,o_,by rw[Ab_];lia,by rw[Ab_];lia,?_⟩;rw[Ab_,show Int.toNat ((as_.length:Nat)-(Pp:Nat):Int)=Tt.length-Pp by lia];show ex_ (λi σ H'=>∃(z:Int)(e3 e4:Option V)(bs:List Addr)(T':List (List Nat)),σ=[some (.ref l),some (.int Pp),some (.int z),e3,e4]/\EM_ B H'/\(∀b o,b≠l->H b=some o->H' b=some o)/\To B H' l bs T'/\GrP Pp W T'/\T'.length=Tt.length) ⟨z,none,none,as_,Tt,rfl,sB,λb o _ h=>h,hT,gr,rfl⟩ ?_ ?_
   .rintro i σ H' hi kc kb hkc hkb G hG ⟨z,e3,e4,bs,T',rfl,sB',kp,hT',gr',hl⟩;show hG ?_;have hi':i<Tt.length-Pp:=hi;obtain⟨a,ea,at0,ra⟩:=hT'.tn.at_ (p:=Pp+i) o_;have r0:=gr'.ne (Pp+i) o_ o_;have rt:rl T' (Pp+i)<=30:=by have:=Iv_ T' (Pp+i);rw[gr'.tot]at this;lia
    have rle:(T'.getD (Pp+i) []).length=rl T' (Pp+i):=rfl;have eP:(Pp:Int)+(i:Nat)=((Pp+i:Nat):Int):=o_
    nofun;rw[eP];have rdef:T'.getD (Pp+i) []=T'.getD (Pp+i) []:=rfl;generalize hr0:T'.getD (Pp+i) []=r at*;obtain⟨t,ht,tl⟩:∃t:Nat,z%(((r.map λn:Nat=>V.int n).length:Nat):Int)=t/\t<r.length:=by rw[Ab_];have a1:=AV_ z (show(r.length:Int)≠0 by lia);have a2:=AT_ z (show(0:Int)<(r.length:Int) by lia);show⟨(z%(r.length:Int)).toNat,o_,o_⟩
    have lg:(((r.map λn:Nat=>V.int n).length:Int)).natAbs.log2<9000:=by
     rw[Ab_];by_cases h0:((r.length:Int)).natAbs=0
     .rw[h0];decide
     .rw[Nat.log2_lt h0];show Bn_ (show((r.length:Int)).natAbs<=1000 by lia) r_
    have c1:H0_ (r.map λn:Nat=>V.int n) (some (t:Int)) none=(r.drop t).map λn:Nat=>V.int n:=by rw[oj_ _ _ (by simp;lia),Ds_]
    have c2:H0_ (r.map λn:Nat=>V.int n) none (some (t:Int))=(r.take t).map λn:Nat=>V.int n:=by rw[pe_ _ _ (by simp;lia),CB_]
    have top:=hT'.tn.top;show⟨_,top,_,at0,a,rfl,_,.inl ra,by rw[Ab_];lia,?_⟩;nofun;show⟨_,top,_,at0,a,rfl,_,.inl ra,by rw[Ab_];lia,lg,?_⟩;nofun;show⟨_,top,_,at0,a,rfl,_,ra,λp1 n1=>⟨_,(EM_.new n1) _ _ top,_,at0,a,rfl,_,(EM_.new n1) _ _ ra,λp2 n2=>?_⟩⟩;rw[ht,c1]at n2⊢;rw[c2];have S2:EM_ H' (upd (upd H' p1 (HO.lst ((r.drop t).map λn:Nat=>V.int n))) p2 (HO.lst ((r.take t).map λn:Nat=>V.int n))):=(EM_.new n1).trans (EM_.new n2);have h1:=(EM_.new n2 (o:=HO.lst ((r.take t).map λn:Nat=>V.int n))) _ _ (ab_ (H:=H') (a:=p1) (o:=HO.lst ((r.drop t).map λn:Nat=>V.int n)));generalize upd (upd H' p1 (HO.lst ((r.drop t).map λn:Nat=>V.int n))) p2 (HO.lst ((r.take t).map λn:Nat=>V.int n))=H2 at*;show⟨_,h1,by rw[Ab_,Ab_];show A7_ (show _<=1000 by rw[By_,AW_];lia) (by rw[B0_];decide),λp3 n3=>?_⟩;have e3:((r.drop t).map λn:Nat=>V.int n)++((r.take t).map λn:Nat=>V.int n)=(rot r t).map λn:Nat=>V.int n:=by rw[<-Ar_];rfl
    rw[e3];have hT2:=(hT'.mono S2).put (sB'.trans S2) (p:=Pp+i) o_ n3 (rot r t);rw[List.map_set]at hT2;have lp:l≠p3:=ae_ (S2 _ _ top) n3;show⟨_,by rw[af_ lp];show S2 _ _ top,Pp+i,?_,hkc _ _ ⟨_,_,_,bs.set (Pp+i) p3,T'.set (Pp+i) (rot r t),rfl,λb o hb=>?_,λb o hb h=>?_,hT2,?_,by rw[Be_];show hl⟩⟩
    .have bl:=hT'.tn.len;unfold ixN;rw[Ab_];rw[if_pos o_,if_pos o_,AD_]
    .rw[af_ (ae_ hb hT.fl),af_ (ae_ hb ((sB'.trans S2).free n3))];show S2 _ _ (sB' _ _ hb)
    .have e4:=kp b o hb h;rw[af_ hb,af_ (ae_ (S2 _ _ e4) n3)];show S2 _ _ e4
    .have g2:=qm_ (t:=t) gr' (qx_ (t:=t) gr'.toGrH (p:=Pp+i) o_) rfl o_ o_ (by change t<(T'.getD (Pp+i) []).length;rw[hr0];show tl);rw[hr0]at g2;show g2
   .rintro σ H' ⟨z,e3,e4,bs,T',rfl,sB',kp,hT',gr',hl⟩;nofun;show k bs T' H' sB' kp hT' gr' hl
def dS(x:Str):Dt:=.str x
def dRw(r:Str×List Str):Dt:=.tup [.str r.1,.lst (r.2.map dS)]
def dWo(r:Str×(Int×Int)):Dt:=.tup [.str r.1,.tup [.int r.2.1,.int r.2.2]]
def GJ_(N:Net Str):Dt:=.tup [.lst (N.posts.map dS),.lst (N.rows.map dRw),.lst (N.worths.map dWo)]
theorem be_{xs:List Str}(h:i<xs.length):(xs.map V.str)[i]?=some (.str (xs.getD i Str.empty)):=by rw[Ag_,Aa_ h,Ac_,Aa_ h];rfl
theorem hg_{xs:List Str}(h:xs.Nodup){a b:Nat}(ha:a<xs.length)(hb:b<xs.length)(e:xs.getD a Str.empty=xs.getD b Str.empty):a=b:=by show(AY_ ha h).mp ?_;rw[Ac_,Ac_,Aa_ ha,Aa_ hb]at e;rw[Aa_ ha,Aa_ hb];show congrArg some e
theorem j4_{α β:Type}(f:α->β):∀(l:List α)(t:Nat),(l.map f).eraseIdx t=(l.eraseIdx t).map f
 |[],_=>rfl
 |_::_,0=>rfl
 |x::l,t+1=>by change f x::(l.map f).eraseIdx t=f x::(l.eraseIdx t).map f;rw[j4_ f l t]
theorem io_:∀{l:List Nat}{t:Nat}(h:t<l.length),(l[t]::l.eraseIdx t).Perm l
 |x::l,0,_=>.refl _
 |x::l,t+1,h=>by have ih:=io_ (l:=l) (t:=t) (by simpa using h);change(l[t]'(by simpa using h)::x::l.eraseIdx t).Perm (x::l);show(List.Perm.swap _ _ _).trans (ih.cons x)
theorem kO_:∀{us:List V}{ts:List Str},E7_ H us (ts.map dS)->us=ts.map V.str:=λh=>dh_ h
def K4_(H6:Hp)(a l D1 D2 O R:Addr)(Pp W n:Nat)(nms wns:List Str)(T':List (List Nat))(σ:L2.St)(H':Hp):Prop :=
 ∃(z:Int)(e11:Option V)(S:Hp)(rem dn:List Nat)(ys:List V),σ=[some (.ref a),some (.int 0),some (.int 6),some (.int z),some (.int Pp),some (.int W),some (.ref l),some (.ref D1),some (.ref D2),some (.ref O),some (.ref R),e11,none,none,none]/\EM_ H6 S/\EM_ S H'/\S O=none/\S R=none/\H' O=some (.lst (rem.map λn:Nat=>V.int n))/\H' R=some (.lst ys)/\E7_ S ys ((Fb_ (λp=>nms.getD p Str.empty) (λv=>wns.getD v Str.empty) T' dn).map dRw)/\(dn++rem).Perm (List.range n)
def Lz_(O:Addr)(H:Hp):Nat:=match H O with|some (.lst xs)=>xs.length|_=>0
abbrev EV_:Stmt:=stN 51
theorem aC_:ZM ["_law_script","_law_at","_law_most","_law_big_here","_law_posts","_law_many","_law_turns","_law_names_here","_law_wires","_law_order","_law_rows","_law_p","_law_worths","_law_wire","_law_worth"] ["_law_script","_law_at","_law_most"] (EL_ EV_):=zM
theorem aD_:LK EV_ "_law_big_here" .local:=r_
theorem dm_:LK EV_ "_law_posts" .local:=r_
theorem cl_:LK EV_ "_law_many" .local:=r_
theorem bV_:LK EV_ "_law_turns" .local:=r_
theorem eI_:LK EV_ "_law_names_here" .local:=r_
theorem gW_:LK EV_ "_law_wires" .cell:=r_
theorem cm_:LK EV_ "_law_order" .local:=r_
theorem ea_:LK EV_ "_law_rows" .local:=r_
theorem eb_:LK EV_ "_law_p" .local:=r_
theorem ec_:LK EV_ "_law_worths" .local:=r_
theorem fW_:LK EV_ "_law_wire" .local:=r_
theorem fX_:LK EV_ "_law_worth" .local:=r_
theorem gn_:LK EV_ "_law_begun" .globalImplicit:=r_
theorem b1_:LK EV_ "_law_big" .globalImplicit:=r_
theorem go_:LK EV_ "_law_grown" .globalImplicit:=r_
theorem dH_:LK EV_ "_law_names" .globalImplicit:=r_
theorem e3_:LK EV_ "_law_worth_of" .globalImplicit:=r_
theorem cg_:LK EV_ "len" .globalImplicit:=r_
theorem hX_:LK EV_ "list" .globalImplicit:=r_
theorem em_:LK EV_ "range" .globalImplicit:=r_
theorem gp_:LK EV_ "sorted" .globalImplicit:=r_
structure WOk(N:Net Str):Prop where
 nd:(N.worths.map (·.1)).Nodup
 mem:∀x,x∈N.worths.map (·.1)↔x∈N.all
 ws:∀x∈N.worths,Ws x.2
structure NmN(N:Net Str):Prop where
 ps:∀x∈N.posts,Fl_ x
 rs:∀r∈N.rows,Fl_ r.1/\r.2.length<=30/\∀x∈r.2,Fl_ x
 ws:∀r∈N.worths,Fl_ r.1/\Ws r.2
theorem nC_{l:List Str}(h:i<l.length):l.getD i Str.empty∈l:=by rw[Ac_,Aa_ h];show A3_ _
def Jj_(K:PySem.W.Frag):Sp:=λvs H Q _=>∃(a:Addr)(ns:List Int),vs=[.ref a,.int 0,.int 6]/\SqL K H a (ns.map V.int)/\∀v (N:Net Str) H',EM_ H H'->Rep H' v (GJ_ N)->Fi_ N->EZ_ N->WOk N->N.worths.Pairwise (λa b=>eLe (a.1,0) (b.1,0))->NmN N->NtH N->Pl N.posts.length N.worths.length (trn N)->N.rows.length<=16->N.all.length=2*N.worths.length->Q v H'
theorem mh_(T:Txt K mg)(F:Fn0 K mg "_law_net_by" EV_) (GO_:Cal P w K mg base "_law_big" ["_law_script","_law_at"] 2 (HD_ K)) (IT_:Cal P w K mg base "_law_grown" ["_law_big_here","_law_posts","_law_many","_law_within"] 3 Hw_) (HJ_:Cal P w K mg base "_law_names" ["_law_big_here","_law_many"] 1 HE_) (IU_:Cal P w K mg base "_law_begun" ["_law_turns","_law_posts","_law_big_here"] 1 HF_) (Hr_:Cal P w K mg base "_law_worth_of" ["_law_big_here"] 2 HC_):Cal P w K mg base "_law_net_by" ["_law_script","_law_at","_law_most"] 4 (Jj_ K):=by
  show aZ_ F aC_.1 λf cdv A outer s H vs Q E hr h=>?_;obtain⟨a,ns,rfl,hS,k⟩:=h;refine'⟨_,?D,?R⟩
  case D =>
   refine' am_ (ah_ (i:=3) aC_.nd rfl aD_ (an_ GO_ (hr.mono d_) b1_ (pa_c (zw 0 aC_) (pa_c (zw 1 aC_) aa_)))) ?a
   case' a=>refine' am_ (ah_ (i:=4) aC_.nd rfl dm_ (EO_ aO_ ac_ (EO_ aL_ (zw 3 aC_) ac_))) ?b
   case' b=>refine' am_ (ah_ (i:=5) aC_.nd rfl cl_ (EO_ aL_ (EO_ av_ (zw 3 aC_) ac_) (EO_ aO_ (zw 2 aC_) ac_))) ?c
   case' c=>refine' ad_ (ih_ (Ft_ (aE_ Gh_ (EO_ aL_ (EO_ av_ (EO_ av_ (zw 3 aC_) ac_) (EO_ aO_ (zw 2 aC_) ac_)) ac_) ac_ (E5_ _)) ?d aJ_)) ?e
   case' d=>refine' ag_ (ah_ (i:=5) aC_.nd rfl cl_ (EO_ aL_ (EO_ av_ (EO_ av_ (zw 3 aC_) ac_) (EO_ aO_ (zw 2 aC_) ac_)) ac_))
   case' e=>refine' am_ (gJ_ ?f (br_ (K:=K) (n:=2) rfl rfl (ar_ ?g (ar_ ?h bp_)))) (am_ (ah_ (i:=7) aC_.nd rfl eI_ (an_ HJ_ (hr.mono d_) dH_ ?i)) ?j)
   case' f=>refine' an_ IT_ (hr.mono d_) go_ (pa_c (EO_ av_ (EO_ av_ (zw 3 aC_) ac_) (EO_ aO_ (zw 2 aC_) ac_)) (pa_c (zw 4 aC_) (pa_c (zw 5 aC_) (pa_c ac_ aa_))))
   case g=>show ai_ (i:=6) aC_.nd rfl bV_
   case h=>show ai_ (i:=3) aC_.nd rfl aD_
   case' i=>refine' pa_c (an_ GO_ (hr.mono d_) b1_ (pa_c (zw 0 aC_) (pa_c (EO_ aO_ (zw 1 aC_) ac_) aa_))) (pa_c (aj_ aq_ cg_ T.n_len aK_ (pa_c (zw 6 aC_) aa_)) aa_)
   case' j=>refine' am_ ?k (am_ (ah_ (i:=6) aC_.nd rfl bV_ (an_ IU_ (hr.mono d_) gn_ (pa_c (zw 6 aC_) (pa_c (zw 4 aC_) (pa_c (zw 3 aC_) aa_))))) ?l)
   case' k=>refine' hy_ (i:=8) aC_.nd rfl gW_ rfl (an_ HJ_ (hr.mono d_) dH_ (pa_c (an_ GO_ (hr.mono d_) b1_ (pa_c (zw 0 aC_) (pa_c (EO_ aO_ (zw 1 aC_) ac_) aa_))) (pa_c (zw 5 aC_) aa_))) rfl
   case' l=>refine' am_ ?m (am_ ?n (am_ (ah_ (i:=10) aC_.nd rfl ea_ (bH_ aa_)) ?o))
   case' m=>refine' ah_ (i:=9) aC_.nd rfl cm_ (jC_ rfl hX_ T.n_list em_ T.n_range (pa_c (aj_ aq_ cg_ T.n_len aK_ (pa_c (zw 6 aC_) aa_)) aa_))
   case' n=>refine' ah_ (i:=3) aC_.nd rfl aD_ (an_ GO_ (hr.mono d_) b1_ (pa_c (zw 0 aC_) (pa_c (EO_ aO_ (zw 1 aC_) ac_) aa_)))
   case' o=>refine' ad_ (dQ_ AS_ (aE_ (ju_ (hr.units)) (zw 9 aC_) (bH_ aa_) (E5_ _)) ?p) (am_ (ah_ (i:=12) aC_.nd rfl ec_ (bH_ aa_)) ?q)
   case' p=>refine' am_ ?r (am_ ?s (ag_ (aw_ (FM_ Av_ A0_ A1_ aY_ (zw 10 aC_) (pa_c ?t aa_)))))
   case' r=>refine' ah_ (i:=11) aC_.nd rfl eb_ (FM_ Av_ PySem.F.slot_list_pop PySem.F.type_list_pop n8_ (zw 9 aC_) (pa_c (EO_ aL_ (zw 3 aC_) (aj_ aq_ cg_ T.n_len aK_ (pa_c (zw 9 aC_) aa_))) aa_))
   case' s=>refine' ah_ (i:=3) aC_.nd rfl aD_ (EO_ av_ (zw 3 aC_) (EO_ aO_ (aj_ aq_ cg_ T.n_len aK_ (pa_c (zw 9 aC_) aa_)) ac_))
   case' t=>refine' au_ (pa_c (ES_ ap_ (zw 7 aC_) (zw 11 aC_)) (pa_c (bb_ (N':=["_law_wire","_law_wires"]) (ix:=[none,some 8]) rfl rfl (bG_ ?u) (aS_ (K:=K) rfl (ES_ ap_ (zw 6 aC_) (zw 11 aC_))) (λ_ _ _=>?v) (λ_ _ _=>?w) (λ_ _ _=>(ES_ ap_ (pvc 1 rfl rfl) (pv1 0 rfl rfl)))) aa_))
   case u=>show(by change Gr_ (EL_ EV_) ["_law_script","_law_at","_law_most","_law_big_here","_law_posts","_law_many","_law_turns","_law_names_here","_law_wires","_law_order","_law_rows","_law_p","_law_worths","_law_wire","_law_worth"] _ _ _=true;decide +kernel)
   case v=>show ai_ (i:=0) (by change List.Nodup (["_law_wire","_law_wires"]:List Str);decide +kernel) rfl rfl
   case w=>show bU_
   case' q=>refine' ad_ (bT_ AS_ rfl (aQ_ em_ T.n_range (pa_c (zw 5 aC_) aa_)) ?x ?y) (ag_ (aB_ ?z))
   case x=>show ai_ (i:=13) aC_.nd rfl fW_
   case' y=>refine' am_ (gJ_ (an_ Hr_ (hr.mono d_) e3_ (pa_c (zw 3 aC_) aa_)) (br_ (K:=K) (n:=2) rfl rfl (ar_ ?aa (ar_ ?ab bp_)))) ?ac
   case aa=>show ai_ (i:=14) aC_.nd rfl fX_
   case ab=>show ai_ (i:=3) aC_.nd rfl aD_
   case' ac=>refine' ag_ (aw_ (FM_ Av_ A0_ A1_ aY_ (zw 12 aC_) (pa_c (au_ (pa_c (ES_ ap_ (zw 8 aC_) (zw 13 aC_)) (pa_c (zw 14 aC_) aa_))) aa_)))
   case' z=>refine' au_ (pa_c (fz_ iC_ (zw 7 aC_) ?ad (hq_ (zw 4 aC_))) (pa_c (zw 10 aC_) (pa_c (aj_ (dC_ hr.units) gp_ T.n_sorted cO_ (pa_c (zw 12 aC_) aa_)) aa_)))
   case ad=>show hp_
  case R =>
   nofun;show⟨a,ns,0,rfl,d_,hS,λz0 H0 s0=>?_⟩;nofun;obtain⟨Pp,hP,P1,P6⟩:∃m:Nat,(1+z0%6:Int)=m/\1<=m/\m<=6:=by have a1:=AV_ z0 (show(6:Int)≠0 by decide);have a2:=AT_ z0 (show(0:Int)<6 by decide);show⟨(1+z0%6).toNat,o_,o_,o_⟩
   rw[hP];show⟨d_,?_⟩;nofun;show⟨d_,r_,d_,?_⟩;nofun;show⟨λσ Hx=>∃W:Nat,σ=[some (.ref a),some (.int 0),some (.int 6),some (.int z0),some (.int Pp),some (.int W),none,none,none,none,none,none,none,none,none]/\Hx=H0/\W<=15,?_,?_⟩
   .nofun;have a1:=AV_ (z0/6) (show(6+1:Int)≠0 by decide);have a2:=AT_ (z0/6) (show(0:Int)<6+1 by decide);have a3:=AV_ (z0/48/(6+1)) (show(16:Int)≠0 by decide);have a4:=AT_ (z0/48/(6+1)) (show(0:Int)<16 by decide);show⟨d_,r_,d_,r_,d_,ite2 (λ_=>?_) (λ_=>?_)⟩
    .show⟨d_,r_,d_,r_,d_,(z0/48/(6+1)%16).toNat,o_,o_⟩
    .show⟨(z0/6%(6+1)).toNat,o_,o_⟩
   rintro σ Hx ⟨W,rfl,rfl,W15⟩;have hS0:=s0.seq hS;nofun;show⟨d_,r_,d_,r_,?_⟩;show⟨_,Pp,W,rfl,P1,P6,W15,λpg l as_ T y H1 s1 hpg hT gr=>?_⟩;have gl:=gr.len;have gm:=gr.most;show⟨pg,rfl,_,SqT.of hpg,rfl,_,_,rfl,_,_,rfl,rfl,?_⟩;nofun;show⟨a,ns,_,rfl,d_,(s1.seq hS0),λz1 H2 s2=>?_⟩;have hT2:=hT.mono s2;have al:=hT2.tn.len;show⟨_,.inl hT2.tn.top,?_⟩;rw[Ab_];show⟨z1,as_.length,rfl,o_,λD1 nms H3 s3 rep1 nl1 nd1 nk1=>?_⟩;have s03:=s1.trans (s2.trans s3);nofun;show⟨a,ns,_,rfl,d_,s03.seq hS0,λz2 H4 s4=>⟨z2,W,rfl,o_,λD2 wns H5 s5 rep2 nl2 nd2 nk2=>?_⟩⟩;have s05:=s03.trans (s4.trans s5);have hT5:=hT2.mono (s3.trans (s4.trans s5));nofun;show⟨Hx,l,as_,T,Pp,W,y,rfl,s05,hT5,gr,P6,W15,λbs T' H6 s6 kp hT6 gr' hl6=>?_⟩;obtain⟨_,us1,e1,hD1',hus1⟩:=id rep1;cases e1;rw[dh_ hus1]at hD1';obtain⟨_,us2,e2,hD2',hus2⟩:=id rep2;cases e2;rw[dh_ hus2]at hD2';have D1l:D1≠l:=(ae_ hT2.tn.top (bq_ hD1').1).symm;have D2l:D2≠l:=(ae_ ((hT2.mono (s3.trans s4)).tn.top) (bq_ hD2').1).symm;have hD1:H6 D1=some (.lst (nms.map V.str)):=kp _ _ D1l ((s4.trans s5) _ _ (bq_ hD1').2);have hD2:H6 D2=some (.lst (wns.map V.str)):=kp _ _ D2l (bq_ hD2').2;clear hD1' hD2' hus1 hus2 rep1 rep2;have hS6:=s6.seq hS0;have bl:=hT6.tn.len;have gl6:=gr'.len;have gm6:=gr'.most;clear hT hT2 hT5 s1 s2 s3 s4 s5 s03 s05 kp hpg;nofun;show⟨_,.inl hT6.tn.top,bs.length,by rw[Ab_],o_,λO nO=>?_⟩;have S7:EM_ H6 (upd H6 O (HO.lst (GD_ bs.length))):=EM_.new nO;have hO:=ab_ (H:=H6) (a:=O) (o:=HO.lst (GD_ bs.length));generalize upd H6 O (HO.lst (GD_ bs.length))=H7 at*;nofun;show⟨a,ns,_,rfl,d_,S7.seq hS6,λz3 H8 s8=>?_⟩;nofun;show⟨AP_ _,λR nR=>?_⟩;nofun;have R6:H6 R=none:=(S7.trans s8).free nR;have RO:R≠O:=(ae_ (s8 _ _ hO) nR).symm;have eN:GD_ bs.length=(List.range bs.length).map λn:Nat=>V.int n:=rfl
   show ou_ (K4_ H6 a l D1 D2 O R Pp W bs.length nms wns T')
    (λ_ H'=>Lz_ O H') ⟨z3,none,H6,List.range bs.length,[],[],rfl,EM_.refl _,(S7.trans s8).upd R6,nO,R6,by rw[af_ RO.symm];show s8 _ _ hO,ab_,rfl,.refl _⟩ ?_
   rintro σ H' kb hkb G hG ⟨z,e11,S,rem,dn,ys,rfl,sS,sH,SO,SR,hO',hR',repS,pm⟩;show hG ?_;nofun;show⟨AP_ _,λp np=>?_⟩;have Sp:EM_ H' (upd H' p (HO.lst [])):=EM_.new np
   have repO:Rep (upd H' p (HO.lst [])) (.ref O) (.lst (rem.map λn:Nat=>Dt.int n)):=⟨O,_,rfl,Sp _ _ hO',by
    clear hO' pm
    induction rem with
    |nil=>show rfl
    |cons x r ih=>show⟨_,_,rfl,rfl,ih⟩⟩
   have repp:Rep (upd H' p (HO.lst [])) (.ref p) (.lst []):=⟨p,[],rfl,ab_,rfl⟩;have pO:p≠O:=(ae_ hO' np).symm;have pR:p≠R:=(ae_ hR' np).symm
   have dle:dep (.lst (rem.map λn:Nat=>Dt.int n))<=60:=by
    have:deps (rem.map λn:Nat=>Dt.int n)=0:=by
     clear hO' pm repO
     induction rem with
     |nil=>rfl
     |cons x r ih=>change max 0 (deps (r.map λn:Nat=>Dt.int n))=0;rw[ih];rfl
    change deps _+1<=60;lia
   have sH2:EM_ S (upd H' p (HO.lst [])):=sH.trans Sp;generalize upd H' p (HO.lst [])=Hq at*;have hOq:=Sp _ _ hO';have hRq:=Sp _ _ hR'
   show⟨_,repO,_,repp,decide (rem=[]),by
    cases rem with
    |nil=>rfl
    |cons x r=>simp[deq,deqs],dle,?_⟩
   show ite2 (λhne=>?_) (λhemp=>?_)
   .have rne:rem≠[]:=BN_ hne;have rl0:0<rem.length:=BU_.mpr rne;show⟨_,N_ok,?_⟩;obtain⟨t,ht,tl⟩:∃t:Nat,z%(((rem.map λn:Nat=>V.int n).length:Nat):Int)=t/\t<rem.length:=by rw[Ab_];have a1:=AV_ z (show(rem.length:Int)≠0 by lia);have a2:=AT_ z (show(0:Int)<(rem.length:Int) by lia);show⟨(z%(rem.length:Int)).toNat,o_,o_⟩
    have rl16:rem.length<=16:=by have:=pm.length_eq;rw[Ae_,A9_]at this;lia
    have er:((rem.map λn:Nat=>V.int n).eraseIdx t)=(rem.eraseIdx t).map λn:Nat=>V.int n:=j4_ _ _ _;have el:(rem.eraseIdx t).length=rem.length-1:=List.length_eraseIdx_of_lt tl
    have lg:((((rem.map λn:Nat=>V.int n).eraseIdx t).length:Int)+1).natAbs.log2<9000:=by
     rw[er,Ab_];by_cases h0:(((rem.eraseIdx t).length:Int)+1).natAbs=0
     .rw[h0];decide
     .rw[Nat.log2_lt h0];show Bn_ (show(((rem.eraseIdx t).length:Int)+1).natAbs<=1000 by lia) r_
    have hp0:rem[t]?=some (rem[t]):=Aa_ tl;have pn:rem[t]<bs.length:=AJ_.mp (pm.mem_iff.mp (Aw_ _ (A3_ tl)));have pm2:(dn++[rem[t]]++rem.eraseIdx t).Perm (List.range bs.length):=by show List.Perm.trans ?_ pm;rw[BD_];show(io_ tl).append_left dn
    generalize rem[t]=pt at*;nofun;show⟨.inl ⟨_,.inl (.inl hOq)⟩,_,.inl hOq,by rw[Ab_];lia,_,hOq,by rw[ht];lia,by rw[ht];lia,t,?_,.int pt,by rw[Ag_,hp0];rfl,?_⟩
    .rw[ht,Ab_];rw[Dg_ o_ o_,AD_]
    nofun;show⟨o_,lg,?_⟩;rw[er];nofun;have OR:O≠R:=RO.symm;have sH3:EM_ S (upd Hq O (HO.lst ((rem.eraseIdx t).map λn:Nat=>V.int n))):=aT_ sH2 SO;have hR3:upd Hq O (HO.lst ((rem.eraseIdx t).map λn:Nat=>V.int n)) R=some (.lst ys):=by rw[af_ RO];show hRq
    have hO3:=ab_ (H:=Hq) (a:=O) (o:=HO.lst ((rem.eraseIdx t).map λn:Nat=>V.int n));generalize upd Hq O (HO.lst ((rem.eraseIdx t).map λn:Nat=>V.int n))=H3 at*;have s63:EM_ H6 H3:=sS.trans sH3;obtain⟨a1,ea1,at1,ra1⟩:=hT6.tn.at_ (p:=pt) o_;have ra3:=s63 _ _ ra1
    have lt:∀v∈T'.getD pt [],v<wns.length:=λv hv=>by
     rw[nl2];show gr'.lt v ?_;have hm:T'.getD pt []∈T':=by rw[Ac_,Aa_ (show pt<T'.length by lia)];show A3_ _
     show AX_.mpr ⟨_,hm,hv⟩
    have rl30:(T'.getD pt []).length<=30:=by have:=Iv_ T' pt;rw[gr'.tot]at this;unfold rl at this;lia
    have atn:atI (nms.map V.str) ((pt:Nat):Int)=some (.str (nms.getD pt Str.empty)):=cN_ o_ (by rw[AD_];show be_ o_);show⟨.inl ⟨_,.inl (.inl hR3)⟩,_,s63 _ _ hD1,_,atn,_,s63 _ _ hT6.tn.top,_,at1,a1,rfl,⟨_,.inl (.inl ra3)⟩,?_⟩;generalize hrow:T'.getD pt []=row at*;have hD2':=s63 _ _ hD2;show cc_ (n:=row.length) (B:=λ_=>none) (Pσ:=λσ=>∃e,σ=[e,some (.ref D2)]) (ds:=(row.map λv=>wns.getD v Str.empty).map dS) (λb o e=>by cases e) ⟨_,rfl⟩ s_ o_ (λj Hj hj sj=>⟨_,.int (row[j]:Nat),.inl (.inl (sj _ _ ra3)),by simp[hj]⟩) (λHj sj=>⟨_,.inl (.inl (sj _ _ ra3)),s_⟩) ?_ ?_
    .rintro D j x d σ' Hj Hj' hD hDo hsj hj hdj ⟨rfl,hy⟩ ⟨e,rfl⟩ R0 kR;have hx:=hy _ (.inl (.inl (hsj _ _ ra3)));rw[Ag_,Aa_ hj]at hx;cases hx;have hd:d=dS (wns.getD row[j] Str.empty):=by rw[Ag_,Ag_,Aa_ hj]at hdj;show(At_ hdj).symm
     nofun;show⟨_,hsj _ _ hD2',_,cN_ o_ (by rw[AD_];show be_ (lt _ (A3_ hj))),kR _ _ _ ⟨_,rfl⟩ (EM_.refl _) ?_⟩;rw[hd];show rfl
    .intro D H4 hD s4 rep4;show⟨d_,λq nq=>?_⟩;have hD3:H3 D=none:=hD;obtain⟨_,us,e4,hD4',hus⟩:=id rep4;cases e4;have hD4:=(bq_ hD4').2;rw[kO_ hus]at hD4;have qR:q≠R:=(ae_ (s4 _ _ hR3) nq).symm;have qO:q≠O:=(ae_ (s4 _ _ hO3) nq).symm;have g1:EM_ S (grow S H3 H4):=bY_ sH3;have g2:EM_ (grow S H3 H4) H4:=gc_ sH3 s4;have gO:grow S H3 H4 O=none:=by rw[cB_ hO3];show SO
     have gR:grow S H3 H4 R=none:=by rw[cB_ hR3];show SR
     have gD:grow S H3 H4 D=some (.lst ((row.map λv=>wns.getD v Str.empty).map V.str)):=by rw[fc_ hD3];show hD4
     have g3:EM_ (grow S H3 H4) (upd (grow S H3 H4) q (.tup [.str (nms.getD pt Str.empty),.ref D])):=bn_ g2 nq;have g4:EM_ (upd (grow S H3 H4) q (.tup [.str (nms.getD pt Str.empty),.ref D])) (upd H4 q (.tup [.str (nms.getD pt Str.empty),.ref D])):=hb_ g2 nq;have gO2:upd (grow S H3 H4) q (.tup [.str (nms.getD pt Str.empty),.ref D]) O=none:=by rw[af_ qO.symm];show gO
     have gR2:upd (grow S H3 H4) q (.tup [.str (nms.getD pt Str.empty),.ref D]) R=none:=by rw[af_ qR.symm];show gR
     have yl:ys.length=dn.length:=by rw[repS.length,Ab_];unfold Fb_;rw[Ab_]
     have dl:dn.length<=16:=by have:=pm.length_eq;rw[Ae_,A9_]at this;lia
     show⟨ys,by rw[af_ qR.symm];show s4 _ _ hR3,EN_ o_,⟨_,_,upd (grow S H3 H4) q (.tup [.str (nms.getD pt Str.empty),.ref D]),rem.eraseIdx t,dn++[pt],ys++[.ref q],rfl,sS.trans (g1.trans g3),aT_ g4 gR2,gO2,gR2,?_,ab_,?_,pm2⟩,?_⟩
     .rw[af_ OR,af_ qO.symm];show s4 _ _ hO3
     .have er2:Fb_ (λp=>nms.getD p Str.empty) (λv=>wns.getD v Str.empty) T' (dn++[pt])=Fb_ (λp=>nms.getD p Str.empty) (λv=>wns.getD v Str.empty) T' dn++[(nms.getD pt Str.empty,row.map λv=>wns.getD v Str.empty)]:=by unfold Fb_;rw[Ar_,Az_,CK_,hrow]
      rw[er2,Ar_];show E7_.append (E7_.mono (g1.trans g3) _ repS) ⟨_,_,rfl,⟨q,_,rfl,ab_,_,_,rfl,rfl,_,_,rfl,⟨D,_,rfl,g3 _ _ gD,b0_ _⟩,rfl⟩,rfl⟩
     .unfold Lz_;rw[af_ OR,af_ qO.symm,s4 _ _ hO3,hO'];change((rem.eraseIdx t).map _).length<(rem.map _).length;rw[Ab_,Ab_];lia
   .have re:rem=[]:=by
     by_cases h:rem=[]
     .show h
     .show absurd (AI_ h) hemp
    subst re;rw[A6_]at pm;show hkb _ _ ?_;nofun;show⟨AP_ _,λL nL=>?_⟩;nofun;show⟨o_,o_,?_⟩;rw[show Int.toNat (W:Int)=W by lia];have s6q:EM_ H6 Hq:=sS.trans sH2;have hD2q:=s6q _ _ hD2;have hD1q:=s6q _ _ hD1;show ex_ (λi σ H'=>∃(z:Int)(e13 e14:Option V)(S':Hp)(vs:List V)(wl:List (Str×(Int×Int))),σ=[some (.ref a),some (.int 0),some (.int 6),some (.int z),some (.int Pp),some (.int W),some (.ref l),some (.ref D1),some (.ref D2),some (.ref O),some (.ref R),e11,some (.ref L),e13,e14]/\EM_ Hq S'/\EM_ S' H'/\S' L=none/\H' L=some (.lst vs)/\E7_ S' vs (wl.map dWo)/\wl.map (·.1)=wns.take i/\∀x∈wl,Ws x.2) ⟨z,none,none,Hq,[],[],rfl,EM_.refl _,EM_.new nL,nL,ab_,rfl,rfl,λx hx=>by cases hx⟩ ?_ ?_
    .rintro i σ H5 hi kc kb hkc hkb G hG ⟨z,e13,e14,S',vs,wl,rfl,sq,sS5,SL,hL,repW,wnm,wws⟩;show hG ?_;have hi':i<W:=hi;have iw:i<wns.length:=o_
     nofun;show⟨z,rfl,λpw qw H7 t0 b0 y0 s7 npw nqw tw hpw hqw=>?_⟩;have s57:=sS5.trans s7;have wll:wl.length=i:=by have:=congrArg List.length wnm;rw[Ab_,AW_]at this;lia
     have vl:vs.length=i:=by rw[repW.length,Ab_];show wll
     show⟨pw,rfl,_,SqT.of hpw,rfl,_,_,rfl,_,_,rfl,rfl,?_⟩;nofun;show⟨.inl ⟨_,.inl (.inl (s7 _ _ hL))⟩,_,(sq.trans s57) _ _ hD2q,_,cN_ o_ (by rw[show Int.toNat (0+(i:Nat):Int)=i by lia];show be_ iw),d_,λq nq=>?_⟩;have g1:EM_ S' (grow S' H5 H7):=bY_ sS5;have g2:EM_ (grow S' H5 H7) H7:=gc_ sS5 s7;have gL:grow S' H5 H7 L=none:=by rw[cB_ hL];show SL
     have gq:grow S' H5 H7 qw=some (.tup [.int (nf t0 b0).1,.int (nf t0 b0).2]):=by rw[fc_ nqw];show hqw
     have qL:q≠L:=(ae_ (s7 _ _ hL) nq).symm;have g3:EM_ (grow S' H5 H7) (upd (grow S' H5 H7) q (.tup [.str (wns.getD i Str.empty),.ref qw])):=bn_ g2 nq;have g4:EM_ (upd (grow S' H5 H7) q (.tup [.str (wns.getD i Str.empty),.ref qw])) (upd H7 q (.tup [.str (wns.getD i Str.empty),.ref qw])):=hb_ g2 nq;have gL2:upd (grow S' H5 H7) q (.tup [.str (wns.getD i Str.empty),.ref qw]) L=none:=by rw[af_ qL.symm];show gL
     show⟨vs,by rw[af_ qL.symm];show s7 _ _ hL,EN_ o_,hkc _ _ ⟨y0,_,_,upd (grow S' H5 H7) q (.tup [.str (wns.getD i Str.empty),.ref qw]),_,wl++[(wns.getD i Str.empty,nf t0 b0)],rfl,sq.trans (g1.trans g3),aT_ g4 gL2,gL2,ab_,?_,?_,λx hx=>(Ao_.mp hx).elim (wws x) λhx=>by rw[Ad_.mp hx];show tw⟩⟩
     .rw[Ar_];show E7_.append (E7_.mono (g1.trans g3) _ repW) ⟨_,_,rfl,⟨q,_,rfl,ab_,_,_,rfl,rfl,_,_,rfl,⟨qw,_,rfl,g3 _ _ gq,_,_,rfl,rfl,_,_,rfl,rfl,rfl⟩,rfl⟩,rfl⟩
     .rw[Ar_,wnm,Bp_,Aa_ iw,Ac_,Aa_ iw];rfl
    .rintro σ H5 ⟨z,e13,e14,S',vs,wl,rfl,sq,sS5,SL,hL,repW,wnm,wws⟩;rw[A4_ o_]at wnm;nofun;have wll:wl.length=W:=by rw[<-nl2,<-wnm,Ab_]
     have vl:vs.length=wl.length:=by rw[repW.length,Ab_]
     have sq5:=sq.trans sS5;have c1:H0_ (nms.map V.str) none (some ((Pp:Nat):Int))=(nms.take Pp).map V.str:=by rw[pe_ _ _ (by rw[Ab_];lia),CB_]
     show⟨_,sq5 _ _ hD1q,λq nq=>?_⟩;rw[c1];have Sq:EM_ H5 (upd H5 q (HO.lst ((nms.take Pp).map V.str))):=EM_.new nq;have hq:=ab_ (H:=H5) (a:=q) (o:=HO.lst ((nms.take Pp).map V.str));generalize upd H5 q (HO.lst ((nms.take Pp).map V.str))=H6' at*;show⟨vs,Sq _ _ hL,wl,E7_.mono (sS5.trans Sq) _ repW,o_,by rw[wnm];show nd2,λl' zs wl' nl' repW' pw srt=>?_⟩
     .show⟨d_,λpe npe=>?_⟩;have Sl:EM_ H6' (upd H6' l' (HO.lst zs)):=EM_.new nl';have hl':=ab_ (H:=H6') (a:=l') (o:=HO.lst zs);generalize upd H6' l' (HO.lst zs)=H7' at*;have Se:EM_ H7' (upd H7' pe (HO.tup [V.ref q,V.ref R,V.ref l'])):=EM_.new npe;have he:=ab_ (H:=H7') (a:=pe) (o:=HO.tup [V.ref q,V.ref R,V.ref l']);generalize upd H7' pe (HO.tup [V.ref q,V.ref R,V.ref l'])=H8' at*;have tot:EM_ H5 H8':=Sq.trans (Sl.trans Se);have hWL:wl'.length=W:=by rw[pw.length_eq];show wll
      have hOK:∀_:Unit,Fi_ (⟨nms.take Pp,Fb_ (λp=>nms.getD p Str.empty) (λv=>wns.getD v Str.empty) T' dn,wl'⟩:Net Str):=λ_=>by show rh_ gr'.toGr (by rw[<-bl];show pm) P6 W15 (λx y hx hy e=>hg_ nd1 o_ o_ e) (λx y hx hy e=>hg_ nd2 o_ o_ e) (by rw[AW_];lia) (by rw[pw.length_eq];lia)
      have hPO:∀_:Unit,EZ_ (⟨nms.take Pp,Fb_ (λp=>nms.getD p Str.empty) (λv=>wns.getD v Str.empty) T' dn,wl'⟩:Net Str):=λ_=>by
       have nl1':nms.length=T'.length:=o_
       show⟨List.Nodup.sublist (List.take_sublist _ _) nd1,λx hx=>?_,by rw[AW_];lia⟩;obtain⟨j,hj,ej⟩:=As_.mp hx;have hj2:j<nms.length:=by rw[AW_]at hj;lia
       show Ai_.mpr ⟨_,Ai_.mpr ⟨j,pm.mem_iff.mpr (AJ_.mpr o_),rfl⟩,?_⟩;change nms.getD j Str.empty=x;rw[Ac_,Aa_ hj2];rw[DB_]at ej;show ej
      have hPL:∀_:Unit,Pl (nms.take Pp).length W (trn (⟨nms.take Pp,Fb_ (λp=>nms.getD p Str.empty) (λv=>wns.getD v Str.empty) T' dn,wl'⟩:Net Str)):=λ_=>by
       have tkl:(nms.take Pp).length=Pp:=by rw[AW_];lia
       rw[tkl];show oD_ gr' (by rw[<-bl];show pm) (λx y hx hy e=>hg_ nd1 o_ o_ e) (λx y hx hy e=>hg_ nd2 o_ o_ e) ?_ (hOK ()) (hPO ());have:=cK_ Str.empty (nms.take Pp);rw[tkl]at this;rw[<-this];show Bw_ λp hp=>by have:=AJ_.mp hp;rw[Ac_,Ac_,List.getElem?_take,if_pos this]
      have hPLW:∀_:Unit,Pl (nms.take Pp).length wl'.length (trn (⟨nms.take Pp,Fb_ (λp=>nms.getD p Str.empty) (λv=>wns.getD v Str.empty) T' dn,wl'⟩:Net Str)):=λ_=>by have:=hPL ();rw[hWL];show this
      show k (.ref pe) ⟨nms.take Pp,Fb_ (λp=>nms.getD p Str.empty) (λv=>wns.getD v Str.empty) T' dn,wl'⟩ H8' (s0.trans (s6.trans (s6q.trans (sq5.trans tot)))) ⟨pe,_,rfl,he,_,_,rfl,⟨q,_,rfl,(Sl.trans Se) _ _ hq,b0_ _⟩,_,_,rfl,⟨R,ys,rfl,tot _ _ (sq5 _ _ hRq),E7_.mono (sH2.trans (sq5.trans tot)) _ repS⟩,_,_,rfl,⟨l',zs,rfl,Se _ _ hl',E7_.mono (Sl.trans Se) _ repW'⟩,rfl⟩ (hOK ()) (hPO ()) ?_ srt ?_ ?_ (hPLW ()) ?_ ?_
      .have pn:=pw.map (·.1);rw[wnm]at pn;show⟨pn.nodup_iff.mpr nd2,λx=>?_,λx hx=>wws x (pw.mem_iff.mp hx)⟩;rw[pn.mem_iff];have al:=iK_ (S:=Str) (ns:=λp=>nms.getD p Str.empty) (ws:=λv=>wns.getD v Str.empty) (T:=T') (ord:=dn) (by rw[<-bl];show pm);change x∈wns↔x∈((Fb_ _ _ T' dn).map (·.2)).flatten;rw[al.mem_iff];constructor
       .intro hx;obtain⟨j,hj,ej⟩:=As_.mp hx;show Ai_.mpr ⟨j,BO_.mp (by rw[gr'.two j o_];decide),?_⟩;change wns.getD j Str.empty=x;rw[Ac_,Aa_ hj];show ej
       .intro hx;obtain⟨j,hj,ej⟩:=Ai_.mp hx;have hl:=gr'.lt j hj;have ej':wns.getD j Str.empty=x:=ej;rw[Ac_,Aa_ (show j<wns.length by lia)]at ej';rw[<-ej'];show A3_ _
      .have nl1':nms.length=T'.length:=o_
       show⟨λx hx=>nk1 x (List.mem_of_mem_take hx),λr hr=>?_,λr hr=>?_⟩
       .obtain⟨p,hp,rfl⟩:=Ai_.mp hr;have pl:=AJ_.mp (pm.mem_iff.mp hp);have hmT:T'.getD p []∈T':=by rw[Ac_,Aa_ (show p<T'.length by lia)];show A3_ _
        show⟨nk1 _ (nC_ o_),?_,λx hx=>?_⟩
        .have:=Iv_ T' p;rw[gr'.tot]at this;unfold rl at this;change((T'.getD p []).map _).length<=30;rw[Ab_];lia
        .obtain⟨v,hv,rfl⟩:=Ai_.mp hx;show nk2 _ (nC_ (by rw[nl2];show gr'.lt v (AX_.mpr ⟨_,hmT,hv⟩)))
       .have hm:=pw.mem_iff.mp hr;show⟨nk2 _ (by rw[<-wnm];show Ai_.mpr ⟨r,hm,rfl⟩),wws r hm⟩
      .show nt_h gr'.toGrH (by rw[<-bl];show pm) λp hp=>?_;rw[Ac_,Aa_ (show p<nms.length by lia)];show As_.mpr ⟨p,by rw[AW_];lia,?_⟩;rw[DB_];rfl
      .change(Fb_ _ _ T' dn).length<=16;unfold Fb_;rw[Ab_];have:=pm.length_eq;rw[A9_]at this;lia
      .have al:=iK_ (S:=Str) (ns:=λp=>nms.getD p Str.empty) (ws:=λv=>wns.getD v Str.empty) (T:=T') (ord:=dn) (by rw[<-bl];show pm);change(((Fb_ (λp=>nms.getD p Str.empty) (λv=>wns.getD v Str.empty) T' dn).map (·.2)).flatten).length=2*wl'.length;rw[al.length_eq,Ab_,gr'.tot,hWL]
def dE(e:End Str):Dt:=.tup [.str e.1,.int e.2]
def FK_(acc:List (Str×List (End Str)))(ls:List Addr):List (Key×V):=List.zipWith (λkv l=>(Sum.inr kv.1,V.ref l)) acc ls
structure DE(S H:Hp)(d:Addr)(ls:List Addr)(acc:List (Str×List (End Str))):Prop where
 sH:EM_ S H
 dict:H d=some (.dK (FK_ acc ls))
 len:ls.length=acc.length
 nd:ls.Nodup
 dn:d∉ls
 lst:∀(i:Nat)(l:Addr)(kv:Str×List (End Str)),ls[i]?=some l->acc[i]?=some kv->∃vs,H l=some (.lst vs)/\E7_ S vs (kv.2.map dE)
 fd:S d=none
 fl:∀l∈ls,S l=none
variable{d:Addr}{ls:List Addr}{acc:List (Str×List (End Str))}
theorem DE.mono(h:DE S H d ls acc)(s:EM_ H H'):DE S H' d ls acc :=
 ⟨h.sH.trans s,s _ _ h.dict,h.len,h.nd,h.dn,λi l kv h1 h2=>(h.lst i l kv h1 h2).elim λvs z=>⟨vs,s _ _ z.1,z.2⟩,h.fd,h.fl⟩
theorem DE.stay(h:DE S H d ls acc)(nq:H q=none)(o:HO):DE (upd S q o) (upd H q o) d ls acc:=by
 have qd:q≠d:=(ae_ h.dict nq).symm;have ql:∀l∈ls,q≠l:=λl hl e=>by obtain⟨i,hi,ei⟩:=As_.mp hl;obtain⟨vs,z,_⟩:=h.lst i l (acc[i]'(by rw[<-h.len];show hi)) (by rw[Aa_ hi,ei]) (Aa_ _);rw[<-e,nq]at z;cases z
 show⟨hb_ h.sH nq,by rw[af_ qd.symm];show h.dict,h.len,h.nd,h.dn,λi l kv h1 h2=>(h.lst i l kv h1 h2).elim λvs z=>⟨vs,by rw[af_ (ql l (Am_ h1)).symm];show z.1,E7_.mono (bn_ h.sH nq) _ z.2⟩,by rw[af_ qd.symm];show h.fd,λl hl=>by rw[af_ (ql l hl).symm];show h.fl l hl⟩
theorem kP_(h:ls.length=acc.length):(FK_ acc ls).length=acc.length:=by unfold FK_;rw[DS_];lia
theorem iW_{w:Str}:∀{acc:List (Str×List (End Str))}{ls:List Addr}{i:Nat}{es:List (End Str)},ls.length=acc.length->acc[i]?=some (w,es)->(∀j kv,j<i->acc[j]?=some kv->kv.1≠w)->∃l,ls[i]?=some l/\FH_ (FK_ acc ls) (.inr w)=some (.ref l)
 |[],_,_,_,_,h,_=>by cases h
 |kv::acc,[],_,_,h,_,_=>by cases h
 |kv::acc,l::ls,0,es,_,h,_=>by
  cases h;show⟨l,rfl,bB_ rfl⟩
 |kv::acc,l::ls,i+1,es,hl,h,hn=>by obtain⟨l',h1,h2⟩:=iW_ (w:=w) (acc:=acc) (ls:=ls) (i:=i) (by simpa using hl) h λj kv hj hkv=>hn (j+1) kv o_ hkv;show⟨l',h1,?_⟩;change FH_ ((Sum.inr kv.1,V.ref l)::FK_ acc ls) (.inr w)=_;rw[bs_ (λz=>hn 0 kv o_ rfl (Ce_ z))];show h2
theorem iX_{w:Str}:∀{acc:List (Str×List (End Str))}{ls:List Addr},(∀kv∈acc,kv.1≠w)->FH_ (FK_ acc ls) (.inr w)=none
 |[],_,_=>by unfold FK_;rw[List.zipWith_nil_left];rfl
 |kv::acc,[],_=>rfl
 |kv::acc,l::ls,h=>by change FH_ ((Sum.inr kv.1,V.ref l)::FK_ acc ls) (.inr w)=_;rw[bs_ (λz=>h kv An_ (Ce_ z))];show iX_ λkv hkv=>h kv (Ak_ _ hkv)
variable{e:End Str}
theorem oK_{w:Str}(hl:ls.length=acc.length)(h:∀kv∈acc,kv.1≠w):FQ_ (FK_ acc ls) (.inr w) (.ref q)=FK_ (acc++[(w,[e])]) (ls++[q]):=by have hv:=iX_ (ls:=ls) h;unfold FQ_;rw[if_neg (by rw[dW_,hv];decide)];unfold FK_;rw[DT_ hl.symm];rfl
variable{es:List (End Str)}{vs:List V}
theorem DE.old(h:DE S H d ls acc){w:Str}{t:Addr}(hi:acc[i]?=some (w,es))(hl:ls[i]?=some l)(hv:H l=some (.lst vs))(hr:E7_ S vs (es.map dE))(ht:S t=some (.tup [.str e.1,.int e.2])):
  DE S (upd H l (.lst (vs++[.ref t]))) d ls (acc.set i (w,es++[e])):=by
 have dl:d≠l:=λz=>h.dn (by rw[z];show Am_ hl);have il:i<ls.length:=(Al_.mp hl).1;have ia:i<acc.length:=by rw[<-h.len];show il
 show⟨aT_ h.sH (h.fl l (Am_ hl)),?_,by rw[Be_];show h.len,h.nd,h.dn,λj l' kv h1 h2=>?_,h.fd,h.fl⟩
 .rw[af_ dl,h.dict];congr 2;unfold FK_;apply Cj_
  .simp
  .intro j g1 g2;rw[Dq_,Dq_];by_cases z:i=j
   .subst z;rw[Dl_];rw[Aa_ ia]at hi;rw[At_ hi]
   .rw[Dv_ z]
 .rw[List.getElem?_set]at h2;by_cases z:i=j
  .subst z;rw[if_pos rfl,if_pos ia]at h2;cases h2;rw[hl]at h1;cases h1;show⟨_,ab_,?_⟩;rw[Ar_];show E7_.append hr ⟨_,_,rfl,⟨t,_,rfl,ht,_,_,rfl,rfl,_,_,rfl,rfl,rfl⟩,rfl⟩
  .rw[if_neg z]at h2;obtain⟨vs',g1,g2⟩:=h.lst j l' kv h1 h2;have ll:l'≠l:=λy=>by rw[y]at h1;show z ((AY_ il h.nd).mp (hl.trans h1.symm))
   show⟨vs',by rw[af_ ll];show g1,g2⟩
theorem DE.new(h:DE S H d ls acc){w:Str}{t:Addr}(hn:∀kv∈acc,kv.1≠w)(hq:H q=some (.lst []))(qd:q≠d)(ql:q∉ls)(Sq:S q=none)(ht:S t=some (.tup [.str e.1,.int e.2])):
  DE S (upd (upd H d (.dK (FQ_ (FK_ acc ls) (.inr w) (.ref q)))) q (.lst [.ref t])) d (ls++[q]) (acc++[(w,[e])]):=by
 show⟨aT_ (aT_ h.sH h.fd) Sq,?_,by simp[h.len],?_,?_,λj l' kv h1 h2=>?_,h.fd,λl hl=>?_⟩
 .rw[af_ qd.symm,ab_,oK_ h.len hn]
 .show AA_.mpr ⟨h.nd,s_,λx hx y hy z=>ql (by rw[<-Ad_.mp hy,<-z];show hx)⟩
 .intro z
  rcases Ao_.mp z with z|z
  .show h.dn z
  .show qd (Ad_.mp z).symm
 .by_cases hj:j<ls.length
  .rw[Ay_ hj]at h1;rw[Ay_ (by rw[<-h.len];show hj)]at h2;obtain⟨vs',g1,g2⟩:=h.lst j l' kv h1 h2;have e1:l'≠q:=λz=>ql (by rw[<-z];show Am_ h1);have e2:l'≠d:=λz=>h.dn (by rw[<-z];show Am_ h1);show⟨vs',by rw[af_ e1,af_ e2];show g1,g2⟩
  .rw[AK_ o_]at h1;rw[AK_ (by rw[<-h.len];lia)]at h2;have e1:=Ad_.mp (Am_ h1);have e2:=Ad_.mp (Am_ h2);subst e1 e2;show⟨_,ab_,_,_,rfl,⟨t,_,rfl,ht,_,_,rfl,rfl,_,_,rfl,rfl,rfl⟩,rfl⟩
 .rcases Ao_.mp hl with z|z
  .show h.fl l z
  .rw[Ad_.mp z];show Sq
variable{N:Net Str}
theorem dr_(h:Rep H v (GJ_ N)):∃(pn p0 p1 p2:Addr)(rs ws:List V),v=.ref pn/\H pn=some (.tup [.ref p0,.ref p1,.ref p2])/\H p0=some (.lst (N.posts.map V.str))/\H p1=some (.lst rs)/\E7_ H rs (N.rows.map dRw)/\H p2=some (.lst ws)/\E7_ H ws (N.worths.map dWo):=by obtain⟨pn,_,rfl,hn,_,_,rfl,⟨p0,ps,rfl,h0,r0⟩,_,_,rfl,⟨p1,rs,rfl,h1,r1⟩,_,_,rfl,⟨p2,ws,rfl,h2,r2⟩,rfl⟩:=h;rw[kO_ r0]at h0;show⟨pn,p0,p1,p2,rs,ws,rfl,hn,h0,h1,r1,h2,r2⟩
variable{r:Str×List Str}
theorem qy_(h:Rep H v (dRw r)):∃q l,v=.ref q/\H q=some (.tup [.str r.1,.ref l])/\H l=some (.lst (r.2.map V.str)):=by obtain⟨q,_,rfl,hq,x,_,rfl,hx,_,_,rfl,⟨l,us,rfl,hl,rl⟩,rfl⟩:=h;rw[kO_ rl]at hl;cases hx;show⟨q,l,rfl,hq,hl⟩
variable{rs:List V}{rows:List (Str×List Str)}
theorem ed_{x:V}(h:E7_ H rs (rows.map dRw))(e:rs[i]?=some x):∃r q l,rows[i]?=some r/\x=.ref q/\H q=some (.tup [.str r.1,.ref l])/\H l=some (.lst (r.2.map V.str)):=by
 obtain⟨d,hd,hr⟩:=h.of_get e;rw[Ag_]at hd;cases e2:rows[i]? with
 |none=>rw[e2]at hd;cases hd
 |some r =>rw[e2]at hd;rw[<-At_ hd]at hr;obtain⟨q,l,h1,h2,h3⟩:=qy_ hr;show⟨r,q,l,rfl,h1,h2,h3⟩
theorem ip_(p:Str):∀(ws:List Str)(k j:Nat),(Fo_ p k ws)[j]?=(ws[j]?).map λx=>(x,(p,k+j))
 |[],_,_=>by simp[Fo_]
 |w::ws,k,0=>rfl
 |w::ws,k,j+1=>by change(Fo_ p (k+1) ws)[j]?=(ws[j]?).map λx=>(x,(p,k+(j+1)));rw[ip_ p ws (k+1) j,show k+1+j=k+(j+1) by lia]
theorem mi_(p:Str)(ws:List Str)(k:Nat):(Fo_ p k ws).length=ws.length:=by
 have:=congrArg List.length (gf_ p ws k)
 rwa[Ab_]at this
theorem lE_(h:rows[i]?=some r):occ (rows.take (i+1))=occ (rows.take i)++Fo_ r.1 0 r.2:=by unfold occ;rw[Bp_,h,Ar_,Ba_];simp
structure Jw_(N:Net Str):Prop where
 few:N.rows.length<=16
 tot:N.all.length<=30
 pl:N.posts.length<=10
 wl:N.worths.length<=20
theorem Ip_(ok:Fi_ N):Jw_ N:=⟨ok.few,ok.tot,by have:=ok.pl;lia,by have:=ok.wl;lia⟩
theorem fY_(ok:Jw_ N)(l m:List (Str×End Str))(h:l++m=occ N.rows):(Fx_ l).length<=30:=by
 have e:∀l:List (Str×End Str),(Fx_ l).length<=l.length:=λl=>by
  have key:∀n (l:List (Str×End Str)),l.length=n->(Fx_ l).length<=n:=λn=>by
   induction n with
   |zero=>intro l h;rw[A2_ h];show Ah_ _
   |succ n ih =>
    intro l h;obtain⟨m,x,rfl⟩:∃m x,l=m++[x]:=⟨l.dropLast,l.getLast (λe=>by rw[e]at h;cases h),(BA_ _).symm⟩;rw[ge_];have h2:=ih m (by simpa using h);have h3:=congrArg List.length (eu_ (w:=x.1) (e:=x.2) (a:=Fx_ m));rw[Ab_]at h3;split at h3
    .rw[Ab_]at h3;lia
    .rw[Ae_,Ab_]at h3;simp at h3;lia
  show key _ l rfl
 have h1:=e l;have h2:=congrArg List.length h;have h3:=congrArg List.length (fd_ N.rows);rw[Ab_]at h3;have h4:=ok.tot;unfold Net.all at h4;rw[Ae_]at h2;lia
theorem iq_(ok:Jw_ N)(l m:List (Str×End Str))(h:l++m=occ N.rows):∀kv∈Fx_ l,kv.2.length<=30:=λkv hkv=>by
 have h0:=(aU_ _ l rfl).2.1 kv hkv;have h1:kv.2.length<=l.length:=by rw[h0,Ab_];show CH_ _ _
 have h2:=congrArg List.length h;have h3:=congrArg List.length (fd_ N.rows);rw[Ab_]at h3;have h4:=ok.tot;unfold Net.all at h4;rw[Ae_]at h2;lia
theorem oL_{a b:Addr}{x y:HO}(h:a≠b):upd (upd H a x) b y=upd (upd H b y) a x:=by
 funext c;by_cases h1:c=a
 .subst h1;rw[af_ h,ab_,ab_]
 .by_cases h2:c=b
  .subst h2;rw[ab_,af_ h1,ab_]
  .rw[af_ h2,af_ h1,af_ h1,af_ h2]
abbrev E2_:Stmt:=stN 20
theorem a9_:ZL ["net","ends","point","wires","place","wire"] ["net"] (EL_ E2_):=zL
theorem ds_:LK E2_ "enumerate" .globalImplicit:=r_
def Gu_:Sp:=λvs H Q _=>∃(v:V)(N:Net Str),vs=[v]/\Rep H v (GJ_ N)/\Jw_ N/\∀d S ls H',EM_ H S->DE S H' d ls (E8_ N)->H d=none->Q (.ref d) H'
theorem hY_(T:Txt K mg)(F:Fn0 K mg "ends_by_wire" E2_):Cal P w K mg base "ends_by_wire" ["net"] 1 Gu_:=by
  show aZ_ F a9_.1 λf cdv A outer s H vs Q E hr h=>?_;obtain⟨v,N,rfl,hv,ok,k⟩:=h;refine'⟨_,?D,?R⟩
  case D =>
   refine' ad_ ?a (ad_ ?b (ag_ (aB_ (zv 1 a9_))))
   case a=>show zas 1 a9_ ld_
   case' b=>refine' bT_ AS_ rfl (aS_ (K:=K) rfl (ES_ ao_ (zv 0 a9_) ac_)) (br_ (K:=K) (n:=2) rfl rfl (ar_ ?c (ar_ ?d bp_))) ?e
   case c=>show zh 2 a9_
   case d=>show zh 3 a9_
   case' e=>refine' ag_ (bT_ AS_ rfl (pZ_ (K:=K) rfl ds_ T.n_enumerate (pa_c (zv 3 a9_) aa_)) (br_ (K:=K) (n:=2) rfl rfl (ar_ ?f (ar_ ?g bp_))) ?h)
   case f=>show zh 4 a9_
   case g=>show zh 5 a9_
   case' h=>refine' ag_ (aw_ (FM_ Av_ A0_ A1_ aY_ (FM_ Cv_ CR_ DG_ iJ_ (zv 1 a9_) (pa_c (zv 5 a9_) (pa_c (bH_ aa_) aa_))) ?i))
   case' i=>refine' pa_c (au_ (pa_c (zv 2 a9_) (pa_c (zv 4 a9_) aa_))) aa_
  case R =>
   nofun;obtain⟨pn,p0,p1,p2,rs,ws,rfl,hn,h0,h1,r1,h2,r2⟩:=dr_ hv;have rl:rs.length=N.rows.length:=by rw[r1.length,Ab_]
   intro d nd;have Sd:EM_ H (upd H d (HO.dK [])):=EM_.new nd;show⟨pn,rfl,_,Sd _ _ hn,_,FX_,p1,rfl,⟨_,.inl (.inl (Sd _ _ h1))⟩,?_⟩;have D0:DE H (upd H d (HO.dK [])) d [] (Fx_ (occ (N.rows.take 0))):=⟨Sd,ab_,rfl,Bf_,λz=>(by cases z),λi l kv z=>(by cases z),nd,λl z=>(by cases z)⟩;show ht_ (xs:=rs) (λi σ H'=>∃(e2 e3 e4 e5:Option V)(S:Hp)(ls:List Addr),σ=[some (.ref pn),some (.ref d),e2,e3,e4,e5]/\EM_ H S/\DE S H' d ls (Fx_ (occ (N.rows.take i)))) ⟨none,none,none,none,H,[],rfl,EM_.refl _,D0⟩ ?_ ?_ ?_
   .rintro i σ H' hi ⟨e2,e3,e4,e5,S,ls,rfl,sS,de⟩;show .inl (.inl (de.sH _ _ (sS _ _ h1)))
   .rintro i x σ H' hx ⟨e2,e3,e4,e5,S,ls,rfl,sS,de⟩;obtain⟨r,q,l,hr1,rfl,hq,hl⟩:=ed_ r1 hx;have s1:=sS.trans de.sH;rw[lE_ hr1];have occle:∀j,∃m,(occ (N.rows.take i)++(Fo_ r.1 0 r.2).take j)++m=occ N.rows:=λj=>by show⟨(Fo_ r.1 0 r.2).drop j++occ (N.rows.drop (i+1)),?_⟩;rw[BD_,<-BD_ (List.take j _),A5_,<-BD_,<-lE_ hr1];unfold occ;rw[<-Ba_,<-Ar_,A5_]
    nofun;show⟨_,SqT.of (s1 _ _ hq),rfl,_,_,rfl,_,_,rfl,rfl,l,rfl,⟨_,.inl (.inl (s1 _ _ hl))⟩,?_⟩;show p6_ (xs:=r.2.map V.str) (λj σ H'=>∃(e4 e5:Option V)(S:Hp)(ls:List Addr),σ=[some (.ref pn),some (.ref d),some (.str r.1),some (.ref l),e4,e5]/\EM_ H S/\DE S H' d ls (Fx_ (occ (N.rows.take i)++(Fo_ r.1 0 r.2).take j))) ⟨e4,e5,S,ls,rfl,sS,by rw[DY_,A6_];show de⟩ ?_ ?_ ?_
    .rintro j σ H2 hj ⟨e4,e5,S,ls,rfl,sS,de⟩;show .inl (.inl ((sS.trans de.sH) _ _ hl))
    .rintro j x T0 σ H2 hx ⟨e4,e5,S,ls,rfl,sS,de⟩ nT;rw[Ag_]at hx
     obtain⟨wr,hw,rfl⟩:∃wr,r.2[j]?=some wr/\x=.str wr:=by
      cases e:r.2[j]? with
      |none=>rw[e]at hx;cases hx
      |some wr=>rw[e]at hx;cases hx;show⟨wr,rfl,rfl⟩
     have tk:(Fo_ r.1 0 r.2).take (j+1)=(Fo_ r.1 0 r.2).take j++[(wr,(r.1,j))]:=by rw[Bp_,ip_,hw];simp
     obtain⟨m,hm⟩:=occle j;have few:=fY_ ok _ _ hm;have short:=iq_ ok _ _ hm;rw[tk,<-BD_,ge_];generalize Fx_ (occ (N.rows.take i)++(Fo_ r.1 0 r.2).take j)=acc at*;have de2:=de.mono (EM_.new nT (o:=HO.tup [V.int j,V.str wr]));have hT:=ab_ (H:=H2) (a:=T0) (o:=HO.tup [V.int j,V.str wr]);generalize upd H2 T0 (HO.tup [V.int j,V.str wr])=H3 at*;nofun;show⟨_,SqT.of hT,rfl,_,_,rfl,_,_,rfl,rfl,.inr (.inr (.inl (.inl ⟨_,de2.dict⟩))),AP_ _,λq nq=>?_⟩;have qd:q≠d:=(ae_ de2.dict nq).symm;have ql:q∉ls:=λz=>by obtain⟨i0,hi0,ei⟩:=As_.mp z;obtain⟨vs,z2,_⟩:=de2.lst i0 q (acc[i0]'(by rw[<-de2.len];show hi0)) (by rw[Aa_ hi0,ei]) (Aa_ _);rw[nq]at z2;cases z2
     have Sq:S q=none:=de2.sH.free nq;have de3:=de2.mono (EM_.new nq (o:=HO.lst []));have hq4:=ab_ (H:=H3) (a:=q) (o:=HO.lst []);generalize upd H3 q (HO.lst [])=H4 at*;show⟨_,.inr wr,rfl,de3.dict,by rw[kP_ de3.len];lia,λv2 hv2=>?_,λhnone=>?_⟩
     .have hex:∃kv∈acc,kv.1=wr:=by
       by_cases hc:∃kv∈acc,kv.1=wr
       .show hc
       .rw[iX_ (λkv hkv z=>hc ⟨kv,hkv,z⟩)]at hv2;cases hv2
      obtain⟨i0,es,g1,g2,g3⟩:=fF_ (e:=(r.1,j)) hex;obtain⟨lw,l1,l2⟩:=iW_ de3.len g1 g2;rw[l2]at hv2;cases hv2;obtain⟨vs,hvs,hrep⟩:=de3.lst i0 lw _ l1 g1;have vle:vs.length<=30:=by rw[hrep.length,Ab_];show short _ (Am_ g1)
      show⟨.inl ⟨_,.inl (.inl hvs)⟩,d_,λt nt=>⟨lw,rfl,vs,(EM_.new nt) _ _ hvs,EN_ o_,?_⟩⟩;have de5:=de3.stay nt (.tup [.str r.1,.int j]);have de6:=de5.old g1 l1 ((EM_.new nt) _ _ hvs) (E7_.mono (bn_ de3.sH nt) _ hrep) (e:=(r.1,j)) ab_;rw[g3];show⟨_,sS.trans (bn_ de3.sH nt),ls,de6⟩
     .have hno:∀kv∈acc,kv.1≠wr:=λkv hkv z=>by obtain⟨i0,es,g1,g2,g3⟩:=fF_ (e:=(r.1,j)) ⟨kv,hkv,z⟩;obtain⟨lw,l1,l2⟩:=iW_ de3.len g1 g2;rw[l2]at hnone;cases hnone
      have hqd:upd H4 d (HO.dK (FQ_ (FK_ acc ls) (Sum.inr wr) (V.ref q))) q=some (.lst []):=by rw[af_ qd];show hq4
      show⟨.inl ⟨_,.inl (.inl hqd)⟩,d_,λt nt=>?_⟩;have td:t≠d:=λz=>by rw[z,ab_]at nt;cases nt
      have nt4:H4 t=none:=by rw[af_ td]at nt;show nt
      have tq:t≠q:=(ae_ hq4 nt4).symm;have de5:=de3.stay nt4 (.tup [.str r.1,.int j]);have de6:=de5.new (e:=(r.1,j)) (q:=q) hno (by rw[af_ tq.symm];show hq4) qd ql (by rw[af_ tq.symm];show Sq) ab_;show⟨[],by rw[af_ tq.symm];show hqd,EN_ d_,upd S t (.tup [.str r.1,.int j]),sS.trans (bn_ de3.sH nt4),ls++[q],?_⟩;rw[jG_ hno,oL_ td.symm];show de6
    .rintro σ H2 ⟨e4,e5,S,ls,rfl,sS,de⟩;rw[A4_ (l:=Fo_ r.1 0 r.2) (by rw[mi_,Ab_];show Ah_ _)]at de;show⟨_,_,_,_,rfl,S,sS,ls,de⟩
   .rintro σ H' ⟨e2,e3,e4,e5,S,ls,rfl,sS,de⟩;rw[A4_ o_]at de;nofun;show k d S ls H' sS de nd
def eV(e:End Str):HO:=.tup [.str e.1,.int e.2]
def eK(e:End Str):List Key:=[.inr e.1,.inl (e.2:Int)]
theorem fZ_{a b:End Str}(h:eK a=eK b):a=b:=by
 unfold eK at h;injection h with h1 h2
 injection h2 with h3 h4
 show Bd_ (Ce_ h1) (by have:=Sum.inl.inj h3;lia)
def MO(S:Hp)(acc:List (Str×List (End Str)))(i:Nat)(k2:List (List Key×V)):Prop :=
 ∀(j:Nat)(x:Str)(a b:End Str),j<i->acc[j]?=some (x,[a,b])->(∃q,FH_ k2 (eK a)=some (.ref q)/\S q=some (eV b))/\∃q,FH_ k2 (eK b)=some (.ref q)/\S q=some (eV a)
theorem MO.step(ok:Fi_ N)(h:MO S (E8_ N) i k2){a b:End Str}{qa qb:Addr}(hi:(E8_ N)[i]?=some (x,[a,b]))(ha:S qa=some (eV a))(hb:S qb=some (eV b)):
  MO S (E8_ N) (i+1) (FQ_ (FQ_ k2 (eK a) (.ref qb)) (eK b) (.ref qa)):=by
 have hm:=Am_ hi;have ne:=p8_ ok hm rfl;intro j y c d hj hjs
 have nk:∀e,j≠i->e∈[c,d]->e≠a/\e≠b:=λe ji he=>by
  have hmj:=Am_ hjs
  have key:∀f,f∈[a,b]->e≠f:=λf hf z=>by
   subst z;have:=gg_ ok hmj hm he hf;have k1:((E8_ N).map (·.1))[j]?=((E8_ N).map (·.1))[i]?:=by rw[Ag_,Ag_,hjs,hi];show congrArg some this
   show ji ((AY_ (by rw[Ab_];show(Al_.mp hjs).1) (ku_ N)).mp k1)
  show⟨key a s_,key b s_⟩
 by_cases ji:j=i
 .subst ji;rw[hi]at hjs;cases hjs;constructor
  .show⟨qb,?_,hb⟩;rw[bt_,if_neg (λz=>ne (fZ_ z)),bt_,if_pos rfl]
  .show⟨qa,?_,ha⟩;rw[bt_,if_pos rfl]
 .obtain⟨g1,g2⟩:=h j y c d o_ hjs;obtain⟨n1,n2⟩:=nk c ji s_;obtain⟨n3,n4⟩:=nk d ji s_;rw[bt_,if_neg (λz=>n2 (fZ_ z)),bt_,if_neg (λz=>n1 (fZ_ z)),bt_,if_neg (λz=>n4 (fZ_ z)),bt_,if_neg (λz=>n3 (fZ_ z))];show⟨g1,g2⟩
theorem kQ_{κ:Type}[DecidableEq κ](kvs:List (κ×V))(k:κ)(v:V):(FQ_ kvs k v).length<=kvs.length+1:=bv_ kvs k v
theorem nD_{k:Key}{x:V}(h:(FK_ acc ls)[i]?=some (k,x)):∃kv l,acc[i]?=some kv/\ls[i]?=some l/\k=.inr kv.1/\x=.ref l:=by
 unfold FK_ at h;rw[List.getElem?_zipWith]at h;cases e1:acc[i]? with
 |none=>rw[e1]at h;cases h
 |some kv =>
  cases e2:ls[i]? with
  |none=>rw[e1,e2]at h;cases h
  |some l =>rw[e1,e2]at h;cases h;show⟨kv,l,rfl,rfl,rfl,rfl⟩
theorem oM_{a b:End Str}(h:E7_ S vs ([a,b].map dE)):∃qa qb,vs=[.ref qa,.ref qb]/\S qa=some (eV a)/\S qb=some (eV b):=by obtain⟨_,_,rfl,⟨qa,_,rfl,ha,_,_,rfl,hx,_,_,rfl,hy,rfl⟩,_,_,rfl,⟨qb,_,rfl,hb,_,_,rfl,hz,_,_,rfl,hu,rfl⟩,rfl⟩:=h;cases hx;cases hy;cases hz;cases hu;show⟨qa,qb,rfl,ha,hb⟩
abbrev Fq_:Stmt:=stN 21
theorem ee_:ZL ["net","others","pair"] ["net"] (EL_ Fq_):=zL
theorem db_:LK Fq_ "ends_by_wire" .globalImplicit:=r_
def Gs_:Sp:=λvs H Q _=>∃(v:V)(N:Net Str),vs=[v]/\Rep H v (GJ_ N)/\Fi_ N/\∀d k2 H',EM_ H H'->H' d=some (.dT k2)->MO H' (E8_ N) (E8_ N).length k2->(∀e,(∀kv∈E8_ N,e∉kv.2)->FH_ k2 (eK e)=none)->H d=none->Q (.ref d) H'
theorem iY_(T:Txt K mg)(F:Fn0 K mg "other_ends" Fq_) (Fh_:Cal P w K mg base "ends_by_wire" ["net"] 1 Gu_):Cal P w K mg base "other_ends" ["net"] 2 Gs_:=by
  show aZ_ F ee_.1 λf cdv A outer s H vs Q E hr h=>?_;obtain⟨v,N,rfl,hv,ok,k⟩:=h;refine'⟨_,?D,?R⟩
  case D =>
   refine' ad_ ?a (ad_ (bT_ AS_ rfl (li_ (an_ Fh_ (hr.mono d_) db_ (pa_c (zv 0 ee_) aa_))) ?b ?c) (ag_ (aB_ (zv 1 ee_))))
   case a=>show zas 1 ee_ hc_
   case b=>show zh 2 ee_
   case' c=>refine' ad_ (et_ (un1 hr.units) (zv 1 ee_) (ES_ ap_ (zv 2 ee_) ac_) (ES_ ap_ (zv 2 ee_) ac_) rfl) (ag_ (et_ (un1 hr.units) (zv 1 ee_) (ES_ ap_ (zv 2 ee_) ac_) (ES_ ap_ (zv 2 ee_) ac_) rfl))
  case R =>
   nofun;intro O nO;have SO:EM_ H (upd H O (HO.dT [])):=EM_.new nO;have hO:=ab_ (H:=H) (a:=O) (o:=HO.dT []);generalize upd H O (HO.dT [])=H1 at*;show⟨v,N,rfl,Rep.mono SO _ hv,Ip_ ok,λd S ls H2 sS de nd=>?_⟩;have SO2:=sS _ _ hO;have dO:d≠O:=(ae_ hO nd).symm;have lO:∀l∈ls,l≠O:=λl hl z=>by have:=de.fl l hl;rw[z,SO2]at this;cases this
   let S':Hp:=λb=>if b=O then none else S b
   have S'O:S' O=none:=if_pos rfl;have S'ne:∀b,b≠O->S' b=S b:=λb hb=>if_neg hb
   have S'S:∀b o,S' b=some o->S b=some o:=λb o hb=>by
    by_cases z:b=O
    .rw[z,S'O]at hb;cases hb
    .rw[S'ne b z]at hb;show hb
   have tupO:∀q e,S q=some (eV e)->S' q=some (eV e):=λq e hq=>by rw[S'ne q (λz=>by rw[z,SO2]at hq;cases hq)];show hq
   have hHS:EM_ H S':=λb o hb=>by rw[S'ne b (ae_ hb nO)];show sS _ _ (SO _ _ hb)
   show⟨d,rfl,_,de.dict,λob=>?_⟩;have el:(FK_ (E8_ N) ls).length=(E8_ N).length:=kP_ de.len;have few:(E8_ N).length<=30:=fY_ (Ip_ ok) _ [] (by rw[A6_]);show Ld_ (λi σ H'=>∃(e2:Option V)(k2:List (List Key×V)),σ=[some v,some (.ref O),e2]/\EM_ S' H'/\H' d=some (.frz ob (.dK (FK_ (E8_ N) ls)))/\(∀l∈ls,H' l=H2 l)/\H' O=some (.dT k2)/\MO S' (E8_ N) i k2/\(∀e,(∀kv∈E8_ N,e∉kv.2)->FH_ k2 (eK e)=none)/\k2.length<=2*i) ⟨none,[],rfl,aT_ (λb o hb=>de.sH _ _ (S'S b o hb)) (by rw[S'ne d dO];show de.fd),ab_,λl hl=>af_ (λz=>de.dn (by rw[<-z];show hl)),by rw[af_ dO.symm];show de.sH _ _ SO2,λj x a b hj=>absurd hj o_,λ_ _=>rfl,s_⟩ ?_ ?_ ?_
   .rintro i σ H' hi ⟨e2,k2,rfl,sS',hd',hls,hO',mo,no,kl⟩;show hd'
   .rintro i key x σ H' hx ⟨e2,k2,rfl,sS',hd',hls,hO',mo,no,kl⟩;obtain⟨kv,l,h1,h2,rfl,rfl⟩:=nD_ hx;have ii:i<(E8_ N).length:=(Al_.mp h1).1;obtain⟨a,b,eab⟩:=iM_ ok (Am_ h1);obtain⟨vs,hvs,hrep⟩:=de.lst i l kv h2 h1;rw[eab]at hrep;obtain⟨qa,qb,rfl,ha,hb⟩:=oM_ hrep;have ha':=tupO _ _ ha;have hb':=tupO _ _ hb;have hl':H' l=some (.lst [.ref qa,.ref qb]):=by rw[hls l (Am_ h2)];show hvs
    have h1':(E8_ N)[i]?=some (kv.1,[a,b]):=by rw[h1,<-eab]
    have mo2:=mo.step ok h1' ha' hb';have lO':=lO l (Am_ h2);nofun;have p1:=kQ_ k2 (eK a) (.ref qb);have p2:=kQ_ (FQ_ k2 (eK a) (.ref qb)) (eK b) (.ref qa);have qaO:qb≠O:=λz=>by rw[z,S'O]at hb';cases hb'
    show⟨_,hl',_,FX_,_,hl',_,FL_,_,HH_.t (k:=eK a) hO' (sS' _ _ ha') (EN_ o_),_,by rw[af_ lO'];show hl',_,FL_,_,by rw[af_ lO'];show hl',_,FX_,_,HH_.t (k:=eK b) ab_ (by rw[af_ qaO];show sS' _ _ hb') (EN_ o_),aT_ (aT_ sS' S'O) S'O,by rw[af_ dO,af_ dO];show hd',λl2 hl2=>by rw[af_ (lO l2 hl2),af_ (lO l2 hl2)];show hls l2 hl2,_,ab_,mo2,λe he=>?_,o_⟩;have hm:=he kv (Am_ h1);rw[eab]at hm;simp only[Aq_,AQ_,Ck_,not_or]at hm;rw[bt_,if_neg (λz=>hm.2 (fZ_ z)),bt_,if_neg (λz=>hm.1 (fZ_ z))];show no e he
   .rintro σ H' ⟨e2,k2,rfl,sS',hd',hls,hO',mo,no,kl⟩;rw[el]at mo;nofun;show k O k2 H' (hHS.trans sS') hO' (λj x a b hj hjs=>?_) no nO;obtain⟨⟨q1,g1,g2⟩,q2,g3,g4⟩:=mo j x a b hj hjs;show⟨⟨q1,g1,sS' _ _ g2⟩,q2,g3,sS' _ _ g4⟩
theorem nE_(hK:X.K=K):OpR X (compareOp .NotIn) (rIn K true):=by subst hK;show jk_
theorem pz_(hK:X.K=K):OpR X (compareOp .In) (rIn K false):=by subst hK;show mO_
theorem iZ_(x:Str):∀(r:List Str),inV (.str x) (r.map V.str)=decide (x∈r)
 |[]=>rfl
 |y::r=>by
  have:=iZ_ x r;simp only[inV,Az_,B6_,eqV]at this⊢;rw[this];by_cases h:y=x
  .subst h;simp
  .have h2:x≠y:=λz=>h z.symm;simp[h,h2]
theorem lF_:∀(r:List Str),(r.map V.str).all F9_=true
 |[]=>rfl
 |y::r=>by simp[F9_]
def E4_(N:Net Str):List (End Str):=(N.rows.map λr=>(List.range (r.2.length+if r.1∈N.posts then 1 else 0)).map λk=>(r.1,k)).flatten
def Ff_(N:Net Str)(r:Str×List Str):List (End Str):=(List.range (r.2.length+if r.1∈N.posts then 1 else 0)).map λk=>(r.1,k)
theorem hh_(ok:Fi_ N):(E4_ N).length<=100/\∀r∈N.rows,r.2.length<=30:=by
 have key:∀(l:List (Str×List Str)),((l.map (Ff_ N)).flatten).length<=((l.map (·.2)).flatten).length+l.length:=λl=>by
  induction l with
  |nil=>show Ah_ _
  |cons r l ih =>
   rw[Az_,AR_,Ae_,Az_,AR_,Ae_,AF_];have:(Ff_ N r).length<=r.2.length+1:=by unfold Ff_;rw[Ab_,A9_];split <;> lia
   lia
 have h1:=key N.rows;have h2:=ok.tot;have h3:=ok.few;unfold Net.all at h2;show⟨?_,λr hr=>?_⟩
 .change((N.rows.map (Ff_ N)).flatten).length<=100;lia
 .obtain⟨i,hi,rfl⟩:=As_.mp hr;have e:(N.rows.map (·.2)).flatten.length=((N.rows.map (·.2)).take i).flatten.length+((N.rows.map (·.2)).drop i).flatten.length:=by rw[<-Ae_,<-Ba_,A5_]
  rw[C1_ (by rw[Ab_];show hi),AR_,Ae_,List.getElem_map]at e;lia
abbrev ET_:Stmt:=stN 23
theorem aM_:ZM ["net","corners","point","wires","count"] ["net"] (EL_ ET_):=zM
theorem by_:LK ET_ "corners" .local:=r_
theorem co_:LK ET_ "point" .cell:=r_
theorem cp_:LK ET_ "wires" .local:=r_
theorem a1_:LK ET_ "count" .local:=r_
theorem ef_:LK ET_ "len" .globalImplicit:=r_
theorem dt_:LK ET_ "range" .globalImplicit:=r_
def Hk_:Sp:=λvs H Q _=>∃(v:V)(N:Net Str),vs=[v]/\Rep H v (GJ_ N)/\Fi_ N/\∀D H',EM_ H H'->Rep (G0_ H H') (.ref D) (.lst ((E4_ N).map dE))->Q (.ref D) H'
theorem fq_(T:Txt K mg)(F:Fn0 K mg "corners_in_order" ET_):Cal P w K mg base "corners_in_order" ["net"] 1 Hk_:=by
  show aZ_ F aM_.1 λf cdv A outer s H vs Q E hr h=>?_;obtain⟨v,N,rfl,hv,ok,k⟩:=h;obtain⟨few,rfew⟩:=hh_ ok;obtain⟨pn,p0,p1,p2,rs,ws,rfl,hn,h0,h1,r1,h2,r2⟩:=dr_ hv;have rl:rs.length=N.rows.length:=by rw[r1.length,Ab_]
  refine'⟨_,?D,?R⟩
  case D =>
   refine' ad_ (ah_ (i:=1) aM_.nd rfl by_ (bH_ aa_)) (ad_ ?a (ag_ (aB_ (zw 1 aM_))))
   case' a=>refine' bT_ AS_ rfl (aS_ (K:=K) rfl (ES_ ao_ (zw 0 aM_) ac_)) (br_ (K:=K) (n:=2) rfl rfl (ar_ ?b (ar_ ?c bp_))) ?d
   case b=>show g9_ (i:=2) aM_.nd rfl co_ rfl
   case c=>show ai_ (i:=3) aM_.nd rfl cp_
   case' d=>refine' ad_ (ah_ (i:=4) aM_.nd rfl a1_ (aj_ aq_ ef_ T.n_len aK_ (pa_c (zw 3 aM_) aa_))) (ad_ ?e (ag_ (aw_ ?f)))
   case' e=>refine' ih_ (Ft_ (aE_ (pz_ (K:=K) rfl) (zw 2 aM_) (ES_ ao_ (zw 0 aM_) ac_) (by with_unfolding_all rfl)) (ag_ (ah_ (i:=4) aM_.nd rfl a1_ (EO_ aO_ (zw 4 aM_) ac_))) aJ_)
   case' f=>refine' FM_ Av_ PySem.F.slot_list_extend PySem.F.type_list_extend mP_ (zw 1 aM_) (pa_c (bb_ (N':=["place","point"]) (ix:=[none,some 2]) rfl rfl (bG_ ?g) (aQ_ dt_ T.n_range (pa_c (zw 4 aM_) aa_)) (λ_ _ _=>?h) (λ_ _ _=>?i) (λ_ _ _=>(au_ (pa_c (pvc 1 rfl rfl) (pa_c (pv1 0 rfl rfl) aa_))))) aa_)
   case g=>show(by change Gr_ (EL_ ET_) ["net","corners","point","wires","count"] _ _ _=true;decide +kernel)
   case h=>show ai_ (i:=0) (by change List.Nodup (["place","point"]:List Str);decide +kernel) rfl rfl
   case i=>show bU_
  case R =>
   nofun;show⟨AP_ _,λD nD=>?_⟩;have SD:EM_ H (upd H D (HO.lst [])):=EM_.new nD;show⟨_,SD _ _ hn,_,FX_,p1,rfl,⟨_,.inl (.inl (SD _ _ h1))⟩,?_⟩;show ht_ (xs:=rs) (λi σ H'=>∃(e2 e3 e4:Option V)(ys:List V),σ=[some (.ref pn),some (.ref D),e2,e3,e4]/\EM_ H H'/\H' D=some (.lst ys)/\E7_ (HG_ H D H') ys ((((N.rows.take i).map (Ff_ N)).flatten).map dE)) ⟨none,none,none,[],rfl,SD,ab_,rfl⟩ ?_ ?_ ?_
   .rintro i σ H' hi ⟨e2,e3,e4,ys,rfl,s1,hD,reps⟩;show .inl (.inl (s1 _ _ h1))
   .rintro i x σ H' hx ⟨e2,e3,e4,ys,rfl,s1,hD,reps⟩;obtain⟨r,q,l,hr1,rfl,hq,hl⟩:=ed_ r1 hx;have rm:=Am_ hr1;have r30:=rfew r rm;have tk:(N.rows.take (i+1)).map (Ff_ N)=(N.rows.take i).map (Ff_ N)++[Ff_ N r]:=by rw[Bp_,hr1,Ar_];rfl
    have fl2:[Ff_ N r].flatten=Ff_ N r:=s_
    have tkl:(((N.rows.take i).map (Ff_ N)).flatten).length+(Ff_ N r).length<=100:=by
     have e:(N.rows.map (Ff_ N)).flatten.length=((N.rows.map (Ff_ N)).take (i+1)).flatten.length+((N.rows.map (Ff_ N)).drop (i+1)).flatten.length:=by rw[<-Ae_,<-Ba_,A5_]
     rw[<-CB_,tk,Ba_,fl2,Ae_]at e;have:(E4_ N).length=(N.rows.map (Ff_ N)).flatten.length:=rfl;lia
    rw[tk,Ba_,fl2,Ar_];have yl:ys.length=(((N.rows.take i).map (Ff_ N)).flatten).length:=by rw[reps.length,Ab_]
    nofun;show⟨_,SqT.of (s1 _ _ hq),rfl,_,_,rfl,_,_,rfl,rfl,l,rfl,_,.inl (s1 _ _ hl),?_⟩;show⟨λσ Hx=>σ=[some (.ref pn),some (.ref D),some (.str r.1),some (.ref l),some (.int ((r.2.length+if r.1∈N.posts then 1 else 0:Nat):Int))]/\Hx=H',?_,?_⟩
    .nofun;show⟨_,s1 _ _ hn,_,FL_,p0,rfl,_,.inl (.inl (.inl (s1 _ _ h0))),rfl,lF_ _,?_⟩;rw[iZ_,Ab_];by_cases hc:r.1∈N.posts
     .rw[if_pos (AG_ hc),if_pos hc];rfl
     .rw[if_neg (by rw[AI_ hc];decide),if_neg hc];rfl
    rintro σ Hx ⟨rfl,rfl⟩;have cl:(Ff_ N r).length=r.2.length+if r.1∈N.posts then 1 else 0:=by unfold Ff_;rw[Ab_,A9_]
    obtain⟨n,hn'⟩:∃n:Nat,n=r.2.length+if r.1∈N.posts then 1 else 0:=⟨_,rfl⟩;have cr:Ff_ N r=(List.range n).map λk=>(r.1,k):=by unfold Ff_;rw[hn']
    rw[<-hn']at cl⊢;have n31:n<=31:=by rw[hn'];split <;> lia
    nofun;show⟨.inl ⟨_,.inl (.inl hD)⟩,o_,o_,?_⟩;rw[show Int.toNat (n:Int)=n by lia];show cc_ (n:=n) (B:=Hx) (Pσ:=λσ=>∃e,σ=[e,some (.str r.1)]) (ds:=(Ff_ N r).map dE) (EM_.refl _) ⟨_,rfl⟩ (by rw[Ab_,cl]) o_ (λj H2 hj s2=>hj) (λH2 s2=>Ah_ _) ?_ ?_
    .rintro D2 j x d σ' H2 H2' hD2 hDo hs2 hj hdj ⟨rfl,rfl⟩ ⟨e,rfl⟩ R kR;obtain⟨od,hDo⟩:=hDo;have hd:d=dE (r.1,j):=by rw[cr,Ag_,Ag_,Bo_ hj]at hdj;show(At_ hdj).symm
     nofun;show⟨d_,λp np=>kR _ _ _ ⟨_,rfl⟩ (EM_.new np) ?_⟩;rw[hd];have pD:p≠D2:=(ae_ hDo np).symm;show⟨p,_,rfl,by rw[dV_ pD (hs2.free np)];show ab_,_,_,rfl,rfl,_,_,rfl,by rw[BS_];rfl,rfl⟩
    .intro D2 H2 hD2 s2 rep2;obtain⟨_,us,e0,hu',hus⟩:=id rep2;cases e0;obtain⟨nu,hu⟩:=bq_ hu';have ul:us.length=(Ff_ N r).length:=by rw[hus.length,Ab_]
     have D2D:D2≠D:=(ae_ hD hD2).symm;show⟨D2,rfl,ys,s2 _ _ hD,us,hu,AO_ (EN_ o_),?_⟩;show⟨λb o hb=>by rw[af_ (ae_ hb nD)];show s2 _ _ (s1 _ _ hb),?_⟩;rw[la_];show E7_.append (E7_.mono (jv_ s2) _ reps) (E7_.mono (λb o hb=>?_) _ hus);obtain⟨b1,b2⟩:=bq_ hb;rw[dV_ (ae_ hD b1).symm (s1.free b1)];show b2
   .rintro σ H' ⟨e2,e3,e4,ys,rfl,s1,hD,reps⟩;rw[A4_ o_]at reps;nofun;show k D H' s1 ⟨D,ys,rfl,by rw[dU_ nD];show hD,E7_.mono k9_ _ reps⟩
mutual
theorem i0_:∀d:Dt,deq d d=some true
 | .non=>rfl
 | .bl a=>by simp[deq]
 | .int a=>by simp[deq]
 | .str a=>by simp[deq]
 | .tup xs=>h0_ xs
 | .lst xs=>by rw[deq,if_pos rfl];show h0_ xs
theorem h0_:∀ds:List Dt,deqs ds ds=some true
 |[]=>rfl
 |d::ds=>by rw[deqs,i0_ d,h0_ ds];rfl
end
theorem gr_{α:Type}{f:α->Dt}{n:Nat}(h:∀a,dep (f a)<=n):∀l:List α,deps (l.map f)<=n
 |[]=>AP_ _
 |a::l=>Nat.max_le.mpr ⟨h a,gr_ h l⟩
theorem nF_(N:Net Str):dep (GJ_ N)<=60:=by
 have h1:dep (.lst (N.posts.map dS))<=5:=A7_ (B2_ (gr_ (f:=dS) (n:=1) (λa=>by simp[dS,dep]) _)) d_;have h2:dep (.lst (N.rows.map dRw))<=5:=A7_ (B2_ (gr_ (f:=dRw) (n:=3) (λr=>by have:dep (.lst (r.2.map dS))<=2:=B2_ (gr_ (f:=dS) (n:=1) (λa=>by simp[dS,dep]) _);change max 0 (max (dep (.lst (r.2.map dS))) 0)+1<=3;lia) _)) d_;have h3:dep (.lst (N.worths.map dWo))<=5:=A7_ (B2_ (gr_ (f:=dWo) (n:=3) (λr=>by simp[dWo,dep,deps]) _)) d_;change max (dep (.lst (N.posts.map dS))) (max (dep (.lst (N.rows.map dRw))) (max (dep (.lst (N.worths.map dWo))) 0))+1<=60;lia
def FA_(N:Net Str)(i:Nat):Str×List Str:=N.rows.getD i (Str.empty,[])
theorem eJ_(h:i<N.rows.length):N.rows[i]?=some (FA_ N i):=by unfold FA_;rw[Ac_,Aa_ h];rfl
theorem nG_{α β:Type}(d:α)(p:α->Bool)(f:α->β)(l:List α):((List.range l.length).filter λi=>p (l.getD i d)).map (λi=>f (l.getD i d))=(l.filter p).map f:=by
 have e:=cK_ d l
 conv=>rhs;rw[<-e]
 rw[List.filter_map,AZ_];rfl
structure OwR(H0 H:Hp)(qs ls:List Addr)(rows:List (Str×List Str)):Prop where
 ql:qs.length=rows.length
 ll:ls.length=rows.length
 q:∀(i:Nat) q l r,qs[i]?=some q->ls[i]?=some l->rows[i]?=some r->H q=some (.tup [.str r.1,.ref l])
 l:∀(i:Nat) l r,ls[i]?=some l->rows[i]?=some r->H l=some (.lst (r.2.map V.str))
 nd:ls.Nodup
 new:∀l∈ls,H0 l=none
variable{H0:Hp}{qs:List Addr}
theorem OwR.mono(h:OwR H0 H qs ls rows)(s:EM_ H H'):OwR H0 H' qs ls rows :=
 ⟨h.ql,h.ll,λi q l r a b c=>s _ _ (h.q i q l r a b c),λi l r a b=>s _ _ (h.l i l r a b),h.nd,h.new⟩
theorem OwR.add(h:OwR H0 H qs ls rows)(s:EM_ H H')(nl:H l=none)(n0:H0 l=none)(hq:H' q=some (.tup [.str r.1,.ref l]))(hl:H' l=some (.lst (r.2.map V.str))):OwR H0 H' (qs++[q]) (ls++[l]) (rows++[r]):=by
 have h':=h.mono s
 have at_:∀{α:Type}{as bs:List α}{a b:α}{i n:Nat},as.length=n->(as++[a])[i]?=some b->(i<n/\as[i]?=some b)\/(i=n/\b=a):=λ{α as bs a b i n} e hi=>by
  by_cases c:i<as.length
  .rw[Ay_ c]at hi;show .inl ⟨o_,hi⟩
  .rw[AK_ o_]at hi;have h1:=(Al_.mp hi).1;simp at h1;have e2:i-as.length=0:=o_
   rw[e2]at hi;show .inr ⟨o_,(At_ hi).symm⟩
 show⟨by simp[h.ql],by simp[h.ll],λi q' l' r' a b c=>?_,λi l' r' a b=>?_,?_,λl' hl'=>?_⟩
 .rcases at_ (bs:=qs) h.ql a with⟨_,a⟩|⟨e,rfl⟩
  .rcases at_ (bs:=ls) h.ll b with⟨_,b⟩|⟨e,rfl⟩
   .rcases at_ (bs:=rows) rfl c with⟨_,c⟩|⟨e,rfl⟩
    .show h'.q i q' l' r' a b c
    .have:=(Al_.mp a).1;have:=h.ql;lia
   .have:=(Al_.mp a).1;have:=h.ql;lia
  .rcases at_ (bs:=ls) h.ll b with⟨_,b⟩|⟨_,rfl⟩
   .have:=(Al_.mp b).1;have:=h.ll;lia
   .rcases at_ (bs:=rows) rfl c with⟨_,c⟩|⟨_,rfl⟩
    .have:=(Al_.mp c).1;lia
    .show hq
 .rcases at_ (bs:=ls) h.ll a with⟨_,a⟩|⟨e,rfl⟩
  .rcases at_ (bs:=rows) rfl b with⟨_,b⟩|⟨e,rfl⟩
   .show h'.l i l' r' a b
   .have:=(Al_.mp a).1;have:=h.ll;lia
  .rcases at_ (bs:=rows) rfl b with⟨_,b⟩|⟨_,rfl⟩
   .have:=(Al_.mp b).1;lia
   .show hl
 .show AA_.mpr ⟨h.nd,s_,λx hx y hy z=>?_⟩;rw[Ad_.mp hy]at z;subst z;obtain⟨i,hi,ei⟩:=As_.mp hx;have:=h.l i x (rows[i]'(by rw[<-h.ll];show hi)) (by rw[Aa_ hi,ei]) (Aa_ _);rw[nl]at this;cases this
 .rcases Ao_.mp hl' with z|z
  .show h.new l' z
  .rw[Ad_.mp z];show n0
theorem OwR.reps(o:OwR H0 H qs ls rows):E7_ H (qs.map V.ref) (rows.map dRw):=by
 have:∀(rows:List (Str×List Str))(qs ls:List Addr),qs.length=rows.length->ls.length=rows.length->(∀(i:Nat) q l r,qs[i]?=some q->ls[i]?=some l->rows[i]?=some r->H q=some (.tup [.str r.1,.ref l])/\H l=some (.lst (r.2.map V.str)))->E7_ H (qs.map V.ref) (rows.map dRw):=by
  intro rows
  induction rows with
  |nil =>
   intro qs ls h1 h2 h;rw[A2_ h1];rfl
  |cons r rows ih =>
   intro qs ls h1 h2 h;cases qs with
   |nil=>cases h1
   |cons q qs =>
    cases ls with
    |nil=>cases h2
    |cons l ls =>obtain⟨a,b⟩:=h 0 q l r rfl rfl rfl;show⟨_,_,rfl,⟨q,_,rfl,a,_,_,rfl,rfl,_,_,rfl,⟨l,_,rfl,b,b0_ _⟩,rfl⟩,ih qs ls (C8_ h1) (C8_ h2) λi q l r a b c=>h (i+1) q l r a b c⟩
 show this rows qs ls o.ql o.ll λi q l r a b c=>⟨o.q i q l r a b c,o.l i l r b c⟩
structure OwN(H H':Hp)(pe c0 D c2:Addr)(qs ls:List Addr)(ws:List V)(N:Net Str):Prop where
 t:H' pe=some (.tup [.ref c0,.ref D,.ref c2])
 h0:H' c0=some (.lst (N.posts.map V.str))
 hD:H' D=some (.lst (qs.map V.ref))
 h2:H' c2=some (.lst ws)
 ow:OwR H H' qs ls N.rows
 f0:H c0=none
 fD:H D=none
 f2:H c2=none
 ft:H pe=none
 Dl:D∉ls
 c0D:c0≠D
 c0c2:c0≠c2
 Dc2:D≠c2
 c0l:c0∉ls
 c2l:c2∉ls
def FZ_:Sp:=λvs H Q _=>∃(pn p0 p1 p2:Addr)(rs ws:List V)(N:Net Str),vs=[.ref pn]/\H pn=some (.tup [.ref p0,.ref p1,.ref p2])/\H p0=some (.lst (N.posts.map V.str))/\H p1=some (.lst rs)/\E7_ H rs (N.rows.map dRw)/\H p2=some (.lst ws)/\E7_ H ws (N.worths.map dWo)/\N.rows.length<=40/\∀pe c0 D c2 qs ls H',EM_ H H'->OwN H H' pe c0 D c2 qs ls ws N->Q (.ref pe) H'
abbrev Gg_:Stmt:=stN 52
theorem oN_:ZL ["_law_net"] ["_law_net"] (EL_ Gg_):=zL
theorem f0_:LK Gg_ "list" .globalImplicit:=r_
theorem oO_(T:Txt K mg)(F:Fn0 K mg "_law_copy" Gg_):Cal P w K mg base "_law_copy" ["_law_net"] 1 FZ_:=by
  show aZ_ F oN_.1 λf cdv A outer s H vs Q E hr h=>?_;obtain⟨pn,p0,p1,p2,rs,ws,N,rfl,hn,h0,h1,r1,h2,r2,few,k⟩:=h;have rl:rs.length=N.rows.length:=by rw[r1.length,Ab_]
  refine'⟨_,?D,?R⟩
  case D =>
   refine' ag_ (aB_ (au_ (pa_c (a0_ b7_ f0_ T.n_list dR_ (pa_c (ES_ ao_ (zv 0 oN_) ac_) aa_)) ?a)))
   case' a=>refine' pa_c ?b (pa_c (a0_ b7_ f0_ T.n_list dR_ (pa_c (ES_ ao_ (zv 0 oN_) ac_) aa_)) aa_)
   case' b=>refine' bb_ (N':=["_law_point","_law_wires"]) (ix:=[none,none]) rfl rfl (bG_ ?c) (aS_ (K:=K) rfl (ES_ ao_ (zv 0 oN_) ac_)) (λ_ _ _=>(br_ (K:=K) (n:=2) rfl rfl (ar_ ?d (ar_ ?e bp_)))) (λ_ _ _=>?f) (λ_ _ _=>?g)
   case c=>show(by change Gr_ (EL_ Gg_) ["_law_net"] _ _ _=true;decide +kernel)
   case d=>show ai_ (i:=0) (by change List.Nodup (["_law_point","_law_wires"]:List Str);decide +kernel) rfl rfl
   case e=>show ai_ (i:=1) (by change List.Nodup (["_law_point","_law_wires"]:List Str);decide +kernel) rfl rfl
   case f=>show bU_
   case' g=>refine' au_ (pa_c (pv1 0 rfl rfl) (pa_c (a0_ b7_ rfl T.n_list dR_ (pa_c (pv1 1 rfl rfl) aa_)) aa_))
  case R =>
   nofun;show⟨_,hn,_,FL_,p0,rfl,_,.inl h0,λc0 n0=>?_⟩;have S1:EM_ H (upd H c0 (HO.lst (N.posts.map V.str))):=EM_.new n0;have hc0:=ab_ (H:=H) (a:=c0) (o:=HO.lst (N.posts.map V.str));generalize upd H c0 (HO.lst (N.posts.map V.str))=H1 at*;show⟨_,S1 _ _ hn,_,FX_,p1,rfl,⟨_,.inl (.inl (S1 _ _ h1))⟩,?_⟩;have h11:=S1 _ _ h1;show jQ_ (n:=N.rows.length) (Pσ:=λσ=>∃e e',σ=[e,e']) (Pv:=λ(i:Nat)(vs:List V)(Hz:Hp)=>∃(qs ls:List Addr),vs=qs.map V.ref/\OwR H Hz qs ls (N.rows.take i)/\c0∉ls) ⟨_,_,rfl⟩ o_ ⟨[],[],rfl,⟨rfl,rfl,λi q l r a=>(by cases a),λi l r a=>(by cases a),Bf_,λl z=>(by cases z)⟩,AQ_⟩ (λi vs Ha Hb sab h=>by obtain⟨qs,ls,e,o,c⟩:=h;show⟨qs,ls,e,o.mono sab,c⟩) (λi vs Ha h=>by obtain⟨qs,ls,e,o,_⟩:=h;rw[e,Ab_,o.ql,AW_];show Nat.min_le_left _ _) (λi H' hi s'=>⟨rs,rs[i]'o_,.inl (.inl (s' _ _ h11)),Aa_ _⟩) (λH' s'=>⟨rs,.inl (.inl (s' _ _ h11)),o_⟩) ?_ ?_
   .rintro D i x σ' H2 H2' vs hD hDo hs2 hi ⟨rfl,hy⟩ ⟨e,e',rfl⟩ ⟨qs,ls,rfl,ow,c0l⟩ Y R kY kR;obtain⟨od,hDo⟩:=hDo;have hx:=hy _ (.inl (.inl (hs2 _ _ h11)));obtain⟨r,q,l,hr1,rfl,hq,hl⟩:=ed_ r1 hx;have s12:=S1.trans hs2;nofun;show⟨_,SqT.of (s12 _ _ hq),rfl,_,_,rfl,_,_,rfl,rfl,l,rfl,_,.inl (s12 _ _ hl),λc1 n1=>⟨d_,λc2 n2=>?_⟩⟩;have c1D:c1≠D:=(ae_ hDo n1).symm;have c2D:c2≠D:=(ae_ ((EM_.new n1 (o:=HO.lst (r.2.map V.str))) _ _ hDo) n2).symm;have hc1:=(EM_.new n2 (o:=HO.tup [V.str r.1,V.ref c1])) _ _ (ab_ (H:=H2') (a:=c1) (o:=HO.lst (r.2.map V.str)));have hc2:=ab_ (H:=upd H2' c1 (HO.lst (r.2.map V.str))) (a:=c2) (o:=HO.tup [V.str r.1,V.ref c1]);have ss:=(EM_.new n1 (o:=HO.lst (r.2.map V.str))).trans (EM_.new n2 (o:=HO.tup [V.str r.1,V.ref c1]));show kY _ _ _ ⟨_,_,rfl⟩ ss ⟨qs++[c2],ls++[c1],by rw[Ar_];rfl,?_,λz=>(Ao_.mp z).elim c0l λz=>ae_ (hs2 _ _ hc0) n1 (Ad_.mp z)⟩;rw[Bp_,hr1];show ow.add (λb o hb=>?_) (by rw[fO_ c1D];show n1) (s12.free n1) (by rw[fO_ c2D];show hc2) (by rw[fO_ c1D];show hc1);have bD:b≠D:=λz=>by unfold noD at hb;rw[if_pos z]at hb;cases hb
    rw[fO_ bD]at hb⊢;show ss _ _ hb
   .rintro D H2 vs hD s2 hDv ⟨qs,ls,rfl,ow,c0l⟩;rw[A4_ (Ah_ _)]at ow;have s02:=S1.trans s2;have Dl:D∉ls:=λz=>by obtain⟨i,hi,ei⟩:=As_.mp z;have:=ow.l i D (N.rows[i]'(by rw[<-ow.ll];show hi)) (by rw[Aa_ hi,ei]) (Aa_ _);unfold noD at this;rw[if_pos rfl]at this;cases this
    show⟨_,s02 _ _ hn,_,GG_,p2,rfl,_,.inl (s02 _ _ h2),λc2 n2=>⟨d_,λpe ne=>?_⟩⟩;have S3:=EM_.new n2 (o:=HO.lst ws);have S4:=EM_.new ne (o:=HO.tup [V.ref c0,V.ref D,V.ref c2]);have ow4:=ow.mono (lz_.trans (S3.trans S4));have c0c2:c0≠c2:=ae_ (s2 _ _ hc0) n2;have Dc2:D≠c2:=ae_ hDv n2;have c2l:c2∉ls:=λz=>by obtain⟨i,hi,ei⟩:=As_.mp z;have:=(ow.mono lz_).l i c2 (N.rows[i]'(by rw[<-ow.ll];show hi)) (by rw[Aa_ hi,ei]) (Aa_ _);rw[n2]at this;cases this
    have c0D:c0≠D:=ae_ hc0 hD;show k _ _ _ _ qs ls _ (s02.trans (S3.trans S4)) ⟨ab_,(s2.trans (S3.trans S4)) _ _ hc0,(S3.trans S4) _ _ hDv,S4 _ _ ab_,ow4,n0,S1.free hD,s02.free n2,s02.free (S3.free ne),Dl,c0D,c0c2,Dc2,c0l,c2l⟩
abbrev F2_:Stmt:=stN 36
theorem nH_:ZL ["net"] ["net"] (EL_ F2_):=zL
theorem e6_:LK F2_ "list" .globalImplicit:=r_
theorem nI_(T:Txt K mg)(F:Fn0 K mg "copied" F2_):Cal P w K mg base "copied" ["net"] 1 FZ_:=by
  show aZ_ F nH_.1 λf cdv A outer s H vs Q E hr h=>?_;obtain⟨pn,p0,p1,p2,rs,ws,N,rfl,hn,h0,h1,r1,h2,r2,few,k⟩:=h;have rl:rs.length=N.rows.length:=by rw[r1.length,Ab_]
  refine'⟨_,?D,?R⟩
  case D =>
   refine' ag_ (aB_ (au_ (pa_c (a0_ b7_ e6_ T.n_list dR_ (pa_c (ES_ ao_ (zv 0 nH_) ac_) aa_)) ?a)))
   case' a=>refine' pa_c ?b (pa_c (a0_ b7_ e6_ T.n_list dR_ (pa_c (ES_ ao_ (zv 0 nH_) ac_) aa_)) aa_)
   case' b=>refine' bb_ (N':=["point","wires"]) (ix:=[none,none]) rfl rfl (bG_ ?c) (aS_ (K:=K) rfl (ES_ ao_ (zv 0 nH_) ac_)) (λ_ _ _=>(br_ (K:=K) (n:=2) rfl rfl (ar_ ?d (ar_ ?e bp_)))) (λ_ _ _=>?f) (λ_ _ _=>?g)
   case c=>show(by change Gr_ (EL_ F2_) ["net"] _ _ _=true;decide +kernel)
   case d=>show ai_ (i:=0) (by change List.Nodup (["point","wires"]:List Str);decide +kernel) rfl rfl
   case e=>show ai_ (i:=1) (by change List.Nodup (["point","wires"]:List Str);decide +kernel) rfl rfl
   case f=>show bU_
   case' g=>refine' au_ (pa_c (pv1 0 rfl rfl) (pa_c (a0_ b7_ rfl T.n_list dR_ (pa_c (pv1 1 rfl rfl) aa_)) aa_))
  case R =>
   nofun;show⟨_,hn,_,FL_,p0,rfl,_,.inl h0,λc0 n0=>?_⟩;have S1:EM_ H (upd H c0 (HO.lst (N.posts.map V.str))):=EM_.new n0;have hc0:=ab_ (H:=H) (a:=c0) (o:=HO.lst (N.posts.map V.str));generalize upd H c0 (HO.lst (N.posts.map V.str))=H1 at*;show⟨_,S1 _ _ hn,_,FX_,p1,rfl,⟨_,.inl (.inl (S1 _ _ h1))⟩,?_⟩;have h11:=S1 _ _ h1;show jQ_ (n:=N.rows.length) (Pσ:=λσ=>∃e e',σ=[e,e']) (Pv:=λ(i:Nat)(vs:List V)(Hz:Hp)=>∃(qs ls:List Addr),vs=qs.map V.ref/\OwR H Hz qs ls (N.rows.take i)/\c0∉ls) ⟨_,_,rfl⟩ o_ ⟨[],[],rfl,⟨rfl,rfl,λi q l r a=>(by cases a),λi l r a=>(by cases a),Bf_,λl z=>(by cases z)⟩,AQ_⟩ (λi vs Ha Hb sab h=>by obtain⟨qs,ls,e,o,c⟩:=h;show⟨qs,ls,e,o.mono sab,c⟩) (λi vs Ha h=>by obtain⟨qs,ls,e,o,_⟩:=h;rw[e,Ab_,o.ql,AW_];show Nat.min_le_left _ _) (λi H' hi s'=>⟨rs,rs[i]'o_,.inl (.inl (s' _ _ h11)),Aa_ _⟩) (λH' s'=>⟨rs,.inl (.inl (s' _ _ h11)),o_⟩) ?_ ?_
   .rintro D i x σ' H2 H2' vs hD hDo hs2 hi ⟨rfl,hy⟩ ⟨e,e',rfl⟩ ⟨qs,ls,rfl,ow,c0l⟩ Y R kY kR;obtain⟨od,hDo⟩:=hDo;have hx:=hy _ (.inl (.inl (hs2 _ _ h11)));obtain⟨r,q,l,hr1,rfl,hq,hl⟩:=ed_ r1 hx;have s12:=S1.trans hs2;nofun;show⟨_,SqT.of (s12 _ _ hq),rfl,_,_,rfl,_,_,rfl,rfl,l,rfl,_,.inl (s12 _ _ hl),λc1 n1=>⟨d_,λc2 n2=>?_⟩⟩;have c1D:c1≠D:=(ae_ hDo n1).symm;have c2D:c2≠D:=(ae_ ((EM_.new n1 (o:=HO.lst (r.2.map V.str))) _ _ hDo) n2).symm;have hc1:=(EM_.new n2 (o:=HO.tup [V.str r.1,V.ref c1])) _ _ (ab_ (H:=H2') (a:=c1) (o:=HO.lst (r.2.map V.str)));have hc2:=ab_ (H:=upd H2' c1 (HO.lst (r.2.map V.str))) (a:=c2) (o:=HO.tup [V.str r.1,V.ref c1]);have ss:=(EM_.new n1 (o:=HO.lst (r.2.map V.str))).trans (EM_.new n2 (o:=HO.tup [V.str r.1,V.ref c1]));show kY _ _ _ ⟨_,_,rfl⟩ ss ⟨qs++[c2],ls++[c1],by rw[Ar_];rfl,?_,λz=>(Ao_.mp z).elim c0l λz=>ae_ (hs2 _ _ hc0) n1 (Ad_.mp z)⟩;rw[Bp_,hr1];show ow.add (λb o hb=>?_) (by rw[fO_ c1D];show n1) (s12.free n1) (by rw[fO_ c2D];show hc2) (by rw[fO_ c1D];show hc1);have bD:b≠D:=λz=>by unfold noD at hb;rw[if_pos z]at hb;cases hb
    rw[fO_ bD]at hb⊢;show ss _ _ hb
   .rintro D H2 vs hD s2 hDv ⟨qs,ls,rfl,ow,c0l⟩;rw[A4_ (Ah_ _)]at ow;have s02:=S1.trans s2;have Dl:D∉ls:=λz=>by obtain⟨i,hi,ei⟩:=As_.mp z;have:=ow.l i D (N.rows[i]'(by rw[<-ow.ll];show hi)) (by rw[Aa_ hi,ei]) (Aa_ _);unfold noD at this;rw[if_pos rfl]at this;cases this
    show⟨_,s02 _ _ hn,_,GG_,p2,rfl,_,.inl (s02 _ _ h2),λc2 n2=>⟨d_,λpe ne=>?_⟩⟩;have S3:=EM_.new n2 (o:=HO.lst ws);have S4:=EM_.new ne (o:=HO.tup [V.ref c0,V.ref D,V.ref c2]);have ow4:=ow.mono (lz_.trans (S3.trans S4));have c0c2:c0≠c2:=ae_ (s2 _ _ hc0) n2;have Dc2:D≠c2:=ae_ hDv n2;have c2l:c2∉ls:=λz=>by obtain⟨i,hi,ei⟩:=As_.mp z;have:=(ow.mono lz_).l i c2 (N.rows[i]'(by rw[<-ow.ll];show hi)) (by rw[Aa_ hi,ei]) (Aa_ _);rw[n2]at this;cases this
    have c0D:c0≠D:=ae_ hc0 hD;show k _ _ _ _ qs ls _ (s02.trans (S3.trans S4)) ⟨ab_,(s2.trans (S3.trans S4)) _ _ hc0,(S3.trans S4) _ _ hDv,S4 _ _ ab_,ow4,n0,S1.free hD,s02.free n2,s02.free (S3.free ne),Dl,c0D,c0c2,Dc2,c0l,c2l⟩
theorem kR_:bootBuiltins "dict"=some (.type "dict"):=r_
abbrev ph(N:Net Str):=phi Str.empty N
abbrev Pn(N:Net Str):=N.posts.length
theorem e0_(k:List Key):∀(more kvs:List (List Key×V)),(FH_ (Fp_ kvs more) k).isSome=((FH_ kvs k).isSome ||more.any λq=>decide (q.1=k))
 |[],kvs=>by simp[Fp_]
 |p::more,kvs=>by
  change(FH_ (Fp_ (FQ_ kvs p.1 p.2) more) k).isSome=_;rw[e0_ k more,bt_,B6_];by_cases e:k=p.1
  .subst e;simp
  .have e':¬ p.1=k:=λz=>e z.symm;simp[e,e']
def Ig_(H:Hp)(N:Net Str)(kb:List (List Key×V)):Prop:=∀c c',IsC (trn N) (Pn N) c->Nx (trn N) (Pn N) c c'->∃q,FH_ kb (eK (ph N c))=some (.ref q)/\H q=some (eV (ph N c'))
theorem h1_(po:EZ_ N):E4_ N=(F4_ N).map (ph N):=(ov_ po).symm
theorem i1_{us:List V}(h:E7_ H us (es.map dE))(hi:i<es.length):∃q,us[i]?=some (.ref q)/\H q=some (eV es[i]):=by
 have hl:us.length=es.length:=by rw[h.length,Ab_]
 obtain⟨dd,hdd,hrep⟩:=h.of_get (i:=i) (x:=us[i]) (Aa_ o_);rw[Ag_,Aa_ hi]at hdd;rw[<-At_ hdd]at hrep;obtain⟨q,_,e,hq,_,_,rfl,hx1,_,_,rfl,hx2,rfl⟩:=hrep;cases hx1;cases hx2;show⟨q,by rw[Aa_ o_,e],hq⟩
def dKn(e:End Str):Dt:=.tup [dE e,.bl true]
def kvK(es:List (End Str)):List (List Key×V):=es.map λe=>(eK e,.bl true)
theorem ir_{p:Addr}(h:Rep H (.ref p) (.lst (es.map dKn))):Ib_ H p (kvK es):=by
 obtain⟨_,ys,e0,hp,hys⟩:=h;cases e0;have yl:ys.length=es.length:=by rw[hys.length,Ab_]
 show⟨ys,hp,by rw[yl];unfold kvK;rw[Ab_],λi q hq=>?_⟩
 have hi:i<es.length:=by
  have:=(Al_.mp hq).1;unfold kvK at this
  rwa[Ab_]at this
 unfold kvK at hq;rw[Ag_,Aa_ hi]at hq;cases hq;obtain⟨dd,hdd,hrep⟩:=hys.of_get (i:=i) (x:=ys[i]) (Aa_ o_);rw[Ag_,Aa_ hi]at hdd;rw[<-At_ hdd]at hrep;obtain⟨a,_,e,ha,x1,_,rfl,hx1,x2,_,rfl,hx2,rfl⟩:=hrep;obtain⟨b,_,rfl,hb,_,_,rfl,hy1,_,_,rfl,hy2,rfl⟩:=hx1;cases hx2;cases hy1;cases hy2;show⟨a,b,by rw[Aa_ o_,e],ha,hb⟩
theorem j5_(es:List (End Str))(e:End Str):(FH_ (Fp_ [] (kvK es)) (eK e)).isSome=decide (e∈es):=by
 rw[e0_];change(false ||_)=_;rw[Bool.false_or];unfold kvK;rw[List.any_map];by_cases h:e∈es
 .rw[AG_ h];show BJ_.mpr ⟨e,h,AG_ rfl⟩
 .rw[AI_ h];show Bool.eq_false_iff.mpr λz=>?_;obtain⟨x,hx,ex⟩:=BJ_.mp z;show h (fZ_ (AU_ ex)▸hx)
abbrev ER_:Stmt:=stN 24
theorem aG_:ZL ["net","corners","known","others","behind","corner","far","reached"] ["net"] (EL_ ER_):=zL
theorem bX_:LK ER_ "corners_in_order" .globalImplicit:=r_
theorem eo_:LK ER_ "dict" .globalImplicit:=r_
theorem cD_:LK ER_ "other_ends" .globalImplicit:=r_
def Io_:Sp:=λvs H Q _=>∃(v:V)(N:Net Str),vs=[v]/\Rep H v (GJ_ N)/\Fi_ N/\EZ_ N/\∀d kb H',EM_ H H'->H d=none->H' d=some (.dT kb)->Ig_ H' N kb->Q (.ref d) H'
theorem gt_(T:Txt K mg)(F:Fn0 K mg "corners_behind" ER_) (Fz_:Cal P w K mg base "corners_in_order" ["net"] 1 Hk_) (F1_:Cal P w K mg base "other_ends" ["net"] 2 Gs_):Cal P w K mg base "corners_behind" ["net"] 3 Io_:=by
  show aZ_ F aG_.1 λf cdv A outer s H vs Q E hr h=>?_;obtain⟨v,N,rfl,hv,ok,po,k⟩:=h;obtain⟨few,rfew⟩:=hh_ ok;obtain⟨pn,p0,p1,p2,rs,ws,rfl,hn,h0,h1,r1,h2,r2⟩:=dr_ hv;refine'⟨_,?D,?R⟩
  case D =>
   refine' ad_ (zas 1 aG_ (an_ Fz_ (hr.mono d_) bX_ (pa_c (zv 0 aG_) aa_))) (ad_ ?a ?b)
   case' a=>refine' zas 2 aG_ (a0_ (l8_ hr.units rfl) eo_ T.n_dict kR_ (pa_c (bb_ (N':=["corner"]) (ix:=[none]) rfl rfl (bG_ ?c) (aS_ (K:=K) rfl (zv 1 aG_)) (λ_ _ _=>?d) (λ_ _ _=>?e) (λ_ _ _=>(au_ (pa_c (pv1 0 rfl rfl) (pa_c Gy_ aa_))))) aa_))
   case c=>show(by change Gr_ (EL_ ER_) ["net","corners","known","others","behind","corner","far","reached"] _ _ _=true;decide +kernel)
   case d=>show ai_ (i:=0) (by change List.Nodup (["corner"]:List Str);decide +kernel) rfl rfl
   case e=>show bU_
   case' b=>refine' ad_ (zas 3 aG_ (an_ F1_ (hr.mono d_) cD_ (pa_c (zv 0 aG_) aa_))) (ad_ ?f (ad_ ?g (ag_ (aB_ (zv 4 aG_)))))
   case f=>show zas 4 aG_ hc_
   case' g=>refine' bT_ AS_ rfl (aS_ (K:=K) rfl (zv 1 aG_)) ?h (ag_ (Ft_ (jc_ (m4_ (un1 hr.units) (zv 5 aG_) (zv 3 aG_))) (ad_ (zas 6 aG_ (es_ (un1 hr.units) (zv 3 aG_) (zv 5 aG_))) ?i) ?j))
   case h=>show zh 5 aG_
   case' i=>refine' ad_ (zas 7 aG_ (au_ (pa_c (ES_ ao_ (zv 6 aG_) ac_) (pa_c (EO_ aO_ (ES_ ao_ (zv 6 aG_) ac_) ac_) aa_)))) ?k
   case' k=>refine' ag_ (et_ (un1 hr.units) (zv 4 aG_) (zv 5 aG_) (nZ_ (jc_ (m4_ (un1 hr.units) (zv 7 aG_) (zv 2 aG_))) (zv 7 aG_) (au_ (pa_c (ES_ ao_ (zv 6 aG_) ac_) (pa_c ac_ aa_)))) rfl)
   case' j=>refine' ag_ (et_ (un1 hr.units) (zv 4 aG_) (zv 5 aG_) (au_ (pa_c ?l (pa_c ac_ aa_))) rfl)
   case' l=>refine' ES_ ap_ (ES_ ao_ (zv 0 aG_) ac_) (EO_ mz_ (FM_ Av_ PySem.F.slot_list_index PySem.F.type_list_index os_ (ES_ ao_ (zv 0 aG_) ac_) (pa_c (ES_ ao_ (zv 5 aG_) ac_) aa_)) ac_) (λ_ _=>rfl)
  case R =>
   nofun;show⟨_,N,rfl,hv,ok,λD1 H1 s1 rep1=>?_⟩
   try nofun
   obtain⟨_,us,e0,hD1',hus⟩:=rep1;cases e0;obtain⟨_,hD1⟩:=bq_ hD1';have hus1:=E7_.mono ci_ _ hus;have ul:us.length=(E4_ N).length:=by rw[hus1.length,Ab_]
   show⟨⟨_,.inl (.inl hD1)⟩,?_⟩;show cc_ (n:=(E4_ N).length) (B:=λ_=>none) (Pσ:=λσ=>∃e,σ=[e]) (ds:=(E4_ N).map dKn) (λb o e=>by cases e) ⟨_,rfl⟩ s_ o_ (λi H' hi s'=>⟨us,us[i]'o_,.inl (.inl (s' _ _ hD1)),Aa_ _⟩) (λH' s'=>⟨us,.inl (.inl (s' _ _ hD1)),o_⟩) ?_ ?_
   .rintro D i x dd σ' H2 H2' hD hDo hs2 hi hdi ⟨rfl,hy⟩ ⟨e,rfl⟩ R kR;obtain⟨od,hDo⟩:=hDo;have hx:=hy _ (.inl (.inl (hs2 _ _ hD1)));obtain⟨q,hq1,hq⟩:=i1_ hus1 hi;rw[hq1]at hx;cases hx;have hd:dd=dKn (E4_ N)[i]:=by rw[Ag_,Aa_ hi]at hdi;show(At_ hdi).symm
    nofun;show⟨d_,λt nt=>kR _ _ _ ⟨_,rfl⟩ (EM_.new nt) ?_⟩;rw[hd];have tD:t≠D:=(ae_ hDo nt).symm;have qD:q≠D:=ae_ hq hD;have hq2:=(EM_.new nt (o:=HO.tup [V.ref q,V.bl true])) _ _ (hs2 _ _ hq);show⟨t,_,rfl,by rw[dV_ tD rfl];show ab_,_,_,rfl,⟨q,_,rfl,by rw[dV_ qD rfl];show hq2,_,_,rfl,rfl,_,_,rfl,rfl,rfl⟩,_,_,rfl,rfl,rfl⟩
   .intro kl H2 hkl s2 rep2;show⟨kl,kvK (E4_ N),rfl,ir_ (Rep.mono ci_ _ rep2),by unfold kvK;rw[Ab_];lia,λkn nkn=>?_⟩;have s3:EM_ H2 (upd H2 kn (HO.dT (Fp_ [] (kvK (E4_ N))))):=EM_.new nkn;have hkn:=ab_ (H:=H2) (a:=kn) (o:=HO.dT (Fp_ [] (kvK (E4_ N))));generalize upd H2 kn (HO.dT (Fp_ [] (kvK (E4_ N))))=H3 at*;have s03:=(s1.trans s2).trans s3;show⟨_,N,rfl,Rep.mono s03 _ hv,ok,λot ko H4 s4 hot mo no not_=>?_⟩
    try nofun
    intro B nB;have sB:EM_ H4 (upd H4 B (HO.dT [])):=EM_.new nB;have s14:=(s2.trans s3).trans s4;show⟨⟨_,.inl (.inl (sB _ _ (s14 _ _ hD1)))⟩,?_⟩;have tw:=lp_ ok po;have ephi:=h1_ po;have ol:(F4_ N).length=(E4_ N).length:=by rw[ephi,Ab_]
    show ht_ (xs:=us) (λi σ H'=>∃(e5 e6 e7:Option V)(S:Hp)(kb:List (List Key×V)),σ=[some (.ref pn),some (.ref D1),some (.ref kn),some (.ref ot),some (.ref B),e5,e6,e7]/\EM_ H4 S/\EM_ S H'/\S B=none/\H' B=some (.dT kb)/\kb.length<=i/\∀(j:Nat)(c c':Nat×Nat),j<i->(F4_ N)[j]?=some c->Nx (trn N) (Pn N) c c'->∃q,FH_ kb (eK (ph N c))=some (.ref q)/\S q=some (eV (ph N c'))) ⟨none,none,none,H4,[],rfl,EM_.refl _,sB,nB,ab_,Ah_ _,λj c c' hj=>absurd hj o_⟩ ?_ ?_ ?_
    .rintro i σ H' hi ⟨e5,e6,e7,S,kb,rfl,sS,sH,SB,hB,kbl,inv⟩;show .inl (.inl ((sS.trans sH) _ _ (s14 _ _ hD1)))
    .rintro i x σ H' hx ⟨e5,e6,e7,S,kb,rfl,sS,sH,SB,hB,kbl,inv⟩;have hi:i<(E4_ N).length:=by have:=(Al_.mp hx).1;lia
     obtain⟨q,hq1,hq⟩:=i1_ hus1 hi;rw[hq1]at hx;cases hx;have hio:i<(F4_ N).length:=o_
     have ec:(E4_ N)[i]=ph N (F4_ N)[i]:=by
      have:(E4_ N)[i]?=some (ph N (F4_ N)[i]):=by rw[ephi,Ag_,Aa_ hio];rfl
      rw[Aa_ hi]at this;show At_ this
     rw[ec]at hq;have hci:(F4_ N)[i]?=some (F4_ N)[i]:=Aa_ hio;have ic:IsC (trn N) (Pn N) (F4_ N)[i]:=(cd_ ok po).mp (A3_ hio);generalize(F4_ N)[i]=c at*;have s4H:=sS.trans sH;have s1H:=s14.trans s4H;have qS:H' q=some (eV (ph N c)):=s1H _ _ hq;have clt:c.1<(pts N).length:=by rw[<-a6_];show ic.1
     have fin:∀(H5:Hp)(t:Addr)(c':Nat×Nat),Nx (trn N) (Pn N) c c'->EM_ H' H5->H' t=none->H5 t=some (eV (ph N c'))->∃x,HH_ H5 B (.ref q) (.ref t) x/\∃S2,EM_ H4 S2/\EM_ S2 x/\S2 B=none/\∃kb2,x B=some (.dT kb2)/\kb2.length<=i+1/\∀(j:Nat)(d d':Nat×Nat),j<i+1->(F4_ N)[j]?=some d->Nx (trn N) (Pn N) d d'->∃q,FH_ kb2 (eK (ph N d))=some (.ref q)/\S2 q=some (eV (ph N d')):=λH5 t c' nx s5 nt ht=>by
      have hB5:=s5 _ _ hB;have g1:EM_ S (grow S H' H5):=bY_ sH;have g2:EM_ (grow S H' H5) H5:=gc_ sH s5;have gB:grow S H' H5 B=none:=by rw[cB_ hB];show SB
      have gt:grow S H' H5 t=some (eV (ph N c')):=by rw[fc_ nt];show ht
      have pl:=kQ_ kb (eK (ph N c)) (.ref t);show⟨_,HH_.t (k:=eK (ph N c)) hB5 (s5 _ _ qS) (EN_ o_),grow S H' H5,sS.trans g1,aT_ g2 gB,gB,_,ab_,o_,λj d d' hj hd nd'=>?_⟩;rw[bt_];by_cases e:eK (ph N d)=eK (ph N c)
      .rw[if_pos e];have id':IsC (trn N) (Pn N) d:=(cd_ ok po).mp (Am_ hd);have ed:d=c:=hM_ ok po (by rw[<-a6_];show id'.1) clt (fZ_ e);subst ed;rw[hE_ tw nd' nx];show⟨t,rfl,gt⟩
      .rw[if_neg e]
       have hj':j<i:=by
        rcases Nat.lt_or_ge j i with h|h
        .show h
        .have:j=i:=o_
         subst this;rw[hci]at hd;cases hd;show absurd rfl e
       obtain⟨q',q1,q2⟩:=inv j d d' hj' hd nd';show⟨q',q1,g1 _ _ q2⟩
     nofun;by_cases hend:c.2<rl (trn N) c.1
     .obtain⟨ww,hw⟩:=gd_ hend;obtain⟨m,hm⟩:=ks_ tw hw;have hmlt:=FN_ hm.2.choose_spec.2;have mlt:m.1<(pts N).length:=by rw[<-a6_];show hmlt.2
      obtain⟨qo,go,ho⟩:∃qo,FH_ ko (eK (ph N c))=some (.ref qo)/\H4 qo=some (eV (ph N m)):=by
       obtain⟨kv,hkv,ekv⟩:=nj_ (d0:=Str.empty) ok po hm;obtain⟨j,hj,ej⟩:=As_.mp hkv
       rcases ekv with ekv|ekv
       .show(mo j kv.1 _ _ hj (by rw[Aa_ hj,ej,<-ekv])).1
       .show(mo j kv.1 _ _ hj (by rw[Aa_ hj,ej,<-ekv])).2
      have hg:Ge_ H' ot (.ref q) (some (.ref qo)):=go▸Ge_.t (k:=eK (ph N c)) (s4H _ _ hot) qS;show⟨_,hg,?_⟩;rw[if_pos (show(some (V.ref qo)).isSome=true from rfl)];have hoH:=s4H _ _ ho;show⟨_,hg,qo,rfl,_,hoH,_,FL_,qo,rfl,_,hoH,_,FX_,_,rfl,d_,λt1 nt1=>?_⟩;rw[show(HO.tup [V.str (ph N m).1,V.int (((ph N m).2:Int)+1)]:HO)=eV (ph N (m.1,m.2+1))from rfl];have s5:EM_ H' (upd H' t1 (eV (ph N (m.1,m.2+1)))):=EM_.new nt1;have ht1:=ab_ (H:=H') (a:=t1) (o:=eV (ph N (m.1,m.2+1)));generalize upd H' t1 (eV (ph N (m.1,m.2+1)))=H5 at*;unfold tIf;nofun;show⟨_,Ge_.t (k:=eK (ph N (m.1,m.2+1))) (s5 _ _ (s4H _ _ (s4 _ _ hkn))) ht1,?_⟩;rw[j5_];by_cases him:IsC (trn N) (Pn N) (m.1,m.2+1)
      .rw[if_pos (AG_ (by rw[ephi];show Ai_.mpr ⟨_,(cd_ ok po).mpr him,rfl⟩))];show fin H5 t1 _ (.inr ⟨hend,m,hm,?_⟩) s5 nt1 ht1;split
       .rfl
       .next hP =>have:=him.2;rw[if_neg hP]at this;rw[Nat.mod_eq_of_lt (by simpa using this)]
      .rw[if_neg (by rw[BM_];intro hmem;rw[ephi]at hmem;obtain⟨c0,hc0,e0⟩:=Ai_.mp hmem;have i0:=(cd_ ok po).mp hc0;have:c0=(m.1,m.2+1):=hM_ ok po (by rw[<-a6_];show i0.1) mlt e0;show him (this▸i0))]
       have mP:¬ m.1<Pn N/\m.2+1=rl (trn N) m.1:=by
        have h1:=hmlt.1;by_cases hP:m.1<Pn N
        .show absurd ⟨hmlt.2,by change m.2+1<rl (trn N) m.1+if m.1<Pn N then 1 else 0;rw[if_pos hP];lia⟩ him
        .show⟨hP,?_⟩
         rcases Nat.lt_or_ge (m.2+1) (rl (trn N) m.1)with h|h
         .show absurd ⟨hmlt.2,by change m.2+1<rl (trn N) m.1+if m.1<Pn N then 1 else 0;rw[if_neg hP];lia⟩ him
         .lia
       have hqo5:=s5 _ _ hoH;show⟨_,hqo5,_,FL_,d_,λt2 nt2=>?_⟩;show fin _ t2 (m.1,0) (.inr ⟨hend,m,hm,?_⟩) (s5.trans (EM_.new nt2)) (s5.free nt2) ab_;rw[if_neg mP.1,mP.2,Nat.mod_self]
     .have e2:c.2=rl (trn N) c.1/\c.1<Pn N:=by
       have:=ic.2;split at this
       .show⟨o_,by assumption⟩
       .lia
      have hno:FH_ ko (eK (ph N c))=none:=no _ λkv hkv=>qe_ ok po clt o_ hkv;show⟨none,hno▸Ge_.t (k:=eK (ph N c)) (s4H _ _ hot) qS,?_⟩;rw[if_neg d_];have s0H:=(s03.trans s4).trans s4H;have hc1:c.1<N.posts.length:=e2.2;have hpx:(pts N)[c.1]?=some N.posts[c.1]:=by unfold pts;rw[Ay_ hc1,Aa_ hc1]
      have hph:(ph N c).1=N.posts[c.1]:=by change(pts N).getD c.1 Str.empty=_;rw[Ac_,hpx];rfl
      have hpl:=ok.pl;have jlt:(c.1+Pn N-1)%Pn N<N.posts.length:=Nat.mod_lt _ po.p0;have hpj:(ph N ((c.1+Pn N-1)%Pn N,0)).1=N.posts[(c.1+Pn N-1)%Pn N]:=by change(pts N).getD _ Str.empty=_;unfold pts;rw[Ac_,Ay_ jlt,Aa_ jlt];rfl
      have at1:atI (N.posts.map V.str) ((c.1:Int)-1)=some (.str N.posts[(c.1+Pn N-1)%Pn N]):=by
       have key:ixN (N.posts.map V.str).length ((c.1:Int)-1)=some ((c.1+Pn N-1)%Pn N):=by
        unfold ixN;rw[Ab_];by_cases h0:c.1=0
        .rw[if_neg o_,if_pos o_,Nat.mod_eq_of_lt o_];congr 1;change((c.1:Int)-1+N.posts.length).toNat=c.1+N.posts.length-1;lia
        .rw[if_pos o_,if_pos o_,show c.1+Pn N-1=(c.1-1)+Pn N by lia,Nat.add_mod_right,Nat.mod_eq_of_lt (by change c.1-1<N.posts.length;lia)];congr 1;lia
       unfold atI;rw[key];change(N.posts.map V.str)[_]?=_;rw[Ag_,Aa_ jlt];rfl
      show⟨_,s0H _ _ hn,_,FL_,_,s0H _ _ hn,_,FL_,.inl ⟨_,.inl (.inl (s0H _ _ h0))⟩,_,qS,_,FL_,p0,rfl,N.posts,_,rfl,s0H _ _ h0,o_,c.1,by rw[hph];show Aa_ hc1,λm hm hx=>?_,p0,rfl,_,s0H _ _ h0,_,at1,d_,λt nt=>?_⟩
      .rw[hph,<-Aa_ hc1]at hx;have:=(AY_ (i:=m) (j:=c.1) o_ po.pnd).mp hx;lia
      .show fin _ t ((c.1+Pn N-1)%Pn N,0) (.inl ⟨e2.1,rfl⟩) (EM_.new nt) nt ?_;rw[ab_];change some (HO.tup [_,_])=some (HO.tup [V.str (ph N ((c.1+Pn N-1)%Pn N,0)).1,V.int 0]);rw[hpj]
    .rintro σ H' ⟨e5,e6,e7,S,kb,rfl,sS,sH,SB,hB,kbl,inv⟩;nofun;show k B kb H' (((s03.trans s4).trans sS).trans sH) ((s03.trans s4).free nB) hB λc c' hc nx=>?_;obtain⟨j,hj,ej⟩:=As_.mp ((cd_ ok po).mpr hc);obtain⟨q,q1,q2⟩:=inv j c c' o_ (by rw[Aa_ hj,ej]) nx;show⟨q,q1,sH _ _ q2⟩
def Es(H:Hp)(N:Net Str):List Addr->List (Nat×Nat)->Prop
 |[],[]=>True
 |x::xs,c::cs=>H x=some (eV (ph N c))/\Es H N xs cs
 |_,_=>False
theorem Es.mono{H H':Hp}{N:Net Str}(s:EM_ H H'):∀{xs:List Addr}{cs:List (Nat×Nat)},Es H N xs cs->Es H' N xs cs
 |[],[],_=>trivial
 |x::xs,c::cs,h=>⟨s _ _ h.1,Es.mono s h.2⟩
theorem Es.len{H:Hp}{N:Net Str}:∀{xs:List Addr}{cs:List (Nat×Nat)},Es H N xs cs->xs.length=cs.length
 |[],[],_=>rfl
 |x::xs,c::cs,h=>by rw[AF_,AF_,Es.len h.2]
theorem Es.snoc{H:Hp}{N:Net Str}{y:Addr}{d:Nat×Nat}(hy:H y=some (eV (ph N d))):∀{xs:List Addr}{cs:List (Nat×Nat)},Es H N xs cs->Es H N (xs++[y]) (cs++[d])
 |[],[],_=>⟨hy,trivial⟩
 |x::xs,c::cs,h=>⟨h.1,Es.snoc hy h.2⟩
theorem Es.get{H:Hp}{N:Net Str}:∀{xs:List Addr}{cs:List (Nat×Nat)}{i:Nat}{d:Nat×Nat},Es H N xs cs->cs[i]?=some d->∃x,xs[i]?=some x/\H x=some (eV (ph N d))
 |[],[],i,d,h,e=>by cases e
 |[],_::_,_,_,h,_=>h.elim
 |_::_,[],_,_,h,_=>h.elim
 |x::xs,c::cs,0,d,h,e=>by cases e;show⟨x,rfl,h.1⟩
 |x::xs,c::cs,i+1,d,h,e=>Es.get (i:=i) h.2 e
theorem pA_{x:Addr}(h:H x=some (eV e)):Rep H (.ref x) (dE e):=⟨x,_,rfl,h,_,_,rfl,rfl,_,_,rfl,rfl,rfl⟩
theorem ry_(a b:End Str):deq (dE a) (dE b)=some (decide (a=b)):=by
 by_cases h1:a.1=b.1 <;> by_cases h2:(a.2:Int)=b.2
 .have e:a=b:=Bd_ h1 o_;subst e;simp[dE,deq,deqs]
 .have e:a≠b:=λz=>h2 (by rw[z]);simp[dE,deq,deqs,h1,h2,e]
 .have e:a≠b:=λz=>h1 (by rw[z]);simp[dE,deq,deqs,h1,h2,e]
 .have e:a≠b:=λz=>h1 (by rw[z]);simp[dE,deq,deqs,h1,h2,e]
theorem qz_{xs:List Addr}{x:Addr}(h:xs[xs.length-1]?=some x):atI (xs.map V.ref) (-1)=some (.ref x):=by
 have hl:0<xs.length:=by have:=(Al_.mp h).1;lia
 unfold atI ixN;rw[if_neg d_,Ab_,if_pos o_];change(xs.map V.ref)[_]?=_;rw[show((-1:Int)+(xs.length:Int)).toNat=xs.length-1 by lia,Ag_,h];rfl
abbrev Fw_:Stmt:=stN 26
theorem f1_:ZL ["corner","behind","region"] ["corner","behind"] (EL_ Fw_):=zL
def HB_:Sp:=λvs H Q _=>∃(B:Hp)(N:Net Str)(q d:Addr)(kb:List (List Key×V))(c:Nat×Nat),vs=[.ref q,.ref d]/\EM_ B H/\Fi_ N/\EZ_ N/\B q=some (eV (ph N c))/\IsC (trn N) (Pn N) c/\B d=some (.dT kb)/\Ig_ B N kb/\(corners (trn N) (Pn N)).length<=900 /\
 ∀R H' xs cs,EM_ H H'->H R=none->H' R=some (.lst (xs.map V.ref))->Es B N xs cs->Reg (trn N) (Pn N) c cs->Q (.ref R) H'
theorem i2_(T:Txt K mg)(F:Fn0 K mg "round_from" Fw_):Cal P w K mg base "round_from" ["corner","behind"] 1 HB_:=by
  show aZ_ F f1_.1 λf cdv A outer s H vs Q E hr h=>?_;obtain⟨B,N,q,d,kb,c,rfl,sB,ok,po,hq,ic,hd,beh,c9,k⟩:=h;have tw:=lp_ ok po;have PT:Pn N<=(trn N).length:=by rw[a6_];unfold pts;rw[Ae_];show BI_ _ _
  refine'⟨_,?D,?R⟩
  case D =>
   refine' ad_ (zas 2 f1_ (bH_ (pa_c (zv 0 f1_) aa_))) ?a
   case' a=>refine' ad_ (dQ_ AS_ (aE_ (ju_ (hr.units)) (es_ (un1 hr.units) (zv 1 f1_) (ES_ ap_ (zv 2 f1_) (Ky_ o8_ ac_))) (zv 0 f1_) (E5_ _)) ?b) (ag_ (aB_ (zv 2 f1_)))
   case' b=>refine' ag_ (aw_ (FM_ Av_ A0_ A1_ aY_ (zv 2 f1_) (pa_c (es_ (un1 hr.units) (zv 1 f1_) (ES_ ap_ (zv 2 f1_) (Ky_ o8_ ac_))) aa_)))
  case R =>
   nofun;show⟨d_,λR nR=>?_⟩;obtain⟨c1,n1⟩:=Is_ tw ic
   show fa_ (λσ H'=>∃(xs:List Addr)(cs:List (Nat×Nat))(e:Nat×Nat),σ=[some (.ref q),some (.ref d),some (.ref R)]/\EM_ H H'/\H' R=some (.lst (xs.map V.ref))/\Es B N xs cs/\Way (trn N) (Pn N) cs e/\cs.head?=some c/\cs.Nodup)
    (λσ H'=>match H' R with|some (.lst xs)=>(corners (trn N) (Pn N)).length+1-xs.length|_=>0) ⟨[q],[c],c1,rfl,EM_.new nR,ab_,⟨hq,trivial⟩,.one n1,rfl,s_⟩ ?_
   rintro σ H' ⟨xs,cs,e,rfl,s1,hR,hes,wy,hd0,nd⟩;have sBH:=sB.trans s1;have wl:cs.length<=(corners (trn N) (Pn N)).length:=iG_ tw po.p0 PT wy hd0 ic nd;have wa:=dX_ tw po.p0 PT wy hd0 ic;have xl:=hes.len;obtain⟨_,z,hz,nz⟩:=d0_ wy;obtain⟨x,hx,hxe⟩:=hes.get hz;rw[<-xl]at hx;have iz:IsC (trn N) (Pn N) z:=wa.2.1 z (Am_ hz);obtain⟨q',v',hq'⟩:=beh z e iz nz;have hg:Ge_ H' d (.ref x) (some (.ref q')):=v'▸Ge_.t (k:=eK (ph N z)) (sBH _ _ hd) (sBH _ _ hxe);nofun;have atl:=qz_ hx;have clt:c.1<(pts N).length:=by rw[<-a6_];show ic.1
   have elt:e.1<(pts N).length:=by rw[<-a6_];show wa.1.1
   show⟨_,hR,_,atl,_,hg,q',rfl,_,pA_ (sBH _ _ hq'),_,pA_ (sBH _ _ hq),_,ry_ _ _,by simp[dE,dep,deps],?_⟩;by_cases hde:e=c
   .subst hde;rw[if_neg s_];show k R H' xs cs s1 nR hR hes ⟨wy,hd0,nd⟩
   .rw[if_pos (AI_ λz=>hde (hM_ ok po elt clt z))];show⟨_,N_ok,?_⟩;have dn:=iF_ tw po.p0 PT wy hd0 ic nd hde;obtain⟨e2,n2⟩:=Is_ tw wa.1;show⟨.inl ⟨_,.inl (.inl hR)⟩,_,hR,_,atl,_,hg,_,hR,EN_ (by rw[Ab_];lia),?_⟩;show⟨⟨rfl,λb o hb=>by rw[af_ (ae_ hb nR)];show s1 _ _ hb,xs++[q'],by rw[ab_,Ar_];rfl,cs++[e],hes.snoc hq',e2,.more wy n2,?_,?_⟩,?_⟩
    .cases cs with
     |nil=>show absurd rfl (gM_ wy)
     |cons a b=>show hd0
    .rw[AA_];show⟨nd,s_,λa ha b hb ab=>?_⟩;rw[Ad_.mp hb]at ab;show dn (ab▸ha)
    .rw[ab_,hR];simp only[Ae_,Ab_,AL_];lia
theorem nJ_{κ:Type}[DecidableEq κ](kvs:List (κ×V))(k:κ)(v:V):(FQ_ kvs k v).map (·.1)=if k∈kvs.map (·.1)then kvs.map (·.1)else kvs.map (·.1)++[k]:=by
 have e:(kvs.any λkv=>decide (kv.1=k))=decide (k∈kvs.map (·.1)):=by rw[B9_,BJ_,BM_,Ai_];show⟨λ⟨x,hx,ex⟩=>⟨x,hx,AU_ ex⟩,λ⟨x,hx,ex⟩=>⟨x,hx,AG_ ex⟩⟩
 unfold FQ_;rw[e];by_cases h:k∈kvs.map (·.1)
 .rw[if_pos (AG_ h),if_pos h,AZ_];show Bw_ λx _=>?_;change(if x.1=k then(x.1,v)else x).1=x.1;split <;> rfl
 .rw[if_neg (by rw[AI_ h];decide),if_neg h,Ar_];rfl
def Ik_(kt:List (List Key×V))(all:List (List Key)):Prop:=(kt.map (·.1)).Nodup/\∀k∈kt.map (·.1),k∈all
theorem Ik_.len{kt:List (List Key×V)}{all:List (List Key)}(h:Ik_ kt all):kt.length<=all.length:=by
 have:=a5_ h.1 h.2
 rwa[Ab_]at this
theorem Ik_.put{kt:List (List Key×V)}{all:List (List Key)}(h:Ik_ kt all){k:List Key}(hk:k∈all)(v:V):Ik_ (FQ_ kt k v) all:=by
 unfold Ik_;rw[nJ_];split
 .show h
 .next hn =>
  show⟨AA_.mpr ⟨h.1,s_,λa ha b hb e=>?_⟩,λx hx=>?_⟩
  .rw[Ad_.mp hb]at e;show hn (e▸ha)
  .rcases Ao_.mp hx with hx|hx
   .show h.2 x hx
   .rw[Ad_.mp hx];show hk
theorem Ik_.merge{all:List (List Key)}:∀{more kt:List (List Key×V)},Ik_ kt all->(∀q∈more,q.1∈all)->Ik_ (Fp_ kt more) all
 |[],kt,h,_=>h
 |p::more,kt,h,hm=>Ik_.merge (more:=more) (kt:=FQ_ kt p.1 p.2) (h.put (hm p An_) _) λq hq=>hm q (Ak_ _ hq)
theorem qA_(es:List (End Str))(e:End Str):((kvK es).any λq=>decide (q.1=eK e))=decide (e∈es):=by have:=j5_ es e;rw[e0_]at this;show this
theorem Ig_.mono{kb:List (List Key×V)}(h:Ig_ H N kb)(s:EM_ H H'):Ig_ H' N kb:=λc c' hc nx=>by obtain⟨q,q1,q2⟩:=h c c' hc nx;show⟨q,q1,s _ _ q2⟩
theorem Le_(ok:Fi_ N)(po:EZ_ N):(corners (trn N) (Pn N)).length<=900:=by
 have h:=hH_ (T:=trn N) (P:=Pn N)
 have e:(trn N).flatten.length=N.all.length:=by
  have h1:((N.rows.map (·.1)).map (G6_ N))=N.rows.map (·.2):=by rw[AZ_];show Bw_ λr hr=>bC_ ok hr
  have h2:=(dB_ ((iP_ ok po).map (G6_ N))).length_eq;rw[h1]at h2;show h2
 have h3:=ok.tot;have h4:=ok.pl;change(corners (trn N) (Pn N)).length<=900;have h5:Pn N<=6:=h4;lia
abbrev E0_:Stmt:=stN 27
theorem bD_:ZL ["net","behind","told","regions","corner","region"] ["net"] (EL_ E0_):=zL
theorem cE_:LK E0_ "corners_behind" .globalImplicit:=r_
theorem cq_:LK E0_ "corners_in_order" .globalImplicit:=r_
theorem dM_:LK E0_ "round_from" .globalImplicit:=r_
def Lw_(S H:Hp)(N:Net Str)(ls:List Addr)(F:List (List (Nat×Nat))):Prop:=ls.length=F.length/\∀(i:Nat)(l:Addr)(cs:List (Nat×Nat)),ls[i]?=some l->F[i]?=some cs->∃xs:List Addr,H l=some (.lst (xs.map V.ref))/\Es S N xs cs
def H4_:Sp:=λvs H Q _=>∃(v:V)(N:Net Str),vs=[v]/\Rep H v (GJ_ N)/\Fi_ N/\EZ_ N/\∀D S ls H',EM_ H S->EM_ S H'->S D=none->(∀l∈ls,S l=none)->ls.Nodup->D∉ls->H' D=some (.lst (ls.map V.ref))->Lw_ S H' N ls (fdF (trn N) (Pn N) (F4_ N))->Q (.ref D) H'
theorem i3_(T:Txt K mg)(F:Fn0 K mg "regions_of" E0_) (Gm_:Cal P w K mg base "corners_behind" ["net"] 3 Io_) (Fz_:Cal P w K mg base "corners_in_order" ["net"] 1 Hk_) (Hc_:Cal P w K mg base "round_from" ["corner","behind"] 1 HB_):Cal P w K mg base "regions_of" ["net"] 4 H4_:=by
  show aZ_ F bD_.1 λf cdv A outer s H vs Q E hr h=>?_;obtain⟨v,N,rfl,hv,ok,po,k⟩:=h;obtain⟨few,rfew⟩:=hh_ ok;refine'⟨_,?D,?R⟩
  case D =>
   refine' ad_ (zas 1 bD_ (an_ Gm_ (hr.mono d_) cE_ (pa_c (zv 0 bD_) aa_))) (ad_ ?a (ad_ (zas 3 bD_ (bH_ aa_)) ?b))
   case a=>show zas 2 bD_ hc_
   case' b=>refine' ad_ (bT_ AS_ rfl (aS_ (K:=K) rfl (an_ Fz_ (hr.mono d_) cq_ (pa_c (zv 0 bD_) aa_))) ?c ?d) (ag_ (aB_ (zv 3 bD_)))
   case c=>show zh 4 bD_
   case' d=>refine' ag_ (Ft_ (jc_ (jB_ (un1 hr.units) (zv 4 bD_) (zv 2 bD_))) (ad_ (zas 5 bD_ (an_ Hc_ (hr.mono d_) dM_ (pa_c (zv 4 bD_) (pa_c (zv 1 bD_) aa_)))) ?e) aJ_)
   case' e=>refine' ad_ ?f (ag_ (aw_ (FM_ Av_ A0_ A1_ aY_ (zv 3 bD_) (pa_c (zv 5 bD_) aa_))))
   case' f=>refine' aw_ (FM_ Cv_ DM_ DN_ (l9_ hr.units rfl) (zv 2 bD_) (pa_c (bb_ (N':=["member"]) (ix:=[none]) rfl rfl (bG_ ?g) (aS_ (K:=K) rfl (zv 5 bD_)) (λ_ _ _=>?h) (λ_ _ _=>?i) (λ_ _ _=>(au_ (pa_c (pv1 0 rfl rfl) (pa_c Gy_ aa_))))) aa_))
   case g=>show(by change Gr_ (EL_ E0_) ["net","behind","told","regions","corner","region"] _ _ _=true;decide +kernel)
   case h=>show ai_ (i:=0) (by change List.Nodup (["member"]:List Str);decide +kernel) rfl rfl
   case i=>show bU_
  case R =>
   nofun;show⟨_,N,rfl,hv,ok,po,λbd kb H1 s1 nbd hbd beh=>?_⟩
   try nofun
   intro tl ntl;show⟨AP_ _,λD nD=>?_⟩;have htl:=ab_ (H:=H1) (a:=tl) (o:=HO.dT []);have sA:EM_ H1 (upd H1 tl (HO.dT [])):=EM_.new ntl;generalize upd H1 tl (HO.dT [])=Ha at*;have sB:EM_ Ha (upd Ha D (HO.lst [])):=EM_.new nD;have hD:=ab_ (H:=Ha) (a:=D) (o:=HO.lst []);have htl2:=sB _ _ htl;have nD1:H1 D=none:=sA.free nD;have tD:tl≠D:=ae_ htl nD;have s12:=sA.trans sB;generalize upd Ha D (HO.lst [])=H2 at*;clear sA sB htl nD Ha;show⟨v,N,rfl,Rep.mono (s1.trans s12) _ hv,ok,λD1 H3 s3 rep3=>?_⟩;obtain⟨_,us,e0,hD1',hus⟩:=rep3;cases e0;obtain⟨nD12,hD13⟩:=bq_ hD1';have ul:us.length=(E4_ N).length:=by rw[hus.length,Ab_]
   have g1:EM_ H1 (grow H1 H2 H3):=bY_ s12;have g2:EM_ (grow H1 H2 H3) H3:=gc_ s12 s3;have gtl:grow H1 H2 H3 tl=none:=by rw[cB_ htl2];show ntl
   have gD:grow H1 H2 H3 D=none:=by rw[cB_ hD];show nD1
   have gD1:grow H1 H2 H3 D1=some (.lst us):=by rw[fc_ nD12];show hD13
   have gus:E7_ (grow H1 H2 H3) us ((E4_ N).map dE):=E7_.mono (λb o hb=>by obtain⟨b1,b2⟩:=bq_ hb;rw[fc_ b1];show b2) _ hus;have hD3:=s3 _ _ hD;have htl3:=s3 _ _ htl2;generalize grow H1 H2 H3=S0 at*;have tw:=lp_ ok po;have ephi:=h1_ po;have ol:(F4_ N).length=(E4_ N).length:=by rw[ephi,Ab_]
   show⟨D1,rfl,⟨_,.inl (.inl hD13)⟩,?_⟩;show ht_ (xs:=us) (λi σ H'=>∃(e4 e5:Option V)(S:Hp)(ls:List Addr)(kt:List (List Key×V)),σ=[some v,some (.ref bd),some (.ref tl),some (.ref D),e4,e5]/\EM_ S0 S/\EM_ S H'/\S tl=none/\S D=none/\(∀l∈ls,S l=none)/\ls.Nodup/\D∉ls/\tl∉ls/\H' D=some (.lst (ls.map V.ref))/\Lw_ S H' N ls (fdF (trn N) (Pn N) ((F4_ N).take i))/\H' tl=some (.dT kt)/\Ik_ kt ((E4_ N).map eK)/\ls.length<=i/\∀c,IsC (trn N) (Pn N) c->(FH_ kt (eK (ph N c))).isSome=decide (c∈(fdF (trn N) (Pn N) ((F4_ N).take i)).flatten)) ⟨none,none,S0,[],[],rfl,EM_.refl _,g2,gtl,gD,λl hl=>absurd hl AQ_,Bf_,AQ_,AQ_,hD3,⟨rfl,λi l cs hl=>by cases hl⟩,htl3,⟨Bf_,λk hk=>absurd hk AQ_⟩,Ah_ _,λc _=>rfl⟩ ?_ ?_ ?_
   .rintro i σ H' hi ⟨e4,e5,S,ls,kt,rfl,sS,sH,_⟩;show .inl (.inl ((sS.trans sH) _ _ gD1))
   .rintro i x σ H' hx ⟨e4,e5,S,ls,kt,rfl,sS,sH,Stl,SD,Sls,lnd,Dls,tls,hD',rg,htl',kto,ll,seen⟩;have hi:i<(E4_ N).length:=by have:=(Al_.mp hx).1;lia
    obtain⟨q,hq1,hq⟩:=i1_ gus hi;rw[hq1]at hx;cases hx;have hio:i<(F4_ N).length:=o_
    have ec:(E4_ N)[i]=ph N (F4_ N)[i]:=by
     have:(E4_ N)[i]?=some (ph N (F4_ N)[i]):=by rw[ephi,Ag_,Aa_ hio];rfl
     rw[Aa_ hi]at this;show At_ this
    rw[ec]at hq;have tk:(F4_ N).take (i+1)=(F4_ N).take i++[(F4_ N)[i]]:=by rw[Bp_,Aa_ hio];rfl
    have ic:IsC (trn N) (Pn N) (F4_ N)[i]:=(cd_ ok po).mp (A3_ hio);rw[tk,ln_];generalize(F4_ N)[i]=c at*;generalize fdF (trn N) (Pn N) ((F4_ N).take i)=F at*;have sSH:=sS.trans sH;nofun;show⟨_,Ge_.t (k:=eK (ph N c)) htl' (sSH _ _ hq),?_⟩;rw[seen c ic];by_cases hc:c∈F.flatten
    .rw[if_pos hc,if_neg (by rw[AG_ hc];decide)];show⟨S,sS,sH,Stl,SD,ls,Sls,lnd,Dls,tls,hD',rg,kt,htl',kto,o_,seen⟩
    .rw[if_neg hc,if_pos (AI_ hc)];show⟨S,N,q,bd,kb,c,rfl,sH,ok,po,sS _ _ hq,ic,sS _ _ (g1 _ _ hbd),beh.mono (g1.trans sS),Le_ ok po,λR H5 xs cs s5 nR hR hes reg=>?_⟩;have ecs:cyc (trn N) (Pn N) c=cs:=po_ tw reg;rw[ecs];have xl:=hes.len;have PT:Pn N<=(trn N).length:=by rw[a6_];unfold pts;rw[Ae_];show BI_ _ _
     have wa:=dX_ tw po.p0 PT reg.1 reg.2.1 ic;have wl:cs.length<=(corners (trn N) (Pn N)).length:=iG_ tw po.p0 PT reg.1 reg.2.1 ic reg.2.2;have c100:cs.length<=100:=by have:=a5_ (l:=cs) (m:=F4_ N) reg.2.2 λx hx=>(cd_ ok po).mpr (wa.2.1 x hx);lia
     show⟨.inr (.inr (.inl (.inr ⟨_,s5 _ _ htl'⟩))),R,rfl,⟨_,.inl (.inl hR)⟩,?_⟩;show cc_ (n:=xs.length) (B:=λ_=>none) (Pσ:=λσ=>∃e,σ=[e]) (ds:=(cs.map (ph N)).map dKn) (λb o e=>by cases e) ⟨_,rfl⟩ (by simp[xl]) o_ (λj Hj hj sj=>⟨_,.ref (xs[j]),.inl (.inl (sj _ _ hR)),by simp[hj]⟩) (λHj sj=>⟨_,.inl (.inl (sj _ _ hR)),s_⟩) ?_ ?_
     .rintro Dc j x dd σ' H6 H6' hDc hDo hs6 hj hdj ⟨rfl,hy⟩ ⟨e,rfl⟩ R0 kR;obtain⟨od,hDo⟩:=hDo;have hx:=hy _ (.inl (.inl (hs6 _ _ hR)));have hjc:j<cs.length:=o_
      obtain⟨y,hy1,hy2⟩:=hes.get (Aa_ hjc);rw[Ag_,hy1]at hx;cases hx;have hd:dd=dKn (ph N cs[j]):=by rw[Ag_,Ag_,Aa_ hjc]at hdj;show(At_ hdj).symm
      have hy5:=s5 _ _ (sH _ _ hy2);nofun;show⟨d_,λt nt=>kR _ _ _ ⟨_,rfl⟩ (EM_.new nt) ?_⟩;rw[hd];have tD':t≠Dc:=(ae_ hDo nt).symm;have yD:y≠Dc:=ae_ hy5 hDc;have hq2:=(EM_.new nt (o:=HO.tup [V.ref y,V.bl true])) _ _ (hs6 _ _ hy5);show⟨t,_,rfl,by rw[dV_ tD' rfl];show ab_,_,_,rfl,⟨y,_,rfl,by rw[dV_ yD rfl];show hq2,_,_,rfl,rfl,_,_,rfl,rfl,rfl⟩,_,_,rfl,rfl,rfl⟩
     .intro kl H6 hkl s6 rep6;have s56:=s5.trans s6;have ktl:=kto.len;rw[Ab_]at ktl;have hD6:=s56 _ _ hD';have RD:R≠D:=(ae_ hD' nR).symm;have Rt:R≠tl:=(ae_ htl' nR).symm;have Rls:R∉ls:=λhm=>by obtain⟨j,hj,ej⟩:=As_.mp hm;obtain⟨ys,hys,_⟩:=rg.2 j R (F[j]'(by rw[<-rg.1];show hj)) (by rw[Aa_ hj,ej]) (Aa_ _);rw[nR]at hys;cases hys
      show⟨kl,rfl,kt,s56 _ _ htl',kvK (cs.map (ph N)),ir_ (Rep.mono ci_ _ rep6),by unfold kvK;rw[Ab_,Ab_];lia,.inl ⟨_,.inl (.inl (by rw[af_ tD.symm];show hD6))⟩,_,by rw[af_ tD.symm];show hD6,EN_ (by rw[Ab_];lia),?_⟩;have sS8:EM_ S (upd (upd H6 tl (HO.dT (Fp_ kt (kvK (cs.map (ph N)))))) D (HO.lst (ls.map V.ref++[V.ref R]))):=aT_ (aT_ (sH.trans s56) Stl) SD;have h8:∀b,b≠D->b≠tl->(upd (upd H6 tl (HO.dT (Fp_ kt (kvK (cs.map (ph N)))))) D (HO.lst (ls.map V.ref++[V.ref R]))) b=H6 b:=λb b1 b2=>by rw[af_ b1,af_ b2]
      have h8D:=ab_ (H:=upd H6 tl (HO.dT (Fp_ kt (kvK (cs.map (ph N)))))) (a:=D) (o:=HO.lst (ls.map V.ref++[V.ref R]));have h8t:(upd (upd H6 tl (HO.dT (Fp_ kt (kvK (cs.map (ph N)))))) D (HO.lst (ls.map V.ref++[V.ref R]))) tl=some (.dT (Fp_ kt (kvK (cs.map (ph N))))):=by rw[af_ tD];show ab_
      generalize upd (upd H6 tl (HO.dT (Fp_ kt (kvK (cs.map (ph N)))))) D (HO.lst (ls.map V.ref++[V.ref R]))=H8 at*;show⟨S,sS,sS8,Stl,SD,ls++[R],λl hl=>?_,?_,?_,?_,by rw[Ar_];rfl,?_,_,h8t,kto.merge λq hq=>?_,by rw[Ae_];simp;lia,λd id'=>?_⟩
      .rcases Ao_.mp hl with hl|hl
       .show Sls l hl
       .rw[Ad_.mp hl];show sH.free nR
      .show AA_.mpr ⟨lnd,s_,λa ha b hb e=>Rls (by rw[<-Ad_.mp hb,<-e];show ha)⟩
      .intro hm
       rcases Ao_.mp hm with hm|hm
       .show Dls hm
       .show RD (Ad_.mp hm).symm
      .intro hm
       rcases Ao_.mp hm with hm|hm
       .show tls hm
       .show Rt (Ad_.mp hm).symm
      .show⟨by rw[Ae_,Ae_,rg.1];rfl,λj l cs' hl hcs=>?_⟩;by_cases hj:j<ls.length
       .rw[Ay_ hj]at hl;rw[Ay_ (by rw[<-rg.1];show hj)]at hcs;obtain⟨ys,hys,hes'⟩:=rg.2 j l cs' hl hcs;have lm:=Am_ hl;show⟨ys,by rw[h8 l (λz=>Dls (z▸lm)) (λz=>tls (z▸lm))];show s56 _ _ hys,hes'⟩
       .rw[AK_ o_]at hl;rw[AK_ (by rw[<-rg.1];lia)]at hcs;have e1:=Ad_.mp (Am_ hl);have e2:=Ad_.mp (Am_ hcs);subst e1 e2;show⟨xs,by rw[h8 l RD Rt];show s6 _ _ hR,hes⟩
      .unfold kvK at hq;obtain⟨e,he,rfl⟩:=Ai_.mp hq;obtain⟨c0,hc0,rfl⟩:=Ai_.mp he;show Ai_.mpr ⟨_,?_,rfl⟩;rw[ephi];show Ai_.mpr ⟨c0,(cd_ ok po).mpr (wa.2.1 c0 hc0),rfl⟩
      .rw[e0_,seen d id',qA_,Ba_];have dlt:d.1<(pts N).length:=by rw[<-a6_];show id'.1
       have e1:decide (ph N d∈cs.map (ph N))=decide (d∈cs):=decide_eq_decide.mpr ⟨λh=>by obtain⟨c0,hc0,e0⟩:=Ai_.mp h;have i0:=wa.2.1 c0 hc0;have:=hM_ ok po (by rw[<-a6_];show i0.1) dlt e0;show this▸hc0,λh=>Ai_.mpr ⟨d,h,rfl⟩⟩;rw[e1,<-Bool.decide_or];show decide_eq_decide.mpr s_
   .rintro σ H' ⟨e4,e5,S,ls,kt,rfl,sS,sH,Stl,SD,Sls,lnd,Dls,tls,hD',rg,htl',kto,ll,seen⟩;rw[ul,<-ol,CC_]at rg;nofun;show k D S ls H' ((s1.trans g1).trans sS) sH SD Sls lnd Dls hD' rg
abbrev EX_:Stmt:=stN 12
theorem aF_:ZL ["one","other","pair","rest"] ["one","other"] (EL_ EX_):=zL
theorem cx_:LK EX_ "LONG_BITS" .globalImplicit:=r_
theorem eg_:LK EX_ "max" .globalImplicit:=r_
theorem eh_:LK EX_ "min" .globalImplicit:=r_
def I5_:Sp:=λvs H Q _=>∃a b:Int,vs=[.int a,.int b]/\0<=a/\0<=b/\Builtin.Int.intBits a<=8000/\Builtin.Int.intBits b<=8000/\∀H',EM_ H H'->Q (.int (Int.gcd a b:Nat)) H'
theorem fs_(T:Txt K mg)(F:Fn0 K mg "greatest_divisor" EX_):Cal P w K mg base "greatest_divisor" ["one","other"] 1 I5_:=by
  show aZ_ F aF_.1 λf cdv A outer s H vs Q E hr h=>?_;obtain⟨a,b,rfl,ha,hb,la,lb,k⟩:=h;refine'⟨_,?D,?R⟩
  case D =>
   refine' ad_ (zas 2 aF_ (au_ ?a)) ?b
   case' a=>refine' pa_c (aj_ (mE_ rfl) eg_ T.n_max q6_ (pa_c (zv 0 aF_) (pa_c (zv 1 aF_) aa_))) (pa_c (aj_ (mF_ rfl) eh_ T.n_min q7_ (pa_c (zv 0 aF_) (pa_c (zv 1 aF_) aa_))) aa_)
   case' b=>refine' ad_ (dQ_ AS_ (aE_ HO_ (jn_ PySem.F.plainAttrs_int PySem.F.slot_int_bit_length PySem.F.type_int_bit_length pV_ (ES_ ao_ (zv 2 aF_) ac_)) ?c (E5_ _)) ?d) (ad_ (zas 0 aF_ (ES_ ao_ (zv 2 aF_) ac_)) ?e)
   case c=>show mT_ T.c_LONG_BITS cx_
   case d=>show mt_
   case' e=>refine' ad_ (zas 1 aF_ (ES_ ao_ (zv 2 aF_) ac_)) (ad_ (dQ_ AS_ (aE_ Hq_ (zv 1 aF_) ac_ (E5_ _)) ?f) (ag_ (aB_ (zv 0 aF_))))
   case' f=>refine' ad_ (zas 3 aF_ (EO_ aL_ (zv 0 aF_) (zv 1 aF_))) (ad_ (zas 0 aF_ (zv 1 aF_)) (ag_ (zas 1 aF_ (zv 3 aF_))))
  case R =>
   nofun;show⟨d_,λp hp=>?_⟩;show fa_ (λσ H1=>σ=[some (.int a),some (.int b),some (.ref p),none]/\H1=upd H p (.tup [V.int (if b > a then b else a),V.int (if b<a then b else a)])) (λ_ _=>0) ⟨rfl,rfl⟩ ?_;rintro σ H1 ⟨rfl,rfl⟩;nofun;have hm:¬ (8000:Int)<(Builtin.Int.intBits (if b<a then b else a):Nat):=by split <;> lia
   rw[if_neg hm]
   show fa_ (λσ H1=>∃(x y:Int)(z:Option V),σ=[some (.int x),some (.int y),some (.ref p),z]/\H1=upd H p (.tup [V.int (if b > a then b else a),V.int (if b<a then b else a)])/\0<=x/\0<=y/\Int.gcd x y=Int.gcd a b)
    (λσ _=>match σ with | [_,some (.int y),_,_]=>y.toNat|_=>0) ?_ ?_
   .show⟨_,_,_,rfl,rfl,?_,?_,?_⟩
    .split <;> lia
    .split <;> lia
    .by_cases h:b<a
     .rw[if_pos h,if_neg o_]
     .rw[if_neg h];by_cases h':b > a
      .rw[if_pos h',Int.gcd_comm]
      .rw[if_neg h',Int.gcd_comm];congr 1 <;> lia
   .rintro σ H1 ⟨x,y,z,rfl,rfl,hx,hy,e⟩;nofun;show ite2 (λhne=>?_) (λhe=>?_)
    .show⟨_,N_ok,?_⟩;nofun;have h0:0<y:=o_
     have h1:=AV_ x hne;have h2:=AT_ x h0;show⟨h0,hy,h1,(lA_ hx h0).trans e,o_⟩
    .have hy0:y=0:=DU_.mp he;have:x=(Int.gcd a b:Nat):=by rw[<-e,hy0,Int.gcd_zero_right];lia
     rw[this];show k _ (EM_.new hp)
abbrev FC_:Stmt:=stN 13
theorem kS_:ZL ["thing"] ["thing"] (EL_ FC_):=zL
theorem g2_:LK FC_ "bool" .globalImplicit:=r_
theorem h2_:LK FC_ "int" .globalImplicit:=r_
theorem b4_:LK FC_ "isinstance" .globalImplicit:=r_
def HI_:Sp:=λvs H Q _=>∃i:Int,vs=[.int i]/\∀H',EM_ H H'->Q (.bl true) H'
theorem kT_(T:Txt K mg)(F:Fn0 K mg "is_whole" FC_):Cal P w K mg base "is_whole" ["thing"] 1 HI_:=by
  show aZ_ F kS_.1 λf cdv A outer s H vs Q E hr h=>?_;obtain⟨x,rfl,k⟩:=h;refine'⟨_,?D,?R⟩
  case D =>
   refine' ag_ (aB_ (k2_ (aj_ ix_ b4_ T.n_isinstance bA_ (pa_c (zv 0 kS_) (pa_c ?a aa_))) ?b))
   case a=>show mU_ h2_ T.n_int k8_
   case' b=>refine' ms_ (qU_ (aj_ ix_ b4_ T.n_isinstance bA_ (pa_c (zv 0 kS_) (pa_c ?c aa_))))
   case c=>show mU_ g2_ T.n_bool pX_
  case R =>nofun;show⟨"int",rfl,?_⟩;rw[if_pos d_];show⟨"int",rfl,k H (EM_.refl H)⟩
abbrev Fj_:Stmt:=stN 14
theorem ft_:ZL ["thing","top","bottom"] ["thing"] (EL_ Fj_):=zL
theorem cI_:LK Fj_ "greatest_divisor" .globalImplicit:=r_
theorem cy_:LK Fj_ "is_whole" .globalImplicit:=r_
theorem ep_:LK Fj_ "isinstance" .globalImplicit:=r_
theorem h3_:LK Fj_ "len" .globalImplicit:=r_
theorem gu_:LK Fj_ "tuple" .globalImplicit:=r_
def OV(H:Hp)(v:V):Option (Int×Int)->Prop
 |none=>v=.non
 |some x=>∃p,v=.ref p/\H p=some (.tup [.int x.1,.int x.2])
def Bd2(x:Int×Int):Prop:=x.1.natAbs<10 ^ 64/\x.2.natAbs<10 ^ 64
def isW(x:Int×Int):Bool:=decide (0<x.1) && decide (0<x.2) && decide (Int.gcd x.1 x.2=1)
theorem j6_{z:Int}(h:z.natAbs<10 ^ 64):Builtin.Int.intBits z<=8000:=Cc_ (b:=10 ^ 64) o_ r_
def Jc_:Sp:=λvs H Q _=>∃(v:V)(o:Option (Int×Int)),vs=[v]/\OV H v o/\(∀x,o=some x->Bd2 x)/\∀H',EM_ H H'->Q (.bl (o.any isW)) H'
theorem kU_(T:Txt K mg)(F:Fn0 K mg "is_worth" Fj_) (GP_:Cal P w K mg base "is_whole" ["thing"] 1 HI_) (Ga_:Cal P w K mg base "greatest_divisor" ["one","other"] 1 I5_):Cal P w K mg base "is_worth" ["thing"] 2 Jc_:=by
  show aZ_ F ft_.1 λf cdv A outer s H vs Q E hr h=>?_;obtain⟨v,o,rfl,hv,bd,k⟩:=h;refine'⟨_,?D,?R⟩
  case D =>
   refine' ad_ (Ft_ ?a (ag_ (aB_ Gy_)) aJ_) ?b
   case' a=>refine' PW.pt (KA_ ?c (o4_ (aE_ Hq_ (aj_ aq_ h3_ T.n_len aK_ (pa_c (zv 0 ft_) aa_)) ac_ (E5_ _))))
   case' c=>refine' gI_ (gH_ (aj_ ix_ ep_ T.n_isinstance bA_ (pa_c (zv 0 ft_) (pa_c ?d aa_))))
   case d=>show mU_ gu_ T.n_tuple ob_
   case' b=>refine' ad_ (zas 1 ft_ (ES_ ao_ (zv 0 ft_) ac_)) (ad_ (zas 2 ft_ (ES_ ao_ (zv 0 ft_) ac_)) ?e)
   case' e=>refine' ad_ (Ft_ ?f (ag_ (aB_ Gy_)) aJ_) (ag_ (aB_ (k2_ (cM_ HO_ (zv 1 ft_) ac_ (E5_ _)) ?g)))
   case' f=>refine' PW.pt (KA_ (gI_ (gH_ (an_ GP_ (hr.mono d_) cy_ (pa_c (zv 1 ft_) aa_)))) ?h)
   case' h=>refine' o4_ (gI_ (gH_ (an_ GP_ (hr.mono d_) cy_ (pa_c (zv 2 ft_) aa_))))
   case' g=>refine' k2_ (cM_ HO_ (zv 2 ft_) ac_ (E5_ _)) (ms_ (cM_ Gh_ (an_ Ga_ (hr.mono d_) cI_ (pa_c (zv 1 ft_) (pa_c (zv 2 ft_) aa_))) ac_ (E5_ _)))
  case R =>
   nofun;cases o with
   |none =>
    cases hv;show⟨_,rfl,?_⟩;rw[if_pos d_];show k _ (EM_.refl _)
   |some x =>
    obtain⟨p,rfl,hp⟩:=hv;obtain⟨b1,b2⟩:=bd x rfl;show⟨"tuple",by simp[HK_,hp],?_⟩;rw[if_neg d_];show⟨_,rfl,_,.inr hp,?_⟩;rw[if_neg s_];show⟨_,rfl,_,hp,_,FL_,_,rfl,_,hp,_,FX_,_,rfl,λH1 e1=>⟨true,rfl,?_⟩⟩;rw[if_neg d_];show⟨_,rfl,λH2 e2=>⟨true,rfl,?_⟩⟩;rw[if_neg d_];show⟨_,rfl,?_⟩;have eW:(some x).any isW=isW x:=rfl;rw[eW]at k;unfold isW at k;show ite2 (λh1=>?_) (λh1=>?_)
    .show⟨_,rfl,ite2 (λh2=>?_) (λh2=>?_)⟩
     .show⟨x.1,x.2,rfl,o_,o_,j6_ b1,j6_ b2,λH3 e3=>⟨rfl,?_⟩⟩
      have e:decide (V.int ((Int.gcd x.1 x.2:Nat):Int)=V.int 1)=decide (Int.gcd x.1 x.2=1):=by
       show decide_eq_decide.mpr ⟨λz=>?_,λz=>by rw[z];rfl⟩;injection z with z
       lia
      rw[e];have:=k H3 ((e1.trans e2).trans e3);rw[AG_ (show 0<x.1 from h1),AG_ (show 0<x.2 from h2)]at this;show this
     .have:=k H2 (e1.trans e2);rw[AI_ (show ¬ 0<x.2 from h2),Bool.and_false]at this;show this
    .have:=k H2 (e1.trans e2);rw[AI_ (show ¬ 0<x.1 from h1)]at this;show this
theorem rz_:∀c∈List.range 128,(!(Builtin.Str.occurrences (Str.ofString "abcdefghijklmnopqrstuvwxyz0123456789") ⟨#[c]⟩ 0 (Str.ofString "abcdefghijklmnopqrstuvwxyz0123456789").length 1).isEmpty)=sgs.contains c:=r_
def Wd(x:Str):Prop:=x.length<=30/\∀c∈x.cps.toList,c<128
def Jy_(x:Str):Bool:=decide (1<=x.length) && decide (x.length<=8) && x.cps.toList.all λc=>sgs.contains c
theorem nK_(p:Nat->Bool):((List.range x.cps.size).map λj=>p (x.cps.getD j 0)).all id=x.cps.toList.all p:=by
 have e:(List.range x.cps.size).map (λj=>p (x.cps.getD j 0))=x.cps.toList.map p:=by
  apply Cj_
  .simp
  .intro i h1 h2;simp at h1;simp[h1,Array.getD]
 rw[e,List.all_map];rfl
theorem qB_(h:Wd x):(x.cps.all λc=>decide (c<128))=true:=Array.all_eq_true.mpr λi hi=>AG_ (h.2 _ (by rw[Array.mem_toList_iff];show Array.getElem_mem hi))
theorem oP_{j c:Nat}(h:x.cps[j]?=some c):x.cps.getD j 0=c:=by obtain⟨hj,e⟩:=Array.getElem?_eq_some_iff.mp h;rw[Array.getD,dif_pos hj];show e
abbrev FG_:Stmt:=stN 18
theorem mj_:ZL ["text"] ["text"] (EL_ FG_):=zL
theorem ei_:LK FG_ "LONGEST_NAME" .globalImplicit:=r_
theorem h6_:LK FG_ "all" .globalImplicit:=r_
theorem h7_:LK FG_ "len" .globalImplicit:=r_
def Jh_:Sp:=λvs H Q _=>∃(x:Str),vs=[.str x]/\Wd x/\∀H',EM_ H H'->Q (.bl (Jy_ x)) H'
theorem mk_(T:Txt K mg)(F:Fn0 K mg "is_name" FG_):Cal P w K mg base "is_name" ["text"] 1 Jh_:=by
  show aZ_ F mj_.1 λf cdv A outer s H vs Q E hr h=>?_;obtain⟨x,rfl,ok,k⟩:=h;have l30:=ok.1;refine'⟨_,?D,?R⟩
  case D =>
   refine' ad_ (Ft_ (gI_ (n1_ Kx_ Kx_ ac_ (aj_ jl_ h7_ T.n_len aK_ (pa_c (zv 0 mj_) aa_)) ?a)) (ag_ (aB_ Gy_)) aJ_) ?b
   case a=>show mT_ T.c_LONGEST_NAME ei_
   case' b=>refine' ag_ (aB_ (aj_ (ey_ rfl) h6_ T.n_all jq_ (pa_c (bb_ (N':=["sign"]) (ix:=[none]) rfl rfl (bG_ ?c) (ox_ (zv 0 mj_)) (λ_ _ _=>?d) (λ_ _ _=>?e) (λ_ _ _=>(cM_ mD_ (pv1 0 rfl rfl) ?f (by with_unfolding_all rfl)))) aa_)))
   case c=>show(by change Gr_ (EL_ FG_) ["text"] _ _ _=true;decide +kernel)
   case d=>show ai_ (i:=0) (by change List.Nodup (["sign"]:List Str);decide +kernel) rfl rfl
   case e=>show bU_
   case f=>show qf_ T.c_NAME_SIGNS rfl
  case R =>
   nofun;have sz:x.length<=sizeLine:=AO_ (EN_ o_);show⟨sz,?_⟩;unfold Jy_ at k;show ite2 (λh1=>?_) (λh1=>?_)
   .show ite2 (λh2=>?_) (λh2=>?_)
    .have:=k H (EM_.refl _);rw[AI_ (show ¬ x.length<=8 by lia),Bool.and_false,Bool.false_and]at this;show this
    .rw[AG_ (show 1<=x.length by lia),AG_ (show x.length<=8 by lia),Bool.and_self,Bool.true_and]at k;show⟨qB_ ok,?_⟩;have nz:x.cps.size<=30:=l30;show cA_ (n:=x.cps.size) (Pσ:=λσ=>∃e,σ=[e]) (bs:=λ_=>true) (val:=λj=>.bl (sgs.contains (x.cps.getD j 0))) ⟨_,rfl⟩ o_ (λj Hj hj sj=>hj) (λHj sj=>Ah_ _) ?_ ?_
     .rintro Dc j y σ' H1 H1' hDc hDo hs1 hj ⟨rfl,c,hc,rfl⟩ ⟨e,rfl⟩ Y R kY kR;nofun;have hlow:c∈List.range 128:=AJ_.mpr (ok.2 c (by rw[Array.mem_toList_iff];show Array.mem_of_getElem? hc));rw[rz_ c hlow];have:=kY rfl;rw[oP_ hc]at this;show this _ _ ⟨_,rfl⟩ (EM_.refl _)
     .intro D H1 hD s1 hDv;have e:((List.range x.cps.size).filter λ_=>true).map (λj=>V.bl (sgs.contains (x.cps.getD j 0)))=((List.range x.cps.size).map λj=>sgs.contains (x.cps.getD j 0)).map V.bl:=by rw[List.filter_eq_self.mpr λ_ _=>rfl,AZ_];rfl
      rw[e]at hDv;show⟨D,rfl,_,hDv,?_⟩;rw[nK_ (λc=>sgs.contains c)];show k H1 s1
   .have:=k H (EM_.refl _);rw[AI_ (show ¬ 1<=x.length by lia)]at this;show this
variable {CN CL CP CR:Addr}
variable{C:Addr}
theorem kV_(hg:Gl X x)(hm:X.mg x=some (.ref C))(hd:(x == ("__debug__" : Str))=false:=by decide):PE X (.Name x pos) (tC (.ref C)):=kk_ (v:=.ref C) hg hm rfl hd
structure Exs(K:PySem.W.Frag)(mg:Str->Option Value)(CL CP CN CR:Addr):Prop where
 m_Loose:mg "Loose"=some (.ref CL)
 m_NoPlane:mg "NoPlane"=some (.ref CP)
 m_NoNet:mg "NoNet"=some (.ref CN)
 m_RimError:mg "RimError"=some (.ref CR)
 own_Loose:ExC K CL
 own_NoPlane:ExC K CP
 own_NoNet:ExC K CN
 hnd_RimError:HnC K CR
structure I7_(N:Net Str):Prop where
 b:Jw_ N
 ps:∀x∈N.posts,Wd x
 rs:∀r∈N.rows,Wd r.1/\∀x∈r.2,Wd x
 ws:∀q∈N.worths,Bd2 q.2
 p0:0<N.posts.length
 p6:N.posts.Nodup->N.posts.length<=6
def GC_(N:Net Str):List Str:=(E8_ N).map Prod.fst
theorem f3_(N:Net Str)(x:Str):x∈GC_ N↔∃r∈N.rows,x∈r.2:=by
 obtain⟨_,_,h3,h4⟩:=aU_ _ (occ N.rows) rfl;have hf:=fd_ N.rows
 have hm:x∈(occ N.rows).map (·.1)↔∃r∈N.rows,x∈r.2:=by
  rw[hf,AX_];constructor
  .rintro⟨l,hl,hx⟩;obtain⟨r,hr,rfl⟩:=Ai_.mp hl;show⟨r,hr,hx⟩
  .rintro⟨r,hr,hx⟩;show⟨_,Ai_.mpr ⟨r,hr,rfl⟩,hx⟩
 rw[<-hm,Ai_];unfold GC_;rw[Ai_];constructor
 .rintro⟨kv,hkv,rfl⟩;show h4 kv hkv
 .rintro⟨y,hy,rfl⟩;show h3 y hy
theorem gv_:∀{acc:List (Str×List (End Str))}{ls:List Addr},ls.length=acc.length->(FK_ acc ls).map (λq=>q.1)=(acc.map Prod.fst).map λn=>(Sum.inr n:Key)
 |[],_,_=>by unfold FK_;rw[List.zipWith_nil_left];rfl
 |a::acc,[],h=>nomatch h
 |a::acc,l::ls,h=>by change Sum.inr a.1::(FK_ acc ls).map _=Sum.inr a.1::_;rw[gv_ (acc:=acc) (ls:=ls) (by simpa using h)]
theorem oQ_(r:List Str):dep (Dt.lst (r.map Dt.str))<=60:=A7_ (B2_ (gr_ (f:=Dt.str) (n:=1) (λa=>by simp[dep]) r)) d_
theorem oR_:∀a b:List Str,deq (.lst (a.map Dt.str)) (.lst (b.map Dt.str))=some (decide (a=b)):=λa b=>by
 rw[deq,Ab_,Ab_];by_cases hl:a.length=b.length
 .rw[if_pos hl]
  induction a generalizing b with
  |nil=>rw[A2_ hl.symm];rfl
  |cons x a ih =>
   cases b with
   |nil=>cases hl
   |cons y b =>rw[Az_,Az_,deqs,deq,ih b (C8_ hl)];by_cases h1:x=y <;> by_cases h2:a=b <;> simp[h1,h2]
 .rw[if_neg hl,AI_ λz=>hl (by rw[z])]
theorem lG_(n:Nat)(f:Nat->Bool):((List.range n).filter λ_=>true).map (λi=>V.bl (f i))=((List.range n).map f).map V.bl:=by rw[List.filter_eq_self.mpr λ_ _=>rfl,AZ_];rfl
theorem hi_{α:Type}(d:α)(l:List α)(f:α->Bool):((List.range l.length).map λi=>f (l.getD i d)).all id=l.all f:=by
 have e:(List.range l.length).map (λi=>f (l.getD i d))=l.map f:=by
  conv=>rhs;rw[<-cK_ d l]
  rw[AZ_];rfl
 rw[e,List.all_map];rfl
def cN(N:Net Str):Bool:=(N.posts++N.rows.map (·.1)++GC_ N).all Jy_
def cW(N:Net Str):Bool:=(E8_ N).all λkv=>decide (kv.2.length=2)
def cP(N:Net Str):Bool:=decide ((N.rows.map (·.1)).Nodup) && (decide N.posts.Nodup && N.posts.all λx=>decide (x∈N.rows.map (·.1)))
noncomputable def cO1(N:Net Str):Bool:=@decide ((N.worths.map (·.1)).Perm (GC_ N)/\(N.worths.map (·.1)).Pairwise sLe) (Classical.propDecidable _)
theorem kW_(N:Net Str):cO1 N=true↔(N.worths.map (·.1)).Perm (GC_ N)/\(N.worths.map (·.1)).Pairwise sLe:=by unfold cO1;show@BM_ _ (Classical.propDecidable _)
noncomputable def cO(N:Net Str):Bool:=cO1 N && N.worths.all λq=>isW q.2
def I8_(c:Net Str->Bool)(CN:Addr):Sp:=λvs H Q E=>∃(v:V)(N:Net Str),vs=[v]/\Rep H v (GJ_ N)/\I7_ N/\(c N=true->∀H',EM_ H H'->Q .non H')/\(c N=false->∀H',EM_ H H'->E (.ref CN) none H')
theorem Ir_{b:Bool}{A B:Prop}(h1:b=true->B)(h2:b=false->A):if b=false then A else B:=by
 cases b with
 |true=>rw[if_neg d_];show h1 rfl
 |false=>rw[if_pos rfl];show h2 rfl
theorem nL_:∀(n:Nat)(l:List Str),l.length=n->(dc l=l.length↔l.Nodup)
 |0,l,e=>by rw[A2_ e];show⟨λ_=>Bf_,λ_=>rfl⟩
 |n+1,l,e=>by
  have ne:l≠[]:=λz=>by rw[z]at e;cases e
  obtain⟨m,t,rfl⟩:∃m t,l=m++[t]:=⟨_,_,(BA_ ne).symm⟩;rw[Ae_,AL_]at e⊢;have ih:=nL_ n m o_;have le:=Kp_ m;rw[nl_,AA_];by_cases hm:t∈m
  .have:inT m (.inr t)=true:=BJ_.mpr ⟨t,hm,s_⟩;rw[if_pos this];show⟨λz=>o_,λz=>absurd rfl (z.2.2 t hm t s_)⟩
  .rw[if_neg (by rw[rk_ hm];decide)];constructor
   .intro z;show⟨ih.mp o_,s_,λa ha b hb q=>hm ?_⟩;rw[<-Ad_.mp hb,<-q];show ha
   .intro z;have:=ih.mpr z.1;lia
abbrev FS_:Stmt:=stN 29
theorem j7_:ZL ["net"] ["net"] (EL_ FS_):=zL
def Gw_:Sp:=λvs H Q _=>∃(v:V)(N:Net Str),vs=[v]/\Rep H v (GJ_ N)/\Jw_ N/\∀D H',EM_ H H'->H' D=some (.lst ((N.rows.map (·.1)).map V.str))->H D=none->Q (.ref D) H'
theorem j8_(T:Txt K mg)(F:Fn0 K mg "points_of" FS_):Cal P w K mg base "points_of" ["net"] 1 Gw_:=by
  show aZ_ F j7_.1 λf cdv A outer s H vs Q E hr h=>?_;obtain⟨v,N,rfl,hv,ok,k⟩:=h;obtain⟨pn,p0,p1,p2,rs,ws,rfl,hn,h0,h1,r1,h2,r2⟩:=dr_ hv;have rl:rs.length=N.rows.length:=by rw[r1.length,Ab_]
  have rfw:=ok.few;refine'⟨_,?D,?R⟩
  case D =>
   refine' ag_ (aB_ (bb_ (N':=["point","wires"]) (ix:=[none,none]) rfl rfl (bG_ ?a) (aS_ (K:=K) rfl (ES_ ao_ (zv 0 j7_) ac_)) (λ_ _ _=>(br_ (K:=K) (n:=2) rfl rfl (ar_ ?b (ar_ ?c bp_)))) (λ_ _ _=>?d) (λ_ _ _=>(pv1 0 rfl rfl))))
   case a=>show(by change Gr_ (EL_ FS_) ["net"] _ _ _=true;decide +kernel)
   case b=>show ai_ (i:=0) (by change List.Nodup (["point","wires"]:List Str);decide +kernel) rfl rfl
   case c=>show ai_ (i:=1) (by change List.Nodup (["point","wires"]:List Str);decide +kernel) rfl rfl
   case d=>show bU_
  case R =>
   nofun;show⟨_,hn,_,FX_,p1,rfl,⟨_,.inl (.inl h1)⟩,?_⟩;show cA_ (n:=N.rows.length) (Pσ:=λσ=>∃e e',σ=[e,e']) (bs:=λ_=>true) (val:=λi=>V.str (FA_ N i).1) ⟨_,_,rfl⟩ o_ (λi H' hi s'=>⟨rs,rs[i]'o_,.inl (.inl (s' _ _ h1)),Aa_ _⟩) (λH' s'=>⟨rs,.inl (.inl (s' _ _ h1)),o_⟩) ?_ ?_
   .rintro D i x σ' H2 H2' hD hDo hs2 hi ⟨rfl,hy⟩ ⟨e,e',rfl⟩ Y R kY kR;have hx:=hy _ (.inl (.inl (hs2 _ _ h1)));obtain⟨r,q,l,hr1,rfl,hq,hl⟩:=ed_ r1 hx;have er:r=FA_ N i:=by rw[eJ_ hi]at hr1;show(At_ hr1).symm
    subst er;nofun;show⟨_,SqT.of (hs2 _ _ hq),rfl,_,_,rfl,_,_,rfl,rfl,kY rfl _ _ ⟨_,_,rfl⟩ (EM_.refl _)⟩
   .intro D H2 hD s2 hDv;have eL:((List.range N.rows.length).filter λ_=>true).map (λi=>V.str (FA_ N i).1)=(N.rows.map (·.1)).map V.str:=by have:=nG_ (Str.empty,[]) (λ_:Str×List Str=>true) (λr=>V.str r.1) N.rows;rw[AZ_];rw[show N.rows.filter (λ_=>true)=N.rows from List.filter_eq_self.mpr λ_ _=>rfl]at this;show this
    rw[eL]at hDv;show k D H2 s2 hDv hD
abbrev Fg_:Stmt:=stN 30
theorem j9_:ZL ["net"] ["net"] (EL_ Fg_):=zL
theorem f4_:LK Fg_ "NoNet" .globalImplicit:=r_
theorem g3_:LK Fg_ "all" .globalImplicit:=r_
theorem dv_:LK Fg_ "ends_by_wire" .globalImplicit:=r_
theorem gw_:LK Fg_ "list" .globalImplicit:=r_
theorem eq_:LK Fg_ "points_of" .globalImplicit:=r_
theorem ka_(T:Txt K mg)(EX:Exs K mg CL CP CN CR)(F:Fn0 K mg "vet_names" Fg_) (F6_:Cal P w K mg base "points_of" ["net"] 1 Gw_) (Fh_:Cal P w K mg base "ends_by_wire" ["net"] 1 Gu_) (Ix_:Cal P w K mg base "is_name" ["text"] 1 Jh_):HX_ P w K mg base "vet_names" ["net"] 2 (I8_ cN CN):=by
 show hA_ F j9_.1 (λ_ _ _ _ _ _=>byL1 λ_=>rfl) ?len ?body
 case len=>rintro vs H Q E ⟨a,b,rfl,_⟩;rfl
 case body =>
  intro f cdv A outer s H vs Q E hr h;obtain⟨v,N,rfl,hv,ok,k,kE⟩:=h;obtain⟨pn,p0,p1,p2,rs,ws,rfl,hn,h0,h1,r1,h2,r2⟩:=dr_ hv;refine'⟨_,?D,?R⟩
  case D =>
   refine' ag_ (Ft_ ?a (ag_ (cz_ EX.own_NoNet EX.m_NoNet hr.hd f4_ (pa_c bm_ aa_))) aJ_)
   case' a=>refine' fI_ (gI_ (gH_ (aj_ (ey_ rfl) g3_ T.n_all jq_ (pa_c (bb_ (N':=["name"]) (ix:=[none]) rfl rfl (bG_ ?b) ?c (λ_ _ _=>?d) (λ_ _ _=>?e) (λ_ _ _=>(an_ Ix_ (hr.mono d_) rfl (pa_c (pv1 0 rfl rfl) aa_)))) aa_))))
   case b=>show(by change Gr_ (EL_ Fg_) ["net"] _ _ _=true;decide +kernel)
   case' c=>refine' aS_ (K:=K) rfl (EO_ e5_ (EO_ e5_ (ES_ ao_ (zv 0 j9_) ac_) (an_ F6_ (hr.mono d_) eq_ (pa_c (zv 0 j9_) aa_))) ?f)
   case' f=>refine' a0_ (kA_ rfl) gw_ T.n_list dR_ (pa_c (an_ Fh_ (hr.mono d_) dv_ (pa_c (zv 0 j9_) aa_)) aa_)
   case d=>show ai_ (i:=0) (by change List.Nodup (["name"]:List Str);decide +kernel) rfl rfl
   case e=>show bU_
  case R =>
   nofun;have few:=ok.b.few;have pl6:=ok.b.pl;have ef:(E8_ N).length<=30:=fY_ ok.b _ [] (A6_ _);show⟨_,hn,_,FL_,_,N,rfl,hv,ok.b,λDp H1 s1 hDp nDp=>?_⟩;show⟨p0,rfl,Dp,rfl,_,s1 _ _ h0,_,hDp,AO_ (EN_ (by simp only[Ab_];lia)),λc1 n1=>?_⟩;rw[<-Ar_];have s2:EM_ H1 (upd H1 c1 (HO.lst ((N.posts++N.rows.map (·.1)).map V.str))):=EM_.new n1;have hc1:=ab_ (H:=H1) (a:=c1) (o:=HO.lst ((N.posts++N.rows.map (·.1)).map V.str));generalize upd H1 c1 (HO.lst ((N.posts++N.rows.map (·.1)).map V.str))=H2 at*;show⟨_,N,rfl,Rep.mono (s1.trans s2) _ hv,ok.b,λd S ls H3 sS de nd=>?_⟩;show⟨d,_,_,rfl,de.dict,gv_ de.len,by rw[Ab_];lia,λl nl=>?_⟩;have s4:EM_ H3 (upd H3 l (HO.lst (((E8_ N).map Prod.fst).map V.str))):=EM_.new nl;have hl:=ab_ (H:=H3) (a:=l) (o:=HO.lst (((E8_ N).map Prod.fst).map V.str));generalize upd H3 l (HO.lst (((E8_ N).map Prod.fst).map V.str))=H4 at*;have s24:=(sS.trans de.sH).trans s4;show⟨l,rfl,_,s24 _ _ hc1,_,hl,AO_ (EN_ (by simp only[Ab_,Ae_];lia)),λc2 n2=>?_⟩;rw[<-Ar_]
   have hall:∀x∈N.posts++N.rows.map (·.1)++(E8_ N).map Prod.fst,Wd x:=λx hx=>by
    rcases Ao_.mp hx with hx|hx
    .rcases Ao_.mp hx with hx|hx
     .show ok.ps x hx
     .obtain⟨r,hr',rfl⟩:=Ai_.mp hx;show(ok.rs r hr').1
    .obtain⟨r,hr',hx'⟩:=(f3_ N x).mp hx;show(ok.rs r hr').2 x hx'
   have s5:EM_ H4 (upd H4 c2 (HO.lst ((N.posts++N.rows.map (·.1)++(E8_ N).map Prod.fst).map V.str))):=EM_.new n2;have hc2:=ab_ (H:=H4) (a:=c2) (o:=HO.lst ((N.posts++N.rows.map (·.1)++(E8_ N).map Prod.fst).map V.str));generalize upd H4 c2 (HO.lst ((N.posts++N.rows.map (·.1)++(E8_ N).map Prod.fst).map V.str))=H5 at*;have ll:(N.posts++N.rows.map (·.1)++(E8_ N).map Prod.fst).length<=200:=by simp only[Ab_,Ae_];lia
   have eN:cN N=(N.posts++N.rows.map (·.1)++(E8_ N).map Prod.fst).all Jy_:=rfl;rw[eN]at k kE;clear eN;generalize N.posts++N.rows.map (·.1)++(E8_ N).map Prod.fst=L at*;have s05:=((s1.trans s2).trans s24).trans s5;show⟨⟨_,.inl (.inl hc2)⟩,?_⟩;show cA_ (n:=L.length) (Pσ:=λσ=>∃e,σ=[e]) (bs:=λ_=>true) (val:=λj=>.bl (Jy_ (L.getD j Str.empty))) ⟨_,rfl⟩ o_ (λj Hj hj sj=>⟨_,.str (L.getD j Str.empty),.inl (.inl (sj _ _ hc2)),be_ hj⟩) (λHj sj=>⟨_,.inl (.inl (sj _ _ hc2)),s_⟩) ?_ ?_
   .rintro Dc j y σ' H6 H6' hDc hDo hs6 hj ⟨rfl,hy⟩ ⟨e,rfl⟩ Y R kY kR;have hx:=hy _ (.inl (.inl (hs6 _ _ hc2)));rw[be_ hj]at hx;cases hx;have hm:L.getD j Str.empty∈L:=by rw[Ac_,Aa_ hj];show A3_ hj
    nofun;show⟨_,rfl,hall _ hm,λH7 s7=>kY rfl _ _ ⟨_,rfl⟩ s7⟩
   .intro D H6 hD s6 hDv;rw[lG_]at hDv;show⟨D,rfl,_,hDv,?_⟩;rw[hi_];show Ir_ (λz=>k z H6 (s05.trans s6)) (λz=>⟨d_,kE z H6 (s05.trans s6)⟩)
abbrev E9_:Stmt:=stN 31
theorem f5_:ZM ["net","points"] ["net"] (EL_ E9_):=zM
theorem c4_:LK E9_ "points" .cell:=r_
theorem bQ_:LK E9_ "NoNet" .globalImplicit:=r_
theorem gx_:LK E9_ "all" .globalImplicit:=r_
theorem bE_:LK E9_ "len" .globalImplicit:=r_
theorem ej_:LK E9_ "points_of" .globalImplicit:=r_
theorem dN_:LK E9_ "set" .globalImplicit:=r_
theorem i4_(T:Txt K mg)(EX:Exs K mg CL CP CN CR)(F:Fn0 K mg "vet_points" E9_) (F6_:Cal P w K mg base "points_of" ["net"] 1 Gw_):HX_ P w K mg base "vet_points" ["net"] 2 (I8_ cP CN):=by
 show hA_ F f5_.1 (λ_ _ _ _ _ _=>byL1 λ_=>rfl) ?len ?body
 case len=>rintro vs H Q E ⟨a,b,rfl,_⟩;rfl
 case body =>
  intro f cdv A outer s H vs Q E hr h;obtain⟨v,N,rfl,hv,ok,k,kE⟩:=h;obtain⟨pn,p0,p1,p2,rs,ws,rfl,hn,h0,h1,r1,h2,r2⟩:=dr_ hv;have few:=ok.b.few;have pl6:=ok.b.pl;unfold cP at k kE;refine'⟨_,?D,?R⟩
  case D =>
   refine' ad_ (rd_ (hy_ (i:=1) f5_.nd rfl c4_ rfl (an_ F6_ (hr.mono d_) ej_ (pa_c (zw 0 f5_) aa_)) rfl)) ?a
   case' a=>refine' ad_ (Ft_ ?b (ag_ (cz_ EX.own_NoNet EX.m_NoNet hr.hd bQ_ (pa_c bm_ aa_))) aJ_) ?c
   case' b=>refine' fI_ (aE_ Hq_ (aj_ jN_ bE_ T.n_len aK_ (pa_c (a0_ (jO_ rfl) dN_ T.n_set pq_ (pa_c (zw 1 f5_) aa_)) aa_)) (aj_ aq_ bE_ T.n_len aK_ (pa_c (zw 1 f5_) aa_)) (E5_ _))
   case' c=>refine' ad_ (Ft_ ?d (ag_ (cz_ EX.own_NoNet EX.m_NoNet hr.hd bQ_ (pa_c bm_ aa_))) aJ_) ?e
   case' d=>refine' fI_ (aE_ Hq_ ?f (aj_ aq_ bE_ T.n_len aK_ (pa_c (ES_ ao_ (zw 0 f5_) ac_) aa_)) (E5_ _))
   case' f=>refine' aj_ jN_ bE_ T.n_len aK_ (pa_c (a0_ (jO_ rfl) dN_ T.n_set pq_ (pa_c (ES_ ao_ (zw 0 f5_) ac_) aa_)) aa_)
   case' e=>refine' ag_ (Ft_ (fI_ ?g) (ag_ (cz_ EX.own_NoNet EX.m_NoNet hr.hd bQ_ (pa_c bm_ aa_))) aJ_)
   case' g=>refine' gI_ (gH_ (aj_ (ey_ rfl) gx_ T.n_all jq_ (pa_c (bb_ (N':=["post","points"]) (ix:=[none,some 1]) rfl rfl (bG_ ?h) (aS_ (K:=K) rfl (ES_ ao_ (zw 0 f5_) ac_)) (λ_ _ _=>?i) (λ_ _ _=>?j) (λ_ _ _=>(cM_ (pz_ (K:=K) rfl) (pv1 0 rfl rfl) (pvc 1 rfl rfl) (by with_unfolding_all rfl)))) aa_)))
   case h=>show(by change Gr_ (EL_ E9_) ["net","points"] _ _ _=true;decide +kernel)
   case i=>show ai_ (i:=0) (by change List.Nodup (["post","points"]:List Str);decide +kernel) rfl rfl
   case j=>show bU_
  case R =>
   nofun;show⟨_,N,rfl,hv,ok.b,λDp H1 s1 hDp nDp=>?_⟩;show⟨_,rfl,_,hDp,by rw[Ab_];lia,λa na=>?_⟩;have s2:EM_ H1 (upd H1 a (SzO a (dc (N.rows.map (·.1))))):=EM_.new na;have ha:=ab_ (H:=H1) (a:=a) (o:=SzO a (dc (N.rows.map (·.1))));generalize upd H1 a (SzO a (dc (N.rows.map (·.1))))=H2 at*;show⟨_,rfl,_,rfl,_,.inl (s2 _ _ hDp),?_⟩;have s02:=s1.trans s2;have d1:=nL_ _ (N.rows.map (·.1)) rfl;rw[Ab_]at d1;rw[Ab_];by_cases c1:(N.rows.map (·.1)).Nodup
   case neg =>rw[AI_ c1,Bool.false_and]at kE;have d2:dc (N.rows.map (·.1))≠N.rows.length:=λz=>c1 (d1.mp z);show ite2 (λ_=>⟨d_,kE rfl _ s02⟩) λz=>absurd (show ¬ ((dc (N.rows.map (·.1)):Int)=((N.rows.map (·.1)).length:Int)) by rw[Ab_];lia) z
   case pos =>
    rw[AG_ c1,Bool.true_and]at k kE;have d2:=d1.mpr c1;rw[if_neg (by rw[Ab_,d2];simp)];show⟨_,s02 _ _ hn,_,FL_,p0,rfl,N.posts,s02 _ _ h0,o_,λb nb=>?_⟩;have s3:EM_ H2 (upd H2 b (SzO b (dc N.posts))):=EM_.new nb;have hb:=ab_ (H:=H2) (a:=b) (o:=SzO b (dc N.posts));generalize upd H2 b (SzO b (dc N.posts))=H3 at*;have s03:=s02.trans s3;show⟨_,rfl,_,s03 _ _ hn,_,FL_,p0,rfl,_,.inl (s03 _ _ h0),?_⟩;have e1:=nL_ _ N.posts rfl;by_cases c2:N.posts.Nodup
    case neg =>rw[AI_ c2,Bool.false_and]at kE;have e2:dc N.posts≠N.posts.length:=λz=>c2 (e1.mp z);show ite2 (λ_=>⟨d_,kE rfl _ s03⟩) λz=>absurd (show ¬ ((dc N.posts:Int)=((N.posts.map V.str).length:Int)) by rw[Ab_];lia) z
    case pos =>
     rw[AG_ c2,Bool.true_and]at k kE;have e2:=e1.mpr c2;rw[if_neg (by rw[Ab_,e2];simp)];have h03:=s03 _ _ h0;have hDp3:=(s2.trans s3) _ _ hDp;show⟨_,s03 _ _ hn,_,FL_,p0,rfl,⟨_,.inl (.inl h03)⟩,?_⟩;show cA_ (n:=N.posts.length) (Pσ:=λσ=>∃e,σ=[e,some (.ref Dp)]) (bs:=λ_=>true) (val:=λj=>.bl (decide (N.posts.getD j Str.empty∈N.rows.map (·.1)))) ⟨_,rfl⟩ o_ (λj Hj hj sj=>⟨_,.str (N.posts.getD j Str.empty),.inl (.inl (sj _ _ h03)),be_ hj⟩) (λHj sj=>⟨_,.inl (.inl (sj _ _ h03)),s_⟩) ?_ ?_
     .rintro Dc j y σ' H6 H6' hDc hDo hs6 hj ⟨rfl,hy⟩ ⟨e,rfl⟩ Y R kY kR;have hx:=hy _ (.inl (.inl (hs6 _ _ h03)));rw[be_ hj]at hx;cases hx;nofun;show⟨_,.inl (.inl (.inl (hs6 _ _ hDp3))),rfl,lF_ _,?_⟩;rw[iZ_];show kY rfl _ _ ⟨_,rfl⟩ (EM_.refl _)
     .intro D H6 hD s6 hDv;rw[lG_]at hDv;show⟨D,rfl,_,hDv,?_⟩;rw[hi_ Str.empty N.posts λx=>decide (x∈N.rows.map (·.1))];show Ir_ (λz=>k z H6 (s03.trans s6)) (λz=>⟨d_,kE z H6 (s03.trans s6)⟩)
abbrev Fn_:Stmt:=stN 32
theorem kb_:ZL ["net"] ["net"] (EL_ Fn_):=zL
theorem f6_:LK Fn_ "NoNet" .globalImplicit:=r_
theorem g4_:LK Fn_ "all" .globalImplicit:=r_
theorem dw_:LK Fn_ "ends_by_wire" .globalImplicit:=r_
theorem kc_(T:Txt K mg)(EX:Exs K mg CL CP CN CR)(F:Fn0 K mg "vet_wires" Fn_) (Fh_:Cal P w K mg base "ends_by_wire" ["net"] 1 Gu_):HX_ P w K mg base "vet_wires" ["net"] 2 (I8_ cW CN):=by
 show hA_ F kb_.1 (λ_ _ _ _ _ _=>byL1 λ_=>rfl) ?len ?body
 case len=>rintro vs H Q E ⟨a,b,rfl,_⟩;rfl
 case body =>
  intro f cdv A outer s H vs Q E hr h;obtain⟨v,N,rfl,hv,ok,k,kE⟩:=h;refine'⟨_,?D,?R⟩
  case D =>
   refine' ag_ ?a
   case' a=>refine' Ft_ (fI_ (gI_ (gH_ (aj_ (ey_ rfl) g4_ T.n_all jq_ ?b)))) (ag_ (cz_ EX.own_NoNet EX.m_NoNet hr.hd f6_ (pa_c bm_ aa_))) aJ_
   case' b=>refine' pa_c (bb_ (N':=["ends"]) (ix:=[none]) rfl rfl (bG_ ?c) (li_ (an_ Fh_ (hr.mono d_) dw_ (pa_c (zv 0 kb_) aa_))) (λ_ _ _=>?d) (λ_ _ _=>?e) (λ_ _ _=>(cM_ Gh_ (aj_ aq_ rfl T.n_len aK_ (pa_c (pv1 0 rfl rfl) aa_)) ac_ (E5_ _)))) aa_
   case c=>show(by change Gr_ (EL_ Fn_) ["net"] _ _ _=true;decide +kernel)
   case d=>show ai_ (i:=0) (by change List.Nodup (["ends"]:List Str);decide +kernel) rfl rfl
   case e=>show bU_
  case R =>
   nofun;show⟨_,N,rfl,hv,ok.b,λd S ls H1 sS de nd=>?_⟩
   try nofun
   have ef:(E8_ N).length<=30:=fY_ ok.b _ [] (A6_ _);have es:=iq_ ok.b _ [] (A6_ _);have kl:=kP_ de.len;show⟨_,de.dict,λob=>?_⟩;have sH:EM_ H (upd H1 d (HO.frz ob (HO.dK (FK_ (E8_ N) ls)))):=sS.trans (aT_ de.sH de.fd);have hd:=ab_ (H:=H1) (a:=d) (o:=HO.frz ob (HO.dK (FK_ (E8_ N) ls)));have lst:∀(i:Nat)(l:Addr)(kv:Str×List (End Str)),ls[i]?=some l->(E8_ N)[i]?=some kv->∃vs:List V,(upd H1 d (HO.frz ob (HO.dK (FK_ (E8_ N) ls)))) l=some (.lst vs)/\vs.length=kv.2.length:=λi l kv h1 h2=>by obtain⟨vs,hvs,hr'⟩:=de.lst i l kv h1 h2;show⟨vs,by rw[af_ (show l≠d from λz=>de.dn (z▸Am_ h1))];show hvs,by rw[hr'.length,Ab_]⟩
   generalize upd H1 d (HO.frz ob (HO.dK (FK_ (E8_ N) ls)))=H2 at*;show cA_ (n:=(E8_ N).length) (Pσ:=λσ=>∃e,σ=[e]) (bs:=λ_=>true) (val:=λi=>.bl (decide (((E8_ N).getD i (Str.empty,[])).2.length=2))) ⟨_,rfl⟩ o_ ?_ ?_ ?_ ?_
   .show λi H' hi s'=>⟨s' _ _ hd,by rw[kl];show hi⟩
   .show λH' s'=>⟨s' _ _ hd,by rw[kl];show Ah_ _⟩
   .rintro Dc j y σ' H6 H6' hDc hDo hs6 hj ⟨rfl,key,hkv⟩ ⟨e,rfl⟩ Y R kY kR;obtain⟨kv,l,g1,g2,rfl,rfl⟩:=nD_ hkv;obtain⟨vs,hvs,vl⟩:=lst j l kv g2 g1;have eg:(E8_ N).getD j (Str.empty,[])=kv:=by rw[Ac_,g1];rfl
    rw[eg]at kY;nofun;show⟨vs,.inl (hs6 _ _ hvs),?_⟩;have e2:decide ((vs.length:Int)=2)=decide (kv.2.length=2):=decide_eq_decide.mpr ⟨λz=>o_,λz=>o_⟩;rw[e2];show kY rfl _ _ ⟨_,rfl⟩ (EM_.refl _)
   .intro D H6 hD s6 hDv;rw[lG_]at hDv;show⟨D,rfl,_,hDv,?_⟩;rw[hi_ (Str.empty,[]) (E8_ N) λkv=>decide (kv.2.length=2)];show Ir_ (λz=>k z H6 (sH.trans s6)) (λz=>⟨d_,kE z H6 (sH.trans s6)⟩)
abbrev Fd_:Stmt:=stN 33
theorem i5_:ZL ["net"] ["net"] (EL_ Fd_):=zL
theorem c6_:LK Fd_ "NoNet" .globalImplicit:=r_
theorem gy_:LK Fd_ "all" .globalImplicit:=r_
theorem dc_:LK Fd_ "ends_by_wire" .globalImplicit:=r_
theorem e4_:LK Fd_ "sorted" .globalImplicit:=r_
theorem i6_(T:Txt K mg)(EX:Exs K mg CL CP CN CR)(F:Fn0 K mg "vet_worths" Fd_) (Fh_:Cal P w K mg base "ends_by_wire" ["net"] 1 Gu_) (HS_:Cal P w K mg base "is_worth" ["thing"] 2 Jc_):HX_ P w K mg base "vet_worths" ["net"] 3 (I8_ cO CN):=by
 show hA_ F i5_.1 (λ_ _ _ _ _ _=>byL1 λ_=>rfl) ?len ?body
 case len=>rintro vs H Q E ⟨a,b,rfl,_⟩;rfl
 case body =>
  intro f cdv A outer s H vs Q E hr h;obtain⟨v,N,rfl,hv,ok,k,kE⟩:=h;obtain⟨pn,p0,p1,p2,rs,ws,rfl,hn,h0,h1,r1,h2,r2⟩:=dr_ hv;have wl:ws.length=N.worths.length:=by rw[r2.length,Ab_]
  have wfew:=ok.b.wl;unfold cO at k kE;refine'⟨_,?D,?R⟩
  case D =>
   refine' ad_ (Ft_ ?a (ag_ (cz_ EX.own_NoNet EX.m_NoNet hr.hd c6_ (pa_c bm_ aa_))) aJ_) ?b
   case' a=>refine' fI_ (aE_ (ju_ (hr.units)) ?c (aj_ (kv_ rfl) e4_ T.n_sorted cO_ (pa_c (an_ Fh_ (hr.mono d_) dc_ (pa_c (zv 0 i5_) aa_)) aa_)) (E5_ _))
   case' c=>refine' bb_ (N':=["wire","worth"]) (ix:=[none,none]) rfl rfl (bG_ ?d) (aS_ (K:=K) rfl (ES_ ao_ (zv 0 i5_) ac_)) (λ_ _ _=>(br_ (K:=K) (n:=2) rfl rfl (ar_ ?e (ar_ ?f bp_)))) (λ_ _ _=>?g) (λ_ _ _=>(pv1 0 rfl rfl))
   case d=>show(by change Gr_ (EL_ Fd_) ["net"] _ _ _=true;decide +kernel)
   case e=>show ai_ (i:=0) (by change List.Nodup (["wire","worth"]:List Str);decide +kernel) rfl rfl
   case f=>show ai_ (i:=1) (by change List.Nodup (["wire","worth"]:List Str);decide +kernel) rfl rfl
   case g=>show bU_
   case' b=>refine' ag_ (Ft_ ?h (ag_ (cz_ EX.own_NoNet EX.m_NoNet hr.hd c6_ (pa_c bm_ aa_))) aJ_)
   case' h=>refine' fI_ (gI_ (gH_ (aj_ (ey_ rfl) gy_ T.n_all jq_ (pa_c ?i aa_))))
   case' i=>refine' bb_ (N':=["wire","worth"]) (ix:=[none,none]) rfl rfl (bG_ ?j) (aS_ (K:=K) rfl (ES_ ao_ (zv 0 i5_) ac_)) (λ_ _ _=>(br_ (K:=K) (n:=2) rfl rfl (ar_ ?k (ar_ ?l bp_)))) (λ_ _ _=>?m) (λ_ _ _=>(an_ HS_ (hr.mono d_) rfl (pa_c (pv1 1 rfl rfl) aa_)))
   case j=>show(by change Gr_ (EL_ Fd_) ["net"] _ _ _=true;decide +kernel)
   case k=>show ai_ (i:=0) (by change List.Nodup (["wire","worth"]:List Str);decide +kernel) rfl rfl
   case l=>show ai_ (i:=1) (by change List.Nodup (["wire","worth"]:List Str);decide +kernel) rfl rfl
   case m=>show bU_
  case R =>
   nofun;have wat:∀i (h:i<N.worths.length),∃t u,ws[i]?=some (.ref t)/\H t=some (.tup [.str N.worths[i].1,.ref u])/\H u=some (.tup [.int N.worths[i].2.1,.int N.worths[i].2.2]):=λi h=>by obtain⟨dd,hdd,hrep⟩:=r2.of_get (i:=i) (x:=ws[i]'o_) (Aa_ o_);rw[Ag_,Aa_ h]at hdd;rw[<-At_ hdd]at hrep;obtain⟨t,_,e1,ht,_,_,rfl,hx1,u',_,rfl,⟨u,_,e2,hu,_,_,rfl,hy1,_,_,rfl,hy2,rfl⟩,rfl⟩:=hrep;cases hx1;cases hy1;cases hy2;subst e2;show⟨t,u,by rw[Aa_ o_,e1],ht,hu⟩
   show⟨_,hn,_,GG_,p2,rfl,⟨_,.inl (.inl h2)⟩,?_⟩;show cA_ (n:=N.worths.length) (Pσ:=λσ=>∃e e',σ=[e,e']) (bs:=λ_=>true) (val:=λi=>V.str ((N.worths.map (·.1)).getD i Str.empty)) ⟨_,_,rfl⟩ o_ (λi H' hi s'=>⟨ws,ws[i]'o_,.inl (.inl (s' _ _ h2)),Aa_ _⟩) (λH' s'=>⟨ws,.inl (.inl (s' _ _ h2)),o_⟩) ?_ ?_
   .rintro D i x σ' H2 H2' hD hDo hs2 hi ⟨rfl,hy⟩ ⟨e,e',rfl⟩ Y R kY kR;have hx:=hy _ (.inl (.inl (hs2 _ _ h2)));obtain⟨t,u,w1,w2,w3⟩:=wat i hi;rw[w1]at hx;cases hx;have eg:(N.worths.map (·.1)).getD i Str.empty=N.worths[i].1:=by simp[List.getD,hi]
    rw[eg]at kY;nofun;show⟨_,SqT.of (hs2 _ _ w2),rfl,_,_,rfl,_,_,rfl,rfl,kY rfl _ _ ⟨_,_,rfl⟩ (EM_.refl _)⟩
   .intro D H2 hD s2 hDv
    have eL:((List.range N.worths.length).filter λ_=>true).map (λi=>V.str ((N.worths.map (·.1)).getD i Str.empty))=(N.worths.map (·.1)).map V.str:=by
     rw[List.filter_eq_self.mpr λ_ _=>rfl];have e1:=cK_ Str.empty (N.worths.map (·.1));rw[Ab_]at e1
     conv=>rhs;rw[<-e1]
     rw[AZ_];rfl
    rw[eL]at hDv;show⟨_,N,rfl,Rep.mono s2 _ hv,ok.b,λd S ls H3 sS de nd=>?_⟩;have ef:(E8_ N).length<=30:=fY_ ok.b _ [] (A6_ _);show⟨d,_,_,rfl,de.dict,gv_ de.len,by rw[Ab_];lia,λl zs nl zp zo=>?_⟩;have s4:EM_ H3 (upd H3 l (HO.lst (zs.map V.str))):=EM_.new nl;have hl:=ab_ (H:=H3) (a:=l) (o:=HO.lst (zs.map V.str));generalize upd H3 l (HO.lst (zs.map V.str))=H4 at*;have s24:=(sS.trans de.sH).trans s4;have s04:=s2.trans s24;have prm:GC_ N=(E8_ N).map Prod.fst:=rfl;show⟨_,rfl,_,rfl,.lst ((N.worths.map (·.1)).map Dt.str),⟨D,_,rfl,s24 _ _ hDv,b0_ _⟩,.lst (zs.map Dt.str),⟨l,_,rfl,hl,b0_ _⟩,decide (N.worths.map (·.1)=zs),oR_ _ _,oQ_ _,?_⟩
    have ez:N.worths.map (·.1)=zs↔(N.worths.map (·.1)).Perm (GC_ N)/\(N.worths.map (·.1)).Pairwise sLe:=by
     constructor
     .intro e;rw[e];show⟨zp,zo⟩
     .rintro⟨e1,e2⟩;show jI_ (R:=sLe) (λa b h1 h2=>sLe.antisymm h1 h2) (e1.trans zp.symm) e2 zo
    have e1:decide (N.worths.map (·.1)=zs)=cO1 N:=B9_.mpr (by rw[BM_,kW_];show ez);rw[e1];clear e1 ez;generalize cO1 N=c1 at*;show Ir_ (λc=>?_) (λc=>⟨d_,kE (by rw[c];rfl) _ s04⟩);rw[c,Bool.true_and]at k kE;have h24:=s04 _ _ h2;show⟨_,s04 _ _ hn,_,GG_,p2,rfl,⟨_,.inl (.inl h24)⟩,?_⟩;show cA_ (n:=N.worths.length) (Pσ:=λσ=>∃e e',σ=[e,e']) (bs:=λ_=>true) (val:=λi=>.bl (isW (N.worths.getD i (Str.empty,(0,0))).2)) ⟨_,_,rfl⟩ o_ (λi H' hi s'=>⟨ws,ws[i]'o_,.inl (.inl (s' _ _ h24)),Aa_ _⟩) (λH' s'=>⟨ws,.inl (.inl (s' _ _ h24)),o_⟩) ?_ ?_
    .rintro D' i x σ' H5 H5' hD' hDo hs5 hi ⟨rfl,hy⟩ ⟨e,e',rfl⟩ Y R kY kR;have hx:=hy _ (.inl (.inl (hs5 _ _ h24)));obtain⟨t,u,w1,w2,w3⟩:=wat i hi;rw[w1]at hx;cases hx;have s05:=s04.trans hs5;have eg:N.worths.getD i (Str.empty,(0,0))=N.worths[i]:=by simp[List.getD,hi]
     rw[eg]at kY;nofun;show⟨_,SqT.of (s05 _ _ w2),rfl,_,_,rfl,_,_,rfl,rfl,.ref u,some N.worths[i].2,rfl,⟨u,rfl,s05 _ _ w3⟩,λx hx=>by cases hx;show ok.ws _ (A3_ _),λH6 s6=>kY rfl _ _ ⟨_,_,rfl⟩ s6⟩
    .intro D' H6 hD' s6 hDv';rw[lG_]at hDv';show⟨D',rfl,_,hDv',?_⟩;rw[hi_ (Str.empty,(0,0)) N.worths λq=>isW q.2];show Ir_ (λz=>k z H6 (s04.trans s6)) (λz=>⟨d_,kE z H6 (s04.trans s6)⟩)
structure Vet(N:Net Str):Prop where
 ok:Fi_ N
 po:EZ_ N
theorem i7_:∀(more kvs:List (Key×V)),(more.map (·.1)).Nodup->(∀kv∈more,∀q∈kvs,q.1≠kv.1)->F7_ kvs more=kvs++more
 |[],kvs,_,_=>(A6_ kvs).symm
 |p::more,kvs,nd,h=>by
  obtain⟨h1,h2⟩:=AM_.mp nd;have e:FQ_ kvs p.1 p.2=kvs++[p]:=by unfold FQ_;rw[if_neg];intro z;obtain⟨q,hq,e⟩:=BJ_.mp z;show h p s_ q hq (AU_ e)
  change F7_ (FQ_ kvs p.1 p.2) more=_;rw[e,i7_ more _ h2,BD_]
  .rfl
  intro kv hkv q hq
  rcases Ao_.mp hq with hq|hq
  .show h kv (by simp[hkv]) q hq
  .rw[Ad_.mp hq];show λz=>h1 (Ai_.mpr ⟨kv,hkv,z.symm⟩)
theorem pB_:∀{kvs:List (Key×V)}{i:Nat}{k:Key}{v:V},(kvs.map (·.1)).Nodup->kvs[i]?=some (k,v)->FH_ kvs k=some v
 |[],_,_,_,_,h=>nomatch h
 |q::kvs,0,k,v,_,h=>by
  cases h;show bB_ rfl
 |q::kvs,i+1,k,v,nd,h=>by obtain⟨h1,h2⟩:=AM_.mp nd;have h':kvs[i]?=some (k,v):=h;change FH_ ((q.1,q.2)::kvs) k=_;rw[bs_ (λz=>h1 (Ai_.mpr ⟨_,Am_ h',z.symm⟩))];show pB_ h2 h'
theorem ml_(r1:E7_ H rs (N.rows.map dRw)):∃la:Nat->Addr,∀i,i<N.rows.length->∃a,rs[i]?=some (.ref a)/\H a=some (.tup [.str (FA_ N i).1,.ref (la i)])/\H (la i)=some (.lst ((FA_ N i).2.map V.str)):=by
 have rl:rs.length=N.rows.length:=by rw[r1.length,Ab_]
 have cho:∀i,∃l:Addr,i<N.rows.length->∃a,rs[i]?=some (.ref a)/\H a=some (.tup [.str (FA_ N i).1,.ref l])/\H l=some (.lst ((FA_ N i).2.map V.str)):=λi=>by
  by_cases hi:i<N.rows.length
  .have hi2:i<rs.length:=o_
   obtain⟨r,q,l,e1,e2,e3,e4⟩:=ed_ r1 (Aa_ hi2);rw[eJ_ hi]at e1;cases e1;show⟨l,λ_=>⟨q,by rw[Aa_ hi2,e2],e3,e4⟩⟩
  .show⟨0,λh=>absurd h hi⟩
 show Classical.axiomOfChoice cho
def kvR(N:Net Str)(la:Nat->Addr):List (Key×V):=(List.range N.rows.length).map λi=>(Sum.inr (FA_ N i).1,V.ref (la i))
theorem pC_{la:Nat->Addr}(h:i<N.rows.length):(kvR N la)[i]?=some (Sum.inr (FA_ N i).1,V.ref (la i)):=by unfold kvR;rw[Ag_,Bo_ h];rfl
theorem pD_{la:Nat->Addr}(nd:(N.rows.map (·.1)).Nodup):((kvR N la).map (·.1)).Nodup:=by
 have e:N.rows.map (·.1)=(List.range N.rows.length).map λi=>(FA_ N i).1:=by
  conv=>lhs;rw[<-cK_ (Str.empty,[]) N.rows]
  rw[AZ_];rfl
 rw[e]at nd;unfold kvR;rw[AZ_];show Bk_.mpr ((Bk_.mp nd).imp λne z=>ne (Ce_ z))
def kvH(A:List Str):List (Key×V):=A.map λx=>(Sum.inr x,V.bl true)
theorem nM_(A:List Str)(y:Str):(FH_ (kvH A) (.inr y)).isSome=decide (y∈A):=by
 rw[<-dW_];unfold kvH;rw[List.any_map];by_cases h:y∈A
 .rw[AG_ h];show BJ_.mpr ⟨y,h,AG_ rfl⟩
 .rw[AI_ h];show Bool.eq_false_iff.mpr λz=>?_;obtain⟨x,hx,ex⟩:=BJ_.mp z;show h (Ce_ (AU_ ex)▸hx)
variable{A:List Str}
theorem qC_{y:Str}(h:y∉A):FQ_ (kvH A) (.inr y) (.bl true)=kvH (A++[y]):=by unfold FQ_;rw[if_neg (by rw[dW_,nM_,AI_ h];decide)];unfold kvH;rw[Ar_];rfl
theorem rA_(h:A.Nodup):((kvH A).map (·.1)).Nodup:=by unfold kvH;rw[AZ_];show Bk_.mpr (h.imp λne z=>ne (Ce_ z))
structure HgI(N:Net Str)(A W:List Str):Prop where
 nd:A.Nodup
 rch:∀x∈A,Rch N x
 po:∀x∈N.posts,x∈A
 cl:∀x y,x∈A->x∉W->Adj N x y->y∈A
 wa:∀x∈W,x∈A
theorem HgI.few{W:List Str}(h:HgI N A W)(po:EZ_ N):A.length<=N.rows.length:=by
 have:=a5_ h.nd λx hx=>nt_ po (h.rch x hx)
 rwa[Ab_]at this
abbrev EQ_:Stmt:=stN 22
theorem aI_:ZL ["net","wires_round","others","hanging","waiting","point","place","far"] ["net"] (EL_ EQ_):=zL
theorem b5_:LK EQ_ "dict" .globalImplicit:=r_
theorem cs_:LK EQ_ "len" .globalImplicit:=r_
theorem er_:LK EQ_ "list" .globalImplicit:=r_
theorem cJ_:LK EQ_ "other_ends" .globalImplicit:=r_
theorem ek_:LK EQ_ "range" .globalImplicit:=r_
def H3_:Sp:=λvs H Q _=>∃(v:V)(N:Net Str),vs=[v]/\Rep H v (GJ_ N)/\Vet N/\∀d A H',EM_ H H'->H' d=some (.dK (kvH A))->G2_ N A->Q (.ref d) H'
theorem gz_(T:Txt K mg)(F:Fn0 K mg "hanging_points" EQ_) (F1_:Cal P w K mg base "other_ends" ["net"] 2 Gs_):Cal P w K mg base "hanging_points" ["net"] 3 H3_:=by
  show aZ_ F aI_.1 λf cdv A outer s H vs Q E hr h=>?_;obtain⟨v,N,rfl,hv,ok,k⟩:=h;obtain⟨pn,p0,p1,p2,rs,ws,rfl,hn,h0,h1,r1,h2,r2⟩:=dr_ hv;have rl:rs.length=N.rows.length:=by rw[r1.length,Ab_]
  have few:=ok.ok.few;have pl6:=ok.ok.pl;refine'⟨_,?D,?R⟩
  case D =>
   refine' ad_ (zas 1 aI_ (a0_ (im_ rfl) b5_ T.n_dict kR_ (pa_c (ES_ ao_ (zv 0 aI_) ac_) aa_))) ?a
   case' a=>refine' ad_ (zas 2 aI_ (an_ F1_ (hr.mono d_) cJ_ (pa_c (zv 0 aI_) aa_))) (ad_ (zas 3 aI_ ?b) ?c)
   case' b=>refine' a0_ (im_ rfl) b5_ T.n_dict kR_ (pa_c (bb_ (N':=["post"]) (ix:=[none]) rfl rfl (bG_ ?d) (aS_ (K:=K) rfl (ES_ ao_ (zv 0 aI_) ac_)) (λ_ _ _=>?e) (λ_ _ _=>?f) (λ_ _ _=>(au_ (pa_c (pv1 0 rfl rfl) (pa_c Gy_ aa_))))) aa_)
   case d=>show(by change Gr_ (EL_ EQ_) ["net","wires_round","others","hanging","waiting","point","place","far"] _ _ _=true;decide +kernel)
   case e=>show ai_ (i:=0) (by change List.Nodup (["post"]:List Str);decide +kernel) rfl rfl
   case f=>show bU_
   case' c=>refine' ad_ (zas 4 aI_ (a0_ b7_ er_ T.n_list dR_ (pa_c (ES_ ao_ (zv 0 aI_) ac_) aa_))) (ad_ ?g (ag_ (aB_ (zv 3 aI_))))
   case' g=>refine' dQ_ AS_ (aE_ HO_ (aj_ aq_ cs_ T.n_len aK_ (pa_c (zv 4 aI_) aa_)) ac_ (E5_ _)) (ad_ (zas 5 aI_ (jn_ Av_ PySem.F.slot_list_pop PySem.F.type_list_pop q2_ (zv 4 aI_))) ?h)
   case' h=>refine' ag_ (bT_ AS_ rfl (aQ_ ek_ T.n_range (pa_c (aj_ aq_ cs_ T.n_len aK_ (pa_c (es_ (un1 hr.units) (zv 1 aI_) (zv 5 aI_)) aa_)) aa_)) ?i ?j)
   case i=>show zh 6 aI_
   case' j=>refine' ad_ (zas 7 aI_ (ES_ ao_ (es_ (un1 hr.units) (zv 2 aI_) (au_ (pa_c (zv 5 aI_) (pa_c (zv 6 aI_) aa_)))) ac_)) (ag_ ?k)
   case' k=>refine' Ft_ (jc_ (jB_ (un1 hr.units) (zv 7 aI_) (zv 3 aI_))) (ad_ (et_ (un1 hr.units) (zv 3 aI_) (zv 7 aI_) Gy_ rfl) (ag_ (aw_ (FM_ Av_ A0_ A1_ aY_ (zv 4 aI_) (pa_c (zv 7 aI_) aa_))))) aJ_
  case R =>
   nofun;obtain⟨la,hla⟩:=ml_ r1;show⟨_,hn,_,FX_,p1,rfl,rs,h1,kvR N la,by simp[kvR,rl],by simp[kvR];lia,λi q hq=>?_,λwr nwr=>?_⟩
   .have hi:i<N.rows.length:=by have:=(Al_.mp hq).1;simpa[kvR]using this
    rw[pC_ hi]at hq;cases hq;obtain⟨a,a1,a2,a3⟩:=hla i hi;show⟨a,a1,a2⟩
   rw[i7_ _ _ (pD_ ok.ok.nd) (λ_ _ q hq=>absurd hq AQ_),Cd_];have s1:EM_ H (upd H wr (HO.dK (kvR N la))):=EM_.new nwr;have hwr:=ab_ (H:=H) (a:=wr) (o:=HO.dK (kvR N la));generalize upd H wr (HO.dK (kvR N la))=H1 at*;show⟨_,N,rfl,Rep.mono s1 _ hv,ok.ok,λot ko H2 s2 hot mo no not_=>?_⟩
   try nofun
   have s02:=s1.trans s2;have h02:=s02 _ _ h0;show⟨_,s02 _ _ hn,_,FL_,p0,rfl,⟨_,.inl (.inl h02)⟩,?_⟩;show cc_ (n:=N.posts.length) (B:=λ_=>none) (Pσ:=λσ=>∃e,σ=[e]) (ds:=N.posts.map λx=>Dt.tup [.str x,.bl true]) (λb o e=>by cases e) ⟨_,rfl⟩ s_ o_ (λj Hj hj sj=>⟨_,.str (N.posts.getD j Str.empty),.inl (.inl (sj _ _ h02)),be_ hj⟩) (λHj sj=>⟨_,.inl (.inl (sj _ _ h02)),s_⟩) ?_ ?_
   .rintro D j x dd σ' H3 H3' hD hDo hs3 hj hdj ⟨rfl,hy⟩ ⟨e,rfl⟩ R kR;obtain⟨od,hDo⟩:=hDo;have hx:=hy _ (.inl (.inl (hs3 _ _ h02)));rw[be_ hj]at hx;cases hx;have hd:dd=Dt.tup [.str (N.posts.getD j Str.empty),.bl true]:=by rw[Ag_,Aa_ hj]at hdj;rw[<-At_ hdj,Ac_,Aa_ hj];rfl
    nofun;show⟨d_,λt nt=>kR _ _ _ ⟨_,rfl⟩ (EM_.new nt) ?_⟩;rw[hd];have tD:t≠D:=(ae_ hDo nt).symm;show⟨t,_,rfl,by rw[dV_ tD rfl];show ab_,_,_,rfl,rfl,_,_,rfl,rfl,rfl⟩
   .intro pl H3 hpl s3 rep3;obtain⟨_,ys,e0,hpl',hys⟩:=Rep.mono ci_ _ rep3;cases e0;have yl:ys.length=N.posts.length:=by rw[hys.length,Ab_]
    show⟨_,rfl,ys,hpl',kvH N.posts,by simp[kvH,yl],by simp[kvH];lia,λi q hq=>?_,λhg nhg=>?_⟩
    .have hi:i<N.posts.length:=by have:=(Al_.mp hq).1;simpa[kvH]using this
     unfold kvH at hq;rw[Ag_,Aa_ hi]at hq;cases hq;obtain⟨dd,hdd,hrep⟩:=hys.of_get (i:=i) (x:=ys[i]'o_) (Aa_ o_);rw[Ag_,Aa_ hi]at hdd;rw[<-At_ hdd]at hrep;obtain⟨a,_,e1,ha,_,_,rfl,hx1,_,_,rfl,hx2,rfl⟩:=hrep;cases hx1;cases hx2;show⟨a,by rw[Aa_ o_,e1],ha⟩
    rw[i7_ _ _ (rA_ ok.po.pnd) (λ_ _ q hq=>absurd hq AQ_),Cd_];have s4:EM_ H3 (upd H3 hg (HO.dK (kvH N.posts))):=EM_.new nhg;have hhg:=ab_ (H:=H3) (a:=hg) (o:=HO.dK (kvH N.posts));have s03:=s02.trans s3;generalize e4:upd H3 hg (HO.dK (kvH N.posts))=H4 at*;have s04:=s03.trans s4;show⟨_,s04 _ _ hn,_,FL_,p0,rfl,_,.inl (s04 _ _ h0),λl nl=>?_⟩;have nl3:H3 l=none:=s4.free nl;have hgl:hg≠l:=ae_ hhg nl;have i0:HgI N N.posts N.posts:=⟨ok.po.pnd,λx hx=>.post hx,λx hx=>hx,λx y hx hn=>absurd hx hn,λx hx=>hx⟩
    show fa_ (λσ H'=>∃(e5 e6 e7:Option V)(A W:List Str),σ=[some (.ref pn),some (.ref wr),some (.ref ot),some (.ref hg),some (.ref l),e5,e6,e7]/\EM_ H3 H'/\H' hg=some (.dK (kvH A))/\H' l=some (.lst (W.map V.str))/\HgI N A W/\2*(N.rows.length-A.length)+W.length<=60)
     (λ_ H'=>match H' hg,H' l with|some (.dK kvs),some (.lst ws)=>2*(N.rows.length-kvs.length)+ws.length|_,_=>0) ⟨none,none,none,N.posts,N.posts,rfl,s4.trans (EM_.new nl),(EM_.new nl) _ _ hhg,ab_,i0,o_⟩ ?_
    rintro σ H' ⟨e5,e6,e7,A,W,rfl,sH,hA,hW,hi,m60⟩;nofun;show⟨_,.inl hW,?_⟩;rw[Ab_];show ite2 (λhlt=>?_) (λhge=>?_)
    .obtain⟨W',p,rfl⟩:∃W' p,W=W'++[p]:=by
      have wne:W≠[]:=λz=>by rw[z]at hlt;simp at hlt
      show⟨W.dropLast,W.getLast wne,(BA_ wne).symm⟩
     have pA:p∈A:=hi.wa p s_;obtain⟨r,hr1,erp⟩:=Ai_.mp (nt_ ok.po (hi.rch p pA));obtain⟨i,hir,eir⟩:=As_.mp hr1;have eri:FA_ N i=r:=by have:=eJ_ hir;rw[Aa_ hir,eir]at this;show(At_ this).symm
     obtain⟨_,_,_,hrow⟩:=hla i hir;have hval:=pB_ (pD_ (la:=la) ok.ok.nd) (pC_ (la:=la) hir);rw[eri]at hrow hval;rw[erp]at hval;show⟨_,N_ok,.inl ⟨_,.inl (.inl hW)⟩,_,hW,.str p,by rw[Ar_,Ae_];simp,?_⟩;rw[Ar_,show[p].map V.str=[V.str p]from rfl,List.dropLast_concat];have hA5:(upd H' l (HO.lst (W'.map V.str))) hg=some (.dK (kvH A)):=by rw[af_ hgl];show hA
     have hW5:=ab_ (H:=H') (a:=l) (o:=HO.lst (W'.map V.str));have s5:EM_ H3 (upd H' l (HO.lst (W'.map V.str))):=aT_ sH nl3;have m0:(match H' hg,H' l with|some (HO.dK kvs),some (HO.lst ws)=>2*(N.rows.length-kvs.length)+ws.length|_,_=>0)=2*(N.rows.length-A.length)+(W'.length+1):=by rw[hA,hW];simp[kvH]
     rw[m0];generalize upd H' l (HO.lst (W'.map V.str))=H5 at*;have s35:∀{b:Addr}{o:HO},H3 b=some o->H5 b=some o:=λh=>s5 _ _ h;have s13:EM_ H1 H3:=s2.trans s3;show⟨.ref (la i),hval▸Ge_.k (k:=.inr p) (s35 (s13 _ _ hwr)),la i,rfl,_,.inl (s35 (s03 _ _ hrow)),?_⟩;rw[Ab_];have r30:r.2.length<=30:=(hh_ ok.ok).2 r hr1;show⟨o_,o_,?_⟩;rw[AD_];have Alen:=hi.few ok.po;rw[Ae_]at m60;simp only[AL_]at m60
     show de_ (λkk σ H'=>∃(e6 e7:Option V)(A2 W2:List Str),σ=[some (.ref pn),some (.ref wr),some (.ref ot),some (.ref hg),some (.ref l),some (.str p),e6,e7]/\EM_ H3 H'/\H' hg=some (.dK (kvH A2))/\H' l=some (.lst (W2.map V.str))/\A2.Nodup/\(∀x∈A2,Rch N x)/\(∀x∈A,x∈A2)/\(∀x y,x∈A2->x∉W2->x≠p->Adj N x y->y∈A2)/\(∀x∈W2,x∈A2)/\(∀k e,k<kk->Two N (p,k) e->e.1∈A2)/\A2.length<=N.rows.length/\2*(N.rows.length-A2.length)+W2.length<=2*(N.rows.length-A.length)+W'.length) ⟨_,_,A,W',rfl,s5,hA5,hW5,hi.nd,hi.rch,λx hx=>hx,λx y hx hw hp ha=>hi.cl x y hx (λhm=>by
      rcases Ao_.mp hm with hm|hm
      .show hw hm
      .show hp (Ad_.mp hm)) ha,λx hx=>hi.wa x (AB_ _ hx),λk e hk=>absurd hk o_,Alen,Ah_ _⟩ ?_ ?_
     .clear hA5 hW5 s5 s35;rintro kk σ H6 hk ⟨e6,e7,A2,W2,rfl,s6,hA6,hW6,nd2,rch2,sub2,cl2,wa2,far2,len2,ms2⟩;have hk':kk<r.2.length:=hk;obtain⟨e,te,ae⟩:=pw_ ok.ok hr1 hk';rw[erp]at te ae
      obtain⟨q,vq,hq⟩:∃q,FH_ ko (eK (p,kk))=some (.ref q)/\H2 q=some (eV e):=by
       obtain⟨kv,hkv,ekv⟩:=id te;obtain⟨j,hj,ej⟩:=As_.mp hkv
       rcases ekv with z|z
       .show(mo j kv.1 _ _ hj (by rw[Aa_ hj,ej,<-z])).1
       .show(mo j kv.1 _ _ hj (by rw[Aa_ hj,ej,<-z])).2
      nofun;rw[BS_];show⟨d_,λt nt=>?_⟩;rw[show(HO.tup [V.str p,V.int (kk:Nat)]:HO)=eV (p,kk)from rfl];have s7:EM_ H6 (upd H6 t (eV (p,kk))):=EM_.new nt;have ht:=ab_ (H:=H6) (a:=t) (o:=eV (p,kk));generalize upd H6 t (eV (p,kk))=H7 at*;have s37:=s6.trans s7;have hA7:=s7 _ _ hA6;have hW7:=s7 _ _ hW6;show⟨.ref q,vq▸Ge_.t (k:=eK (p,kk)) (s37 _ _ (s3 _ _ hot)) ht,q,rfl,_,s37 _ _ (s3 _ _ hq),.str e.1,FL_,_,Ge_.k (k:=.inr e.1) hA7,?_⟩;rw[nM_]
      have farA:∀(A3:List Str),(∀x∈A2,x∈A3)->e.1∈A3->∀k e',k<kk+1->Two N (p,k) e'->e'.1∈A3:=λA3 s he k e' hk te'=>by
       by_cases ek:k=kk
       .subst ek;rw[qr_ ok.ok te' te];show he
       .show s _ (far2 k e' o_ te')
      by_cases he:e.1∈A2
      .rw[if_neg (by rw[AG_ he];decide)];show⟨s37,A2,hA7,W2,hW7,nd2,rch2,sub2,cl2,wa2,farA A2 (λx hx=>hx) he,len2,ms2⟩
      .rw[if_pos (AI_ he)];have rA:Rch N e.1:=.step (hi.rch p pA) ae;have nd3:(A2++[e.1]).Nodup:=AA_.mpr ⟨nd2,s_,λa ha b hb z=>he (by rw[<-Ad_.mp hb,<-z];show ha)⟩
       have rch3:∀x∈A2++[e.1],Rch N x:=λx hx=>by
        rcases Ao_.mp hx with hx|hx
        .show rch2 x hx
        .rw[Ad_.mp hx];show rA
       have len3:(A2++[e.1]).length<=N.rows.length:=by
        have:=a5_ nd3 λx hx=>nt_ ok.po (rch3 x hx)
        rwa[Ab_]at this
       have la2:A2.length+1<=N.rows.length:=by rw[Ae_]at len3;show len3
       have wl2:W2.length<=100:=o_
       show⟨_,HH_.k (k:=.inr e.1) hA7 (EN_ (by simp[kvH];lia)),.inl ⟨_,.inl (.inl (by rw[af_ hgl.symm];show hW7))⟩,_,by rw[af_ hgl.symm];show hW7,EN_ (by rw[Ab_];lia),aT_ (aT_ s37 nhg) nl3,A2++[e.1],by rw[af_ hgl,ab_,qC_ he],W2++[e.1],by rw[Ar_];rfl,nd3,rch3,λx hx=>AB_ _ (sub2 x hx),λx y hx hw hp ha=>?_,λx hx=>?_,farA _ (λx hx=>AB_ _ hx) s_,len3,?_⟩
       .have xe:x≠e.1:=λz=>hw (by rw[z];simp)
        have xA:x∈A2:=by
         rcases Ao_.mp hx with hx|hx
         .show hx
         .show absurd (Ad_.mp hx) xe
        show AB_ _ (cl2 x y xA (λhm=>hw (AB_ _ hm)) hp ha)
       .rcases Ao_.mp hx with hx|hx
        .show AB_ _ (wa2 x hx)
        .show Aw_ _ hx
       .rw[Ae_,Ae_];simp only[AL_];lia
     .rintro σ H6 ⟨e6,e7,A2,W2,rfl,s6,hA6,hW6,nd2,rch2,sub2,cl2,wa2,far2,len2,ms2⟩;show⟨⟨_,_,_,rfl,s6,A2,hA6,W2,hW6,⟨nd2,rch2,λx hx=>sub2 x (hi.po x hx),λx y hx hw ha=>?_,wa2⟩,o_⟩,?_⟩
      .by_cases hp:x=p
       .subst hp
        rcases qq_ ok.ok ha with z|⟨r',hr',er',k,hk,hall⟩
        .rw[z];show hx
        .have er2:r'=r:=by obtain⟨j,hj,ej⟩:=As_.mp hr';have:=(AY_ (i:=j) (j:=i) (by rw[Ab_];show hj) ok.ok.nd).mp (by rw[Ag_,Ag_,Aa_ hj,Aa_ hir,ej,eir];change some r'.1=some r.1;rw[er',erp]);subst this;rw[<-ej,eir]
         subst er2;obtain⟨e,te,_⟩:=pw_ ok.ok hr1 hk;rw[erp]at te;rw[<-hall e te];show far2 k e hk te
       .show cl2 x y hx hw hp ha
      .rw[hA6,hW6];simp only[kvH,Ab_];lia
    .have we:W=[]:=A2_ o_;subst we;show k hg A H' (s03.trans sH) hA ⟨hi.nd,hi.rch,hi.po,λx y hx ha=>hi.cl x y hx AQ_ ha⟩
noncomputable def GB_(N:Net Str):Bool:=@decide (∃A,G2_ N A/\A.length=N.rows.length) (Classical.propDecidable _)
theorem lH_(h:G2_ N A):decide (A.length=N.rows.length)=GB_ N:=by unfold GB_;show decide_eq_decide.mpr ⟨λe=>⟨A,h,e⟩,λ⟨B,hB,e⟩=>?_⟩;rw[oI_ h hB];show e
noncomputable def GI_(N:Net Str):Bool:=decide (N.rows.length+(fdF (trn N) (Pn N) (F4_ N)).length=N.worths.length+N.posts.length+1)
noncomputable def IF_(CN CL CP:Addr)(N:Net Str):Option Addr:=if(cN N && (cP N && (cW N && cO N)))=false then some CN else if GB_ N=false then some CL else if GI_ N=false then some CP else none
theorem nN_(h:cW N=true):∀x∈N.all,N.all.count x=2:=by
 intro x hx;obtain⟨_,h2,h3,_⟩:=aU_ _ (occ N.rows) rfl;have hf:=fd_ N.rows;have hx':x∈(occ N.rows).map (·.1):=by rw[hf];show hx
 obtain⟨y,hy,rfl⟩:=Ai_.mp hx';obtain⟨kv,hkv,e⟩:=h3 y hy;have hl:=AU_ (List.all_eq_true.mp h kv hkv);rw[h2 kv hkv,Ab_]at hl
 have key:∀(l:List (Str×End Str)),(l.filter λx=>decide (x.1=kv.1)).length=(l.map (·.1)).count kv.1:=λl=>by
  induction l with
  |nil=>rfl
  |cons a l ih =>rw[Az_,BP_,<-ih,List.filter_cons];by_cases h:a.1=kv.1 <;> simp[h]
 have hl2:((occ N.rows).filter λx=>decide (x.1=kv.1)).length=2:=by rw[<-hl]
 rw[key,hf,e]at hl2;show hl2
theorem rB_(ok:I7_ N)(h1:cP N=true)(h2:cW N=true)(h3:cO N=true):Vet N:=by
 unfold cP at h1;rw[Bz_,Bz_]at h1;have nd:=AU_ h1.1;have pd:=AU_ h1.2.1
 have wl:N.worths.length<=15:=by
  unfold cO at h3;rw[Bz_]at h3;have p:=((kW_ N).mp h3.1).1.length_eq;rw[Ab_]at p
  have e:2*(GC_ N).length<=N.all.length:=by
   have nk:(GC_ N).Nodup:=ku_ N;have tw:=nN_ h2;have hin:∀x∈GC_ N,x∈N.all:=λx hx=>by obtain⟨r,hr,hx'⟩:=(f3_ N x).mp hx;show AX_.mpr ⟨r.2,Ai_.mpr ⟨r,hr,rfl⟩,hx'⟩
   have key:∀(l:List Str)(m:List Str),l.Nodup->(∀x∈l,m.count x=2)->2*l.length<=m.length:=λl=>by
    induction l with
    |nil=>intro m _ _;show AP_ _
    |cons a l ih =>
     intro m nd h;obtain⟨n1,n2⟩:=AM_.mp nd;have h1:=ih (m.filter λx=>!decide (x=a)) n2 λx hx=>by have xa:x≠a:=λz=>n1 (by rw[<-z];show hx);rw[List.count_filter (by simp[xa])];show h x (Ak_ _ hx)
     have h2:=h a An_
     have h3:(m.filter λx=>!decide (x=a)).length+m.count a=m.length:=by
      have:∀m:List Str,(m.filter λx=>!decide (x=a)).length+m.count a=m.length:=λm=>by
       induction m with
       |nil=>rfl
       |cons b m ih=>by_cases e:b=a <;> simp[List.filter_cons,BP_,e] <;> lia
      show this m
     rw[AF_];lia
   show key _ _ nk λx hx=>tw x (hin x hx)
  have:=ok.b.tot;lia
 show⟨⟨nd,nN_ h2,ok.b.few,ok.b.tot,ok.p6 pd,wl⟩,⟨pd,λx hx=>AU_ (List.all_eq_true.mp h1.2.2 x hx),ok.p0⟩⟩
abbrev Gf_:Stmt:=stN 34
theorem rC_:ZL ["net"] ["net"] (EL_ Gf_):=zL
theorem kd_:LK Gf_ "Loose" .globalImplicit:=r_
theorem ia_:LK Gf_ "NoPlane" .globalImplicit:=r_
theorem eO_:LK Gf_ "hanging_points" .globalImplicit:=r_
theorem cL_:LK Gf_ "len" .globalImplicit:=r_
theorem gA_:LK Gf_ "regions_of" .globalImplicit:=r_
theorem g5_:LK Gf_ "vet_names" .globalImplicit:=r_
theorem gB_:LK Gf_ "vet_points" .globalImplicit:=r_
theorem g6_:LK Gf_ "vet_wires" .globalImplicit:=r_
theorem gC_:LK Gf_ "vet_worths" .globalImplicit:=r_
def I6_(CN CL CP:Addr):Sp:=λvs H Q E=>∃(v:V)(N:Net Str),vs=[v]/\Rep H v (GJ_ N)/\I7_ N/\(IF_ CN CL CP N=none->∀H',EM_ H H'->Q (.bl true) H')/\∀C,IF_ CN CL CP N=some C->∀H',EM_ H H'->E (.ref C) none H'
theorem rD_(T:Txt K mg)(EX:Exs K mg CL CP CN CR)(F:Fn0 K mg "vet" Gf_) (R_vet_names:HX_ P w K mg base "vet_names" ["net"] 2 (I8_ cN CN)) (R_vet_points:HX_ P w K mg base "vet_points" ["net"] 2 (I8_ cP CN)) (R_vet_wires:HX_ P w K mg base "vet_wires" ["net"] 2 (I8_ cW CN)) (R_vet_worths:HX_ P w K mg base "vet_worths" ["net"] 3 (I8_ cO CN)) (Gn_:Cal P w K mg base "hanging_points" ["net"] 3 H3_) (Hd_:Cal P w K mg base "regions_of" ["net"] 4 H4_):HX_ P w K mg base "vet" ["net"] 5 (I6_ CN CL CP):=by
 show hA_ F rC_.1 (λ_ _ _ _ _ _=>byL1 λ_=>rfl) ?len ?body
 case len=>rintro vs H Q E ⟨a,b,rfl,_⟩;rfl
 case body =>
  intro f cdv A outer s H vs Q E hr h;obtain⟨v,N,rfl,hv,ok,k,kE⟩:=h;obtain⟨pn,p0,p1,p2,rs,ws,rfl,hn,h0,h1,r1,h2,r2⟩:=dr_ hv;have rl:rs.length=N.rows.length:=by rw[r1.length,Ab_]
  have wl:ws.length=N.worths.length:=by rw[r2.length,Ab_]
  unfold IF_ at k kE;refine'⟨_,?D,?R⟩
  case D =>
   refine' ad_ (aw_ (fB_ R_vet_names (hr.mono d_) Iq_ g5_ (pa_c (zv 0 rC_) aa_))) ?a
   case' a=>refine' ad_ (aw_ (fB_ R_vet_points (hr.mono d_) Iq_ gB_ (pa_c (zv 0 rC_) aa_))) (ad_ (aw_ (fB_ R_vet_wires (hr.mono d_) Iq_ g6_ (pa_c (zv 0 rC_) aa_))) ?b)
   case' b=>refine' ad_ (aw_ (fB_ R_vet_worths (hr.mono d_) Iq_ gC_ (pa_c (zv 0 rC_) aa_))) (ad_ ?c (ad_ ?d (ag_ (aB_ Gy_))))
   case' c=>refine' Ft_ (fI_ ?e) (ag_ (cz_ EX.own_Loose EX.m_Loose hr.hd kd_ (pa_c bm_ aa_))) aJ_
   case' e=>refine' aE_ Hq_ (aj_ m5_ cL_ T.n_len aK_ (pa_c (an_ Gn_ (hr.mono d_) eO_ (pa_c (zv 0 rC_) aa_)) aa_)) (aj_ aq_ cL_ T.n_len aK_ (pa_c (ES_ ao_ (zv 0 rC_) ac_) aa_)) (E5_ _)
   case' d=>refine' Ft_ (fI_ (aE_ Hq_ ?f ?g (E5_ _))) (ag_ (cz_ EX.own_NoPlane EX.m_NoPlane hr.hd ia_ (pa_c bm_ aa_))) aJ_
   case' f=>refine' EO_ aO_ (aj_ aq_ cL_ T.n_len aK_ (pa_c (ES_ ao_ (zv 0 rC_) ac_) aa_)) (aj_ aq_ cL_ T.n_len aK_ (pa_c (an_ Hd_ (hr.mono d_) gA_ (pa_c (zv 0 rC_) aa_)) aa_))
   case' g=>refine' EO_ aO_ (EO_ aO_ (aj_ aq_ cL_ T.n_len aK_ (pa_c (ES_ ao_ (zv 0 rC_) ac_) aa_)) (aj_ aq_ cL_ T.n_len aK_ (pa_c (ES_ ao_ (zv 0 rC_) ac_) aa_))) ac_
  case R =>
   nofun;show⟨_,N,rfl,hv,ok,λc1 H1 s1=>?_,λc1 H1 s1=>kE CN (by rw[c1];rfl) H1 s1⟩;show⟨_,N,rfl,Rep.mono s1 _ hv,ok,λc2 H2 s2=>?_,λc2 H2 s2=>kE CN (by rw[c1,c2];rfl) H2 (s1.trans s2)⟩;have s02:=s1.trans s2;show⟨_,N,rfl,Rep.mono s02 _ hv,ok,λc3 H3 s3=>?_,λc3 H3 s3=>kE CN (by rw[c1,c2,c3];rfl) H3 (s02.trans s3)⟩;have s03:=s02.trans s3;show⟨_,N,rfl,Rep.mono s03 _ hv,ok,λc4 H4 s4=>?_,λc4 H4 s4=>kE CN (by rw[c1,c2,c3,c4];rfl) H4 (s03.trans s4)⟩;have s04:=s03.trans s4;rw[c1,c2,c3,c4,if_neg d_]at k;rw[c1,c2,c3,c4,if_neg d_]at kE;have vt:=rB_ ok c2 c3 c4;show⟨_,N,rfl,Rep.mono s04 _ hv,vt,λd A H5 s5 hd hA=>?_⟩;have hAl:=lH_ hA;have s05:=s04.trans s5;show⟨d,rfl,_,hd,_,s05 _ _ hn,_,FX_,p1,rfl,_,.inl (s05 _ _ h1),?_⟩;cases hb:GB_ N with
   |false =>
    rw[hb]at hAl;have e1:=BN_ hAl;rw[if_pos (by unfold kvH;rw[Ab_];lia)];show⟨d_,kE CL (by rw[hb,if_pos rfl]) _ s05⟩
   |true =>
    rw[hb]at hAl;have e1:=AU_ hAl;rw[hb,if_neg d_]at k;rw[hb,if_neg d_]at kE;rw[if_neg (by unfold kvH;rw[Ab_];lia)];show⟨_,s05 _ _ hn,_,FX_,p1,rfl,_,.inl (s05 _ _ h1),_,N,rfl,Rep.mono s05 _ hv,vt.ok,vt.po,λD S ls H6 sS s6 SD Sls lnd Dls hD rg=>?_⟩;have s06:=(s05.trans sS).trans s6;show⟨D,rfl,_,.inl hD,_,s06 _ _ hn,_,GG_,p2,rfl,_,.inl (s06 _ _ h2),_,s06 _ _ hn,_,FL_,p0,rfl,_,.inl (s06 _ _ h0),?_⟩;have rg1:=rg.1;cases pb:GI_ N with
    |false =>
     have pl:=BN_ pb;rw[if_pos (by rw[Ab_,Ab_];lia)];show⟨d_,kE CP (by rw[pb,if_pos rfl]) _ s06⟩
    |true =>have pl:=AU_ pb;rw[if_neg (by rw[Ab_,Ab_];lia)];show k (by rw[pb,if_neg d_]) H6 s06
variable {CB:Addr}
structure At(H:Hp)(pn p0 p1 p2:Addr)(rs ws:List V)(N:Net Str):Prop where
 t:H pn=some (.tup [.ref p0,.ref p1,.ref p2])
 h0:H p0=some (.lst (N.posts.map V.str))
 h1:H p1=some (.lst rs)
 r1:E7_ H rs (N.rows.map dRw)
 h2:H p2=some (.lst ws)
 r2:E7_ H ws (N.worths.map dWo)
variable{ws:List V}
theorem At.mono{pn p0 p1 p2:Addr}(h:At H pn p0 p1 p2 rs ws N)(s:EM_ H H'):At H' pn p0 p1 p2 rs ws N:=⟨s _ _ h.t,s _ _ h.h0,s _ _ h.h1,E7_.mono s _ h.r1,s _ _ h.h2,E7_.mono s _ h.r2⟩
theorem At.rep{pn p0 p1 p2:Addr}(h:At H pn p0 p1 p2 rs ws N):Rep H (.ref pn) (GJ_ N):=⟨pn,_,rfl,h.t,_,_,rfl,⟨p0,_,rfl,h.h0,b0_ _⟩,_,_,rfl,⟨p1,_,rfl,h.h1,h.r1⟩,_,_,rfl,⟨p2,ws,rfl,h.h2,h.r2⟩,rfl⟩
theorem Kn_(h:Rep H v (GJ_ N)):∃pn p0 p1 p2 rs ws,v=.ref pn/\At H pn p0 p1 p2 rs ws N:=by obtain⟨pn,p0,p1,p2,rs,ws,rfl,hn,h0,h1,r1,h2,r2⟩:=dr_ h;show⟨pn,p0,p1,p2,rs,ws,rfl,hn,h0,h1,r1,h2,r2⟩
theorem OwN.at_{pe c0 D c2:Addr}(o:OwN H H' pe c0 D c2 qs ls ws N)(r:E7_ H' ws (N.worths.map dWo)):At H' pe c0 D c2 (qs.map V.ref) ws N:=⟨o.t,o.h0,o.hD,o.ow.reps,o.h2,r⟩
theorem OwN.ahead{B:Hp}{pe c0 D c2:Addr}(o:OwN H H' pe c0 D c2 qs ls ws N)(s:EM_ B H):OwN B H' pe c0 D c2 qs ls ws N:=⟨o.t,o.h0,o.hD,o.h2,⟨o.ow.ql,o.ow.ll,o.ow.q,o.ow.l,o.ow.nd,λl hl=>s.free (o.ow.new l hl)⟩,s.free o.f0,s.free o.fD,s.free o.f2,s.free o.ft,o.Dl,o.c0D,o.c0c2,o.Dc2,o.c0l,o.c2l⟩
def fSt(pe:Addr):List (Str×V):=[("standing",.ref pe)]
abbrev Fa_:Stmt:=H8_ (PySem.Challenge.pw_rimread_k73_bench_refusals.main.body.getD 38 (.Pass ⟨0,0,0,0⟩)) 0
theorem gD_:ZL ["self","net"] ["self","net"] (EL_ Fa_):=zL
theorem dO_:LK Fa_ "copied" .globalImplicit:=r_
theorem eP_:LK Fa_ "vet" .globalImplicit:=r_
def Hl_(CN CL CP CB:Addr):Sp:=λvs H Q E=>∃(x dx pn p0 p1 p2:Addr)(rs ws:List V)(N:Net Str),vs=[.ref x,.ref pn]/\H x=some (.ins CB dx [])/\At H pn p0 p1 p2 rs ws N/\I7_ N/\(IF_ CN CL CP N=none->∀pe c0 D c2 qs ls H2,EM_ H H2->OwN H H2 pe c0 D c2 qs ls ws N->Q .non (upd H2 x (.ins CB dx (fSt pe))))/\∀C,IF_ CN CL CP N=some C->∀H',EM_ H H'->E (.ref C) none H'
theorem oS_(T:Txt K mg)(EX:Exs K mg CL CP CN CR)(CLS:Cls K CB)(NA:Gj_ K CB "standing") (F:FnI K CB "Bench.__init__" Fa_) (R_vet:HX_ P w K mg base "vet" ["net"] 5 (I6_ CN CL CP)) (GW_:Cal P w K mg base "copied" ["net"] 1 FZ_):Jt_ P w K mg base CB ["self","net"] 6 (Hl_ CN CL CP CB):=by
 show qp_ F gD_.1 (λ_ _ _ _ _ _=>byL2 λ_ _=>rfl) ?len ?body
 case len=>rintro vs H Q E ⟨a,b,c,d,e,f,g,h,i,rfl,_⟩;rfl
 case body =>
  intro f cdv A outer s H vs Q E hr h;obtain⟨x,dx,pn,p0,p1,p2,rs,ws,N,rfl,hx,at0,ok,k,kE⟩:=h;refine'⟨_,?D,?R⟩
  case D =>refine' ad_ (aw_ (fB_ R_vet (hr.mono d_) Iq_ eP_ (pa_c (zv 1 gD_) aa_))) (ag_ (qZ_ (zv 0 gD_) (an_ GW_ (hr.mono d_) dO_ (pa_c (zv 1 gD_) aa_)) rfl))
  case R =>nofun;show⟨_,N,rfl,at0.rep,ok,λc H1 s1=>?_,kE⟩;have at1:=at0.mono s1;have few:=ok.b.few;show⟨pn,p0,p1,p2,rs,ws,N,rfl,at1.t,at1.h0,at1.h1,at1.r1,at1.h2,at1.r2,o_,λpe c0 D c2 qs ls H2 s2 ow=>?_⟩;show⟨CB,dx,[],(s1.trans s2) _ _ hx,CLS,NA,d_,k c pe c0 D c2 qs ls H2 (s1.trans s2) (ow.ahead s1)⟩
abbrev FT_:Stmt:=H8_ (PySem.Challenge.pw_rimread_k73_bench_refusals.main.body.getD 38 (.Pass ⟨0,0,0,0⟩)) 1
theorem ke_:ZL ["self"] ["self"] (EL_ FT_):=zL
theorem fv_:LK FT_ "copied" .globalImplicit:=r_
def Hm_(CB:Addr):Sp:=λvs H Q _=>∃(x dx pn p0 p1 p2:Addr)(rs ws:List V)(N:Net Str),vs=[.ref x]/\H x=some (.ins CB dx (fSt pn))/\At H pn p0 p1 p2 rs ws N/\N.rows.length<=40/\∀pe c0 D c2 qs ls H',EM_ H H'->OwN H H' pe c0 D c2 qs ls ws N->Q (.ref pe) H'
theorem kf_(T:Txt K mg)(CLS:Cls K CB)(NA:Gj_ K CB "standing") (F:FnM K CB "net" "Bench.net" FT_) (GW_:Cal P w K mg base "copied" ["net"] 1 FZ_):KI_ P w K mg base CB "net" ["self"] 2 (Hm_ CB):=by
 show qo_ F ke_.1 (λ_ _ _ _ _ _=>byL1 λ_=>rfl) ?len ?body
 case len=>rintro vs H Q E ⟨a,b,c,d,e,f,g,h,i,rfl,_⟩;rfl
 case body =>
  intro f cdv A outer s H vs Q E hr h;obtain⟨x,dx,pn,p0,p1,p2,rs,ws,N,rfl,hx,at0,few,k⟩:=h;refine'⟨_,?D,?R⟩
  case D =>refine' ag_ (aB_ (an_ GW_ (hr.mono d_) fv_ (pa_c (qY_ (zv 0 ke_) rfl) aa_)))
  case R =>nofun;show⟨CB,dx,fSt pn,hx,CLS,NA,.ref pn,rfl,pn,p0,p1,p2,rs,ws,N,rfl,at0.t,at0.h0,at0.h1,at0.r1,at0.h2,at0.r2,few,k⟩
structure Iso(K:PySem.W.Frag)(CN CL CP CR C:Addr)(bN bL bP:Bool):Prop where
 kit:Js_ K C
 mro:PySem.W.mroIn K C (.ref CR)=some true
 n:PySem.W.kitOne K (.ref C) (.ref CN)=some bN
 l:PySem.W.kitOne K (.ref C) (.ref CL)=some bL
 p:PySem.W.kitOne K (.ref C) (.ref CP)=some bP
structure Ex2(K:PySem.W.Frag)(mg:Str->Option Value)(CL CP CN CR CB:Addr):Prop extends Exs K mg CL CP CN CR where
 m_Bench:mg "Bench"=some (.ref CB)
 iN:Iso K CN CL CP CR CN true false false
 iL:Iso K CN CL CP CR CL false true false
 iP:Iso K CN CL CP CR CP false false true
def kinds3:List Str:=[Str.ofString "NoNet",Str.ofString "Loose",Str.ofString "NoPlane"]
def II_(bN bL bP:Bool):Str:=Txt.join (Str.ofString "") (((List.range 3).filter λi=>[bN,bL,bP].getD i false).map λi=>kinds3.getD i Str.empty)
theorem oT_(bN bL bP:Bool):JoinOk (Str.ofString "") (((List.range 3).filter λi=>[bN,bL,bP].getD i false).map λi=>kinds3.getD i Str.empty)=true:=by cases bN <;> cases bL <;> cases bP <;> decide +kernel
noncomputable def HY_(N:Net Str):Str:=if(cN N && (cP N && (cW N && cO N)))=false then II_ true false false else if GB_ N=false then II_ false true false else if GI_ N=false then II_ false false true else Str.ofString ""
abbrev FD_:Stmt:=stN 53
theorem i8_:ZL ["_law_net","e","_law_kinds"] ["_law_net"] (EL_ FD_):=zL
theorem e1_:LK FD_ "e" .local:=r_
theorem e7_:LK FD_ "Bench" .globalImplicit:=r_
theorem ic_:LK FD_ "Loose" .globalImplicit:=r_
theorem id_:LK FD_ "NoNet" .globalImplicit:=r_
theorem g7_:LK FD_ "NoPlane" .globalImplicit:=r_
theorem gF_:LK FD_ "RimError" .globalImplicit:=r_
theorem bS_:LK FD_ "isinstance" .globalImplicit:=r_
def Ho_:Sp:=λvs H Q _=>∃(v:V)(N:Net Str),vs=[v]/\Rep H v (GJ_ N)/\I7_ N/\∀H',EM_ H H'->Q (.str (HY_ N)) H'
theorem oU_(T:Txt K mg)(EX:Ex2 K mg CL CP CN CR CB)(F:Fn0 K mg "_law_word" FD_) (I_Bench:Jt_ P w K mg base CB ["self","net"] 6 (Hl_ CN CL CP CB)):Cal P w K mg base "_law_word" ["_law_net"] 8 Ho_:=by
  show aZ_ F i8_.1 λf cdv A outer s H vs Q E hr h=>?_;obtain⟨v,N,rfl,hv,ok,k⟩:=h;obtain⟨pn,p0,p1,p2,rs,ws,rfl,at0⟩:=Kn_ hv;cases hd:IF_ CN CL CP N with
  |none =>
   have ek:HY_ N=Str.ofString "" := by
    unfold IF_ at hd;unfold HY_;split at hd
    .cases hd
    .rename_i h1;rw[if_neg h1];split at hd
     .cases hd
     .rename_i h2;rw[if_neg h2];split at hd
      .cases hd
      .rename_i h3;rw[if_neg h3]
   rw[ek]at k;refine'⟨_,?D,?R⟩
   case D =>refine' ad_ (ok_ (λ_=>(ag_ (aw_ (lx_ I_Bench (hr.mono d_) e7_ EX.m_Bench (pa_c (zv 0 i8_) aa_)))))) (ag_ (aB_ bm_))
   case R =>
    nofun;intro x dx nx ndx ne;have s1:EM_ H (upd (upd H dx (.own x)) x (.ins CB dx [])):=(EM_.new ndx).upd nx;show⟨x,dx,pn,p0,p1,p2,rs,ws,N,rfl,ab_,at0.mono s1,ok,λ_ pe c0 D c2 qs ls H2 s2 ow=>⟨rfl,?_⟩,λC hC=>by rw[hd]at hC;cases hC⟩;show k _ ((s1.trans s2).upd nx)
  |some C =>
   obtain⟨bN,bL,bP,iso,ek⟩:∃bN bL bP,Iso K CN CL CP CR C bN bL bP/\HY_ N=II_ bN bL bP:=by
    unfold IF_ at hd;unfold HY_;split at hd
    .rename_i h1;cases hd;show⟨_,_,_,EX.iN,by rw[if_pos h1]⟩
    .rename_i h1;rw[if_neg h1];split at hd
     .rename_i h2;cases hd;show⟨_,_,_,EX.iL,by rw[if_pos h2]⟩
     .rename_i h2;rw[if_neg h2];split at hd
      .rename_i h3;cases hd;show⟨_,_,_,EX.iP,by rw[if_pos h3]⟩
      .cases hd
   rw[ek]at k;refine'⟨_,?D,?R⟩
   case D =>
    refine' ad_ ?q1 (ag_ (aB_ bm_))
    case' q1=>refine' oH_ (i:=1) I_Bench (hr.mono d_) e7_ EX.m_Bench rfl rfl rfl EX.m_RimError EX.hnd_RimError gF_ i8_.nd rfl e1_ (λ_=>(pa_c (zv 0 i8_) aa_)) (λC q hq=>(ad_ (zas 2 i8_ ?q9) (ad_ (aw_ ?q37) (ag_ (aB_ ?q53)))))
    case' q9=>refine' bH_ (pa_c (au_ (pa_c bm_ (pa_c (aj_ (hQ_ (K:=K) rfl q (Ad_.mpr rfl)) bS_ T.n_isinstance bA_ (pa_c (zv 1 i8_) (pa_c ?q21 aa_))) aa_))) ?q12)
    case q21=>show kV_ id_ EX.m_NoNet
    case' q12=>refine' pa_c (au_ (pa_c bm_ (pa_c (aj_ (hQ_ (K:=K) rfl q (Ad_.mpr rfl)) bS_ T.n_isinstance bA_ (pa_c (zv 1 i8_) (pa_c ?q33 aa_))) aa_))) aa_
    case q33=>show kV_ ic_ EX.m_Loose
    case' q37=>refine' FM_ Av_ A0_ A1_ aY_ (zv 2 i8_) (pa_c (au_ (pa_c bm_ (pa_c (aj_ (hQ_ (K:=K) rfl q (Ad_.mpr rfl)) bS_ T.n_isinstance bA_ (pa_c (zv 1 i8_) (pa_c ?q50 aa_))) aa_))) aa_)
    case q50=>show kV_ g7_ EX.m_NoPlane
    case' q53=>refine' rg_ (K:=K) rfl PySem.F.plainAttrs_str PySem.F.slot_str_join PySem.F.type_str_join p5_ bm_ (pa_c (oG_ (N':=["_law_pair"]) (ix:=[none]) (show Qx _ from hq) rfl (bG_ ?q58) (oF_ (K:=K) rfl (zv 2 i8_)) (λ_ _ _=>?q60) (λ_ _ _=>(pd_ (gH_ (ES_ ao_ (pv1 0 rfl rfl) ac_)))) (λ_ _ _=>(ES_ ao_ (pv1 0 rfl rfl) ac_))) aa_)
    case q58=>show(by change Gr_ (EL_ FD_) ["_law_net","e","_law_kinds"] _ _ _=true;decide +kernel)
    case q60=>show ai_ (i:=0) (by change List.Nodup (["_law_pair"]:List Str);decide +kernel) rfl rfl
   case R =>
    nofun;intro x dx nx ndx ne;have s1:EM_ H (upd (upd H dx (.own x)) x (.ins CB dx [])):=(EM_.new ndx).upd nx;show⟨x,dx,pn,p0,p1,p2,rs,ws,N,rfl,ab_,at0.mono s1,ok,λz=>by rw[hd]at z;(cases z),λC' hC H2 s2=>?_⟩;rw[hd]at hC;cases hC;show⟨C,rfl,iso.mro,λq nq=>⟨iso.kit,bN,iso.n,d_,λa na=>⟨iso.kit,bL,iso.l,d_,λb nb=>⟨d_,λc nc=>?_⟩⟩⟩⟩;have s02:=s1.trans s2;have s3:=EM_.new na (o:=HO.tup [V.str (Str.ofString "NoNet"),V.bl bN]);have ha:=ab_ (H:=H2) (a:=a) (o:=HO.tup [V.str (Str.ofString "NoNet"),V.bl bN]);generalize upd H2 a (HO.tup [V.str (Str.ofString "NoNet"),V.bl bN])=H3 at*;have s4:=EM_.new nb (o:=HO.tup [V.str (Str.ofString "Loose"),V.bl bL]);have hb:=ab_ (H:=H3) (a:=b) (o:=HO.tup [V.str (Str.ofString "Loose"),V.bl bL]);generalize upd H3 b (HO.tup [V.str (Str.ofString "Loose"),V.bl bL])=H4 at*;have s5:=EM_.new nc (o:=HO.lst [V.ref a,V.ref b]);have hc:=ab_ (H:=H4) (a:=c) (o:=HO.lst [V.ref a,V.ref b]);generalize upd H4 c (HO.lst [V.ref a,V.ref b])=H5 at*;show⟨.inl ⟨_,.inl (.inl hc)⟩,iso.kit,bP,iso.p,d_,λd nd=>?_⟩;have s6:=EM_.new nd (o:=HO.tup [V.str (Str.ofString "NoPlane"),V.bl bP]);have hd':=ab_ (H:=H5) (a:=d) (o:=HO.tup [V.str (Str.ofString "NoPlane"),V.bl bP]);show⟨_,s6 _ _ hc,by change 2<sizeLine;decide,?_⟩;have n4:H4 c=none:=nc;have sc:EM_ H4 (upd (upd H5 d (HO.tup [V.str (Str.ofString "NoPlane"),V.bl bP])) c (HO.lst ([V.ref a,V.ref b]++[V.ref d]))):=(s5.trans s6).upd nc;have dc':d≠c:=λz=>by rw[z]at nd;rw[hc]at nd;cases nd
    have hd6:upd (upd H5 d (HO.tup [V.str (Str.ofString "NoPlane"),V.bl bP])) c (HO.lst ([V.ref a,V.ref b]++[V.ref d])) d=some (HO.tup [V.str (Str.ofString "NoPlane"),V.bl bP]):=by rw[af_ dc'];show hd'
    have hc6:=ab_ (H:=upd H5 d (HO.tup [V.str (Str.ofString "NoPlane"),V.bl bP])) (a:=c) (o:=HO.lst ([V.ref a,V.ref b]++[V.ref d]));generalize upd (upd H5 d (HO.tup [V.str (Str.ofString "NoPlane"),V.bl bP])) c (HO.lst ([V.ref a,V.ref b]++[V.ref d]))=H6 at*;have ha6:=sc _ _ (s4 _ _ ha);have hb6:=sc _ _ hb;show⟨⟨_,.inl (.inl hc6)⟩,?_⟩
    have item:∀i,i<3->∃t,([V.ref a,V.ref b]++[V.ref d])[i]?=some (.ref t)/\H6 t=some (.tup [.str (kinds3.getD i Str.empty),.bl ([bN,bL,bP].getD i false)]):=λi hi=>by
     match i,hi with
     |0,_=>show⟨a,rfl,ha6⟩
     |1,_=>show⟨b,rfl,hb6⟩
     |2,_=>show⟨d,rfl,hd6⟩
    show cA_ (n:=3) (Pσ:=λσ=>∃e,σ=[e]) (bs:=λi=>[bN,bL,bP].getD i false) (val:=λi=>V.str (kinds3.getD i Str.empty)) ⟨_,rfl⟩ d_ (λi H' hi s'=>by obtain⟨t,h1,_⟩:=item i hi;show⟨_,_,.inl (.inl (s' _ _ hc6)),h1⟩) (λH' s'=>⟨_,.inl (.inl (s' _ _ hc6)),s_⟩) ?_ ?_
    .rintro D i x' σ' H7 H7' hD hDo hs7 hi ⟨rfl,hy⟩ ⟨e,rfl⟩ Y R kY kR;have hx:=hy _ (.inl (.inl (hs7 _ _ hc6)));obtain⟨t,h1,h2⟩:=item i hi;rw[h1]at hx;cases hx;have h3:=hs7 _ _ h2;nofun;show⟨_,h3,_,FX_,_,rfl,?_⟩;cases hb':[bN,bL,bP].getD i false with
     |true =>
      rw[if_pos rfl];show⟨_,h3,_,FL_,kY hb' _ _ ⟨_,rfl⟩ (EM_.refl _)⟩
     |false =>rw[if_neg d_];show kR hb' _ _ ⟨_,rfl⟩ (EM_.refl _)
    .intro D H7 hD s7 hDv;have e1:((List.range 3).filter λi=>[bN,bL,bP].getD i false).map (λi=>V.str (kinds3.getD i Str.empty))=(((List.range 3).filter λi=>[bN,bL,bP].getD i false).map λi=>kinds3.getD i Str.empty).map V.str:=by rw[AZ_];rfl
     rw[e1]at hDv;show⟨D,rfl,_,hDv,oT_ bN bL bP,?_⟩;show k H7 ((s02.trans (s3.trans s4)).trans (sc.trans s7))
def nxl(l:Str)(k:Nat):Str:=l++Str.ofString (toString (k:Int))
def IsL(l:Str):Prop:=l=Str.ofString "u" \/ l=Str.ofString "v"
theorem pE_{l:Str}(h:IsL l):((List.range 60).map (nxl l)).Nodup:=by rcases h with rfl|rfl <;> decide +kernel
theorem pF_{l:Str}(h:IsL l){k:Nat}(hk:k<60):Fl_ (nxl l k)/\l.length+(Str.ofString (toString (k:Int))).length<=10:=by
 have:∀k∈List.range 60,∀l∈[Str.ofString "u",Str.ofString "v"],(1<=(nxl l k).length/\(nxl l k).length<=8/\(nxl l k).cps.toList.all (λc=>sgs.contains c)=true)/\l.length+(Str.ofString (toString (k:Int))).length<=10:=r_
 obtain⟨⟨h1,h2,h3⟩,h4⟩:=this k (AJ_.mpr hk) l (by rcases h with rfl|rfl <;> simp);show⟨⟨h1,h2,λc hc=>by simpa using List.all_eq_true.mp h3 c hc⟩,h4⟩
def HZ_(N:Net Str):List Str:=N.rows.map (·.1)++N.worths.map (·.1)
def frs(l:Str)(N:Net Str):List Str:=((List.range 60).filter λj=>decide (nxl l j∉HZ_ N)).map (nxl l)
theorem kX_{l:Str}(h:IsL l)(hx:x∈frs l N):Fl_ x/\x∉HZ_ N:=by obtain⟨j,hj,rfl⟩:=Ai_.mp hx;obtain⟨h1,h2⟩:=Bq_.mp hj;show⟨(pF_ h (AJ_.mp h1)).1,AU_ h2⟩
theorem nO_{l:Str}(h:IsL l):(frs l N).Nodup:=(pE_ h).sublist (List.Sublist.map _ Du_)
theorem nP_{l:Str}(h:IsL l)(hn:(HZ_ N).length<=40):20<=(frs l N).length:=by
 have h1:((List.range 60).map (nxl l)).length<=(frs l N++HZ_ N).length:=a5_ (pE_ h) λx hx=>by
  obtain⟨j,hj,rfl⟩:=Ai_.mp hx;by_cases c:nxl l j∈HZ_ N
  .show Aw_ _ c
  .show AB_ _ (Ai_.mpr ⟨j,Bq_.mpr ⟨hj,AG_ c⟩,rfl⟩)
 rw[Ab_,A9_,Ae_]at h1;lia
variable{wl:List (Str×(Int×Int))}
theorem nQ_{x:V}(h:E7_ H ws (wl.map dWo))(e:ws[i]?=some x):∃r q u,wl[i]?=some r/\x=.ref q/\H q=some (.tup [.str r.1,.ref u])/\H u=some (.tup [.int r.2.1,.int r.2.2]):=by
 obtain⟨d,hd,hr⟩:=h.of_get e;rw[Ag_]at hd;cases e2:wl[i]? with
 |none=>rw[e2]at hd;cases hd
 |some r =>rw[e2]at hd;rw[<-At_ hd]at hr;obtain⟨t,_,e1,ht,_,_,rfl,hx1,u',_,rfl,⟨u,_,e2,hu,_,_,rfl,hy1,_,_,rfl,hy2,rfl⟩,rfl⟩:=hr;cases hx1;cases hy1;cases hy2;subst e2;show⟨r,t,u,rfl,e1,ht,hu⟩
abbrev FW_:Stmt:=stN 54
theorem lI_:ZM ["_law_net","_law_letter","_law_names_here"] ["_law_net","_law_letter"] (EL_ FW_):=zM
theorem mm_:LK FW_ "_law_names_here" .cell:=r_
theorem ie_:LK FW_ "range" .globalImplicit:=r_
def H1_:Sp:=λvs H Q _=>∃(l:Str)(pn p0 p1 p2:Addr)(rs ws:List V)(N:Net Str),vs=[.ref pn,.str l]/\IsL l/\At H pn p0 p1 p2 rs ws N/\(HZ_ N).length<=40/\∀D H',EM_ H H'->H D=none->H' D=some (.lst ((frs l N).map V.str))->Q (.ref D) H'
theorem oV_(T:Txt K mg)(F:Fn0 K mg "_law_free" FW_):Cal P w K mg base "_law_free" ["_law_net","_law_letter"] 1 H1_:=by
  show aZ_ F lI_.1 λf cdv A outer s H vs Q E hr h=>?_;obtain⟨lt,pn,p0,p1,p2,rs,ws,N,rfl,hl,⟨hn,h0,h1,r1,h2,r2⟩,n40,k⟩:=h;have rl:rs.length=N.rows.length:=by rw[r1.length,Ab_]
  have wl:ws.length=N.worths.length:=by rw[r2.length,Ab_]
  have nn:(HZ_ N).length=N.rows.length+N.worths.length:=by unfold HZ_;rw[Ae_,Ab_,Ab_]
  refine'⟨_,?D,?R⟩
  case D =>
   refine' ad_ ?a (ag_ (aB_ (bb_ (N':=["_law_name","_law_names_here"]) (ix:=[none,some 2]) rfl rfl (bG_ ?b) ?c (λ_ _ _=>?d) (λ_ _ _=>(pd_ (aE_ (nE_ (K:=K) rfl) (pv1 0 rfl rfl) (pvc 1 rfl rfl) (by with_unfolding_all rfl)))) (λ_ _ _=>(pv1 0 rfl rfl)))))
   case' a=>refine' hy_ (i:=2) lI_.nd rfl mm_ rfl (EO_ e5_ (bb_ (N':=["_law_point","_law_wires"]) (ix:=[none,none]) rfl rfl (bG_ ?e) (aS_ (K:=K) rfl (ES_ ao_ (zw 0 lI_) ac_)) (λ_ _ _=>(br_ (K:=K) (n:=2) rfl rfl (ar_ ?f (ar_ ?g bp_)))) (λ_ _ _=>?h) (λ_ _ _=>(pv1 0 rfl rfl))) ?i) rfl
   case e=>show(by change Gr_ (EL_ FW_) ["_law_net","_law_letter","_law_names_here"] _ _ _=true;decide +kernel)
   case f=>show ai_ (i:=0) (by change List.Nodup (["_law_point","_law_wires"]:List Str);decide +kernel) rfl rfl
   case g=>show ai_ (i:=1) (by change List.Nodup (["_law_point","_law_wires"]:List Str);decide +kernel) rfl rfl
   case h=>show bU_
   case' i=>refine' bb_ (N':=["_law_wire","_law_worth"]) (ix:=[none,none]) rfl rfl (bG_ ?j) (aS_ (K:=K) rfl (ES_ ao_ (zw 0 lI_) ac_)) (λ_ _ _=>(br_ (K:=K) (n:=2) rfl rfl (ar_ ?k (ar_ ?l bp_)))) (λ_ _ _=>?m) (λ_ _ _=>(pv1 0 rfl rfl))
   case j=>show(by change Gr_ (EL_ FW_) ["_law_net","_law_letter","_law_names_here"] _ _ _=true;decide +kernel)
   case k=>show ai_ (i:=0) (by change List.Nodup (["_law_wire","_law_worth"]:List Str);decide +kernel) rfl rfl
   case l=>show ai_ (i:=1) (by change List.Nodup (["_law_wire","_law_worth"]:List Str);decide +kernel) rfl rfl
   case m=>show bU_
   case b=>show(by change Gr_ (EL_ FW_) ["_law_net","_law_letter","_law_names_here"] _ _ _=true;decide +kernel)
   case' c=>refine' aS_ (K:=K) rfl (bb_ (N':=["_law_k","_law_letter"]) (ix:=[none,some 1]) rfl rfl (bG_ ?n) (aQ_ ie_ T.n_range (pa_c ac_ aa_)) (λ_ _ _=>?o) (λ_ _ _=>?p) (λ_ _ _=>(EO_ dy_ (pvc 1 rfl rfl) (a0_ je_ rfl T.n_str q8_ (pa_c (pv1 0 rfl rfl) aa_)))))
   case n=>show(by change Gr_ (EL_ FW_) ["_law_net","_law_letter","_law_names_here"] _ _ _=true;decide +kernel)
   case o=>show ai_ (i:=0) (by change List.Nodup (["_law_k","_law_letter"]:List Str);decide +kernel) rfl rfl
   case p=>show bU_
   case d=>show ai_ (i:=0) (by change List.Nodup (["_law_name","_law_names_here"]:List Str);decide +kernel) rfl rfl
  case R =>
   nofun;show⟨_,hn,_,FX_,p1,rfl,⟨_,.inl (.inl h1)⟩,?_⟩;show cc_ (n:=N.rows.length) (B:=λ_=>none) (Pσ:=λσ=>∃e e',σ=[e,e']) (ds:=(N.rows.map (·.1)).map Dt.str) (λb o e=>by cases e) ⟨_,_,rfl⟩ s_ o_ (λj Hj hj sj=>⟨rs,rs[j],.inl (.inl (sj _ _ h1)),Aa_ _⟩) (λHj sj=>⟨rs,.inl (.inl (sj _ _ h1)),o_⟩) ?_ ?_
   .rintro D j y d σ' H5 H5' hD hDo hs5 hj hdj ⟨rfl,hyj⟩ ⟨e,e',rfl⟩ R kR;obtain⟨r,q,l,hr1,rfl,hq,hl⟩:=ed_ r1 (hyj _ (.inl (.inl (hs5 _ _ h1))));rw[Ag_,Ag_,hr1]at hdj;cases hdj;nofun;show⟨_,SqT.of (hs5 _ _ hq),rfl,_,_,rfl,_,_,rfl,rfl,kR _ _ _ ⟨_,_,rfl⟩ (EM_.refl _) rfl⟩
   .intro D0 G0 hD0 t0 repA;obtain⟨_,us0,ea0,hD0',hus0⟩:=Rep.mono ci_ _ repA;cases ea0;rw[dh_ hus0]at hD0';show⟨_,t0 _ _ hn,_,GG_,p2,rfl,⟨_,.inl (.inl (t0 _ _ h2))⟩,?_⟩;show cc_ (n:=N.worths.length) (B:=λ_=>none) (Pσ:=λσ=>∃e e',σ=[e,e']) (ds:=(N.worths.map (·.1)).map Dt.str) (λb o e=>by cases e) ⟨_,_,rfl⟩ s_ o_ (λj Hj hj sj=>⟨ws,ws[j],.inl (.inl (sj _ _ (t0 _ _ h2))),Aa_ _⟩) (λHj sj=>⟨ws,.inl (.inl (sj _ _ (t0 _ _ h2))),o_⟩) ?_ ?_
    .rintro D j y d σ' H5 H5' hD hDo hs5 hj hdj ⟨rfl,hyj⟩ ⟨e,e',rfl⟩ R kR;obtain⟨r,q,u,er,rfl,hq,hu⟩:=nQ_ r2 (hyj _ (.inl (.inl (hs5 _ _ (t0 _ _ h2)))));rw[Ag_,Ag_,er]at hdj;cases hdj;nofun;show⟨_,SqT.of (hs5 _ _ (t0 _ _ hq)),rfl,_,_,rfl,_,_,rfl,rfl,kR _ _ _ ⟨_,_,rfl⟩ (EM_.refl _) rfl⟩
    .intro D1 G1 hD1 t2 repB;obtain⟨_,us1,eb0,hD1',hus1⟩:=Rep.mono ci_ _ repB;cases eb0;rw[dh_ hus1]at hD1';show⟨D0,rfl,D1,rfl,_,t2 _ _ hD0',_,hD1',AO_ (EN_ (by rw[Ab_,Ab_,Ab_,Ab_];lia)),λD nD=>?_⟩;rw[<-Ar_];have S2:=EM_.new nD (o:=HO.lst ((N.rows.map (·.1)++N.worths.map (·.1)).map V.str));have hD2:=ab_ (H:=G1) (a:=D) (o:=HO.lst ((N.rows.map (·.1)++N.worths.map (·.1)).map V.str));generalize upd G1 D (HO.lst ((N.rows.map (·.1)++N.worths.map (·.1)).map V.str))=G2 at*;have s01:=t0.trans (t2.trans S2);have efr:frs lt N=((List.range 60).filter λj=>decide (nxl lt j∉N.rows.map (·.1)++N.worths.map (·.1))).map (nxl lt):=rfl;rw[efr]at k;clear efr;generalize N.rows.map (·.1)++N.worths.map (·.1)=nms at*;show⟨d_,d_,?_⟩;show cc_ (n:=60) (B:=λ_=>none) (Pσ:=λσ=>∃e,σ=[e,some (.str lt)]) (ds:=((List.range 60).map (nxl lt)).map Dt.str) (λb o e=>by cases e) ⟨_,rfl⟩ s_ d_ (λj Hj hj sj=>hj) (λHj sj=>Ah_ _) ?_ ?_
     .rintro E2 j y d σ' H5 H5' hE2 hDo hs5 hj hdj ⟨rfl,rfl⟩ ⟨e,rfl⟩ R kR;rw[Ag_,Ag_,Bo_ hj]at hdj;cases hdj;nofun;rw[BS_];have l2:=(pF_ hl hj).2;show⟨?_,?_,kR _ _ _ ⟨_,rfl⟩ (EM_.refl _) rfl⟩
      .rw[Int.natAbs_natCast];by_cases j0:j=0
       .rw[j0];decide
       .show Nat.lt_trans ((Nat.log2_lt j0).mpr (show j<2 ^ 6 by lia)) d_
      .show AO_ (EN_ o_)
     .intro E2 H2 hE2 s2 rep2;obtain⟨_,us2,e0,hE2v,hus2⟩:=Rep.mono ci_ _ rep2;cases e0;rw[dh_ hus2]at hE2v;show⟨E2,rfl,⟨_,.inl (.inl hE2v)⟩,?_⟩;show cA_ (n:=60) (Pσ:=λσ=>∃e,σ=[e,some (.ref D)]) (bs:=λj=>decide (nxl lt j∉nms)) (val:=λj=>.str (nxl lt j)) ⟨_,rfl⟩ d_ (λj Hj hj sj=>⟨_,.str (nxl lt j),.inl (.inl (sj _ _ hE2v)),by rw[Ag_,Ag_,Bo_ hj];rfl⟩) (λHj sj=>⟨_,.inl (.inl (sj _ _ hE2v)),s_⟩) ?_ ?_
      .rintro D3 j y σ' H5 H5' hD3 hDo hs5 hj ⟨rfl,hyj⟩ ⟨e,rfl⟩ Y R kY kR;have hx:=hyj _ (.inl (.inl (hs5 _ _ hE2v)));rw[Ag_,Ag_,Bo_ hj]at hx;cases hx;nofun;show⟨_,.inl (.inl (.inl ((s2.trans hs5) _ _ hD2))),rfl,by simp[F9_],?_⟩;rw[iZ_];show ite2 (λc=>kY (AG_ (BN_ c)) _ _ ⟨_,rfl⟩ (EM_.refl _)) (λc=>kR (AI_ λz=>c (AI_ z)) _ _ ⟨_,rfl⟩ (EM_.refl _))
      .intro D3 H3 hD3 s3 hDv;have eL:((List.range 60).filter λj=>decide (nxl lt j∉nms)).map (λj=>V.str (nxl lt j))=(((List.range 60).filter λj=>decide (nxl lt j∉nms)).map (nxl lt)).map V.str:=by rw[AZ_];rfl
       rw[eL]at hDv;show k D3 H3 (s01.trans (s2.trans s3)) (s01.free (s2.free hD3)) hDv
theorem OwR.set(h:OwR H0 H qs ls rows)(hl:ls[i]?=some l)(hr:rows[i]?=some r)(new:List Str):OwR H0 (upd H l (.lst (new.map V.str))) qs ls (rows.set i (r.1,new)):=by
 have hH:=h.l i l r hl hr;have li:=(Al_.mp hr).1;have lj:=(Al_.mp hl).1;show⟨by rw[Be_];show h.ql,by rw[Be_];show h.ll,λj q l' r' a b c=>?_,λj l' r' b c=>?_,h.nd,h.new⟩
 .rw[List.getElem?_set]at c;by_cases e:i=j
  .subst e;rw[if_pos rfl,if_pos li]at c;cases c;have:=h.q i q l' r a b hr;rw[af_ (λz=>by rw[z,hH]at this;cases this)];show this
  .rw[if_neg e]at c;have:=h.q j q l' r' a b c;rw[af_ (λz=>by rw[z,hH]at this;cases this)];show this
 .rw[List.getElem?_set]at c;by_cases e:i=j
  .subst e;rw[if_pos rfl,if_pos li]at c;cases c;rw[hl]at b;cases b;show ab_
  .rw[if_neg e]at c;rw[af_ (λz=>e ((AY_ lj h.nd).mp (by rw[hl,b,z])))];show h.l j l' r' b c
def FI_(N:Net Str)(i k:Nat)(xs:List Str):List (Str×List Str):=N.rows.set i ((N.rows.getD i (Str.empty,[])).1,(N.rows.getD i (Str.empty,[])).2.take k++(xs++(N.rows.getD i (Str.empty,[])).2.drop k))
inductive Flt(N:Net Str):Int->Net Str->Str->Prop
 |k0 {i k:Nat} {a:Str} {wl:List (Str×(Int×Int))}:i<N.rows.length->k<=(N.rows.getD i (Str.empty,[])).2.length->(frs (Str.ofString "v") N)[0]?=some a->wl.Perm (N.worths++[(a,(1,2))])->wl.Pairwise (λa b=>eLe (a.1,0) (b.1,0))->Flt N 0 ⟨N.posts,FI_ N i k [a],wl⟩ (Str.ofString "NoNet")
 |k1 {i k:Nat} {a:Str} {wl:List (Str×(Int×Int))}:i<N.rows.length->k<=(N.rows.getD i (Str.empty,[])).2.length->(frs (Str.ofString "v") N)[0]?=some a->wl.Perm (N.worths++[(a,(0,1))])->wl.Pairwise (λa b=>eLe (a.1,0) (b.1,0))->Flt N 1 ⟨N.posts,FI_ N i k [a,a],wl⟩ (Str.ofString "NoNet")
 |k2 {a b c:Str} {wl:List (Str×(Int×Int))}:(frs (Str.ofString "v") N)[0]?=some a->(frs (Str.ofString "u") N)[0]?=some b->(frs (Str.ofString "u") N)[1]?=some c->wl.Perm (N.worths++[(a,(1,2))])->wl.Pairwise (λa b=>eLe (a.1,0) (b.1,0))->Flt N 2 ⟨N.posts,N.rows++[(b,[a]),(c,[a])],wl⟩ (Str.ofString "Loose")
 |k3 {i k:Nat} {a b:Str} {wl:List (Str×(Int×Int))}:i<N.rows.length->k<=(N.rows.getD i (Str.empty,[])).2.length->(frs (Str.ofString "v") N)[0]?=some a->(frs (Str.ofString "v") N)[1]?=some b->wl.Perm (N.worths++[(a,(1,2)),(b,(3,1))])->wl.Pairwise (λa b=>eLe (a.1,0) (b.1,0))->Flt N 3 ⟨N.posts,FI_ N i k [b,a,b,a],wl⟩ (Str.ofString "NoPlane")
abbrev E6_:Stmt:=stN 55
theorem bo_:ZL ["_law_net","_law_kind","_law_big_here","_law_posts","_law_rows","_law_worths","_law_wires","_law_row","_law_at","_law_points","_law_wire"] ["_law_net","_law_kind","_law_big_here"] (EL_ E6_):=zL
theorem g8_:LK E6_ "_law_copy" .globalImplicit:=r_
theorem en_:LK E6_ "_law_free" .globalImplicit:=r_
theorem e8_:LK E6_ "len" .globalImplicit:=r_
theorem bF_:LK E6_ "sorted" .globalImplicit:=r_
def Gx_:Sp:=λvs H Q _=>∃(pn p0 p1 p2:Addr)(rs ws:List V)(N:Net Str)(kd z:Int),vs=[.ref pn,.int kd,.int z]/\At H pn p0 p1 p2 rs ws N/\0<=kd/\kd<4/\N.rows.length<=16/\0<N.rows.length/\N.worths.length<=15/\(∀r∈N.rows,r.2.length<=30)/\(N.worths.map (·.1)).Nodup /\
 ∀t pe (N':Net Str) x H',EM_ H H'->H' t=some (.tup [.ref pe,.str x])->Rep H' (.ref pe) (GJ_ N')->Flt N kd N' x->Q (.ref t) H'
theorem mn_(T:Txt K mg)(F:Fn0 K mg "_law_faulty" E6_) (GA_:Cal P w K mg base "_law_copy" ["_law_net"] 1 FZ_) (Iy_:Cal P w K mg base "_law_free" ["_law_net","_law_letter"] 1 H1_):Cal P w K mg base "_law_faulty" ["_law_net","_law_kind","_law_big_here"] 2 Gx_:=by
  show aZ_ F bo_.1 λf cdv A outer s H vs Q E hr h=>?_;obtain⟨pn,p0,p1,p2,rs,ws,N,kd,z,rfl,at0,k0,k4,r16,r0,w15,r30,wnd,k⟩:=h;refine'⟨_,?D,?R⟩
  case D =>
   refine' am_ ?a (am_ (zas 6 bo_ (an_ Iy_ (hr.mono d_) en_ (pa_c (zv 0 bo_) (pa_c bm_ aa_)))) ?b)
   case' a=>refine' gJ_ (an_ GA_ (hr.mono d_) g8_ (pa_c (zv 0 bo_) aa_)) (br_ (K:=K) (n:=3) rfl rfl (ar_ ?c (ar_ ?d (ar_ ?e bp_))))
   case c=>show zh 3 bo_
   case d=>show zh 4 bo_
   case e=>show zh 5 bo_
   case' b=>refine' am_ (zas 7 bo_ (ES_ ao_ (ES_ ap_ (zv 4 bo_) (EO_ aL_ (zv 2 bo_) (aj_ aq_ e8_ T.n_len aK_ (pa_c (zv 4 bo_) aa_)))) ac_)) ?f
   case' f=>refine' am_ (zas 8 bo_ (EO_ aL_ (EO_ av_ (zv 2 bo_) ac_) (EO_ aO_ (aj_ aq_ e8_ T.n_len aK_ (pa_c (zv 7 bo_) aa_)) ac_))) (am_ ?g ?h)
   case' g=>refine' Ft_ (aE_ Gh_ (zv 1 bo_) ac_ (E5_ _)) (am_ (aw_ (FM_ Av_ PySem.F.slot_list_insert PySem.F.type_list_insert dz_ (zv 7 bo_) (pa_c (zv 8 bo_) (pa_c (ES_ ap_ (zv 6 bo_) ac_) aa_)))) ?i) aJ_
   case' i=>refine' ag_ (aB_ (au_ (pa_c ?j (pa_c bm_ aa_))))
   case' j=>refine' au_ (pa_c (zv 3 bo_) (pa_c (zv 4 bo_) (pa_c (aj_ (dC_ hr.units) bF_ T.n_sorted cO_ (pa_c (EO_ e5_ (zv 5 bo_) (bH_ ?k)) aa_)) aa_)))
   case' k=>refine' pa_c (au_ (pa_c (ES_ ap_ (zv 6 bo_) ac_) (pa_c (au_ (pa_c ac_ (pa_c ac_ aa_))) aa_))) aa_
   case' h=>refine' am_ ?l (am_ ?m (am_ ?n (ag_ (aB_ (au_ (pa_c ?o (pa_c bm_ aa_)))))))
   case' l=>refine' Ft_ (aE_ Gh_ (zv 1 bo_) ac_ (E5_ _)) (am_ (aw_ (FM_ Av_ PySem.F.slot_list_insert PySem.F.type_list_insert dz_ (zv 7 bo_) (pa_c (zv 8 bo_) (pa_c (ES_ ap_ (zv 6 bo_) ac_) aa_)))) ?p) aJ_
   case' p=>refine' am_ (aw_ (FM_ Av_ PySem.F.slot_list_insert PySem.F.type_list_insert dz_ (zv 7 bo_) (pa_c (zv 8 bo_) (pa_c (ES_ ap_ (zv 6 bo_) ac_) aa_)))) ?q
   case' q=>refine' ag_ (aB_ (au_ (pa_c ?r (pa_c bm_ aa_))))
   case' r=>refine' au_ (pa_c (zv 3 bo_) (pa_c (zv 4 bo_) (pa_c (aj_ (dC_ hr.units) bF_ T.n_sorted cO_ (pa_c (EO_ e5_ (zv 5 bo_) (bH_ ?s)) aa_)) aa_)))
   case' s=>refine' pa_c (au_ (pa_c (ES_ ap_ (zv 6 bo_) ac_) (pa_c (au_ (pa_c ac_ (pa_c ac_ aa_))) aa_))) aa_
   case' m=>refine' Ft_ (aE_ Gh_ (zv 1 bo_) ac_ (E5_ _)) (am_ (zas 9 bo_ (an_ Iy_ (hr.mono d_) en_ (pa_c (zv 0 bo_) (pa_c bm_ aa_)))) ?t) aJ_
   case' t=>refine' am_ (zas 4 bo_ (EO_ e5_ (zv 4 bo_) (bH_ ?u))) ?v
   case' u=>refine' pa_c (au_ (pa_c (ES_ ap_ (zv 9 bo_) ac_) (pa_c (bH_ (pa_c (ES_ ap_ (zv 6 bo_) ac_) aa_)) aa_))) ?w
   case' w=>refine' pa_c (au_ (pa_c (ES_ ap_ (zv 9 bo_) ac_) (pa_c (bH_ (pa_c (ES_ ap_ (zv 6 bo_) ac_) aa_)) aa_))) aa_
   case' v=>refine' ag_ (aB_ (au_ (pa_c ?x (pa_c bm_ aa_))))
   case' x=>refine' au_ (pa_c (zv 3 bo_) (pa_c (zv 4 bo_) (pa_c (aj_ (dC_ hr.units) bF_ T.n_sorted cO_ (pa_c (EO_ e5_ (zv 5 bo_) (bH_ ?y)) aa_)) aa_)))
   case' y=>refine' pa_c (au_ (pa_c (ES_ ap_ (zv 6 bo_) ac_) (pa_c (au_ (pa_c ac_ (pa_c ac_ aa_))) aa_))) aa_
   case' n=>refine' bT_ AS_ rfl (pY_ (K:=K) rfl (au_ ?z)) ?aa (ag_ (aw_ (FM_ Av_ PySem.F.slot_list_insert PySem.F.type_list_insert dz_ (zv 7 bo_) (pa_c (zv 8 bo_) (pa_c (zv 10 bo_) aa_)))))
   case' z=>refine' pa_c (ES_ ap_ (zv 6 bo_) ac_) (pa_c (ES_ ap_ (zv 6 bo_) ac_) (pa_c (ES_ ap_ (zv 6 bo_) ac_) (pa_c (ES_ ap_ (zv 6 bo_) ac_) aa_)))
   case aa=>show zh 10 bo_
   case' o=>refine' au_ (pa_c (zv 3 bo_) (pa_c (zv 4 bo_) (pa_c (aj_ (dC_ hr.units) bF_ T.n_sorted cO_ (pa_c (EO_ e5_ (zv 5 bo_) (bH_ ?ab)) aa_)) aa_)))
   case' ab=>refine' pa_c (au_ (pa_c (ES_ ap_ (zv 6 bo_) ac_) (pa_c (au_ (pa_c ac_ (pa_c ac_ aa_))) aa_))) ?ac
   case' ac=>refine' pa_c (au_ (pa_c (ES_ ap_ (zv 6 bo_) ac_) (pa_c (au_ (pa_c ac_ (pa_c ac_ aa_))) aa_))) aa_
  case R =>
   nofun;show⟨pn,p0,p1,p2,rs,ws,N,rfl,at0.t,at0.h0,at0.h1,at0.r1,at0.h2,at0.r2,o_,λpe c0 D c2 qs ls H1 s1 ow=>?_⟩;have at1:=ow.at_ (E7_.mono s1 _ at0.r2);have n40:(HZ_ N).length<=40:=by unfold HZ_;rw[Ae_,Ab_,Ab_];lia
   show⟨pe,rfl,_,SqT.of ow.t,rfl,_,_,rfl,_,_,rfl,_,_,rfl,rfl,?_⟩;nofun;show⟨Str.ofString "v",pn,p0,p1,p2,rs,ws,N,rfl,.inr rfl,at0.mono s1,n40,λW H2 s2 nW hW=>?_⟩;have ow2:=ow.ow.mono s2;have ql:=ow2.ql;have ll:=ow2.ll;obtain⟨i,hi,il⟩:∃i:Nat,z%((qs.map V.ref).length:Int)=i/\i<qs.length:=by rw[Ab_];have a1:=AV_ z (show(qs.length:Int)≠0 by lia);have a2:=AT_ z (show(0:Int)<(qs.length:Int) by lia);show⟨(z%(qs.length:Int)).toNat,o_,o_⟩
   obtain⟨l,hl⟩:∃l,ls[i]?=some l:=⟨_,Aa_ o_⟩;obtain⟨q,hq⟩:∃q,qs[i]?=some q:=⟨_,Aa_ il⟩;obtain⟨r,hr1,er⟩:∃r,N.rows[i]?=some r/\N.rows.getD i (Str.empty,[])=r:=⟨_,Aa_ (show i<N.rows.length by lia),by rw[Ac_,Aa_ (show i<N.rows.length by lia)];rfl⟩;have hq2:=ow2.q i q l r hq hl hr1;have hl2:=ow2.l i l r hl hr1;have rl30:=r30 r (Am_ hr1);nofun;show⟨_,.inl (s2 _ _ ow.hD),by rw[Ab_];lia,_,s2 _ _ ow.hD,.ref q,?_,_,rfl,_,hq2,_,FX_,?_⟩
   .rw[hi];show cN_ o_ ?_;rw[AD_,Ag_,hq];rfl
   nofun;show⟨d_,r_,_,.inl hl2,o_,?_⟩;obtain⟨kk,hk,kl⟩:∃k:Nat,z/20%(((r.2.map V.str).length:Int)+1)=k/\k<=r.2.length:=by rw[Ab_];have a1:=AV_ (z/20) (show(r.2.length:Int)+1≠0 by lia);have a2:=AT_ (z/20) (show(0:Int)<(r.2.length:Int)+1 by lia);show⟨(z/20%((r.2.length:Int)+1)).toNat,o_,o_⟩
   rw[hk];have fl:=nP_ (l:=Str.ofString "v") (N:=N) (.inr rfl) n40;obtain⟨a,ha⟩:∃a,(frs (Str.ofString "v") N)[0]?=some a:=⟨_,Aa_ o_⟩;obtain⟨b,hb⟩:∃b,(frs (Str.ofString "v") N)[1]?=some b:=⟨_,Aa_ o_⟩;have aA:atI ((frs (Str.ofString "v") N).map V.str) 0=some (.str a):=cN_ d_ (by rw[Ag_];show congrArg (Option.map V.str) ha);have aB:atI ((frs (Str.ofString "v") N).map V.str) 1=some (.str b):=cN_ d_ (by rw[Ag_];show congrArg (Option.map V.str) hb);have aN:a∉N.worths.map (·.1):=λz=>(kX_ (.inr rfl) (Am_ ha)).2 (Aw_ _ z);have bN:b∉N.worths.map (·.1):=λz=>(kX_ (.inr rfl) (Am_ hb)).2 (Aw_ _ z);have ab:a≠b:=λz=>by have:=(AY_ (i:=0) (j:=1) o_ (nO_ (N:=N) (.inr rfl))).mp (by rw[ha,hb,z]);cases this
   have f12:=s1.trans s2;have fl0:H l=none:=ow.ow.new l (Am_ hl)
   have insE:∀(ys:List Str)(y:Str),((r.2.take kk++(ys++r.2.drop kk)).map V.str).take kk++V.str y::((r.2.take kk++(ys++r.2.drop kk)).map V.str).drop kk=(r.2.take kk++((y::ys)++r.2.drop kk)).map V.str:=λys y=>by
    have tl:(r.2.take kk).length=kk:=by rw[AW_];lia
    rw[<-CB_,<-Ds_,List.take_append_of_le_length o_,List.drop_append_of_le_length o_,A4_ o_,Dj_ (Nat.le_of_eq tl),Cd_,Ar_,Ar_,Ar_,Az_];rfl
   have iR:∀ys:List Str,(FI_ N i kk ys)[i]?=some (r.1,r.2.take kk++(ys++r.2.drop kk)):=λys=>by unfold FI_;rw[er,List.getElem?_set,if_pos rfl,if_pos o_]
   have rS:∀(ys:List Str)(y:Str)(Hx:Hp),OwR H Hx qs ls (FI_ N i kk ys)->OwR H (upd Hx l (.lst ((r.2.take kk++((y::ys)++r.2.drop kk)).map V.str))) qs ls (FI_ N i kk (y::ys)):=λys y Hx o=>by have:=o.set hl (iR ys) (r.2.take kk++((y::ys)++r.2.drop kk));unfold FI_ at this⊢;rw[List.set_set]at this;rw[er];show this
   have r0':FI_ N i kk []=N.rows:=by
    unfold FI_;rw[er,Cd_,A5_]
    show List.ext_getElem? λj=>by
     rw[List.getElem?_set];split
     .rename_i e;subst e;rw[if_pos o_,hr1]
     .rfl
   have o0:OwR H H2 qs ls (FI_ N i kk []):=by rw[r0'];show ow2
   have hl0:H2 l=some (.lst ((r.2.take kk++([]++r.2.drop kk)).map V.str)):=by rw[Cd_,A5_];show hl2
   have lm:=Am_ hl;have nl0:c0≠l:=λz=>ow.c0l (z▸lm);have nlD:D≠l:=λz=>ow.Dl (z▸lm);have nl2:c2≠l:=λz=>ow.c2l (z▸lm);have nlW:W≠l:=λz=>by rw[z,ow.ow.l i l r hl hr1]at nW;cases nW
   have B2:(H2 c0=some (.lst (N.posts.map V.str))/\H2 D=some (.lst (qs.map V.ref))/\H2 c2=some (.lst ws)/\H2 W=some (.lst ((frs (Str.ofString "v") N).map V.str)))/\EM_ H H2:=⟨⟨s2 _ _ ow.h0,s2 _ _ ow.hD,s2 _ _ ow.h2,hW⟩,f12⟩;have BS:∀(Hx:Hp)(o:HO),((Hx c0=some (.lst (N.posts.map V.str))/\Hx D=some (.lst (qs.map V.ref))/\Hx c2=some (.lst ws)/\Hx W=some (.lst ((frs (Str.ofString "v") N).map V.str)))/\EM_ H Hx)->((upd Hx l o c0=some (.lst (N.posts.map V.str))/\upd Hx l o D=some (.lst (qs.map V.ref))/\upd Hx l o c2=some (.lst ws)/\upd Hx l o W=some (.lst ((frs (Str.ofString "v") N).map V.str)))/\EM_ H (upd Hx l o)):=λHx o ⟨⟨g0,g1,g2,g3⟩,g4⟩ =>⟨⟨by rw[af_ nl0];show g0,by rw[af_ nlD];show g1,by rw[af_ nl2];show g2,by rw[af_ nlW];show g3⟩,g4.upd fl0⟩;have fin:∀(Hx Hz:Hp)(rows':List (Str×List Str))(D':Addr)(qs' ls':List Addr)(L p4 p5:Addr)(zs:List V)(fs:List (Str×(Int×Int)))(x:Str),OwR H Hx qs' ls' rows'->Hx c0=some (.lst (N.posts.map V.str))->Hx D'=some (.lst (qs'.map V.ref))->EM_ H Hx->EM_ Hx Hz->Hz L=some (.lst zs)->E7_ Hz zs (fs.map dWo)->Hz p4=none->upd Hz p4 (.tup [.ref c0,.ref D',.ref L]) p5=none->Flt N kd ⟨N.posts,rows',fs⟩ x->Q (.ref p5) (upd (upd Hz p4 (.tup [.ref c0,.ref D',.ref L])) p5 (.tup [.ref p4,.str x])):=λHx Hz rows' D' qs' ls' L p4 p5 zs fs x o h0 hD hs sx hL rz n4 n5 fl=>by have s4:=EM_.new n4 (o:=HO.tup [.ref c0,.ref D',.ref L]);have s5:=EM_.new n5 (o:=HO.tup [.ref p4,.str x]);have sz:=sx.trans (s4.trans s5);show k p5 p4 ⟨N.posts,rows',fs⟩ x _ (hs.trans sz) ab_ ⟨p4,_,rfl,s5 _ _ ab_,_,_,rfl,⟨c0,_,rfl,sz _ _ h0,b0_ _⟩,_,_,rfl,⟨D',_,rfl,sz _ _ hD,(o.mono sz).reps⟩,_,_,rfl,⟨L,zs,rfl,(s4.trans s5) _ _ hL,E7_.mono (s4.trans s5) _ rz⟩,rfl⟩ fl
   have wsl:ws.length=N.worths.length:=by rw[at0.r2.length,Ab_]
   have nd1:∀q:Int×Int,((N.worths++[(a,q)]).map (·.1)).Nodup:=λq=>by rw[Ar_];show AA_.mpr ⟨wnd,s_,λx hx y hy e=>aN ((e.trans (show y=a from Ad_.mp hy))▸hx)⟩
   have nd2:∀q q':Int×Int,((N.worths++[(a,q),(b,q')]).map (·.1)).Nodup:=λq q'=>by
    rw[Ar_];show AA_.mpr ⟨wnd,by simpa using ab,λx hx y hy e=>?_⟩;have hy':y=a\/y=b:=by simpa using hy
    rcases hy' with h|h
    .show aN ((e.trans h)▸hx)
    .show bN ((e.trans h)▸hx)
   nofun;by_cases d0:kd=0
   .subst d0;rw[if_pos rfl];nofun;show⟨.inl ⟨_,.inl (.inl hl0)⟩,_,hW,_,aA,_,hl0,Int.natCast_nonneg kk,by rw[AD_,Ab_];simp;lia,by rw[Ab_];simp;lia,?_⟩;rw[AD_,insE];obtain⟨⟨g0,g1,g2,g3⟩,g4⟩:=BS _ (.lst ((r.2.take kk++((a::[])++r.2.drop kk)).map V.str)) B2;have o3:=rS _ a _ o0;generalize upd H2 l (.lst ((r.2.take kk++((a::[])++r.2.drop kk)).map V.str))=H3 at*;nofun;show⟨_,g3,_,aA,d_,λp np=>⟨d_,λp1 np1=>⟨d_,λp2 np2=>?_⟩⟩⟩;have S1:=EM_.new np (o:=HO.tup [V.int 1,V.int 2]);have h1:=ab_ (H:=H3) (a:=p) (o:=HO.tup [V.int 1,V.int 2]);generalize upd H3 p (HO.tup [V.int 1,V.int 2])=H4 at*;have S2:=EM_.new np1 (o:=HO.tup [V.str a,V.ref p]);have h2:=ab_ (H:=H4) (a:=p1) (o:=HO.tup [V.str a,V.ref p]);generalize upd H4 p1 (HO.tup [V.str a,V.ref p])=H5 at*;have S3:=EM_.new np2 (o:=HO.lst [V.ref p1]);generalize upd H5 p2 (HO.lst [V.ref p1])=H6 at*;have S36:=S1.trans (S2.trans S3);show⟨_,S36 _ _ g2,by rw[wsl];show AO_ (EN_ o_),λp3 np3=>?_⟩;have S7:=EM_.new np3 (o:=HO.lst (ws++[V.ref p1]));generalize upd H6 p3 (HO.lst (ws++[V.ref p1]))=H7 at*;have S37:=S36.trans S7;show⟨N.worths++[(a,(1,2))],?_,by rw[Ae_,AL_];lia,nd1 _,λL zs fs nL rz fp fo=>⟨d_,λp4 np4=>⟨d_,λp5 np5=>?_⟩⟩⟩
    .have:=E7_.append (E7_.mono (g4.trans S37) _ at0.r2) (show E7_ H7 [V.ref p1] ([(a,((1:Int),(2:Int)))].map dWo)from⟨_,_,rfl,⟨p1,_,rfl,(S3.trans S7) _ _ h2,_,_,rfl,rfl,_,_,rfl,⟨p,_,rfl,(S2.trans (S3.trans S7)) _ _ h1,_,_,rfl,rfl,_,_,rfl,rfl,rfl⟩,rfl⟩,rfl⟩);rw[<-Ar_]at this;show this
    have SL:=EM_.new nL (o:=HO.lst zs);have hL:=ab_ (H:=H7) (a:=L) (o:=HO.lst zs);show fin H3 _ _ D qs ls L p4 p5 zs fs _ o3 g0 g1 g4 (S37.trans SL) hL (E7_.mono SL _ rz) np4 np5 (.k0 o_ (by rw[er];show kl) ha fp fo)
   rw[if_neg d0];nofun;by_cases d1:kd=1
   .subst d1;rw[if_pos rfl];nofun;show⟨.inl ⟨_,.inl (.inl hl0)⟩,_,hW,_,aA,_,hl0,Int.natCast_nonneg kk,by rw[AD_,Ab_];simp;lia,by rw[Ab_];simp;lia,?_⟩;rw[AD_,insE];have B3:=BS _ (.lst ((r.2.take kk++((a::[])++r.2.drop kk)).map V.str)) B2;have o3:=rS _ a _ o0;have hl3:=ab_ (H:=H2) (a:=l) (o:=HO.lst ((r.2.take kk++((a::[])++r.2.drop kk)).map V.str));generalize upd H2 l (.lst ((r.2.take kk++((a::[])++r.2.drop kk)).map V.str))=H3 at*;nofun;show⟨.inl ⟨_,.inl (.inl hl3)⟩,_,B3.1.2.2.2,_,aA,_,hl3,Int.natCast_nonneg kk,by rw[AD_,Ab_];simp;lia,by rw[Ab_];simp;lia,?_⟩;rw[AD_,insE];obtain⟨⟨g0,g1,g2,g3⟩,g4⟩:=BS _ (.lst ((r.2.take kk++((a::[a])++r.2.drop kk)).map V.str)) B3;have o4:=rS _ a _ o3;generalize upd H3 l (.lst ((r.2.take kk++((a::[a])++r.2.drop kk)).map V.str))=H33 at*;nofun;show⟨_,g3,_,aA,d_,λp np=>⟨d_,λp1 np1=>⟨d_,λp2 np2=>?_⟩⟩⟩;have S1:=EM_.new np (o:=HO.tup [V.int 0,V.int 1]);have h1:=ab_ (H:=H33) (a:=p) (o:=HO.tup [V.int 0,V.int 1]);generalize upd H33 p (HO.tup [V.int 0,V.int 1])=H4 at*;have S2:=EM_.new np1 (o:=HO.tup [V.str a,V.ref p]);have h2:=ab_ (H:=H4) (a:=p1) (o:=HO.tup [V.str a,V.ref p]);generalize upd H4 p1 (HO.tup [V.str a,V.ref p])=H5 at*;have S3:=EM_.new np2 (o:=HO.lst [V.ref p1]);generalize upd H5 p2 (HO.lst [V.ref p1])=H6 at*;have S36:=S1.trans (S2.trans S3);show⟨_,S36 _ _ g2,by rw[wsl];show AO_ (EN_ o_),λp3 np3=>?_⟩;have S7:=EM_.new np3 (o:=HO.lst (ws++[V.ref p1]));generalize upd H6 p3 (HO.lst (ws++[V.ref p1]))=H7 at*;have S37:=S36.trans S7;show⟨N.worths++[(a,(0,1))],?_,by rw[Ae_,AL_];lia,nd1 _,λL zs fs nL rz fp fo=>⟨d_,λp4 np4=>⟨d_,λp5 np5=>?_⟩⟩⟩
    .have:=E7_.append (E7_.mono (g4.trans S37) _ at0.r2) (show E7_ H7 [V.ref p1] ([(a,((0:Int),(1:Int)))].map dWo)from⟨_,_,rfl,⟨p1,_,rfl,(S3.trans S7) _ _ h2,_,_,rfl,rfl,_,_,rfl,⟨p,_,rfl,(S2.trans (S3.trans S7)) _ _ h1,_,_,rfl,rfl,_,_,rfl,rfl,rfl⟩,rfl⟩,rfl⟩);rw[<-Ar_]at this;show this
    have SL:=EM_.new nL (o:=HO.lst zs);have hL:=ab_ (H:=H7) (a:=L) (o:=HO.lst zs);show fin H33 _ _ D qs ls L p4 p5 zs fs _ o4 g0 g1 g4 (S37.trans SL) hL (E7_.mono SL _ rz) np4 np5 (.k1 o_ (by rw[er];show kl) ha fp fo)
   rw[if_neg d1];nofun;by_cases d2:kd=2
   .subst d2;rw[if_pos rfl];nofun;show⟨Str.ofString "u",pn,p0,p1,p2,rs,ws,N,rfl,.inl rfl,at0.mono f12,n40,λU Hu su nU hU=>?_⟩;have ful:=nP_ (l:=Str.ofString "u") (N:=N) (.inl rfl) n40;obtain⟨u0,hu0⟩:∃a,(frs (Str.ofString "u") N)[0]?=some a:=⟨_,Aa_ o_⟩;obtain⟨u1,hu1⟩:∃b,(frs (Str.ofString "u") N)[1]?=some b:=⟨_,Aa_ o_⟩;have uA:atI ((frs (Str.ofString "u") N).map V.str) 0=some (.str u0):=cN_ d_ (by rw[Ag_];show congrArg (Option.map V.str) hu0);have uB:atI ((frs (Str.ofString "u") N).map V.str) 1=some (.str u1):=cN_ d_ (by rw[Ag_];show congrArg (Option.map V.str) hu1);nofun;have hWu:=su _ _ hW;show⟨_,hU,_,uA,_,hWu,_,aA,d_,λm1 n1=>⟨d_,λm2 n2=>?_⟩⟩;have T1:=EM_.new n1 (o:=HO.lst [V.str a]);have t1:=ab_ (H:=Hu) (a:=m1) (o:=HO.lst [V.str a]);generalize upd Hu m1 (HO.lst [V.str a])=X1 at*;have T2:=EM_.new n2 (o:=HO.tup [V.str u0,V.ref m1]);have t2:=ab_ (H:=X1) (a:=m2) (o:=HO.tup [V.str u0,V.ref m1]);generalize upd X1 m2 (HO.tup [V.str u0,V.ref m1])=X2 at*;have T12:=T1.trans T2;have w1:=(ow2.mono su).add T12 n1 ((f12.trans su).free n1) t2 (T2 _ _ t1) (r:=(u0,[a]));show⟨_,T12 _ _ hU,_,uB,_,T12 _ _ hWu,_,aA,d_,λm3 n3=>⟨d_,λm4 n4=>⟨d_,λm5 n5=>?_⟩⟩⟩;have T3:=EM_.new n3 (o:=HO.lst [V.str a]);have t3:=ab_ (H:=X2) (a:=m3) (o:=HO.lst [V.str a]);generalize upd X2 m3 (HO.lst [V.str a])=X3 at*;have T4:=EM_.new n4 (o:=HO.tup [V.str u1,V.ref m3]);have t4:=ab_ (H:=X3) (a:=m4) (o:=HO.tup [V.str u1,V.ref m3]);generalize upd X3 m4 (HO.tup [V.str u1,V.ref m3])=X4 at*;have T34:=T3.trans T4;have f2:=(f12.trans su).trans T12;have w2:=w1.add T34 n3 (f2.free n3) t4 (T4 _ _ t3) (r:=(u1,[a]));have T5:=EM_.new n5 (o:=HO.lst [V.ref m2,V.ref m4]);generalize upd X4 m5 (HO.lst [V.ref m2,V.ref m4])=X5 at*;have T25:=su.trans (T12.trans (T34.trans T5));show⟨_,T25 _ _ (s2 _ _ ow.hD),by rw[Ab_];show AO_ (EN_ o_),λm6 n6=>?_⟩;have T6:=EM_.new n6 (o:=HO.lst (qs.map V.ref++[V.ref m2,V.ref m4]));have g1:=ab_ (H:=X5) (a:=m6) (o:=HO.lst (qs.map V.ref++[V.ref m2,V.ref m4]));generalize upd X5 m6 (HO.lst (qs.map V.ref++[V.ref m2,V.ref m4]))=H33 at*;have T26:=T25.trans T6;have g0:=T26 _ _ B2.1.1;have g2:=T26 _ _ B2.1.2.2.1;have g3:=T26 _ _ hW;have g4:=f12.trans T26;have o4:=w2.mono (T5.trans T6);have eq:qs.map V.ref++[V.ref m2,V.ref m4]=((qs++[m2])++[m4]).map V.ref:=s_
    rw[eq]at g1;have er2:N.rows++[(u0,[a])]++[(u1,[a])]=N.rows++[(u0,[a]),(u1,[a])]:=s_
    rw[er2]at o4;nofun;show⟨_,g3,_,aA,d_,λp np=>⟨d_,λp1 np1=>⟨d_,λp2 np2=>?_⟩⟩⟩;have S1:=EM_.new np (o:=HO.tup [V.int 1,V.int 2]);have h1:=ab_ (H:=H33) (a:=p) (o:=HO.tup [V.int 1,V.int 2]);generalize upd H33 p (HO.tup [V.int 1,V.int 2])=H4 at*;have S2:=EM_.new np1 (o:=HO.tup [V.str a,V.ref p]);have h2:=ab_ (H:=H4) (a:=p1) (o:=HO.tup [V.str a,V.ref p]);generalize upd H4 p1 (HO.tup [V.str a,V.ref p])=H5 at*;have S3:=EM_.new np2 (o:=HO.lst [V.ref p1]);generalize upd H5 p2 (HO.lst [V.ref p1])=H6 at*;have S36:=S1.trans (S2.trans S3);show⟨_,S36 _ _ g2,by rw[wsl];show AO_ (EN_ o_),λp3 np3=>?_⟩;have S7:=EM_.new np3 (o:=HO.lst (ws++[V.ref p1]));generalize upd H6 p3 (HO.lst (ws++[V.ref p1]))=H7 at*;have S37:=S36.trans S7;show⟨N.worths++[(a,(1,2))],?_,by rw[Ae_,AL_];lia,nd1 _,λL zs fs nL rz fp fo=>⟨d_,λp4 np4=>⟨d_,λp5 np5=>?_⟩⟩⟩
    .have:=E7_.append (E7_.mono (g4.trans S37) _ at0.r2) (show E7_ H7 [V.ref p1] ([(a,((1:Int),(2:Int)))].map dWo)from⟨_,_,rfl,⟨p1,_,rfl,(S3.trans S7) _ _ h2,_,_,rfl,rfl,_,_,rfl,⟨p,_,rfl,(S2.trans (S3.trans S7)) _ _ h1,_,_,rfl,rfl,_,_,rfl,rfl,rfl⟩,rfl⟩,rfl⟩);rw[<-Ar_]at this;show this
    have SL:=EM_.new nL (o:=HO.lst zs);have hL:=ab_ (H:=H7) (a:=L) (o:=HO.lst zs);show fin H33 _ _ _ _ _ L p4 p5 zs fs _ o4 g0 g1 g4 (S37.trans SL) hL (E7_.mono SL _ rz) np4 np5 (.k2 ha hu0 hu1 fp fo)
   have d3:kd=3:=o_
   subst d3;rw[if_neg d2];nofun;show⟨_,hW,_,aA,_,hW,_,aB,_,hW,_,aA,_,hW,_,aB,d_,λtp ntp=>⟨⟨_,.inl (.inl ab_)⟩,?_⟩⟩;have T1:=EM_.new ntp (o:=HO.tup [V.str a,V.str b,V.str a,V.str b]);have ht:=ab_ (H:=H2) (a:=tp) (o:=HO.tup [V.str a,V.str b,V.str a,V.str b]);have tl:tp≠l:=(ae_ hl2 ntp).symm;generalize upd H2 tp (HO.tup [V.str a,V.str b,V.str a,V.str b])=H3 at*;show qb_ (xs:=[V.str a,V.str b,V.str a,V.str b]) (λt σ Hx=>∃e10:Option V,σ=[some (.ref pn),some (.int 3),some (.int z),some (.ref c0),some (.ref D),some (.ref c2),some (.ref W),some (.ref l),some (.int kk),none,e10]/\Hx tp=some (.tup [V.str a,V.str b,V.str a,V.str b])/\OwR H Hx qs ls (FI_ N i kk ([a,b,a,b].take t).reverse)/\Hx l=some (.lst ((r.2.take kk++(([a,b,a,b].take t).reverse++r.2.drop kk)).map V.str))/\(Hx c0=some (.lst (N.posts.map V.str))/\Hx D=some (.lst (qs.map V.ref))/\Hx c2=some (.lst ws)/\Hx W=some (.lst ((frs (Str.ofString "v") N).map V.str)))/\EM_ H Hx) ⟨_,rfl,ht,o0.mono T1,T1 _ _ hl0,⟨T1 _ _ B2.1.1,T1 _ _ B2.1.2.1,T1 _ _ B2.1.2.2.1,T1 _ _ hW⟩,f12.trans T1⟩ ?_ ?_ ?_
   .rintro t σ Hx ht' ⟨e10,rfl,g,_⟩;show .inl (.inl g)
   .rintro t x σ Hx hx kk2 kb2 hk2 hb2 G2 hG2 ⟨e10,rfl,g5,o,hlx,B⟩;show hG2 ?_;obtain⟨y,hy,rfl⟩:∃y,[a,b,a,b][t]?=some y/\x=V.str y:=by have e:([V.str a,V.str b,V.str a,V.str b]:List V)=[a,b,a,b].map V.str:=rfl;rw[e,Ag_]at hx;obtain⟨y,hy,rfl⟩:=Di_.mp hx;show⟨y,hy,rfl⟩
    have t4:t<4:=(Al_.mp hy).1;have tk:([a,b,a,b].take (t+1)).reverse=y::([a,b,a,b].take t).reverse:=by rw[Bp_,hy,List.reverse_append];rfl
    nofun;show⟨.inl ⟨_,.inl (.inl hlx)⟩,_,hlx,Int.natCast_nonneg kk,by rw[AD_,Ab_];simp;lia,by rw[Ab_];simp;lia,?_⟩;rw[AD_,insE];show hk2 _ _ ⟨_,rfl,by rw[af_ tl];show g5,?_,?_,BS _ _ B⟩
    .rw[tk];show rS _ _ _ o
    .rw[tk];show ab_
   .rintro σ Hx ⟨e10,rfl,g5,o4,hlx,⟨g0,g1,g2,g3⟩,g4⟩;have ea:([a,b,a,b].take [V.str a,V.str b,V.str a,V.str b].length).reverse=[b,a,b,a]:=rfl;rw[ea]at o4;nofun;show⟨_,g3,_,aA,d_,λp np=>⟨d_,λp1 np1=>?_⟩⟩;have S1:=EM_.new np (o:=HO.tup [V.int 1,V.int 2]);have h1:=ab_ (H:=Hx) (a:=p) (o:=HO.tup [V.int 1,V.int 2]);generalize upd Hx p (HO.tup [V.int 1,V.int 2])=H4 at*;have S2:=EM_.new np1 (o:=HO.tup [V.str a,V.ref p]);have h2:=ab_ (H:=H4) (a:=p1) (o:=HO.tup [V.str a,V.ref p]);generalize upd H4 p1 (HO.tup [V.str a,V.ref p])=H5 at*;show⟨_,(S1.trans S2) _ _ g3,_,aB,d_,λp6 np6=>⟨d_,λp7 np7=>⟨d_,λp2 np2=>?_⟩⟩⟩;have S5:=EM_.new np6 (o:=HO.tup [V.int 3,V.int 1]);have h6:=ab_ (H:=H5) (a:=p6) (o:=HO.tup [V.int 3,V.int 1]);generalize upd H5 p6 (HO.tup [V.int 3,V.int 1])=H8 at*;have S6:=EM_.new np7 (o:=HO.tup [V.str b,V.ref p6]);have h7:=ab_ (H:=H8) (a:=p7) (o:=HO.tup [V.str b,V.ref p6]);generalize upd H8 p7 (HO.tup [V.str b,V.ref p6])=H9 at*;have S3:=EM_.new np2 (o:=HO.lst [V.ref p1,V.ref p7]);generalize upd H9 p2 (HO.lst [V.ref p1,V.ref p7])=H6 at*;have S56:=S5.trans S6;have S36:=S1.trans (S2.trans (S56.trans S3));show⟨_,S36 _ _ g2,by rw[wsl];show AO_ (EN_ o_),λp3 np3=>?_⟩;have S7:=EM_.new np3 (o:=HO.lst (ws++[V.ref p1,V.ref p7]));generalize upd H6 p3 (HO.lst (ws++[V.ref p1,V.ref p7]))=H7 at*;have S37:=S36.trans S7;have S3z:=S3.trans S7;show⟨N.worths++[(a,(1,2)),(b,(3,1))],?_,by rw[Ae_];simp only[AF_,BF_];lia,nd2 _ _,λL zs fs nL rz fp fo=>⟨d_,λp4 np4=>⟨d_,λp5 np5=>?_⟩⟩⟩
    .have:=E7_.append (E7_.mono (g4.trans S37) _ at0.r2) (show E7_ H7 [V.ref p1,V.ref p7] ([(a,((1:Int),(2:Int))),(b,((3:Int),(1:Int)))].map dWo)from⟨_,_,rfl,⟨p1,_,rfl,(S56.trans S3z) _ _ h2,_,_,rfl,rfl,_,_,rfl,⟨p,_,rfl,(S2.trans (S56.trans S3z)) _ _ h1,_,_,rfl,rfl,_,_,rfl,rfl,rfl⟩,rfl⟩,_,_,rfl,⟨p7,_,rfl,S3z _ _ h7,_,_,rfl,rfl,_,_,rfl,⟨p6,_,rfl,(S6.trans S3z) _ _ h6,_,_,rfl,rfl,_,_,rfl,rfl,rfl⟩,rfl⟩,rfl⟩);rw[<-Ar_]at this;show this
    have SL:=EM_.new nL (o:=HO.lst zs);have hL:=ab_ (H:=H7) (a:=L) (o:=HO.lst zs);show fin Hx _ _ D qs ls L p4 p5 zs fs _ o4 g0 g1 g4 (S37.trans SL) hL (E7_.mono SL _ rz) np4 np5 (.k3 o_ (by rw[er];show kl) ha hb fp fo)
structure Dr(N:Net Str):Prop where
 ok:Fi_ N
 po:EZ_ N
 wo:WOk N
 so:N.worths.Pairwise (λa b=>eLe (a.1,0) (b.1,0))
 nm:NmN N
 nt:NtH N
 pl:Pl N.posts.length N.worths.length (trn N)
 r16:N.rows.length<=16
 tot:N.all.length=2*N.worths.length
theorem qD_:∀c∈sgs,c<128:=r_
theorem HM_(h:Fl_ x):Wd x:=⟨by have:=h.2.1;lia,λc hc=>qD_ c (h.2.2 c hc)⟩
theorem Lb_(h:Fl_ x):Jy_ x=true:=by unfold Jy_;rw[AG_ h.1,AG_ h.2.1,Bool.true_and,Bool.true_and];show List.all_eq_true.mpr λc hc=>by simpa using h.2.2 c hc
theorem Ku_{q:Int×Int}(h:Ws q):isW q=true:=by unfold isW;rw[AG_ h.2.1,AG_ h.1.1,Bool.true_and,Bool.true_and];show AG_ h.1.2
theorem Kv_{q:Int×Int}(h:Ws q):Bd2 q:=⟨by have:=h.2.1;have:=h.2.2.1;lia,by have:=h.1.1;have:=h.2.2.2;lia⟩
theorem JC_(h1:∀x∈N.posts,Fl_ x)(h2:∀r∈N.rows,Fl_ r.1/\∀x∈r.2,Fl_ x):cN N=true:=List.all_eq_true.mpr λx hx=>Lb_ (by
 rcases Ao_.mp hx with hx|hx
 .rcases Ao_.mp hx with hx|hx
  .show h1 x hx
  .obtain⟨r,hr,rfl⟩:=Ai_.mp hx;show(h2 r hr).1
 .obtain⟨r,hr,hx'⟩:=(f3_ N x).mp hx;show(h2 r hr).2 x hx')
theorem JG_(h1:(N.rows.map (·.1)).Nodup)(h2:N.posts.Nodup)(h3:∀p∈N.posts,p∈N.rows.map (·.1)):cP N=true:=by unfold cP;rw[AG_ h1,AG_ h2,Bool.true_and,Bool.true_and];show List.all_eq_true.mpr λx hx=>AG_ (h3 x hx)
theorem oW_{kv:Str×List (End Str)}(hkv:kv∈E8_ N):kv.2.length=N.all.count kv.1:=by
 obtain⟨_,h2,h3,_⟩:=aU_ _ (occ N.rows) rfl;have hf:=fd_ N.rows
 have key:∀(l:List (Str×End Str)),(l.filter λx=>decide (x.1=kv.1)).length=(l.map (·.1)).count kv.1:=λl=>by
  induction l with
  |nil=>rfl
  |cons a l ih =>rw[Az_,BP_,<-ih,List.filter_cons];by_cases h:a.1=kv.1 <;> simp[h]
 have hl:=congrArg List.length (h2 kv hkv);rw[Ab_]at hl;have hl2:((occ N.rows).filter λx=>decide (x.1=kv.1)).length=kv.2.length:=hl.symm;rw[key,hf]at hl2;show hl2.symm
theorem JA_(h:∀x∈N.all,N.all.count x=2):cW N=true:=List.all_eq_true.mpr λkv hkv=>AG_ (by rw[oW_ hkv];show h _ ?_;obtain⟨r,hr,hx⟩:=(f3_ N kv.1).mp (Ai_.mpr ⟨kv,hkv,rfl⟩);show AX_.mpr ⟨r.2,Ai_.mpr ⟨r,hr,rfl⟩,hx⟩)
theorem nR_:x∈N.all↔∃r∈N.rows,x∈r.2:=by
 unfold Net.all;rw[AX_];constructor
 .rintro⟨l,hl,hx⟩;obtain⟨r,hr,rfl⟩:=Ai_.mp hl;show⟨r,hr,hx⟩
 .rintro⟨r,hr,hx⟩;show⟨_,Ai_.mpr ⟨r,hr,rfl⟩,hx⟩
theorem nS_(nd:(N.worths.map (·.1)).Nodup)(mem:∀x,x∈N.worths.map (·.1)↔x∈N.all)(so:N.worths.Pairwise (λa b=>eLe (a.1,0) (b.1,0))):cO1 N=true:=by
 rw[kW_];show⟨bw_ nd (ku_ N) λx=>by rw[mem,nR_];show(f3_ N x).symm,?_⟩;rw[Bk_];show so.imp λ{a b} h=>?_;unfold eLe at h
 dsimp only at h
 split at h
 .rename_i e;rw[e];show List.lt_irrefl _
 .show h
theorem nT_(ok:Fi_ N)(po:EZ_ N)(nt:NtH N):GB_ N=true:=by
 rw[<-lH_ (A:=N.rows.map (·.1)) ?_]
 .show AG_ (Ab_ ..)
 show⟨ok.nd,λx hx=>?_,po.pin,λx y _ a=>?_⟩
 .obtain⟨r,hr,rfl⟩:=Ai_.mp hx;show nt (Rch N) (λp hp=>.post hp) (λr hr r' hr' w h1 h2 u=>.step u ⟨r,hr,r',hr',rfl,rfl,w,h1,h2⟩) r hr
 .obtain⟨r1,_,r2,h2,_,e,_⟩:=a;rw[<-e];show Ai_.mpr ⟨r2,h2,rfl⟩
theorem lJ_(ok:Fi_ N)(po:EZ_ N){W:Nat}(h:Pl N.posts.length W (trn N)):GI_ N=decide (W=N.worths.length):=by
 have e:(fdF (trn N) N.posts.length (F4_ N)).length+N.rows.length=W+N.posts.length+1:=by
  obtain⟨L,hL,perm,cnt⟩:=h;have tw:=lp_ ok po;have hPT:N.posts.length<=(trn N).length:=by rw[a6_];unfold pts;rw[Ae_];lia
  obtain⟨h1,h2,h3⟩:=nn_ tw po.p0 hPT _ (F4_ N) rfl λc hc=>(cd_ ok po).mp hc
  have e:L.length=(fdF (trn N) N.posts.length (F4_ N)).length:=by
   show no_ tw hL (λl hl=>?_) (perm.trans ?_) (perm.nodup_iff.mpr (aP_ _ _))
   .obtain⟨c,_,r⟩:=h3 l hl;show r.cyl
   .show bw_ (aP_ _ _) h1 λx=>⟨λhx=>h2 x ((cd_ ok po).mpr (ak_.mp hx)),λhx=>?_⟩;obtain⟨l,hl,hxl⟩:=AX_.mp hx;obtain⟨c,ic,r⟩:=h3 l hl;show ak_.mpr ((dX_ tw po.p0 hPT r.1 r.2.1 ic).2.1 x hxl)
  rw[a6_,kx_ ok po]at cnt;lia
 unfold GI_;have e':N.rows.length+(fdF (trn N) (Pn N) (F4_ N)).length=W+N.posts.length+1:=by rw[Nat.add_comm];show e
 rw[e'];show decide_eq_decide.mpr ⟨λz=>o_,λz=>o_⟩
theorem Dr.netw(d:Dr N):I7_ N:=⟨Ip_ d.ok,λx hx=>HM_ (d.nm.ps x hx),λr hr=>⟨HM_ (d.nm.rs r hr).1,λx hx=>HM_ ((d.nm.rs r hr).2.2 x hx)⟩,λq hq=>Kv_ (d.nm.ws q hq).2,d.po.p0,λ_=>d.ok.pl⟩
theorem Dr.cs(d:Dr N):cN N=true/\cP N=true/\cW N=true/\cO N=true:=by show⟨JC_ d.nm.ps λr hr=>⟨(d.nm.rs r hr).1,(d.nm.rs r hr).2.2⟩,JG_ d.ok.nd d.po.pnd d.po.pin,JA_ d.ok.two,?_⟩;unfold cO;rw[nS_ d.wo.nd d.wo.mem d.so,Bool.true_and];show List.all_eq_true.mpr λq hq=>Ku_ (d.nm.ws q hq).2
theorem Dr.due(d:Dr N)(CN CL CP:Addr):IF_ CN CL CP N=none:=by obtain⟨h1,h2,h3,h4⟩:=d.cs;unfold IF_;rw[h1,h2,h3,h4,if_neg d_,nT_ d.ok d.po d.nt,if_neg d_,lJ_ d.ok d.po d.pl,AG_ rfl,if_neg d_]
variable{xs:List Str}
theorem hj_{k:Nat}:(FI_ N i k xs).map (·.1)=N.rows.map (·.1):=by
 unfold FI_;rw[List.map_set];show List.ext_getElem? λj=>?_;rw[List.getElem?_set];split
 .rename_i e;subst e;split
  .rename_i h;rw[Ab_]at h;rw[Ag_,Ac_,Aa_ h];rfl
  .rename_i h;rw[Bh_ o_]
 .rfl
theorem kY_{k:Nat}(hi:i<N.rows.length):(FI_ N i k xs)[i]?=some ((FA_ N i).1,(FA_ N i).2.take k++(xs++(FA_ N i).2.drop k)):=by unfold FI_;rw[List.getElem?_set,if_pos rfl,if_pos hi];rfl
theorem kZ_{j k:Nat}(h:i≠j):(FI_ N i k xs)[j]?=N.rows[j]?:=by unfold FI_;rw[List.getElem?_set,if_neg h]
theorem oX_{k:Nat}(hi:i<N.rows.length)(hr:r∈FI_ N i k xs):r∈N.rows\/r=((FA_ N i).1,(FA_ N i).2.take k++(xs++(FA_ N i).2.drop k)):=by
 obtain⟨j,hj,e⟩:=As_.mp hr;have e':(FI_ N i k xs)[j]?=some r:=by rw[Aa_ hj,e]
 by_cases h:i=j
 .subst h;rw[kY_ hi]at e';show .inr (At_ e').symm
 .rw[kZ_ h]at e';show .inl (Am_ e')
theorem i9_{k:Nat}:(FI_ N i k xs).length=N.rows.length:=by unfold FI_;rw[Be_]
theorem e2_(hi:i<N.rows.length):FA_ N i∈N.rows:=Am_ (eJ_ hi)
theorem h4_{k:Nat}(hi:i<N.rows.length):(((FI_ N i k xs).map (·.2)).flatten).Perm (xs++N.all):=by
 show List.perm_iff_count.mpr λx=>?_;have h1:=fD_ x ((FA_ N i).2.take k++(xs++(FA_ N i).2.drop k)) (N.rows.map (·.2)) i (by rw[Ab_];show hi);have h2:((N.rows.map (·.2)).getD i [])=(FA_ N i).2:=by rw[Ac_,Ag_,eJ_ hi];rfl
 rw[h2]at h1;have h3:(FI_ N i k xs).map (·.2)=(N.rows.map (·.2)).set i ((FA_ N i).2.take k++(xs++(FA_ N i).2.drop k)):=by unfold FI_;rw[List.map_set];rfl
 rw[h3];have h4:(FA_ N i).2.count x=((FA_ N i).2.take k).count x+((FA_ N i).2.drop k).count x:=by rw[<-Bc_,A5_]
 rw[Bc_,Bc_]at h1;rw[Bc_];unfold Net.all;lia
theorem nU_(d:Dr N){k:Nat}(hi:i<N.rows.length)(hx:∀x∈xs,Fl_ x):∀r∈FI_ N i k xs,Fl_ r.1/\∀x∈r.2,Fl_ x:=λr hr=>by
 rcases oX_ hi hr with h|h
 .show⟨(d.nm.rs r h).1,(d.nm.rs r h).2.2⟩
 .have:=d.nm.rs _ (e2_ hi);rw[h];show⟨this.1,λx hx'=>?_⟩
  rcases Ao_.mp hx' with z|z
  .show this.2.2 x (List.mem_of_mem_take z)
  .rcases Ao_.mp z with z|z
   .show hx x z
   .show this.2.2 x (List.mem_of_mem_drop z)
theorem w_of(b:Jw_ N)(h1:∀x∈N.posts,Fl_ x)(h2:∀r∈N.rows,Fl_ r.1/\∀x∈r.2,Fl_ x)(h3:∀q∈N.worths,Bd2 q.2)(p0:0<N.posts.length)(p6:N.posts.length<=6):I7_ N:=⟨b,λx hx=>HM_ (h1 x hx),λr hr=>⟨HM_ (h2 r hr).1,λx hx=>HM_ ((h2 r hr).2 x hx)⟩,h3,p0,λ_=>p6⟩
theorem pG_(h:(cN N && (cP N && (cW N && cO N)))=false):HY_ N=Str.ofString "NoNet" := by unfold HY_;rw[if_pos h];decide +kernel
theorem rE_(h1:cN N=true)(h2:cP N=true)(h3:cW N=true)(h4:cO N=true)(h:GB_ N=false):HY_ N=Str.ofString "Loose" := by unfold HY_;rw[h1,h2,h3,h4,if_neg d_,if_pos h];decide +kernel
theorem rF_(h1:cN N=true)(h2:cP N=true)(h3:cW N=true)(h4:cO N=true)(h:GB_ N=true)(h5:GI_ N=false):HY_ N=Str.ofString "NoPlane" := by unfold HY_;rw[h1,h2,h3,h4,if_neg d_,if_neg (by rw[h];decide),if_pos h5];decide +kernel
theorem IQ_(d:Dr N){m:List (Str×(Int×Int))}(p:wl.Perm (N.worths++m))(hm:∀q∈m,Bd2 q.2):∀q∈wl,Bd2 q.2:=λq hq=>by
 rcases Ao_.mp (p.mem_iff.mp hq)with h|h
 .show Kv_ (d.nm.ws q h).2
 .show hm q h
theorem bd_c{x y:Int}(hx:x.natAbs<10)(hy:y.natAbs<10):Bd2 (x,y):=⟨AH_ hx d_,AH_ hy d_⟩
theorem mem4{a b:Str}:x∈[b,a,b,a]↔x=b\/x=a:=by simp only[Aq_,AQ_,Ck_];show⟨λh=>by rcases h with h|h|h|h <;> simp[h],λh=>by rcases h with h|h <;> simp[h]⟩
theorem qE_(h:GB_ N=true):∃A,G2_ N A/\A.length=N.rows.length:=by unfold GB_ at h;show(@BM_ _ (Classical.propDecidable _)).mp h
theorem nV_(ok:Fi_ N)(nt:NtH N):∀r∈N.rows,r.1∈N.posts\/r.2≠[]:=λr hr=>by
 have:=nt (λx=>x∈N.posts\/G6_ N x≠[]) (λp hp=>.inl hp) (λr hr r' hr' w h1 h2 _=>.inr (by rw[bC_ ok hr'];show List.ne_nil_of_mem h2)) r hr
 rwa[bC_ ok hr]at this
theorem lK_{k:Nat}(hi:i<N.rows.length):∀r∈N.rows,∃r2∈FI_ N i k xs,r2.1=r.1/\∀x∈r.2,x∈r2.2:=λr hr=>by
 obtain⟨j,hj,e⟩:=As_.mp hr;by_cases h:i=j
 .subst h;have er:FA_ N i=r:=by have:=eJ_ hi;rw[Aa_ hj,e]at this;show(At_ this).symm
  show⟨_,Am_ (kY_ (k:=k) (xs:=xs) hi),by rw[er],λx hx=>?_⟩;rw[er];rw[<-A5_ k r.2]at hx
  rcases Ao_.mp hx with h|h
  .show AB_ _ h
  .show Aw_ _ (Aw_ _ h)
 .show⟨r,Am_ (i:=j) (by rw[kZ_ h,Aa_ hj,e]),rfl,λx hx=>hx⟩
theorem rG_(nt:NtH N){k:Nat}(hi:i<N.rows.length):NtH (⟨N.posts,FI_ N i k xs,wl⟩:Net Str):=λU h0 cl r hr=>by
 have hm:r.1∈N.rows.map (·.1):=by rw[<-hj_ (i:=i) (k:=k) (xs:=xs)];show Ai_.mpr ⟨r,hr,rfl⟩
 obtain⟨q,hq,e⟩:=Ai_.mp hm;rw[<-e];show nt U h0 (λr1 h1 r2 h2 w w1 w2 u=>?_) q hq;obtain⟨s1,m1,e1,k1⟩:=lK_ (k:=k) (xs:=xs) hi r1 h1;obtain⟨s2,m2,e2,k2⟩:=lK_ (k:=k) (xs:=xs) hi r2 h2;have:=cl s1 m1 s2 m2 w (k1 w w1) (k2 w w2) (by rw[e1];show u)
 rwa[e2]at this
theorem qF_(ok:Fi_ N)(po:EZ_ N){k:Nat}(ok':Fi_ (⟨N.posts,FI_ N i k xs,wl⟩:Net Str))(hi:i<N.rows.length):trn (⟨N.posts,FI_ N i k xs,wl⟩:Net Str)=(trn N).set (pid N (FA_ N i).1) ((FA_ N i).2.take k++(xs++(FA_ N i).2.drop k)):=by
 have ep:pts (⟨N.posts,FI_ N i k xs,wl⟩:Net Str)=pts N:=by unfold pts;change N.posts++((FI_ N i k xs).map (·.1)).filter _=_;rw[hj_]
 have inp:(FA_ N i).1∈pts N:=(dp_ po).mpr (Ai_.mpr ⟨_,e2_ hi,rfl⟩);show List.ext_getElem? λj=>?_;unfold trn;rw[ep,Ag_,List.getElem?_set,Ab_,Ag_];by_cases h:pid N (FA_ N i).1=j
 .rw[if_pos h,if_pos (h▸hN_ inp),<-h,fG_ inp];show congrArg some (bC_ ok' (r:=((FA_ N i).1,_)) (Am_ (kY_ hi)))
 .rw[if_neg h];cases e:(pts N)[j]? with
  |none=>rfl
  |some x =>
   show congrArg some ?_;have hx:=(dp_ po).mp (Am_ e);obtain⟨r,hr,rfl⟩:=Ai_.mp hx;rw[bC_ ok hr];obtain⟨q,hq,eq⟩:=As_.mp hr
   have ne:i≠q:=λz=>h (by
    have:=eJ_ hi;rw[Aa_ hi]at this;have e2:FA_ N i=r:=by rw[<-eq];subst z;show(At_ this).symm
    rw[e2];show lq_ ok po e)
   show bC_ ok' (r:=r) (Am_ (i:=q) (by change(FI_ N i k xs)[q]?=_;rw[kZ_ ne,Aa_ hq,eq]))
theorem qG_(ok:Fi_ N)(po:EZ_ N)(nt:NtH N){W k:Nat}{a b:Str}(ok':Fi_ (⟨N.posts,FI_ N i k [b,a,b,a],wl⟩:Net Str))(hi:i<N.rows.length)(hk:k<=(FA_ N i).2.length)(h:Pl N.posts.length W (trn N)):Pl N.posts.length W (trn (⟨N.posts,FI_ N i k [b,a,b,a],wl⟩:Net Str)):=by
 rw[qF_ ok po ok' hi];have inp:(FA_ N i).1∈pts N:=(dp_ po).mpr (Ai_.mpr ⟨_,e2_ hi,rfl⟩);have lt:pid N (FA_ N i).1<(trn N).length:=by rw[a6_];show hN_ inp
 have er:(trn N).getD (pid N (FA_ N i).1) []=(FA_ N i).2:=by rw[gi_ (fG_ inp),bC_ ok (e2_ hi)]
 have el:rl (trn N) (pid N (FA_ N i).1)=(FA_ N i).2.length:=by unfold rl;rw[er]
 generalize hp:pid N (FA_ N i).1=p at*;by_cases c:IsC (trn N) N.posts.length (p,k)
 .have:=jR_ (a:=a) (b:=b) c h;rw[ins4 c.1 (by rw[el];show hk)]at this;change Pl _ _ (List.set (trn N) (p,k).1 _);rw[<-er];show this
 .have pp:N.posts.length<=p:=by show BZ_.mp λz=>c ⟨lt,?_⟩;change k<rl (trn N) p+if p<_ then 1 else 0;rw[if_pos z,el];lia
  have ke:k=(FA_ N i).2.length:=by show Nat.le_antisymm hk (BZ_.mp λz=>c ⟨lt,?_⟩);change k<rl (trn N) p+if p<_ then 1 else 0;rw[el];lia
  have full:(FA_ N i).2≠[]:=by
   rcases nV_ ok nt _ (e2_ hi)with z|z
   .have:=(fH_ ok po (fG_ inp)).mp z;rw[hp]at this;lia
   .show z
  have f0:=BU_.mpr full;have c0:IsC (trn N) N.posts.length (p,0):=⟨lt,by change 0<rl (trn N) p+_;rw[el];lia⟩;have h4:=jR_ (a:=a) (b:=b) c0 h;rw[ins4 c0.1 (AP_ _)]at h4
  have h4':Pl N.posts.length W ((trn N).set p ([b,a,b,a]++(FA_ N i).2)):=by
   have e:(trn N).set (p,0).1 (((trn N).getD (p,0).1 []).take (p,0).2++([b,a,b,a]++((trn N).getD (p,0).1 []).drop (p,0).2))=(trn N).set p ([b,a,b,a]++(FA_ N i).2):=by change(trn N).set p (((trn N).getD p []).take 0++([b,a,b,a]++((trn N).getD p []).drop 0))=_;rw[er];rfl
   rw[e]at h4;show h4
  have gd:((trn N).set p ([b,a,b,a]++(FA_ N i).2)).getD p []=[b,a,b,a]++(FA_ N i).2:=by rw[Ac_,List.getElem?_set,if_pos rfl,if_pos lt];rfl
  have:=pv_ (t:=4) (p:=p) (by rw[Be_];show lt) pp (by unfold rl;rw[gd,Ae_];change 4<4+_;lia) h4';rw[gd,List.set_set]at this;have e2:([b,a,b,a]++(FA_ N i).2).drop 4++([b,a,b,a]++(FA_ N i).2).take 4=(FA_ N i).2.take k++([b,a,b,a]++(FA_ N i).2.drop k):=by rw[ke,CC_,List.drop_length];rfl
  rw[e2]at this;show this
theorem iu_(d:Dr N){m:List (Str×(Int×Int))}{ys:List Str}(pw:wl.Perm (N.worths++m))(nd:(m.map (·.1)).Nodup)(dj:∀x∈m.map (·.1),x∉N.all)(pa:A.Perm (ys++N.all))(my:∀x,x∈m.map (·.1)↔x∈ys):(wl.map (·.1)).Nodup/\∀x,x∈wl.map (·.1)↔x∈A:=by have p:=pw.map (·.1);rw[Ar_]at p;show⟨p.nodup_iff.mpr (AA_.mpr ⟨d.wo.nd,nd,λx hx y hy e=>dj y hy (e▸(d.wo.mem x).mp hx)⟩),λx=>?_⟩;rw[p.mem_iff,pa.mem_iff,Ao_,Ao_,d.wo.mem,my];show⟨λh=>h.symm,λh=>h.symm⟩
theorem nW_(d:Dr N){m:List (Str×(Int×Int))}(pw:wl.Perm (N.worths++m))(hm:∀q∈m,isW q.2=true):(wl.all λq=>isW q.2)=true:=List.all_eq_true.mpr λq hq=>by
 rcases Ao_.mp (pw.mem_iff.mp hq)with h|h
 .show Ku_ (d.nm.ws q h).2
 .show hm q h
theorem qH_{N':Net Str}(d:Dr N){kd:Int}(h:Flt N kd N' x)(w14:N.worths.length<14)(p9:N.rows.length<N.posts.length+9):I7_ N'/\HY_ N'=x:=by
 have p6:=d.ok.pl;have tt:=d.tot;have n40:(HZ_ N).length<=40:=by unfold HZ_;rw[Ae_,Ab_,Ab_];have:=d.r16;lia
 have rr:∀r∈N.rows,Fl_ r.1/\∀x∈r.2,Fl_ x:=λr hr=>⟨(d.nm.rs r hr).1,(d.nm.rs r hr).2.2⟩;have fr:∀{l:Str}{j:Nat}{a:Str},IsL l->(frs l N)[j]?=some a->Fl_ a/\a∉N.rows.map (·.1)/\a∉N.all:=λ{l j a} hl ha=>by obtain⟨h1,h2⟩:=kX_ hl (Am_ ha);show⟨h1,λz=>h2 (AB_ _ z),λz=>h2 (Aw_ _ ((d.wo.mem a).mpr z))⟩
 cases h with
 | @k0 i k a wl hi hk ha pw so =>
  obtain⟨na,_,aw⟩:=fr (.inr rfl) ha;have pa:=h4_ (N:=N) (k:=k) (xs:=[a]) hi;have rs:=nU_ d (k:=k) (xs:=[a]) hi (λx hx=>by rw[Ad_.mp hx];show na);have le:=pw.length_eq;rw[Ae_]at le;show⟨w_of ⟨by change(FI_ ..).length<=16;rw[i9_];show d.r16,by change(((FI_ N i k [a]).map (·.2)).flatten).length<=30;rw[pa.length_eq,Ae_];simp only[AL_];lia,by change N.posts.length<=10;lia,by change wl.length<=20;simp only[AL_]at le;lia⟩ d.nm.ps rs (IQ_ d pw λq hq=>by rw[Ad_.mp hq];show bd_c d_ d_) d.po.p0 p6,pG_ ?_⟩;cases hc:cW (⟨N.posts,FI_ N i k [a],wl⟩:Net Str)with
  |false=>rw[Bool.false_and,Bool.and_false,Bool.and_false]
  |true =>
   have:=nN_ hc a (pa.mem_iff.mpr s_);have e:(((FI_ N i k [a]).map (·.2)).flatten).count a=2:=this;rw[pa.count_eq,Bc_,Bs_.mpr aw]at e;simp at e
 | @k1 i k a wl hi hk ha pw so =>
  obtain⟨na,_,aw⟩:=fr (.inr rfl) ha;have pa:=h4_ (N:=N) (k:=k) (xs:=[a,a]) hi
  have rs:=nU_ d (k:=k) (xs:=[a,a]) hi (λx hx=>by
   have:x=a:=by simpa using hx
   rw[this];show na)
  have le:=pw.length_eq;rw[Ae_]at le;show⟨w_of ⟨by change(FI_ ..).length<=16;rw[i9_];show d.r16,by change(((FI_ N i k [a,a]).map (·.2)).flatten).length<=30;rw[pa.length_eq,Ae_];simp only[AF_,BF_];lia,by change N.posts.length<=10;lia,by change wl.length<=20;simp only[AL_]at le;lia⟩ d.nm.ps rs (IQ_ d pw λq hq=>by rw[Ad_.mp hq];show bd_c d_ d_) d.po.p0 p6,pG_ ?_⟩
  have hc:cO (⟨N.posts,FI_ N i k [a,a],wl⟩:Net Str)=false:=by
   unfold cO;have:(wl.all λq=>isW q.2)=false:=by rw[List.all_eq_false];show⟨(a,(0,1)),pw.mem_iff.mpr s_,(by decide:¬ isW (0,1)=true)⟩
   change(_ && wl.all λq=>isW q.2)=false;rw[this,Bool.and_false]
  rw[hc,Bool.and_false,Bool.and_false,Bool.and_false]
 | @k2 a b c wl ha hb hc pw so =>
  obtain⟨na,ar,aw⟩:=fr (.inr rfl) ha;obtain⟨nb,br,bw⟩:=fr (.inl rfl) hb;obtain⟨nc,cr,cw⟩:=fr (.inl rfl) hc;have bc:b≠c:=λz=>by have lb:=(Al_.mp hb).1;have:=(AY_ lb (nO_ (.inl rfl))).mp (hb.trans (by rw[z];show hc.symm));show absurd this d_
  have le:=pw.length_eq;rw[Ae_,AL_]at le;have ea:(⟨N.posts,N.rows++[(b,[a]),(c,[a])],wl⟩:Net Str).all=N.all++[a,a]:=by unfold Net.all;simp
  have pa:(N.all++[a,a]).Perm ([a,a]++N.all):=Bx_
  obtain⟨w1,w2⟩:=iu_ d pw (AM_.mpr ⟨AQ_,.nil⟩) (λx hx=>by
   have:x=a:=by simpa using hx
   rw[this];show aw) pa (λx=>s_)
  have rs:∀r∈N.rows++[(b,[a]),(c,[a])],Fl_ r.1/\∀x∈r.2,Fl_ x:=λr hr=>by
   rcases Ao_.mp hr with h|h
   .show rr r h
   .have:r=(b,[a])\/r=(c,[a]):=by simpa using h
    rcases this with h|h <;> rw[h]
    .show⟨nb,λx hx=>by rw[Ad_.mp hx];show na⟩
    .show⟨nc,λx hx=>by rw[Ad_.mp hx];show na⟩
  have en:(N.rows++[(b,[a]),(c,[a])]).map (·.1)=N.rows.map (·.1)++[b,c]:=s_
  have nd:((N.rows++[(b,[a]),(c,[a])]).map (·.1)).Nodup:=by
   rw[en];show AA_.mpr ⟨d.ok.nd,by simpa using bc,λx hx y hy e=>?_⟩;have:y=b\/y=c:=by simpa using hy
   rcases this with h|h
   .show br (h▸e▸hx)
   .show cr (h▸e▸hx)
  have two:∀x∈(⟨N.posts,N.rows++[(b,[a]),(c,[a])],wl⟩:Net Str).all,(⟨N.posts,N.rows++[(b,[a]),(c,[a])],wl⟩:Net Str).all.count x=2:=λx hx=>by
   rw[ea]at hx⊢;rw[Bc_]
   rcases Ao_.mp hx with h|h
   .rw[d.ok.two x h,Bs_.mpr (λz=>aw (by
     have:x=a:=by simpa using z
     show this▸h))]
   .have:x=a:=by simpa using h
    rw[this,Bs_.mpr aw];simp
  have p9':=d.po.p0;show⟨w_of ⟨by change(N.rows++_).length<=16;rw[Ae_];simp only[AF_,BF_];lia,by rw[ea,Ae_];simp only[AF_,BF_];lia,by change N.posts.length<=10;lia,by change wl.length<=20;lia⟩ d.nm.ps rs (IQ_ d pw λq hq=>by rw[Ad_.mp hq];show bd_c d_ d_) d.po.p0 p6,rE_ (JC_ d.nm.ps rs) (JG_ nd d.po.pnd λp hp=>?_) (JA_ two) ?_ ?_⟩
  .rw[en];show AB_ _ (d.po.pin p hp)
  .unfold cO;rw[nS_ w1 (λx=>by rw[ea];show w2 x) so,Bool.true_and];show nW_ d pw λq hq=>by rw[Ad_.mp hq];show(by decide:isW (1,2)=true)
  .show Bool.eq_false_iff.mpr λz=>?_;obtain⟨A,hA,el⟩:=qE_ z
   have inn:∀x,Rch (⟨N.posts,N.rows++[(b,[a]),(c,[a])],wl⟩:Net Str) x->x∈N.rows.map (·.1):=λx r=>by
    induction r with
    |post h=>show d.po.pin _ h
    | @step x y _ ad ih =>
     obtain⟨r1,h1,r2,h2,e1,e2,v,v1,v2⟩:=ad
     have g1:r1∈N.rows:=by
      rcases Ao_.mp h1 with h|h
      .show h
      .have:r1=(b,[a])\/r1=(c,[a]):=by simpa using h
       rcases this with h|h
       .rw[h]at e1;rw[<-e1]at ih;show absurd ih br
       .rw[h]at e1;rw[<-e1]at ih;show absurd ih cr
     have va:v≠a:=λz=>aw (z▸nR_.mpr ⟨r1,g1,v1⟩)
     rcases Ao_.mp h2 with h|h
     .show Ai_.mpr ⟨r2,h,e2⟩
     .have:r2=(b,[a])\/r2=(c,[a]):=by simpa using h
      rcases this with h|h <;> rw[h]at v2 <;> show absurd (Ad_.mp v2) va
   have:=a5_ hA.nd λx hx=>inn x (hA.rch x hx);rw[Ab_,el]at this;have e3:(N.rows++[(b,[a]),(c,[a])]).length<=N.rows.length:=this;rw[Ae_]at e3;simp only[AF_,BF_]at e3;lia
 | @k3 i k a b wl hi hk ha hb pw so =>
  obtain⟨na,ar,aw⟩:=fr (.inr rfl) ha;obtain⟨nb,br,bw⟩:=fr (.inr rfl) hb;have ab:a≠b:=λz=>by have lb:=(Al_.mp ha).1;have:=(AY_ lb (nO_ (.inr rfl))).mp (ha.trans (by rw[z];show hb.symm));show absurd this d_
  have le:=pw.length_eq;rw[Ae_]at le;simp only[AF_,BF_]at le;have pa:=h4_ (N:=N) (k:=k) (xs:=[b,a,b,a]) hi
  have rs:=nU_ d (k:=k) (xs:=[b,a,b,a]) hi (λx hx=>by
   have:x=b\/x=a:=mem4.mp hx
   rcases this with h|h <;> rw[h] <;> assumption)
  obtain⟨w1,w2⟩:=iu_ d pw (m:=[(a,(1,2)),(b,(3,1))]) (by simpa using ab) (λx hx=>by
   have:x=a\/x=b:=by simpa using hx
   rcases this with h|h <;> rw[h] <;> assumption) pa (λx=>by rw[mem4];simp[or_comm])
  have two:∀x∈(⟨N.posts,FI_ N i k [b,a,b,a],wl⟩:Net Str).all,(⟨N.posts,FI_ N i k [b,a,b,a],wl⟩:Net Str).all.count x=2:=λx hx=>by
   have e:(⟨N.posts,FI_ N i k [b,a,b,a],wl⟩:Net Str).all.count x=([b,a,b,a]++N.all).count x:=pa.count_eq x;rw[e,Bc_]
   rcases Ao_.mp (pa.mem_iff.mp hx)with h|h
   .have:x=b\/x=a:=mem4.mp h
    rcases this with h|h
    .rw[h,Bs_.mpr bw];simp[ab]
    .rw[h,Bs_.mpr aw];simp[Ne.symm ab]
   .rw[d.ok.two x h,Bs_.mpr (λz=>by
     have:x=b\/x=a:=mem4.mp z
     rcases this with q|q
     .show bw (q▸h)
     .show aw (q▸h))]
  have tot:(⟨N.posts,FI_ N i k [b,a,b,a],wl⟩:Net Str).all.length<=30:=by have e:(⟨N.posts,FI_ N i k [b,a,b,a],wl⟩:Net Str).all.length=([b,a,b,a]++N.all).length:=pa.length_eq;rw[e,Ae_];simp only[AF_,BF_];lia
  have few:(FI_ N i k [b,a,b,a]).length<=16:=by rw[i9_];show d.r16
  have nd:((FI_ N i k [b,a,b,a]).map (·.1)).Nodup:=by rw[hj_];show d.ok.nd
  have pin:∀p∈N.posts,p∈(FI_ N i k [b,a,b,a]).map (·.1):=by rw[hj_];show d.po.pin
  have ok':Fi_ (⟨N.posts,FI_ N i k [b,a,b,a],wl⟩:Net Str):=⟨nd,two,few,tot,p6,by change wl.length<=15;lia⟩;have po':EZ_ (⟨N.posts,FI_ N i k [b,a,b,a],wl⟩:Net Str):=⟨d.po.pnd,pin,d.po.p0⟩;show⟨w_of ⟨few,tot,by change N.posts.length<=10;lia,by change wl.length<=20;lia⟩ d.nm.ps rs (IQ_ d pw λq hq=>?_) d.po.p0 p6,rF_ (JC_ d.nm.ps rs) (JG_ nd d.po.pnd pin) (JA_ two) ?_ (nT_ ok' po' (rG_ d.nt hi)) ?_⟩
  .have:q=(a,(1,2))\/q=(b,(3,1)):=by simpa using hq
   rcases this with h|h <;> rw[h] <;> show bd_c d_ d_
  .unfold cO;rw[nS_ w1 w2 so,Bool.true_and]
   show nW_ d pw λq hq=>by
    have:q=(a,(1,2))\/q=(b,(3,1)):=by simpa using hq
    rcases this with h|h <;> rw[h]
    .show(by decide:isW (1,2)=true)
    .show(by decide:isW (3,1)=true)
  .rw[lJ_ ok' po' (qG_ d.ok d.po d.nt ok' hi hk d.pl)];show AI_ (by change N.worths.length≠wl.length;lia)
def hwo(Z:List Addr)(H:Hp):Hp:=λa=>if a∈Z then none else H a
variable{Z:List Addr}{a:Addr}
theorem nX_(h:a∉Z):hwo Z H a=H a:=if_neg h
theorem rH_(h:a∈Z):hwo Z H a=none:=if_pos h
theorem oY_:EM_ (hwo Z H) H:=λa o h=>by
 unfold hwo at h;split at h
 .cases h
 .show h
theorem oZ_(s:EM_ H0 H)(h:∀z∈Z,H0 z=none):EM_ H0 (hwo Z H):=λa o q=>by rw[nX_ λz=>by rw[h a z]at q;cases q];show s _ _ q
theorem OwN.keep{pe c0 D c2:Addr}(o:OwN H0 H pe c0 D c2 qs ls ws N)(ht:∀a xs,H a=some (.tup xs)->H' a=some (.tup xs))(hl:∀a xs,H0 a=none->H a=some (.lst xs)->H' a=some (.lst xs)):OwN H0 H' pe c0 D c2 qs ls ws N :=
 ⟨ht _ _ o.t,hl _ _ o.f0 o.h0,hl _ _ o.fD o.hD,hl _ _ o.f2 o.h2,⟨o.ow.ql,o.ow.ll,λi q l r a b c=>ht _ _ (o.ow.q i q l r a b c),λi l r a b=>hl _ _ (o.ow.new l (Am_ a)) (o.ow.l i l r a b),o.ow.nd,o.ow.new⟩,o.f0,o.fD,o.f2,o.ft,o.Dl,o.c0D,o.c0c2,o.Dc2,o.c0l,o.c2l⟩
theorem pH_(pt:Addr):(fSt pt).lookup (Str.ofString "net")=none:=by
 have e:(Str.ofString "net"== Str.ofString "standing")=false:=r_
 change List.lookup (Str.ofString "net") [(Str.ofString "standing",V.ref pt)]=none;rw[BH_,e];rfl
abbrev FV_:Stmt:=stN 56
theorem e9_:ZL ["_law_script","_law_net","_law_handed","_law_bench","_law_turn","_law_told","_law_few","_law_kind","_law_faulty_here","_law_word_here"] ["_law_script"] (EL_ FV_):=zL
theorem kg_:LK FV_ "Bench" .globalImplicit:=r_
theorem k0_:LK FV_ "_law_big" .globalImplicit:=r_
theorem eT_:LK FV_ "_law_copy" .globalImplicit:=r_
theorem if_:LK FV_ "_law_faulty" .globalImplicit:=r_
theorem ig_:LK FV_ "_law_net_by" .globalImplicit:=r_
theorem kh_:LK FV_ "_law_word" .globalImplicit:=r_
theorem mo_:LK FV_ "int" .globalImplicit:=r_
theorem gG_:LK FV_ "len" .globalImplicit:=r_
theorem gZ_:LK FV_ "range" .globalImplicit:=r_
def Hx_(K:PySem.W.Frag):Sp:=λvs H Q _=>∃(a:Addr)(ns:List Int),vs=[.ref a]/\SqL K H a (ns.map V.int)/\∀H',Q (.bl true) H'
theorem rI_{f:Addr}{fd:FuncData}(T:Txt K mg)(EX:Ex2 K mg CL CP CN CR CB)(CLS:Cls K CB)(F:Fun K "law" "law" FV_ f fd) (Iz_:Cal P w K mg base "_law_net_by" ["_law_script","_law_at","_law_most"] 4 (Jj_ K)) (GA_:Cal P w K mg base "_law_copy" ["_law_net"] 1 FZ_) (I_Bench:Jt_ P w K mg base CB ["self","net"] 6 (Hl_ CN CL CP CB)) (M_net:KI_ P w K mg base CB "net" ["self"] 2 (Hm_ CB)) (GO_:Cal P w K mg base "_law_big" ["_law_script","_law_at"] 2 (HD_ K)) (IA_:Cal P w K mg base "_law_faulty" ["_law_net","_law_kind","_law_big_here"] 2 Gx_) (JH_:Cal P w K mg base "_law_word" ["_law_net"] 8 Ho_):GU_ P w K mg base CX0 9 f fd ["_law_script"] (Hx_ K):=by
 show F.ok e9_.1 (λvs H Q E h=>by obtain⟨a,ns,rfl,_⟩:=h;rfl) ?_;intro cdv A outer s H vs Q E hr h;obtain⟨a,ns,rfl,hS,k⟩:=h;refine'⟨_,?D,?R⟩
 case D =>
  refine' ad_ (zas 1 e9_ (an_ Iz_ (hr.mono d_) ig_ (pa_c (zv 0 e9_) (pa_c ac_ (pa_c ac_ aa_))))) ?a
  case' a=>refine' ad_ (zas 2 e9_ (an_ GA_ (hr.mono d_) eT_ (pa_c (zv 1 e9_) aa_))) (ad_ (zas 3 e9_ (lx_ I_Bench (hr.mono d_) kg_ EX.m_Bench (pa_c (zv 2 e9_) aa_))) ?b)
  case' b=>refine' ad_ (aw_ (FM_ Av_ A0_ A1_ aY_ (ES_ ao_ (zv 2 e9_) ac_) (pa_c bm_ aa_))) ?c
  case' c=>refine' ad_ (aw_ (jn_ Av_ PySem.F.slot_list_reverse PySem.F.type_list_reverse l0_ (ES_ ao_ (zv 2 e9_) ac_))) ?d
  case' d=>refine' ad_ (aw_ (jn_ Av_ PySem.F.slot_list_clear PySem.F.type_list_clear k7_ (ES_ ao_ (zv 2 e9_) ac_))) (ad_ (bT_ AS_ rfl (aQ_ gZ_ T.n_range (pa_c ac_ aa_)) ?e ?f) ?g)
  case e=>show zh 4 e9_
  case' f=>refine' ad_ (zas 5 e9_ (ly_ M_net CLS (hr.mono d_) (zv 3 e9_))) (ad_ ?h (ad_ (aw_ (jn_ Av_ PySem.F.slot_list_clear PySem.F.type_list_clear k7_ (ES_ ao_ (zv 5 e9_) ac_))) ?i))
  case' h=>refine' Ft_ (aE_ (ju_ (hr.units)) (zv 5 e9_) (an_ GA_ (hr.mono d_) eT_ (pa_c (zv 1 e9_) aa_)) (E5_ _)) (ag_ (aB_ Gy_)) aJ_
  case' i=>refine' ad_ ?j (ag_ (aw_ (FM_ Av_ A0_ A1_ aY_ (ES_ ao_ (zv 5 e9_) ac_) (pa_c ?k aa_))))
  case' j=>refine' aw_ (FM_ Av_ A0_ A1_ aY_ (ES_ ao_ (ES_ ap_ (ES_ ao_ (zv 5 e9_) ac_) ac_) ac_) (pa_c bm_ aa_))
  case k=>show qS_
  case' g=>refine' ad_ (zas 6 e9_ (k2_ (cM_ HN_ (aj_ aq_ gG_ T.n_len aK_ (pa_c (ES_ ao_ (zv 1 e9_) ac_) aa_)) ac_ (E5_ _)) (ms_ ?l))) ?m
  case' l=>refine' cM_ HN_ (EO_ mz_ (aj_ aq_ gG_ T.n_len aK_ (pa_c (ES_ ao_ (zv 1 e9_) ac_) aa_)) (aj_ aq_ gG_ T.n_len aK_ (pa_c (ES_ ao_ (zv 1 e9_) ac_) aa_))) ac_ (E5_ _)
  case' m=>refine' ad_ (bT_ AS_ rfl (aQ_ gZ_ T.n_range (pa_c (EO_ jd_ ac_ (a0_ hl_ mo_ T.n_int k8_ (pa_c (zv 6 e9_) aa_))) aa_)) ?n ?o) ?p
  case n=>show zh 7 e9_
  case' o=>refine' ad_ (gJ_ ?q (br_ (K:=K) (n:=2) rfl rfl (ar_ ?r (ar_ ?s bp_)))) ?t
  case' q=>refine' an_ IA_ (hr.mono d_) if_ (pa_c (zv 1 e9_) (pa_c (zv 7 e9_) (pa_c (an_ GO_ (hr.mono d_) k0_ (pa_c (zv 0 e9_) (pa_c ac_ aa_))) aa_)))
  case r=>show zh 8 e9_
  case s=>show zh 9 e9_
  case' t=>refine' ag_ (Ft_ (aE_ Hq_ (an_ JH_ (hr.mono d_) kh_ (pa_c (zv 8 e9_) aa_)) (zv 9 e9_) (E5_ _)) (ag_ (aB_ Gy_)) aJ_)
  case' p=>refine' ag_ (aB_ (cM_ (ra_ (hr.units)) (ly_ M_net CLS (hr.mono d_) (zv 3 e9_)) (an_ GA_ (hr.mono d_) eT_ (pa_c (zv 1 e9_) aa_)) (E5_ _)))
 case R =>
  nofun;show⟨a,ns,rfl,hS,λv N H1 s1 rep1 ok po wo so nm nt pl r16 tot=>?_⟩;have d:Dr N:=⟨ok,po,wo,so,nm,nt,pl,r16,tot⟩;obtain⟨pn,p0,p1,p2,rs,ws,rfl,at1⟩:=Kn_ rep1;show⟨pn,p0,p1,p2,rs,ws,N,rfl,at1.t,at1.h0,at1.h1,at1.r1,at1.h2,at1.r2,o_,λpe c0 D c2 qs ls H2 s2 ow=>?_⟩;intro x dx nx ndx nex;have s3:EM_ H2 (upd (upd H2 dx (.own x)) x (.ins CB dx [])):=(EM_.new ndx).upd nx;have hx3:=ab_ (H:=upd H2 dx (.own x)) (a:=x) (o:=HO.ins CB dx []);generalize upd (upd H2 dx (.own x)) x (.ins CB dx [])=H3 at*;have h0:=s3 _ _ ow.h0;have hD:=s3 _ _ ow.hD;have h2:=s3 _ _ ow.h2;show⟨x,dx,pe,c0,D,c2,qs.map V.ref,ws,N,rfl,hx3,(ow.at_ (E7_.mono s2 _ at1.r2)).mono s3,d.netw,λ_ pt e0 eD e2 qs' ls' H4 s4 ow'=>⟨rfl,?_⟩,λC hC=>by rw[d.due]at hC;(cases hC)⟩
  have zl:∀z∈[c0,D,c2],H1 z=none/\∃xs,H3 z=some (.lst xs):=λz hz=>by
   simp only[Aq_,AQ_,Ck_]at hz
   rcases hz with rfl|rfl|rfl
   .show⟨ow.f0,_,h0⟩
   .show⟨ow.fD,_,hD⟩
   .show⟨ow.f2,_,h2⟩
  have s14:EM_ H1 H4:=s2.trans (s3.trans s4);have x1:H1 x=none:=s2.free nx;have x0:x∉[c0,D,c2]:=λz=>by obtain⟨_,xs,e⟩:=zl x z;rw[hx3]at e;cases e
  have ownB:OwN H3 (upd (hwo [c0,D,c2] H4) x (.ins CB dx (fSt pt))) pt e0 eD e2 qs' ls' ws N:=ow'.keep (λb xs hb=>by
   rw[af_ (λz=>by rw[z,s4 _ _ hx3]at hb;cases hb),nX_ λz=>by obtain⟨_,ys,e⟩:=zl b z;rw[s4 _ _ e]at hb;cases hb];show hb) λb xs hb0 hb=>by
   rw[af_ (λz=>by rw[z,hx3]at hb0;cases hb0),nX_ λz=>by obtain⟨_,ys,e⟩:=zl b z;rw[e]at hb0;cases hb0];show hb
  have sB:EM_ (upd (hwo [c0,D,c2] H4) x (.ins CB dx (fSt pt))) (upd H4 x (.ins CB dx (fSt pt))):=λb o hb=>by
   by_cases c:b=x
   .subst c;rw[ab_]at hb⊢;show hb
   .rw[af_ c]at hb⊢;show oY_ _ _ hb
  have s1B:EM_ H1 (upd (hwo [c0,D,c2] H4) x (.ins CB dx (fSt pt))):=(oZ_ s14 λz hz=>(zl z hz).1).upd x1;have xB:=ab_ (H:=hwo [c0,D,c2] H4) (a:=x) (o:=HO.ins CB dx (fSt pt));have nB:∀z∈[c0,D,c2],upd (hwo [c0,D,c2] H4) x (.ins CB dx (fSt pt)) z=none:=λz hz=>by rw[af_ (λe=>x0 (by rw[<-e];show hz))];show rH_ hz
  generalize upd (hwo [c0,D,c2] H4) x (.ins CB dx (fSt pt))=B at*;have l5:∀{b xs},H4 b=some (.lst xs)->upd H4 x (.ins CB dx (fSt pt)) b=some (.lst xs):=λ{b xs} hb=>by rw[af_ (λz=>by rw[z,s4 _ _ hx3]at hb;cases hb)];show hb
  have t5:∀{b xs},H4 b=some (.tup xs)->upd H4 x (.ins CB dx (fSt pt)) b=some (.tup xs):=λ{b xs} hb=>by rw[af_ (λz=>by rw[z,s4 _ _ hx3]at hb;cases hb)];show hb
  have g0:=l5 (s4 _ _ h0);have gD:=l5 (s4 _ _ hD);have g2:=l5 (s4 _ _ h2);have gt:=t5 (s4 _ _ (s3 _ _ ow.t));generalize upd H4 x (.ins CB dx (fSt pt))=H5 at*;have p6:=ok.pl;show⟨pe,rfl,_,gt,_,FL_,.inl ⟨_,.inl (.inl g0)⟩,c0,rfl,_,g0,by rw[Ab_];show Bn_ p6 d_,?_⟩;have gt6:upd H5 c0 (.lst (N.posts.map V.str++[V.str (Str.ofString "zz")])) pe=_:=(af_ (λz=>by rw[z,g0]at gt;cases gt)).trans gt;have gD6:upd H5 c0 (.lst (N.posts.map V.str++[V.str (Str.ofString "zz")])) D=_:=(af_ ow.c0D.symm).trans gD;have g26:upd H5 c0 (.lst (N.posts.map V.str++[V.str (Str.ofString "zz")])) c2=_:=(af_ ow.c0c2.symm).trans g2;have s6:=sB.upd (o:=HO.lst (N.posts.map V.str++[V.str (Str.ofString "zz")])) (nB c0 s_);generalize upd H5 c0 (.lst (N.posts.map V.str++[V.str (Str.ofString "zz")]))=H6 at*;show⟨pe,rfl,_,gt6,_,FX_,.inl ⟨_,.inl (.inl gD6)⟩,D,rfl,_,gD6,?_⟩;have gt7:upd H6 D (.lst (qs.map V.ref).reverse) pe=_:=(af_ (λz=>by rw[z,gD6]at gt6;cases gt6)).trans gt6;have g27:upd H6 D (.lst (qs.map V.ref).reverse) c2=_:=(af_ ow.Dc2.symm).trans g26;have s7:=s6.upd (o:=HO.lst (qs.map V.ref).reverse) (nB D s_);generalize upd H6 D (.lst (qs.map V.ref).reverse)=H7 at*;show⟨pe,rfl,_,gt7,_,GG_,.inl ⟨_,.inl (.inl g27)⟩,c2,rfl,_,g27,d_,d_,?_⟩;have s8:=s7.upd (o:=HO.lst []) (nB c2 s_);generalize upd H7 c2 (.lst [])=H8 at*;have atN:=at1.mono s1B;have atS:=ownB.at_ (E7_.mono s1B _ at1.r2);have few:=ok.few;have r0:0<N.rows.length:=by have h1:=kx_ ok po;have h2:=po.p0;unfold pts at h1;rw[Ae_]at h1;lia
  show de_ (λt σ Hx=>∃e4 e5:Option V,σ=[some (.ref a),some (.ref pn),some (.ref pe),some (.ref x),e4,e5,none,none,none,none]/\EM_ B Hx) ⟨none,none,rfl,s8⟩ ?_ ?_
  .rintro t σ Hx ht ⟨e4,e5,rfl,sx⟩;nofun;show⟨dx,_,sx _ _ xB,pH_ pt,x,dx,pt,e0,eD,e2,qs'.map V.ref,ws,N,rfl,sx _ _ xB,atS.mono sx,o_,λpu u0 uD u2 us ms Hy sy ou=>?_⟩;have sxy:=sx.trans sy;have atN':=atN.mono sxy;show⟨pn,p0,p1,p2,rs,ws,N,rfl,atN'.t,atN'.h0,atN'.h1,atN'.r1,atN'.h2,atN'.r2,o_,λpv v0 vD v2 vs' ns' Hz sz ov=>?_⟩;have sxz:=sxy.trans sz;have ru:=(ou.at_ (E7_.mono (s1B.trans sxy) _ at1.r2)).rep;have rv:=(ov.at_ (E7_.mono (s1B.trans sxz) _ at1.r2)).rep;show⟨pu,rfl,pv,rfl,GJ_ N,Rep.mono sz _ ru,GJ_ N,rv,true,i0_ _,nF_ N,?_⟩;rw[if_neg d_];nofun;have u0':=sz _ _ ou.h0;have uD':=sz _ _ ou.hD;have u2':=sz _ _ ou.h2;have ut':=sz _ _ ou.t;show⟨_,ut',_,FL_,.inl ⟨_,.inl (.inl u0')⟩,u0,rfl,_,u0',?_⟩;have ut1:upd Hz u0 (.lst []) pu=_:=(af_ (λz=>by rw[z,u0']at ut';cases ut')).trans ut';have uD1:upd Hz u0 (.lst []) uD=_:=(af_ ou.c0D.symm).trans uD';have u21:upd Hz u0 (.lst []) u2=_:=(af_ ou.c0c2.symm).trans u2';have sz1:=sxz.upd (a:=u0) (o:=HO.lst []) (sx.free ou.f0);obtain⟨q0,hq0⟩:∃q,us[0]?=some q:=⟨_,Aa_ (by rw[ou.ow.ql];show r0)⟩;obtain⟨l0,hl0⟩:∃q,ms[0]?=some q:=⟨_,Aa_ (by rw[ou.ow.ll];show r0)⟩;have hr0:=eJ_ (N:=N) r0;have q0':=sz _ _ (ou.ow.q 0 q0 l0 _ hq0 hl0 hr0);have l0':=sz _ _ (ou.ow.l 0 l0 _ hl0 hr0);have lm:=Am_ hl0;have q01:upd Hz u0 (.lst []) q0=_:=(af_ (λz=>by rw[z,u0']at q0';cases q0')).trans q0';have l01:upd Hz u0 (.lst []) l0=_:=(af_ (λz=>ou.c0l (by rw[<-z];show lm))).trans l0';generalize upd Hz u0 (.lst [])=Hz1 at*;have rl:(FA_ N 0).2.length<=30:=(d.nm.rs _ (e2_ r0)).2.1;have wl:=ok.wl;have wsl:ws.length=N.worths.length:=by rw[at1.r2.length,Ab_]
   show⟨_,ut1,_,FX_,uD,rfl,_,uD1,_,cN_ d_ (by rw[Ag_];show congrArg (Option.map V.ref) hq0),q0,rfl,_,q01,_,FX_,.inl ⟨_,.inl (.inl l01)⟩,l0,rfl,_,l01,by rw[Ab_];show Bn_ rl d_,_,(af_ (λz=>by rw[z,l01]at ut1;cases ut1)).trans ut1,_,GG_,?_⟩;have u22:=(af_ (H:=Hz1) (a:=l0) (o:=HO.lst ((FA_ N 0).2.map V.str++[V.str (Str.ofString "zz")])) (λz=>ou.c2l (by rw[z];show lm))).trans u21;show⟨.inl ⟨_,.inl (.inl u22)⟩,u2,rfl,_,u22,by rw[wsl];show Bn_ wl d_,(sz1.upd (sx.free (ou.ow.new l0 lm))).upd (sx.free ou.f2)⟩
  .rintro σ Hx ⟨e4,e5,rfl,sx⟩;nofun;have wl:=ok.wl;have wsl:ws.length=N.worths.length:=by rw[at1.r2.length,Ab_]
   have rsl:rs.length=N.rows.length:=by rw[at1.r1.length,Ab_]
   have atX:=atN.mono sx;show⟨_,atX.t,_,GG_,p2,rfl,ws,.inl atX.h2,?_⟩
   have fin:∀(n:Nat)(fv:Bool),n=(4*if fv=true then(1:Int)else 0).toNat->(fv=true->N.worths.length<14/\N.rows.length<N.posts.length+9)->GT_ (Itr 0 n) (Gv_ 7) (KO_ (Jo_ (GQ_ Gx_ [] E0 (GE_ (H2_ 1) (GE_ (H2_ 7) (GE_ (GQ_ (HD_ K) [] E0 (GE_ (H2_ 0) (GE_ (tC (V.int 4)) Jl_))) Jl_)))) (KJ_ K 2 (IH_ (Gv_ 8) (IH_ (Gv_ 9) K7_)))) (K3_ (IL_ (tOp rNe (GQ_ Ho_ [] E0 (GE_ (H2_ 8) Jl_)) (H2_ 9))) (KL_ (tC (V.bl false))) Jq_)) {nx:=KL_ (tOp K6_ (Ia_ CB (Str.ofString "net") (Hm_ CB) (H2_ 3)) (GQ_ FZ_ [] E0 (GE_ (H2_ 1) Jl_))) {nx:=λx H'=>Q V.non H',rt:=Q},rt:=Q} [some (V.ref a),some (V.ref pn),some (V.ref pe),some (V.ref x),e4,e5,some (V.bl fv),none,none,none] Hx:=by
    rintro n fv hn hf;show de_ (λt σ Hy=>∃e7 e8 e9:Option V,σ=[some (.ref a),some (.ref pn),some (.ref pe),some (.ref x),e4,e5,some (V.bl fv),e7,e8,e9]/\EM_ B Hy) ⟨none,none,none,rfl,sx⟩ ?_ ?_
    .rintro t σ Hy ht ⟨e7,e8,e9,rfl,sy⟩
     have ft:fv=true:=by
      cases fv with
      |true=>rfl
      |false=>rw[hn,if_neg d_]at ht;show absurd ht (by change ¬ t<0;lia)
     subst ft;obtain⟨w14,p9⟩:=hf rfl;have t4:t<4:=by rw[hn,if_pos rfl]at ht;show ht
     nofun;show⟨a,ns,4,rfl,d_,(s1.trans (s1B.trans sy)).seq hS,λz Hz sz=>?_⟩;have syz:=sy.trans sz;rw[BS_];show⟨pn,p0,p1,p2,rs,ws,N,t,z,rfl,atN.mono syz,Int.natCast_nonneg t,o_,r16,r0,wl,λr hr=>(nm.rs r hr).2.1,wo.nd,λu pe' N' x' Hu su hu ru fl=>?_⟩;obtain⟨nw,dw⟩:=qH_ d fl w14 p9;show⟨u,rfl,_,SqT.of hu,rfl,_,_,rfl,_,_,rfl,rfl,_,N',rfl,ru,nw,λHv sv=>?_⟩;rw[dw];show⟨rfl,?_⟩;rw[if_neg s_];show syz.trans (su.trans sv)
    .rintro σ Hy ⟨e7,e8,e9,rfl,sy⟩;nofun;show⟨dx,_,sy _ _ xB,pH_ pt,x,dx,pt,e0,eD,e2,qs'.map V.ref,ws,N,rfl,sy _ _ xB,atS.mono sy,o_,λpu u0 uD u2 us ms Hz sz ou=>?_⟩;have syz:=sy.trans sz;have atN':=atN.mono syz;show⟨pn,p0,p1,p2,rs,ws,N,rfl,atN'.t,atN'.h0,atN'.h1,atN'.r1,atN'.h2,atN'.r2,o_,λpv v0 vD v2 vs' ns' Hv sv ov=>?_⟩;have syv:=syz.trans sv;have ru:=(ou.at_ (E7_.mono (s1B.trans syz) _ at1.r2)).rep;have rv:=(ov.at_ (E7_.mono (s1B.trans syv) _ at1.r2)).rep;show⟨pu,rfl,pv,rfl,GJ_ N,Rep.mono sv _ ru,GJ_ N,rv,true,i0_ _,nF_ N,k _⟩
   have p1':=N.posts.length;by_cases h14:(ws.length:Int)<14
   .rw[if_pos h14];show⟨_,atX.t,_,FX_,p1,rfl,rs,.inl atX.h1,_,atX.t,_,FL_,p0,rfl,_,.inl atX.h0,.inr ⟨.inl ⟨d_,d_⟩,?_⟩⟩;rw[Ab_];by_cases h9:(rs.length:Int)-(N.posts.length:Int)<9
    .rw[if_pos h9,AG_ h9];show⟨d_,d_,fin _ true rfl λ_=>⟨o_,o_⟩⟩
    .rw[if_neg h9,AI_ h9];show⟨d_,d_,fin _ false rfl λz=>by cases z⟩
   .rw[if_neg h14];show .inr ⟨.inl ⟨d_,d_⟩,d_,d_,fin _ false rfl λz=>by cases z⟩
theorem cl_of(h:PySem.W.hasDictIn K C=true):(PySem.W.clsIn K C).isSome=true:=by
 unfold PySem.W.hasDictIn at h;cases e:PySem.W.clsIn K C with
 |none=>rw[e]at h;cases h
 |some c=>rfl
theorem rJ_{f:Addr}{qual:Str}{st:Stmt}{oc:Value}{od an:Option Addr}{osl:Array (Option Value)}{kV doc pm cdv ct:Value}(a:PySem.W.findIn K (.ref C) "__init__"=some (some (.ref f))) (i:PySem.W.isFn K (.ref f)=true) (l:K.lookup f=some ⟨oc,od,.func (PySem.W.fnOf "__init__" qual (FR_ st) (Fs_ st) (EL_ st) .none kV doc pm an cdv ct),osl⟩) (c:PySem.W.codeIn K cdv qual=true) (k:PySem.W.keepIn K (.ref f)=true) (mk:PySem.W.makesIn K C=true) (kc:PySem.W.keepIn K (.ref C)=true):FnI K C qual st:=⟨f,_,mS_ l c k,⟨mk,a,i,kc⟩⟩
theorem rK_{f:Addr}{m qual:Str}{st:Stmt}{oc:Value}{od an:Option Addr}{osl:Array (Option Value)}{kV doc pm cdv ct:Value}(a:PySem.W.findIn K (.ref C) m=some (some (.ref f)))(i:PySem.W.isFn K (.ref f)=true)(l:K.lookup f=some ⟨oc,od,.func (PySem.W.fnOf m qual (FR_ st) (Fs_ st) (EL_ st) .none kV doc pm an cdv ct),osl⟩)(c:PySem.W.codeIn K cdv qual=true)(k:PySem.W.keepIn K (.ref f)=true):FnM K C m qual st:=⟨f,_,mS_ l c k,⟨a,i,k⟩⟩
theorem rL_{l:PySem.W.OpenLaw}{fa:Addr}(hfa:mg "law"=some (.ref fa)) (T:Txt K mg) (EX:Ex2 K mg CL CP CN CR CB) (CLS:Cls K CB) (NA:PySem.W.findIn K (.ref CB) "standing"=some none) (FI:FnI K CB "Bench.__init__" Fa_) (FM:FnM K CB "net" "Bench.net" FT_) (GH_:Fn0 K mg "ends_by_wire" E2_) (He_:Fn0 K mg "other_ends" Fq_) (Gb_:Fn0 K mg "corners_in_order" ET_) (Go_:Fn0 K mg "corners_behind" ER_) (Hf_:Fn0 K mg "round_from" Fw_) (Hg_:Fn0 K mg "regions_of" E0_) (Gc_:Fn0 K mg "greatest_divisor" EX_) (HT_:Fn0 K mg "is_whole" FC_) (HU_:Fn0 K mg "is_worth" Fj_) (IB_:Fn0 K mg "is_name" FG_) (Hs_:Fn0 K mg "points_of" FS_) (Ht_:Fn0 K mg "vet_names" Fg_) (Hh_:Fn0 K mg "vet_points" E9_) (Hu_:Fn0 K mg "vet_wires" Fn_) (Hi_:Fn0 K mg "vet_worths" Fd_) (Gp_:Fn0 K mg "hanging_points" EQ_) (Lm_:Fn0 K mg "vet" Gf_) (IV_:Fn0 K mg "copied" F2_) (HV_:Fn0 K mg "_law_cell_at" FO_) (KE_:Fn0 K mg "_law_big" FY_) (KF_:Fn0 K mg "_law_low" Gk_) (Hv_:Fn0 K mg "_law_worth_of" Fv_) (IW_:Fn0 K mg "_law_mates" Fy_) (HW_:Fn0 K mg "_law_corners" Fk_) (Gq_:Fn0 K mg "_law_corner_behind" EW_) (IC_:Fn0 K mg "_law_region" Fu_) (IX_:Fn0 K mg "_law_grown" E3_) (IY_:Fn0 K mg "_law_names" Fc_) (IZ_:Fn0 K mg "_law_begun" FF_) (ID_:Fn0 K mg "_law_net_by" EV_) (JI_:Fn0 K mg "_law_copy" Gg_) (JJ_:Fn0 K mg "_law_free" FW_) (IE_:Fn0 K mg "_law_faulty" E6_) (JK_:Fn0 K mg "_law_word" FD_) (Ln_:Fn0 K mg "law" FV_):
  ∃fd:FuncData,(∀(s:Shared)(v:Value),BindsTo s fd ⟨[v],[]⟩ [("_law_script",v)])/\∀base:Heap,K.In base->base.Ns mainGlobals mg->GU_ l.prog w K mg base CX0 9 fa fd ["_law_script"] (Hx_ K):=by
 obtain⟨f,fd,FL,m⟩:=Ln_;have e:=hfa.symm.trans m;cases e;show⟨fd,?_,λbase _ _=>?_⟩
 .obtain⟨oc,od,kV,doc,pm,an,cdv,ct,osl,rfl,lk,hcd⟩:=FL.ex;show λs v=>.of_eq rfl
 .have c1:=hY_ (P:=l.prog) (w:=w) (base:=base) T GH_ ;have c2:=iY_ T He_ c1;have c3:=fq_ (P:=l.prog) (w:=w) (base:=base) T Gb_ ;have c4:=gt_ T Go_ c3 c2;have c5:=i2_ (P:=l.prog) (w:=w) (base:=base) T Hf_ ;have c6:=i3_ T Hg_ c4 c3 c5;have e1:=fs_ (P:=l.prog) (w:=w) (base:=base) T Gc_ ;have e2:=kT_ (P:=l.prog) (w:=w) (base:=base) T HT_ ;have e3:=kU_ T HU_ e2 e1;have e4:=mk_ (P:=l.prog) (w:=w) (base:=base) T IB_ ;have e5:=j8_ (P:=l.prog) (w:=w) (base:=base) T Hs_ ;have e6:=ka_ T EX.toExs Ht_ e5 c1 e4;have e7:=i4_ T EX.toExs Hh_ e5;have e8:=kc_ T EX.toExs Hu_ c1;have e9:=i6_ T EX.toExs Hi_ c1 e3;have e10:=gz_ T Gp_ c2;have e11:=rD_ T EX.toExs Lm_ e6 e7 e8 e9 e10 c6;have e12:=nI_ (P:=l.prog) (w:=w) (base:=base) T IV_ ;have b1:=oS_ T EX.toExs CLS NA FI e11 e12;have b2:=kf_ T CLS NA FM e12;have d1:=kE_ (P:=l.prog) (w:=w) (base:=base) T HV_ ;have d2:=qs_ T KE_ d1;have d3:=qt_ (P:=l.prog) (w:=w) (base:=base) T KF_ ;have d4:=j0_ T Hv_ d3;have d5:=nv_ (P:=l.prog) (w:=w) (base:=base) T IW_ ;have d6:=kH_ (P:=l.prog) (w:=w) (base:=base) T HW_ ;have d7:=gl_ (P:=l.prog) (w:=w) (base:=base) T Gq_ ;have d8:=mg_ T IC_ d7;have d9:=nw_ T IX_ d6 d5 d8;have d10:=nz_ (P:=l.prog) (w:=w) (base:=base) T IY_ ;have d11:=nB_ (P:=l.prog) (w:=w) (base:=base) T IZ_ ;have d12:=mh_ T ID_ d2 d9 d10 d11 d4;have d13:=oO_ (P:=l.prog) (w:=w) (base:=base) T JI_ ;have d14:=oV_ (P:=l.prog) (w:=w) (base:=base) T JJ_ ;have d15:=mn_ T IE_ d13 d14;have d16:=oU_ T EX JK_ b1;show rI_ T EX CLS FL d12 d13 b1 b2 d2 d15 d16
theorem walk{l:PySem.W.OpenLaw}{q:Program}{loose:List Str}{XP:(Str->Option Value)->Heap->Prop}{YP:World->Heap->Prop}{d:DefRec}{K:Params->PySem.W.Frag}(hn:l.most=some 63)(hdf:d.params.defaults=[])
  (hY:∀(w:World)(h:Heap),YP w h->(K w.params).In h)
  (F:∀(w:World)(mg:Str->Option Value)(fa:Addr)(h:Heap),(K w.params).In h->h.Ns mainGlobals mg->mg d.name=some (.ref fa) ->
   ∃fd:FuncData,(∀(s:Shared)(u:Value),BindsTo s fd ⟨[u],[]⟩ [("_law_script",u)])/\∀base:Heap,(K w.params).In base->base.Ns mainGlobals mg->GU_ l.prog w (K w.params) mg base CX0 9 fa fd ["_law_script"] (Hx_ (K w.params))):
  PySem.W.WalkO q loose XP YP l.row.toRowW d [] (λf vs=>PySem.call f vs):=
 L2.pU_ (n:=63) (k:=9) (x := "_law_script") (CX:=λ_=>CX0) (sp:=λw=>Hx_ (K w.params)) hn d_ hdf ⟨rfl,d_,d_⟩ hY F (λ_ _ a ns hl _ hS=>⟨a,ns,rfl,hS,λ_=>rfl⟩) λ_ _ _ _ _ z=>z
end Rim73
namespace PySem.W.Fast
def tw16097116600404915555:=0
def tw2012775285803225988:=0
def tw196866752525616670:=0
def tw10164750669311499812:=0
def tw621676031921587985:=0
def tw17631423048390269116:=0
def tw3453571862406905882:=0
def tw4758380874803053135:=0
def tw17602221062650825691:=0
def tw8252353550283402657:=0
def tw14790936311834761166:=0
def tw8693893298544870413:=0
def tw14969949019120796316:=0
def tw4306251010797971863:=0
def tw876332093761126084:=0
def tw16571590463708353025:=0
def tw16275281616666653859:=0
def tw3105023226187797030:=0
def tw8680472290236246856:=0
def tw14642103913353995165:=0
def tw11863737205390947102:=0
def tw642587370360000933:=0
def tw16869460033993137726:=0
def tw11060282685657407315:=0
def tw6676089061822441675:=0
def tw11245670226657647393:=0
def tw12461400503439455424:=0
def tw8800868094611789136:=0
def tw15459600004852188283:=0
def tw8315244332603519110:=0
def tw12878255713655825042:=0
def tw1869551943756651486:=0
def tw16084594143606239269:=0
def tw9265190153400005488:=0
def tw940532738753626918:=0
def tw8292574598645802025:=0
def tw14339341600499666982:=0
def tw10764604251157160683:=0
def tw18240167938603934590:=0
def tw18348040845965898740:=0
def tw10471093512161330469:=0
def tw1735122016025494999:=0
def tw10461210553287577836:=0
def tw13322585376174591985:=0
def tw2216267522427549756:=0
def tw12225496964626713011:=0
def tw16082388707482376099:=0
def tw7496140785795695619:=0
def tw2172353521183168348:=0
def tw13168386262854350502:=0
def tw9088091540661963569:=0
def tw12534079736346334375:=0
def tw13696724333368972218:=0
def tw1346616460493208142:=0
def tw17455822378888556374:=0
def tw7831939113207413418:=0
def tw5052678794713214544:=0
def tw6656792994674676464:=0
def tw11072431643354778142:=0
def tw5004219739138961129:=0
def tw404408023618790659:=0
def tw2803558111513360235:=0
def tw1318388431201628615:=0
def tw9187055644195382202:=0
def tw7390003916135225725:=0
def tw3065823133002193208:=0
def tw1631790345905726540:=0
def tw8869183366476105481:=0
def tw15502506030125318386:=0
def tw16986155436778681211:=0
def tw9596519234446530560:=0
def tw1986604898542929372:=0
def tw12959552880622515892:=0
def tw3610024521552733978:=0
def tw1276977752285702537:=0
def tw8951896760531916553:=0
def tw1241439770104772013:=0
def tw7485088411030034187:=0
def tw13531846378539892244:=0
def tw18387865242700360250:=0
def tw18218300116085926707:=0
def tw2140742145458210765:=0
def tw14452194809627125645:=0
def tw744345050876191374:=0
def tw14088540644094082255:=0
def tw15310643685568177443:=0
def tw2030760135999453754:=0
def tw13502008257679467527:=0
def tw7210617236048406333:=0
def tw10002270771822994126:=0
def tw11847326715566450225:=0
def tw6157767765072406851:=0
def tw15088988975619816730:=0
def tw14848347628448156882:=0
def tw8229563497597687005:=0
def tw7105540928052381503:=0
def tw7048934430960524537:=0
def tw9301164339843255:=0
def tw11353726122426118319:=0
def tw4559046594408011352:=0
def tw7548050508348404218:=0
def tw6963133159132052841:=0
def tw10530216064427205598:=0
def tw9144700779060369741:=0
def tw2940187910133203477:=0
def tw7546024019258290799:=0
def tw570639631512416550:=0
def tw4549682062663319757:=0
def tw18084918637044551673:=0
def tw12902378604031745164:=0
def tw2625821163304243159:=0
def tw3960060212278651342:=0
def tw6284801494607411654:=0
def tw2737978962067979834:=0
def tw5863603019801951162:=0
def tw8209181697542998444:=0
def tw18329191097405831814:=0
def tw1801791056477839757:=0
def tw2263707070683454403:=0
def tw14459893273340226234:=0
def tw10148443474770005448:=0
def tw17635155375308940410:=0
def tw8674348676371226135:=0
def tw774570226620195454:=0
def tw15102009835535235216:=0
def tw17352299994812194195:=0
def tw17621831253521655918:=0
def tw6677418170414418614:=0
def tw6996633078173834538:=0
def tw17135438377921207671:=0
def tw13632161867061126967:=0
def tw15663585214388105498:=0
def tw13366455718362942646:=0
def tw12125609455678575088:=0
def tw10168380168568449976:=0
def tw16371986778652122726:=0
def tw13184006123842064375:=0
def tw11453361265017506891:=0
def tw2068757159169826728:=0
def tw6611951543661016590:=0
def tw12901619215012105487:=0
def tw15424114179612182305:=0
def tw2852574210832809409:=0
def tw12199843434106395770:=0
def tw15547435379079081071:=0
def tw16091093419560622063:=0
def tw808651366058101237:=0
def tw325886010486696756:=0
def tw10977291372812247470:=0
def tw68560588442843232:=0
def tw11237019871851725641:=0
def tw12167115848402978534:=0
def tw3194708800043470030:=0
def tw14141715490518439384:=0
def tw748404905224578012:=0
def tw1563117103333737843:=0
def tw9835427257844019859:=0
def tw5431783632033867300:=0
def tw10389168034218289935:=0
def tw5324164514250446012:=0
def tw17491758091335243911:=0
def tw3589412118774778292:=0
def tw9823512934385289646:=0
def tw587571759308529864:=0
def tw10168576873947841749:=0
def tw15679630589595428615:=0
def tw4005533314720656090:=0
def tw10315713444297008244:=0
def tw16201671421106823911:=0
def tw2638756554493945716:=0
def tw17115796995071828997:=0
def tw17774033024238178478:=0
def tw14463600170440659613:=0
def tw2451443967413689262:=0
def tw16047148634953773220:=0
def tw14497471365053577042:=0
def tw12100104093912200482:=0
def tw12892591260831514904:=0
def tw1163881155569093854:=0
def tw7066404853261969087:=0
def tw2261233521479129164:=0
def tw1239986413261872148:=0
def tw7243107955370748899:=0
def tw9767792483943130267:=0
def tw5503945174214443373:=0
def tw12401204058146252133:=0
def tw688059872865357567:=0
def tw11367817706478794051:=0
def tw2237538485862088952:=0
def tw1855530581670399958:=0
def tw10017385407289306305:=0
def tw18098714195941298609:=0
def tw7657915285667352657:=0
def tw1881396054013817040:=0
def tw7142437313634520278:=0
def tw7409004163737437798:=0
def tw13395805318861729047:=0
def tw5209618901167522695:=0
def tw1392337612694677788:=0
def tw18099857372984306753:=0
def tw5631430456122457372:=0
def tw11831459349060996348:=0
def tw5947330622294925275:=0
def tw14336790455350007846:=0
def tw17703998245855936169:=0
def tw5147513290456343030:=0
def tw8735631222019758885:=0
def tw6479183467905967679:=0
def tw11904918047142162496:=0
def tw1919174572557954351:=0
def tw14306240501011126859:=0
def tw11221379253758098764:=0
def tw4092165601870348840:=0
def tw16286177261311856849:=0
def tw8473256173456822101:=0
def tw17619388882964828358:=0
def tw5627909008856878075:=0
def tw16434636957674824110:=0
def tw260000656889973535:=0
def tw17006084556702914770:=0
def tw2826424053292756157:=0
def tw1153160080417812879:=0
def tw18049358512223503163:=0
def tw2565792973129240814:=0
def tw15334779477564702784:=0
def tw9231441749626148621:=0
def tw14622255451309406375:=0
def tw14418866769384169591:=0
def tw17126173092465168603:=0
def tw17518854581651631040:=0
def tw11008022280577984768:=0
def tw5603709006097327145:=0
def tw15714543175354456964:=0
def tw7758031407814300515:=0
def tw11431958505134522521:=0
def tw1440472936319734661:=0
def tw9774187720125375777:=0
def tw8220328866284502239:=0
def tw17661995380523989635:=0
def tw1196787166888438496:=0
def tw8557508132370587688:=0
def tw10029158237358660300:=0
def tw12791961186293371535:=0
def tw8829069841577553965:=0
def tw4161269361276735798:=0
def tw2606222234252843360:=0
def tw13071938479067749504:=0
def tw6014858951323506551:=0
def tw11324385919627617600:=0
def tw5920764346616290359:=0
def tw13636367270574787968:=0
def tw14098727227980568551:=0
def tw11233477681465319982:=0
def tw18131490777371621594:=0
def tw11575541235025782067:=0
def tw1846304445020899882:=0
def tw14211731884104984291:=0
def tw3971571921661550464:=0
def tw13912621279513758214:=0
def tw6598191118024526129:=0
def tw15234020867070011926:=0
def tw3396924623323702475:=0
def tw8573223895820075743:=0
def tw6465780277414247293:=0
def tw3371591210030016243:=0
def tw15484676108449420895:=0
def tw462985471208588197:=0
def tw5548351223907905698:=0
def tw11933527606978540849:=0
def tw14658877963337895058:=0
def tw10941846460210974314:=0
def tw3861350518346688485:=0
def tw668345536908238026:=0
def tw13990422880320253413:=0
def tw10238036502886998592:=0
def tw7398457696578203782:=0
def tw6291182405061514639:=0
def tw941067786231888336:=0
def tw1425776008452800290:=0
def tw12344353410738073050:=0
def tw6062138121192165142:=0
def tw12748946601924551907:=0
def tw14610026429949848000:=0
def tw2014661354118122358:=0
def tw838440787885407734:=0
def tw5856745659676450254:=0
def tw2980697445825208349:=0
def tw5152596097343900552:=0
def tw3434946230101554031:=0
def tw16643387983706053326:=0
def tw4307751598612656495:=0
def tw13957360686218590637:=0
def tw3923184596796521534:=0
def tw16096171327597209957:=0
def tw8437584588182265536:=0
def tw3065193822060164140:=0
def tw10747324553697724346:=0
def tw6251586300318368329:=0
def tw2178809586716411783:=0
def tw12818919551687609427:=0
def tw13778611307434495079:=0
def tw18016008479600391822:=0
def tw4769022461863933358:=0
def tw1775727640191331363:=0
def tw4837135705190644683:=0
def tw12878328684306575048:=0
def tw10670119533056202971:=0
def tw14249751163018862325:=0
def tw17836960439068745108:=0
def tw8094847588943272315:=0
def tw3276299770241610212:=0
def tw9445859025213549100:=0
def tw8786760021318412919:=0
def tw3554929708308172884:=0
def tw5863464331225949681:=0
def tw13259698436459027205:=0
def tw2157040453600333390:=0
def tw2418913419968991580:=0
def tw11549931270944382247:=0
def tw346464226401304546:=0
def tw857814218279717888:=0
def tw17822931064535427569:=0
def tw630805732763572799:=0
def tw8715593381825021584:=0
def tw4388480882067435568:=0
def tw13488799391466233777:=0
def tw14146809898593929326:=0
def tw5238070822101608629:=0
def tw13202878838099596595:=0
def tw9833129659212015218:=0
def tw17062399870999399050:=0
def tw6012686123947391415:=0
def tw2915231739021549253:=0
def tw17539044731891605895:=0
def tw12358861085920650437:=0
def tw1307670391770799616:=0
def tw2507645063284210144:=0
def tw15028381371654515321:=0
def tw3413896142040095111:=0
def tw13770334017618459858:=0
def tw883014018887361352:=0
def tw8344822175439242044:=0
def tw12818556073034949352:=0
def tw11845957061487973452:=0
def tw13025181054301002149:=0
def tw7630952406744929042:=0
def tw9062897618286153387:=0
def tw14528260164940682287:=0
def tw17632165109136061959:=0
def tw17114792168771687237:=0
def tw6920709675817957102:=0
def tw1741630974199620201:=0
def tw10207321068089437755:=0
def tw5995017998721898920:=0
end PySem.W.Fast
open PySem PySem.W PyProof.Rows
set_option maxRecDepth 100000 in
set_option maxHeartbeats 0 in
theorem PySem.Challenge.cw_rimread_k73_bench_refusals_holds : PySem.Challenge.rw_rimread_k73_bench_refusals.Holds := by
 w_on; o_law; k_head; (case hw=>w_witness2)
 k_fill
 refine Rim73.walk (l:=PySem.Challenge.rw_rimread_k73_bench_refusals) rfl rfl (fun w h Y=>PySem.W.kIn_of Y) ?F
 case F =>
  intro w mg fa h KX G hmg;refine' Rim73.rL_ (CL:=?CL) (CP:=?CP) (CN:=?CN) (CR:=?CR) (CB:=?CB) hmg ⟨?n_abs,?n_max,?n_min,?c_LONG_BITS,?n_dict,?n_len,?n_range,?n_list,?n_isinstance,?n_int,?n_bool,?n_tuple,?n_str,?n_enumerate,?n_sorted,?n_set,?n_all,?c_LONGEST_NAME,?c_NAME_SIGNS⟩ ⟨⟨?m1,?m2,?m3,?m4,L2.mY_ ?x1,L2.mY_ ?x2,L2.mY_ ?x3,⟨?h1,Rim73.cl_of ?h2,?h3⟩⟩,?m5,⟨⟨Rim73.cl_of ?yN1,?yN2,?yN3,?yN4,?yN5,?yN6,?yN7,?yN8⟩,?yN9,?zN1,?zN2,?zN3⟩,⟨⟨Rim73.cl_of ?yL1,?yL2,?yL3,?yL4,?yL5,?yL6,?yL7,?yL8⟩,?yL9,?zL1,?zL2,?zL3⟩,⟨⟨Rim73.cl_of ?yP1,?yP2,?yP3,?yP4,?yP5,?yP6,?yP7,?yP8⟩,?yP9,?zP1,?zP2,?zP3⟩⟩ ⟨?cpg,?chd,?cpo,?csa⟩ ?na (Rim73.rJ_ ?ia ?ii ?il ?ic ?ik ?imk ?ikc) (Rim73.rK_ ?ma ?mi ?ml ?mc ?mk) ?f_ends_by_wire ?f_other_ends ?f_corners_in_order ?f_corners_behind ?f_round_from ?f_regions_of ?f_greatest_divisor ?f_is_whole ?f_is_worth ?f_is_name ?f_points_of ?f_vet_names ?f_vet_points ?f_vet_wires ?f_vet_worths ?f_hanging_points ?f_vet ?f_copied ?f_Lcell_at ?f_Lbig ?f_Llow ?f_Lworth_of ?f_Lmates ?f_Lcorners ?f_Lcorner_behind ?f_Lregion ?f_Lgrown ?f_Lnames ?f_Lbegun ?f_Lnet_by ?f_Lcopy ?f_Lfree ?f_Lfaulty ?f_Lword ?f_law
  case c_LONG_BITS=>refine' L2.pc_ KX G ?a; (case a=>k_is)
  case c_LONGEST_NAME=>refine' L2.pc_ KX G ?a; (case a=>k_is)
  case c_NAME_SIGNS=>refine' L2.rl_ KX G ?a; (case a=>k_is)
  case m1=>refine' PySem.W.mg_of KX G ?a; (case a=>k_is)
  case m2=>refine' PySem.W.mg_of KX G ?a; (case a=>k_is)
  case m3=>refine' PySem.W.mg_of KX G ?a; (case a=>k_is)
  case m4=>refine' PySem.W.mg_of KX G ?a; (case a=>k_is)
  case m5=>refine' PySem.W.mg_of KX G ?a; (case a=>k_is)
  case x1=>k_exc
  case x2=>k_exc
  case x3=>k_exc
  case h1=>k_is
  case h2=>k_is
  case h3=>k_is
  case yN1=>k_is
  case yN2=>k_is
  case yN3=>k_is
  case yN4=>k_is
  case yN5=>k_is
  case yN6=>k_is
  case yN7=>k_is
  case yN8=>k_is
  case yN9=>k_is
  case zN1=>kit_is
  case zN2=>kit_is
  case zN3=>kit_is
  case yL1=>k_is
  case yL2=>k_is
  case yL3=>k_is
  case yL4=>k_is
  case yL5=>k_is
  case yL6=>k_is
  case yL7=>k_is
  case yL8=>k_is
  case yL9=>k_is
  case zL1=>kit_is
  case zL2=>kit_is
  case zL3=>kit_is
  case yP1=>k_is
  case yP2=>k_is
  case yP3=>k_is
  case yP4=>k_is
  case yP5=>k_is
  case yP6=>k_is
  case yP7=>k_is
  case yP8=>k_is
  case yP9=>k_is
  case zP1=>kit_is
  case zP2=>kit_is
  case zP3=>kit_is
  case cpg=>k_is
  case chd=>k_is
  case cpo=>k_is
  case csa=>k_is
  case na=>k_is
  case ia=>k_is
  case ii=>k_is
  case il=>k_is
  case ic=>k_is
  case ik=>k_is
  case imk=>k_is
  case ikc=>k_is
  case ma=>k_is
  case mi=>k_is
  case ml=>k_is
  case mc=>k_is
  case mk=>k_is
  case n_abs | n_max | n_min | n_dict | n_len | n_range | n_list | n_isinstance | n_int | n_bool | n_tuple | n_str | n_enumerate | n_sorted | n_set | n_all=>refine' PySem.W.mg_none_of KX G ?a; (case a=>k_is)
  case f_ends_by_wire | f_other_ends | f_corners_in_order | f_corners_behind | f_round_from | f_regions_of | f_greatest_divisor | f_is_whole | f_is_worth | f_is_name | f_points_of | f_vet_names | f_vet_points | f_vet_wires | f_vet_worths | f_hanging_points | f_vet | f_copied | f_Lcell_at | f_Lbig | f_Llow | f_Lworth_of | f_Lmates | f_Lcorners | f_Lcorner_behind | f_Lregion | f_Lgrown | f_Lnames | f_Lbegun | f_Lnet_by | f_Lcopy | f_Lfree | f_Lfaulty | f_Lword | f_law=>refine' L2.q3_ KX G ?a ?l ?c ?k; (case a=>k_is); (case l=>k_is); (case c=>k_is); (case k=>k_is)
