import PyProof.Rows.All
import Wide.All
import OpenK.AllK
import Wide.FinOn
import Lean
import PyProof.EqAt
import PyProof.EqKinds
import PyProof.TupleCall
import PySem.Challenge.RW_wishstrike_k21_which_sums_show_it
abbrev Iw:=@if_pos
abbrev IF:=@if_neg
abbrev IV:=@decide_eq_true
abbrev IW:=@decide_eq_false
abbrev Jn:=@congrArg
abbrev J9:=@of_decide_eq_true
abbrev Ki:=@bind_congr
abbrev Ky:=@or_false
abbrev K3:=@beq_eq_false_iff_ne
abbrev Le:=@of_decide_eq_false
abbrev Lh:=@if_false
abbrev Lr:=@if_true
abbrev LV:=@getElem?_pos
abbrev LX:=@ite_congr
abbrev L1:=@beq_iff_eq
abbrev M1:=@decide_false
abbrev Nk:=@decide_true
open Array renaming length_toList→IC,toList_append→Jv,getElem_toList→JV,getElem?_toList→Kr,toList_push→Ln,toList_reverse→L4,size_setIfInBounds→Mh,forIn_toList→Mj,getD→Mm,getInternal_eq_getElem→Nb,perm_iff_toList_perm→ND,toList_setIfInBounds→NF,size_map→OC,getElem_extract→OI,size_extract→Pu,size_append→PF,replicate→Qh,toList→Rg
open Array.Perm renaming refl→Oj
open Bool renaming false_ne_true→IS,and_eq_true→JR,false_eq_true→J1,eq_iff_iff→Kc,or_eq_true→L_,not_eq_false'→Nr,not_eq_true'→NM,false_and→Qt,and_false→Qx,true_and→Q0
open Classical renaming byContradiction→Ma
open False renaming elim→KR
open Int renaming toNat_natCast→Jh,le_trans→JU,toNat→J5,le_of_lt→Kb,le_refl→Kf,eq_ofNat_of_zero_le→K2,emod_lt_of_pos→Lb,not_lt→Lp,emod_nonneg→LF,ediv_one→Ry
open Lean renaming mkIdent→RQ
open List renaming getElem?_eq_getElem→H0,getD_eq_getElem?_getD→Iz,length_map→IA,size_toArray→IE,length_append→IH,getElem?_eq_some_iff→IJ,mem_cons→IL,map_cons→IM,range→IP,mem_singleton→IQ,getElem?_map→IU,length_take→IY,append_assoc→Ja,getElem?_append_left→Jb,length_drop→Jc,getElem?_append_right→Jd,take_of_length_le→Jf,length_singleton→Ji,mem_append→Jk,take_append_drop→Jm,mem_cons_of_mem→Jp,getElem?_eq_none→Jq,length_cons→Js,not_mem_nil→Jt,replicate→Jw,mem_iff_getElem→JC,mem_of_mem_take→JD,getElem_mem→JE,filterMap_cons→JF,mem_of_getElem?→JG,lookup_cons→JI,mem_cons_self→JK,mem_append_right→JL,map_append→JN,mem_range→JO,mem_of_mem_drop→JP,pairwise_cons→JQ,map_map→JT,take_length→JW,mem_map→J4,drop_eq_nil_of_le→J6,filter_eq_self→J8,drop_zero→Kl,pairwise_iff_getElem→Kn,find?_cons→Kp,length_zip→Kq,getElem?_toArray→Ks,perm_append_comm→Kt,length_range→KD,nodup_cons→KG,length_set→KH,length_nil→KI,drop_eq_getElem_cons→KQ,append_nil→KS,any_cons→K1,length_reverse→K4,all_eq_true→K5,forIn_cons→Lf,all_cons→Lj,any_eq_true→Lv,getElem?_replicate→Lz,zip_cons_cons→LD,drop_of_length_le→LJ,eq_nil_of_length_eq_zero→LK,getElem_take→LM,getElem_drop→LN,forIn_nil→LS,lookup_cons_self→LW,getElem?_set_ne→LY,pairwise_append→LZ,map_nil→Mf,getElem?_take→Mi,eraseIdx_cons_succ→Mq,getElem?_cons_succ→Mr,reverse_cons→Mt,ext_getElem?→Mx,take_add_one→Mz,getElem?_set→MA,length→MC,findIdx?→ME,map_take→MF,map_drop→MG,filter_cons→MN,mem_iff_getElem?→MP,filterMap_append→MQ,set_append_right→MS,mem_append_left→MU,getElem?_range→M4,reverse_append→M6,map_congr_left→M7,nodup_nil→Nf,drop_drop→Nh,length_eraseIdx_of_lt→NB,perm_ext_iff_of_nodup→NC,foldl_append→NL,nodup_append→NO,getElem?_zip_eq_some→NQ,all_map→NV,zipIdx_cons→NW,nodup_range→N0,getElem?_cons_zero→N6,length_eq_zero_iff→Oa,of_mem_zip→Oe,range_succ→Oh,getElem?_set_self→Ol,range_succ_eq_map→Ot,length_replicate→Oz,take_left→OH,range_eq_range'→OP,length_dropLast→OS,mem_filterMap→O8,filterMap_map→Pa,getElem?_drop→Ph,any_map→Pq,filter_append→Pw,lookup→PN,range'_succ→PZ,drop_append→P7,mem_filter→P8,zipIdx_nil→Qc,foldl_cons→Qj,nil_append→Qr,take_zero→QF,take_succ→QG,drop_take→QH,take_add→QY,take_one→QZ,range'→RV,map→SO
open List.Nodup renaming length_le_of_subset→Qg,mem_erase_iff→RJ
open List.Pairwise renaming filter→Sk,and→SI,map→SM
open List.Perm renaming append_left→JM,of_eq→Qi
open Nat renaming le_refl→IB,ne_of_lt→IZ,lt_of_lt_of_le→I_,lt_irrefl→JJ,le_trans→JS,zero_add→J3,le_of_lt→Ka,le_add_right→Kh,ne_of_gt→Ku,zero_le→KN,le_of_eq→K_,min_self→La,min_eq_left→Lg,lt_succ_of_lt→Lm,le_succ→L7,sub_self→Mk,min_eq_right→MO,add_assoc→NG,le_of_not_lt→NU,lt_of_not_le→NZ,not_lt_of_le→N3,add_sub_cancel_left→N_,eq_zero_of_not_pos→Ow,mod_lt→OQ,mul_le_mul_right→OT,add_left_cancel→O2,lt_of_le_of_lt→Pg,lt_of_lt_of_eq→Pj,sub_zero→Pt,succ_ne_self→P6,pow_succ→RF,add_zero→RH,lt_or_ge→RN
open Ne renaming symm→KJ
open Option renaming map_eq_some_iff→K8,bind_some→Lx,bind_eq_some_iff→LA,isSome_iff_exists→Md,getD_none→PX,map→Qo
open Option.some renaming inj→Jj,injEq→SK
open Prod renaming snd→N1,ext→Rx
open PyProof.Rows renaming wpS_bind→II,wpS_pure→IT,callWith_type1→Je,slot_tuple_getitem→Jy,wpS_forRange→Kj,wpS_modify→Lq,wpS_mono→LI,listUpdate_at→MK,wpS_get→MT,callWith_builtin1→MW,listItems_at→M0,entry_tuple_getitem→M3,slicePart_none→M9,wpS_lift→Ng,Call_→Ni,args_tuple_getitem→Nl,pairsOf_size→N4,entry_list_sort→Oi,subscriptTail_builtinR→Oo,mirror_perm→Ox,slot_list_sort→OF,args_list_sort→OG,boot_range→OJ,Subscript_→OL,tupleItemsOf_→OW,setArr→O5,plain_sorted→Pn,entry_sorted→Po,args_sorted1→Pp,kind_sorted→PQ,seqEpoch_at→PR,get?_update_seq→Qq,sortedHeap_old→QC,K_mirror_equal→QE,slicePart_int→QM,sortedAll_old→QS,sortedHeap_at→QW,K_bubble→RM
open PyProof.Rows.F renaming plain_set_update_loop→Mp,entry_set_update_loop→N7
open PyProof.Rows.IsTup renaming new→Of
open PyProof.Rows.SortSt renaming mk'→K9
open PySem renaming wpAny_bind→ar,wpAny_pure→C0,wpAny_ite_false→IK,wpAny_holding→Jl,wpAny_newObj_type→Jr,wpAny_field→Ju,wpAny_callSpecial?_slot→Jz,wpAny_call_entry→JB,mem_of_lookup→JX,wpAny_mono→JZ,wpAny_typeOf→J0,wpAny_setField_rec→J2,wpAny_setState_of→J_,sizeLine_eq→Kd,wpAny_Call_Name_kw→Kg,wpAny_seqItems→Kk,wpAny_truthy_bool→Km,codeAny_builtin→Ko,wpAny_isInstance→Kw,wpAny_pyIter_tuple→Kx,wpAny_ite_true→KP,wpAny_rule→KU,wpAny_attempt→LB,wpAny_of_eq→LH,wpAny_pyIter_list→LL,builtinLookup_eq_fast→LU,wpAny_askSetting→L3,wpAny_passesOwn→L8,wpAny_pyIter_enum→Mv,plainId_quiet→MI,wpAny_newList→MJ,codeAny_mono→MV,wpAny_updateSeq_pair→MX,typeLookup_type→MZ,wpAny_newTuple→Na,wpAny_runValue→Nd,tupleKind_room_in1→Nq,wpAny_letOwnedTupleGo_enum→Nw,wpAny_onRaise→Nx,wpAny_sequenceKey→NJ,noFill_tuple_add→NT,callType_new→NX,wpAny_pyIter_zip→NY,wpAny_execs_nil→Od,wpAny_Call_method_late→Ou,wpAny_setField→OA,isSubtype_stop→OB,entryFor_alias→OE,wpAny_call→OK,call_meets→OM,rangeSize_one→OU,seq_tuple_add→OV,evalPart_none→OX,concat_meets→O_,seqIndex_neg→Pc,slot_list_getitem→PB,wpAny_pyIter_slot→PD,seqIndex_of→PL,wpAny_letGo→PM,wpAny_execs_cons→PU,entryFor_of_tree→P5,wpAny_Name→P9,wpAny_load→P_,call→Qb,codeAny_of_tree→Qk,wpAny_specialOf→Qm,isSubtype_type→Qz,wpAny_fieldsOf→QA,small_one→QI,wpAny_standAt→QK,intBits_le_64→QL,evalPart_some→QN,call_list_seq→QO,wpAny_handled→QQ,wpAny_update'→QU,signature?_of→QV,Within→Rf
open PySem.Around renaming under_plainId→KA
open PySem.AutoSeq1 renaming wpAny_loadPart'→KY
open PySem.Builtin renaming sorted→QB
open PySem.Builtin.Dict renaming updateFrom→N9,selfAndRest→RL,pairItems→RZ
open PySem.Builtin.Frozenset renaming updateFrom→Nc,newClass→Nz,isAnySet→NA,sizeOf→RK,slot0→RU
open PySem.Builtin.List renaming listExtendWith→Ld,listTooLong→Lu,listLengthHint→Np
open PySem.Builtin.Range renaming rangeSize→KC,small→M5
open PySem.Builtin.Slice renaming slicePlaces→J7,sliceApplied→Li,sliceAdjust→L9,sliceFields→NP,slicePartIndex→Qw
open PySem.Builtin.SmallTypes renaming nextOf→I0,ownedTupleIsFree→Jx,ownedTupleHandOut→Mg
open PySem.Builtin.Tuple renaming tupleExact→JH,tupleItemsOf→L5,tupleIsExact→Ny,tupleHashOf→Rc
open PySem.Calls renaming spliced_cons→Kv,callWith_builtin→K6,evalArgs_plain→Lo,call_function_entry→Mc,Name_function_global→Nu,spliced_nil→Pz
open PySem.Code renaming quiet_builtin→Pl
open PySem.EqMixed renaming eq_bool_str→Q6,eq_str_bool→Q7,ne_bool_str→Ra,ne_str_bool→Rb,eq_int_str→Rm,eq_str_int→Ro,ne_int_str→Ru,ne_str_int→Rw
open PySem.EqNone renaming eq_none_none→Q3,eq_none_bool→Q4,eq_bool_none→Q5,ne_none_none→Q8,ne_none_bool→Q9,ne_bool_none→Q_,eq_none_int→Rh,eq_none_str→Rj,eq_int_none→Rk,eq_str_none→Rn,ne_none_int→Rp,ne_none_str→Rq,ne_int_none→Rt,ne_str_none→Rv
open PySem.F renaming slot_zip_next→KW,slot_tuple_iterator_next→Lk,called_set→Lw,args_tuple_add_2→Me,entry_tuple_add→Mo,slot_zip_getattribute→Ms,args_zip_next_1→Mw,slot_tuple_add→MD,entry_zip_next→MM,slot_dict_get→MR,args_tuple_iterator_next_1→M_,entry_tuple_iterator_next→Nn,plainAttrs_list→N5,args_dict_get_3→N8,entry_dict_get→Ov,args_list_extend_2→ON,args_object_init_3→OO,args_object_init_2→OR,entry_list_extend→O1,slot_list_extend→Pf,plain_list_iadd→PH,typeCall_zip_2→PY,newCall_zip_2→Qd,entry_zip_new→Qe,plain_set_new→Ql,slot_set_iter→Qn,called_zip→RC
open PySem.Heap renaming get?_push_of_some→gV,lt_size→ID,get?_push_size→IG,SameBut→Jg,size_push→JY,ExtBut→LG,get?_update_self→LR,IsTuple→MY,size_update→N2,get?_update_other→Oq,get?_push_ne→PJ,IsList→RX
open PySem.Heap.DictOf renaming new→Qp
open PySem.Heap.IsSliceOf renaming new→Pb
open PySem.Heap.SameBut renaming update→Ly,refl→SH
open PySem.IsRange renaming new→PK
open PySem.Manifest renaming sig_set_iterator→Mb,signature?→O3
open PySem.Obj renaming mapSeq→KO,putSet→NR,data_mapFields→Pk
open PySem.Paired renaming length→Nt,snoc→RY
open PySem.SeqAt renaming EqAt→Ml,notIn_listAt→Pe,in_listAt→Qa
open PySem.SeqAt.EqAt renaming of_in1→Mu,of_refs→Nm,same→Og,int_str→O6,str_int→O7,none_tuple→R0,bool_tuple→R1,tuple_list→R3,tuple_none→R4,tuple_bool→R5,list_tuple→R6,none_bool→R8,bool_none→R9,bool_bool→R_,none_list→Sb,bool_list→Sd,int_tuple→Se,str_tuple→Sf,tuple_int→Sg,tuple_str→Sh,list_none→Si,list_bool→Sj,none_int→Sl,none_str→Sm,bool_int→Sn,bool_str→So,int_none→Sr,int_bool→Ss,str_none→Su,str_bool→Sv,int_list→Sw,str_list→Sx,list_int→Sy,list_str→Sz,int_int→SD,str_str→SE
open PySem.SeqAt.RcAt renaming lists_lengths→Rz,tuples→SG,lists→SN
open PySem.SeqAt.RcNeAt renaming lists_lengths→QR,tuples→SA,lists→SF
open PySem.SetTable renaming bits→JA,below→Kz,insertAt→K0,sizeAbove→Lc,leap→Ll,turns→Ls,runEnd→LC,fresh→Mn,grown→OD,fits→OY,fill→OZ,layClean→PC,advance→P0,tooFull→P4,slot→QT,has→RD
open PySem.SetTable.below renaming go→NK
open PySem.SetTable.layClean renaming free→K7
open PySem.SetTable.probe renaming go→KZ
open PySem.Shared renaming TypeIs→L6,heap→Nj
open PySem.Str renaming ofString→Jo
open PySem.StrLaws renaming seqIndex_nonneg→Qs
open PySem.Value renaming isInt→KL,isInt_shape→NH,isStrOf→QJ
open PySem.Value.ref renaming inj→QX
open PySem.Value.type renaming inj→Qy
open PySem.W renaming Frag→Iy,kia_one→Ke,keepIn→LO,fnOf→LP,codeIn→M8,methodObj→NI,instObj→Oc,cellsFrom_some→Om,lookIn→Oy,kdu_collect→O4,callWith_K→O9,kitx_list→Px,kitx_dict→Py,plainGet→PV,findIn→Qu,kitOne→Qv,WalkO→QP
open PySem.W.WShape renaming has→Sa
open PySem.Walks renaming list→Qf
open PySem.pickOrder renaming go→Pm
open String renaming ofList→O0
open Sum.inl renaming inj→MB
set_option Elab.async false
set_option compiler.extract_closed false
set_option linter.all false
set_option maxRecDepth 100000
namespace L2
open PySem PySem.Spec PyProof.Rows
noncomputable abbrev Key:=Sum Int Str
noncomputable def l7:Key->Value->Bool
 | .inl k,v=>KL k v
 | .inr x,v=>QJ x v
noncomputable def HA(w:World):Key->Int
 | .inl k=>hashInt k
 | .inr x=>hashStr w x
theorem bT:∀{k:Key}{v:Value},l7 k v=true->(∃i t,k=Sum.inl i/\v=Value.int i t)\/(∃x t,k=Sum.inr x/\v=Value.str x t)
 | .inl i,v,h=>by
  obtain⟨t,e⟩:=NH (k:=i) (v:=v) h;exact .inl ⟨i,t,rfl,e⟩
 | .inr x,v,h=>by
  obtain⟨t,e⟩:=Value.isStrOf_shape (x:=x) (v:=v) h;exact .inr ⟨x,t,rfl,e⟩
theorem yq(i:Int)(t:Tok):l7 (.inl i) (.int i t)=true:=by simp[l7,KL]
theorem yo(x:Str)(t:Tok):l7 (.inr x) (.str x t)=true:=by simp[l7,QJ]
theorem FD(a b:Int):decide ((Sum.inl a:Key)=Sum.inl b)=(a==b):=by
 by_cases e:a=b
 ·subst e;simp
 ·have h:¬(Sum.inl a:Key)=Sum.inl b:=λq=>e (MB q);rw[IW h];exact(K3.mpr e).symm
theorem Ea(a b:Str):decide ((Sum.inr a:Key)=Sum.inr b)=decide (a=b):=by
 by_cases e:a=b
 ·subst e;simp
 ·have h:¬(Sum.inr a:Key)=Sum.inr b:=λq=>e (Sum.inr.inj q);rw[IW h,IW e]
theorem Fn(a:Int)(b:Str):decide ((Sum.inl a:Key)=Sum.inr b)=false:=IW (λq=>nomatch q)
theorem FJ(a:Str)(b:Int):decide ((Sum.inr a:Key)=Sum.inl b)=false:=IW (λq=>nomatch q)
noncomputable def aV(prog:Program)(w:World):PySem.KeyKind prog w Key where
 is:=l7
 hash:=HA w
 inj:=λv a b ha hb=>by
  rcases bT ha with⟨i,t,rfl,rfl⟩ |⟨x,t,rfl,rfl⟩
  ·rcases bT hb with⟨j,u,rfl,e⟩ |⟨y,u,rfl,e⟩
   ·injection e with e1 _;rw[e1]
   ·exact nomatch e
  ·rcases bT hb with⟨j,u,rfl,e⟩ |⟨y,u,rfl,e⟩
   ·exact nomatch e
   ·injection e with e1 _;rw[e1]
 byValue:=λk v h=>by
  rcases bT h with⟨i,t,rfl,rfl⟩ |⟨x,t,rfl,rfl⟩<;>rfl
 pyHash:=λhv h=>by
  rcases bT hv with⟨i,t,rfl,rfl⟩ |⟨x,t,rfl,rfl⟩
  ·exact wpAny_pyHash_int h
  ·exact wpAny_pyHash_str h
 eqBool:=λhu hv h=>by
  rcases bT hu with⟨i,t,rfl,rfl⟩ |⟨x,t,rfl,rfl⟩
  ·rcases bT hv with⟨j,u,rfl,rfl⟩ |⟨y,u,rfl,rfl⟩
   ·rw[FD]at h;exact wpAny_eqBool_int h
   ·rw[Fn]at h;exact O6 i t y u _ _ _ _ h
  ·rcases bT hv with⟨j,u,rfl,rfl⟩ |⟨y,u,rfl,rfl⟩
   ·rw[FJ]at h;exact O7 x t j u _ _ _ _ h
   ·rw[Ea]at h;exact wpAny_eqBool_str h
 «strs»:=λk x t v h=>by
  rcases bT h with⟨i,u,rfl,e⟩ |⟨y,u,rfl,e⟩
  ·exact nomatch e
  ·injection e with e1 _;subst e1;cases v<;>rfl
theorem uh(prog:Program)(w:World)(i:Int)(t:Tok):(aV prog w).is (.inl i) (.int i t)=true:=yq i t
theorem uE(prog:Program)(w:World)(x:Str)(t:Tok):(aV prog w).is (.inr x) (.str x t)=true:=yo x t
inductive V where
 |non |bl (b:Bool) |int (i:Int) |str (x:Str) |byt (b:Array UInt8) |flt (b:UInt64) |ref (a:Addr) |ty (n:String)
 deriving DecidableEq
def RelV:V->Value->Prop
 | .non,u=>u=Value.none
 | .bl b,u=>u=Value.bool b
 | .int i,u=>∃t,u=Value.int i t
 | .str x,u=>∃t,u=Value.str x t
 | .byt b,u=>∃t,u=Value.bytes b t
 | .flt b,u=>∃t,u=Value.float b t
 | .ref a,u=>u=Value.ref a
 | .ty n,u=>u=Value.type n
abbrev Vals:List V->List Value->Prop:=Paired RelV
theorem Vals.length{xs:List V}{us:List Value}(r:Vals xs us):xs.length=us.length:=Nt r
theorem Vals.get:∀{xs:List V}{us:List Value}{i:Nat}{x:V},Vals xs us->xs[i]?=some x->∃u,us[i]?=some u/\RelV x u
 |_,_,_,_,.nil,e=>by simp at e
 |_,_,0,_,.cons r _,e=>by simp at e;subst e;exact⟨_,rfl,r⟩
 |_,_,i+1,x,.cons _ t,e=>by
  obtain⟨u,h1,h2⟩:=Vals.get (i:=i) (x:=x) t (by simpa using e);exact⟨u,by simpa using h1,h2⟩
theorem Vals.set{x:V}{u:Value}(r:RelV x u):∀{xs:List V}{us:List Value}(i:Nat),Vals xs us->Vals (xs.set i x) (us.set i u)
 |_,_,_,.nil=>.nil
 |_,_,0,.cons _ t=>.cons r t
 |_,_,i+1,.cons q t=>.cons q (Vals.set r i t)
theorem Vals.append:∀{xs ys:List V}{us ws:List Value},Vals xs us->Vals ys ws->Vals (xs++ys) (us++ws)
 |_,_,_,_,.nil,s=>s
 |_,_,_,_,.cons r t,s=>.cons r (Vals.append t s)
theorem Vals.take:∀{xs:List V}{us:List Value}(n:Nat),Vals xs us->Vals (xs.take n) (us.take n)
 |_,_,0,_=>.nil
 |_,_,_+1,.nil=>.nil
 |_,_,n+1,.cons r t=>.cons r (Vals.take n t)
theorem Vals.drop:∀{xs:List V}{us:List Value}(n:Nat),Vals xs us->Vals (xs.drop n) (us.drop n)
 |_,_,0,r=>r
 |_,_,_+1,.nil=>.nil
 |_,_,n+1,.cons _ t=>Vals.drop n t
def fC:Option V->Option Value->Prop
 |some v,some u=>RelV v u
 |none,none=>True
 |_,_=>False
def KV{κ:Type}:List (κ×V)->List (κ×Value)->Prop:=Paired λ(p:κ×V)(q:κ×Value)=>p.1=q.1/\RelV p.2 q.2
noncomputable def kV:Key->V
 | .inl i=>.int i
 | .inr x=>.str x
inductive HO where
 |lst (xs:List V)
 |tup (xs:List V)
 |dK (kvs:List (Key×V)) |dT (kvs:List (List Key×V))
 |set (S:Int->Bool) (n:Nat)
 |ins (C dx:Addr) (fs:List (Str×V))
 |own (x:Addr)
 |xd (fs:List (Str×V))
 |met (f x:Addr)
 |rng (lo hi:Int)
 |frz (o:Obj) (u:HO)
 |tbl (ps:Array Value)
 |ext (φ:Heap->Prop)
noncomputable abbrev Hp:=Addr->Option HO
noncomputable def upd(H:Hp)(a:Addr)(o:HO):Hp:=λb=>if b=a then some o else H b
theorem bY{H:Hp}{a:Addr}{o:HO}:upd H a o a=some o:=by unfold upd;rw[Iw rfl]
theorem aP{H:Hp}{a b:Addr}{o:HO}(h:b≠a):upd H a o b=H b:=by unfold upd;rw[IF h]
theorem Hk{H:Hp}{a b:Addr}{o u:HO}(h:H a=some o)(h':H b=some u)(d:o≠u):a≠b:=by
 intro e;subst e;rw[h]at h';exact d (Jj h')
theorem bo{H:Hp}{a b:Addr}{o:HO}(h:H a=some o)(h':H b=none):a≠b:=by
 intro e;subst e;rw[h]at h';cases h'
section
variable(P:Program)(w:World)
def bz(H:Hp)(h:Heap)(a:Addr):HO->Prop
 | .lst xs=>xs.length<=sizeLine/\∃(its:List Value)(n:Nat),Vals xs its/\h.get? a=some { cls:=.type "list",data:=.seq its.toArray n }
 | .tup xs=>xs.length<=sizeLine/\∃its:List Value,Vals xs its/\IsTup h a its.toArray
 | .dK kvs=>kvs.length<=sizeLine/\(a==sysModules)=false/\∃vs,KV kvs vs/\h.DictOf (aV P w) a vs
 | .dT kvs=>kvs.length<=sizeLine/\(a==sysModules)=false/\∃xs:List (List Key×Addr×Value),
   Paired (λ(p:List Key×V)(q:List Key×Addr×Value)=>p.1=q.1/\H q.2.1=some (.tup (p.1.map kV))/\RelV p.2 q.2.2) kvs xs /\
   ∃o es ep,h.get? a=some o/\o.ExactDict/\o.data=.dict es ep/\es.toList=xs.map (entryOfKey (tupleKind (aV P w)))/\(xs.map (·.1)).Nodup
 | .set S n=>h.SetOf (intKind P w) a S n
 | .ins C dx fs=>H dx=some (.own a)/\fs.length<=1000/\dx≠a/\h.get? a=some (Oc C dx) /\
   ∃mA,h.Ns1 dx mA/\(∀f,fC (fs.lookup f) (mA f))/\Rf mA (fs.map (·.1))
 | .own _=>∃o,h.get? a=some o
 | .xd fs=>∃mA,h.Ns1 a mA/\∀f,fC (fs.lookup f) (mA f)
 | .rng lo hi=>∃t u v,h.get? a=some { cls:=.type "range",data:=.fields #[.int lo t,.int hi u,.int 1 v] }
 | .frz o u=>h.get? a=some o/\bz H h a u
 | .tbl ps=>h.get? a=some { cls:=.none,data:=.fields ps }
 | .met f x=>h.get? a=some (NI (.ref f) (.ref x))
 | .ext φ=>φ h/\(∃o,h.get? a=some o)/\∀h1 h2:Heap,φ h1->(∀o,h1.get? a=some o->h2.get? a=some o)->φ h2
def HOk(H:Hp)(h:Heap):Prop:=∀a o,H a=some o->bz P w H h a o
end
section
variable{P:Program}{w:World}{H H':Hp}{h h':Heap}{a:Addr}{o:HO}
theorem bz.lt(x:bz P w H h a o):a<h.objs.size:=by
 cases o with
 |lst xs=>obtain⟨_,_,_,_,e⟩:=x;exact ID e
 |tup xs=>obtain⟨_,_,_,p⟩:=x;exact p.lt
 |dK kvs=>obtain⟨_,_,_,_,o,_,_,e,_⟩:=x;exact ID e
 |dT kvs=>obtain⟨_,_,_,_,o,_,_,e,_⟩:=x;exact ID e
 |set S n=>obtain⟨o,_,_,_,e,_⟩:=x;exact ID e
 |ins C dx fs=>obtain⟨_,_,_,e,_⟩:=x;exact ID e
 |own y=>obtain⟨_,e⟩:=x;exact ID e
 |xd fs=>obtain⟨_,⟨_,_,_,e,_⟩,_⟩:=x;exact ID e
 |rng lo hi=>obtain⟨_,_,_,e⟩:=x;exact ID e
 |frz ob u=>obtain⟨e,_⟩:=x;exact ID e
 |tbl ps=>exact ID (show h.get? a=some _ from x)
 |met f y=>exact ID (show h.get? a=some _ from x)
 |ext φ=>obtain⟨_,⟨_,e⟩,_⟩:=x;exact ID e
theorem Paired.Bs{α β:Type}{F G:α->β->Prop}:∀{l₁:List α}{l₂:List β},Paired F l₁ l₂->(∀a b,F a b->G a b)->Paired G l₁ l₂
 |_,_,.nil,_=>.nil
 |_,_,.cons r t,f=>.cons (f _ _ r) (Paired.Bs t f)
theorem bz.mK(x:bz P w H h a o)(k:∀b u,(b=a\/H b=some (.own a))->h.get? b=some u->h'.get? b=some u)
  (ho:∀b,H b=some (.own a)->H' b=some (.own a)) (ht:∀b xs,H b=some (.tup xs)->H' b=some (.tup xs)):bz P w H' h' a o:=by
 induction o with
 |lst xs=>obtain⟨z,its,n,r,e⟩:=x;exact⟨z,its,n,r,k _ _ (.inl rfl) e⟩
 |tup xs=>obtain⟨z,its,r,ob,e,c⟩:=x;exact⟨z,its,r,ob,k _ _ (.inl rfl) e,c⟩
 |dK kvs=>obtain⟨z,y,vs,r,ob,es,ep,e,c⟩:=x;exact⟨z,y,vs,r,ob,es,ep,k _ _ (.inl rfl) e,c⟩
 |dT kvs=>
  obtain⟨z,y,xs,r,ob,es,ep,e,c⟩:=x;exact⟨z,y,xs,Paired.Bs r λp q z=>⟨z.1,ht _ _ z.2.1,z.2.2⟩,ob,es,ep,k _ _ (.inl rfl) e,c⟩
 |set S n=>obtain⟨ob,es,ep,t,e,c⟩:=x;exact⟨ob,es,ep,t,k _ _ (.inl rfl) e,c⟩
 |ins C dx fs=>
  obtain⟨d,z,ne,e,mA,⟨od,es,ep,e2,c⟩,r⟩:=x;exact⟨ho _ d,z,ne,k _ _ (.inl rfl) e,mA,⟨od,es,ep,k _ _ (.inr d) e2,c⟩,r⟩
 |own y=>obtain⟨ob,e⟩:=x;exact⟨ob,k _ _ (.inl rfl) e⟩
 |xd fs=>obtain⟨mA,⟨od,es,ep,e,c⟩,r⟩:=x;exact⟨mA,⟨od,es,ep,k _ _ (.inl rfl) e,c⟩,r⟩
 |rng lo hi=>obtain⟨t,u,v,e⟩:=x;exact⟨t,u,v,k _ _ (.inl rfl) e⟩
 |frz ob u ih=>obtain⟨e,q⟩:=x;exact⟨k _ _ (.inl rfl) e,ih q⟩
 |tbl ps=>
  have e:h.get? a=some { cls:=.none,data:=.fields ps }:=x;show h'.get? a=some { cls:=.none,data:=.fields ps };exact k a _ (.inl rfl) e
 |met f y=>
  have e:h.get? a=some (NI (.ref f) (.ref y)):=x;show h'.get? a=some (NI (.ref f) (.ref y));exact k a _ (.inl rfl) e
 |ext φ=>obtain⟨p,⟨o,e⟩,st⟩:=x;exact⟨st _ _ p λo q=>k _ _ (.inl rfl) q,⟨o,k _ _ (.inl rfl) e⟩,st⟩
theorem HOk.lt(x:HOk P w H h)(e:H a=some o):a<h.objs.size:=(x a o e).lt
theorem HOk.fresh(x:HOk P w H h)(e:h.objs.size<=a):H a=none:=by
 cases q:H a with
 |none=>rfl
 |some u=>exact absurd (I_ (x.lt q) e) (JJ _)
theorem HOk.kept(x:HOk P w H h)(k:∀b u,h.get? b=some u->h'.get? b=some u):HOk P w H h':=λa o e=>
 (x a o e).mK (λb u _ q=>k b u q) (λ_ q=>q) λ_ _ q=>q
theorem HOk.laid(x:HOk P w H h)(k:∀b u,h.get? b=some u->h'.get? b=some u)(hp:h.objs.size<=a)(new:bz P w (upd H a o) h' a o):HOk P w (upd H a o) h':=λb u e=>by
 have hn:=x.fresh hp;by_cases hb:b=a
 ·subst hb;rw[bY]at e;cases e;exact new
 ·rw[aP hb]at e;exact(x b u e).mK (λc v _ q=>k c v q) (λc q=>by rw[aP (bo q hn)];exact q) λc xs q=>by rw[aP (bo q hn)];exact q
end
def Rd(H:Hp)(a:Addr)(u:HO):Prop:=H a=some u\/∃o,H a=some (.frz o u)
theorem Rd.ok{P:Program}{w:World}{H:Hp}{h:Heap}{a:Addr}{u:HO}(r:Rd H a u)(x:HOk P w H h):bz P w H h a u:=by
 rcases r with r |⟨o,r⟩
 ·exact x a u r
 ·obtain⟨_,q⟩:=x a _ r;exact q
def Mut:Option HO->Prop
 |some (.lst _)=>True
 |some (.dK _)=>True
 |some (.dT _)=>True
 |some (.set _ _)=>True
 |some (.ins _ _ _)=>True
 |some (.ext _)=>True
 |_=>False
section
variable{P:Program}{w:World}{H:Hp}{h h':Heap}{x e:Addr}{o':HO}
theorem HOk.write(ok:HOk P w H h)(mu:Mut (H x))(he:e=x\/H e=some (.own x))(k:∀b u,b≠e->h.get? b=some u->h'.get? b=some u)(heo:∃u,h'.get? e=some u)
  (new:bz P w (upd H x o') h' x o'):HOk P w (upd H x o') h':=λb u q=>by
 have nown:∀c y,H c=some (.own y)->c≠x:=λc y r z=>by subst z;rw[r]at mu;exact mu
 have ntup:∀c xs,H c=some (.tup xs)->c≠x:=λc xs r z=>by subst z;rw[r]at mu;exact mu
 by_cases hb:b=x
 ·subst hb;rw[bY]at q;cases q;exact new
 ·rw[aP hb]at q;by_cases hbe:b=e
  ·have q':H b=some (.own x):=by
    rcases he with z |z
    ·exact absurd (hbe.trans z) hb
    ·rw[hbe];exact z
   rw[q]at q';cases q';obtain⟨v,hv⟩:=heo;exact⟨v,by rw[hbe];exact hv⟩
  ·refine(ok b u q).mK (λc v hc r=>k c v ?_ r) (λc r=>by rw[aP (nown c b r)];exact r) λc xs r=>by rw[aP (ntup c xs r)];exact r
   rcases hc with rfl |hc
   ·exact hbe
   ·rintro rfl;rcases he with z |z
    ·exact nown c b hc z
    ·rw[hc]at z;cases z;exact hb rfl
end
structure Un(fs ex:List Addr)(H H':Hp)(h h':Heap):Prop where
 keep:∀b o,h.get? b=some o->H b=none->b∉fs->b∉ex->h'.get? b=some o
 slot:∀b o,h.get? b=some o->H b=none->b∈fs->b∉ex->∃sl,h'.get? b=some { o with slots:=sl }
 free:∀b o,h.get? b=some o->H b=none->b∉ex->H' b=none
 there:∀b o,h.get? b=some o->b∉ex->∃o',h'.get? b=some o'
 tups:∀b xs,H b=some (.tup xs)->H' b=some (.tup xs)
 frzs:∀b o u,H b=some (.frz o u)->H' b=some (.frz o u)
 tbls:∀b ps,H b=some (.tbl ps)->∃more,H' b=some (.tbl (ps++more))
section
variable{fs fs' ex ex':List Addr}{H H1 H2:Hp}{h h1 h2 h':Heap}{a x e:Addr}{o:HO}
theorem Un.any(u:Un fs ex H H1 h h1){b:Addr}{ob:Obj}(q:h.get? b=some ob)(n:H b=none)(hx:b∉ex):∃sl,h1.get? b=some { ob with slots:=sl }:=by
 by_cases hb:b∈fs
 ·exact u.slot b ob q n hb hx
 ·exact⟨ob.slots,u.keep b ob q n hb hx⟩
theorem Un.kept(k:∀b u,h.get? b=some u->h'.get? b=some u):Un fs ex H H h h':=
 ⟨λb ob q _ _ _=>k b ob q,λb ob q _ _ _=>⟨ob.slots,k b ob q⟩,λ_ _ _ n _=>n,λb ob q _=>⟨ob,k b ob q⟩,λ_ _ q=>q,λ_ _ _ q=>q,λ_ ps q=>⟨#[],by rw[q];simp⟩⟩
theorem Un.refl:Un fs ex H H h h:=Un.kept λ_ _ q=>q
theorem Un.laid(k:∀b u,h.get? b=some u->h'.get? b=some u)(hp:h.objs.size<=a)(hn:H a=none):Un fs ex H (upd H a o) h h' where
 keep:=λb u q _ _ _=>k b u q
 slot:=λb u q _ _ _=>⟨u.slots,k b u q⟩
 free:=λb u q n _=>by rw[aP (IZ (I_ (ID q) hp))];exact n
 there:=λb u q _=>⟨u,k b u q⟩
 tups:=λb xs q=>by rw[aP (bo q hn)];exact q
 frzs:=λb u xs q=>by rw[aP (bo q hn)];exact q
 tbls:=λb ps q=>⟨#[],by rw[aP (bo q hn),q];simp⟩
theorem Un.write(mu:Mut (H x))(he:e=x\/H e=some (.own x))(k:∀b u,b≠e->h.get? b=some u->h'.get? b=some u)(heo:∃u,h'.get? e=some u):Un fs ex H (upd H x o) h h':=by
 have hx:∀b,H b=none->b≠x:=λb n z=>by subst z;rw[n]at mu;exact mu
 have hb:∀b,H b=none->b≠e:=λb n z=>by
  subst z;rcases he with r |r
  ·exact hx b n r
  ·rw[n]at r;cases r
 have hm:∀b u,H b=some u->¬Mut (some u)->b≠x:=λb u q nm z=>by subst z;rw[q]at mu;exact nm mu
 refine⟨λb u q n _ _=>k b u (hb b n) q,λb u q n _ _=>⟨u.slots,k b u (hb b n) q⟩,λb u q n _=>by rw[aP (hx b n)];exact n,λb u q _=>?_,
  λb xs q=>by rw[aP (hm b _ q λz=>z)];exact q,λb u xs q=>by rw[aP (hm b _ q λz=>z)];exact q,λb ps q=>⟨#[],by rw[aP (hm b _ q λz=>z),q];simp⟩⟩
 by_cases hbe:b=e
 ·subst hbe;exact heo
 ·exact⟨u,k b u hbe q⟩
end
noncomputable def trk(h:Heap)(H:Hp):List Addr:=(IP h.objs.size).filter λa=>(H a).isSome
noncomputable def jX(h:Heap)(H:Hp):Heap:=PySem.W.hideAll h (trk h H)
theorem yS(h:Heap)(H:Hp):(jX h H).objs.size=h.objs.size:=PySem.W.hideAll_size _ _
theorem A6{h:Heap}{H:Hp}{b:Addr}{o:Obj}(e:h.get? b=some o)(n:H b=none):(jX h H).get? b=some o:=
 PySem.W.hideAll_get _ e λhm=>by
  have q:(H b).isSome=true:=(P8.mp hm).2;rw[n]at q;simp at q
theorem Ci{h:Heap}{H:Hp}{b:Addr}{o:Obj}(e:(jX h H).get? b=some o):h.get? b=some o/\H b=none:=by
 have e':h.get? b=some o:=PySem.W.of_hideAll (trk h H) e;refine⟨e',?_⟩;cases q:H b with
 |none=>rfl
 |some x=>
  have hm:b∈trk h H:=P8.mpr ⟨JO.mpr (ID e'),by simp[q]⟩;have z:(jX h H).get? b=none:=PySem.W.hideAll_none (trk h H) hm;rw[z]at e;cases e
noncomputable def Dv(g h:Heap)(L:Addr):List (Addr×Obj):=(IP h.objs.size).filterMap λa=>if a=L\/(g.get? a).isSome=true then none else(h.get? a).map λo=>(a,o)
noncomputable def rest(g h:Heap)(L d:Addr):List (Addr×Obj):=(Dv g h L).filter λp=>decide (p.1≠d)
structure Mod(K:Iy)(mg:Str->Option Value)(base:Heap):Prop where
 kin:K.In base
 glob:base.Ns mainGlobals mg
 blt:∃mb,base.Ns builtinsNs mb/\∀x:Str,x≠"__name__"->mb x=bootBuiltins x
 nolimit:base.NoLimit
structure Cx where
 prog:Program
 w:World
 K:Iy
 mg:Str->Option Value
 base:Heap
 A:Around
 N:List Str
 s₀:Shared
 H₀:Hp
 env:Env
 outer:List Env
 stack:List Env
 ex:List Addr
 fn:Str->Bool
 calm:Bool
 pn:List (Addr×Obj)
 xe:Value->Shared->Prop
noncomputable def frs(l:List Env):List Addr:=l.filterMap (·.frame)
noncomputable abbrev Cx.fs(X:Cx):List Addr:=frs X.outer
def Vis(sc:Scope)(x:Str):Prop:=sc.names.lookup x=some .local\/sc.names.lookup x=some .cell\/sc.names.lookup x=some .free
def Loc(sc:Scope)(x:Str):Prop:=sc.names.lookup x=some .local\/sc.names.lookup x=some .cell
def Look(env:Env)(h:Heap)(m:Str->Option Value)(x:Str)(u:Value):Prop:=
 (env.kindOf x=some .local/\m x=some u)\/((env.kindOf x=some .cell\/env.kindOf x=some .free)/\∃c,env.cells.lookup x=some c/\h.IsCell c (some u))
structure Cx.Ok(X:Cx):Prop where
 mod:Mod X.K X.mg X.base
 kind:X.env.scope.kind=.function
 glob:X.env.globals=mainGlobals
 blt:X.env.builtins=builtinsNs
 above:X.s₀.heap.objs.size<=X.env.locals
 inj:∀x y c,X.env.cells.lookup x=some c->X.env.cells.lookup y=some c->x=y
 has:∀x,(X.env.kindOf x=some .cell\/X.env.kindOf x=some .free)->∃c,X.env.cells.lookup x=some c
 cab:∀x c,X.fn x=true->X.env.cells.lookup x=some c->X.s₀.heap.objs.size<=c
 hd:X.calm=true->X.A.handled=none
 frames:X.A.frames=some X.stack
 stk:X.stack=X.outer\/(X.stack=X.env::X.outer/\X.env.frame=some X.env.locals)
 exf:∀b∈X.ex,b≠X.env.locals/\∀x c,X.env.cells.lookup x=some c->c≠b
 bs:∀b o,X.base.get? b=some o->X.s₀.heap.get? b=some o/\X.H₀ b=none
 bsz:X.base.objs.size<=X.s₀.heap.objs.size
 noex:∀b o,X.base.get? b=some o->b∉X.ex
 exfs:∀b∈X.ex,b∉X.fs
 il:X.s₀.heap.FunFrames X.base X.outer
 frf:∀b∈X.fs,X.H₀ b=none
structure Inv(X:Cx)(pins:List (Addr×Obj))(σ:List (Option V))(H:Hp)(s:Shared):Prop where
 ok:X.Ok
 os:s.os=X.s₀.os
 bare:AllBare s.gens
 base:Un X.fs X.ex X.H₀ H X.s₀.heap s.heap
 loc:∃m,s.heap.Ns X.env.locals m/\∀(i:Nat)(x:Str)(v:V),X.N[i]?=some x->σ[i]?=some (some v)->Vis X.env.scope x->∃u,RelV v u/\Look X.env s.heap m x u
 cell:∀x c,X.env.cells.lookup x=some c->∃v,s.heap.IsCell c v
 free:H X.env.locals=none
 freeC:∀x c,X.env.cells.lookup x=some c->H c=none
 pin:∀p∈X.pn++pins,s.heap.get? p.1=some p.2/\H p.1=none/\p.1≠X.env.locals/\p.1∉X.fs/\∀v,p.2.data≠.cell v
 hok:HOk X.prog X.w H s.heap
 len:σ.length=X.N.length
section
variable{X:Cx}{pins:List (Addr×Obj)}{σ:List (Option V)}{H H':Hp}{s:Shared}{h':Heap}
theorem Cx.Ok.Ij(ok:X.Ok){b:Addr}{o:Obj}(e:X.base.get? b=some o):b∉X.fs:=λhb=>by
 have:=(ok.il.mem hb).1;rw[e]at this;cases this
theorem Inv.bs(I:Inv X pins σ H s):∀b o,X.base.get? b=some o->s.heap.get? b=some o/\H b=none:=λb o e=>
 ⟨I.base.keep b o (I.ok.bs b o e).1 (I.ok.bs b o e).2 (I.ok.Ij e) (I.ok.noex b o e),I.base.free b o (I.ok.bs b o e).1 (I.ok.bs b o e).2 (I.ok.noex b o e)⟩
theorem Inv.bk(I:Inv X pins σ H s):∀b o,X.base.get? b=some o->s.heap.get? b=some o:=λb o e=>(I.bs b o e).1
theorem Inv.mod(I:Inv X pins σ H s):Mod X.K X.mg X.base:=I.ok.mod
theorem Inv.kIn(I:Inv X pins σ H s):X.K.In s.heap:=I.ok.mod.kin.keeps I.bk
theorem Inv.lt(I:Inv X pins σ H s):X.env.locals<s.heap.objs.size:=let⟨_,hn,_⟩:=I.loc;hn.lt
theorem Inv.sz(I:Inv X pins σ H s):X.s₀.heap.objs.size<=s.heap.objs.size:=JS I.ok.above (Ka I.lt)
theorem Inv.FL(I:Inv X pins σ H s){a:Addr}(h:s.heap.objs.size<=a):a∉X.fs:=λhb=>by
 obtain⟨_,o,ho,_⟩:=I.ok.il.mem hb;exact absurd (I_ (ID ho) (JS I.sz h)) (JJ _)
theorem Inv.cne(I:Inv X pins σ H s):∀x c,X.env.cells.lookup x=some c->c≠X.env.locals:=λx c e z=>by
 obtain⟨v,o,ho,hd⟩:=I.cell x c e;obtain⟨m,⟨o',es,ep,ho',hd',_⟩,_⟩:=I.loc;rw[z,ho']at ho;cases ho;rw[hd']at hd;cases hd
theorem Inv.il(I:Inv X pins σ H s):s.heap.FunFrames X.base X.outer:=by
 have all:∀(l:List Env),(∀b∈frs l,b∈X.fs)->X.s₀.heap.FunFrames X.base l->s.heap.FunFrames X.base l:=by
  intro l
  induction l with
  |nil=>intro _ _;trivial
  |cons env r ih=>
   intro hs hl;obtain⟨hk,⟨L,o,hf,hn,ho,hd⟩,hr⟩:=hl;have hL:L∈X.fs:=hs L (by unfold frs;rw[JF,hf];exact JK);obtain⟨sl,e⟩:=I.base.slot L o ho (I.ok.frf L hL) hL λz=>I.ok.exfs L z hL;exact⟨hk,⟨L,_,hf,hn,e,hd⟩,ih (λb hb=>hs b (by unfold frs;rw[JF,hf];exact Jp _ hb)) hr⟩
 exact all X.outer (λ_ hb=>hb) I.ok.il
theorem Inv.stack(I:Inv X pins σ H s):s.heap.FunFrames X.base X.stack:=by
 rcases I.ok.stk with e |⟨e,hf⟩
 ·rw[e];exact I.il
 ·rw[e];obtain⟨m,hn,_⟩:=I.loc;refine .cons (by rw[I.ok.kind];decide) hf hn ?_ I.il;exact Heap.get?_none_of_le (JS I.ok.bsz I.ok.above)
theorem Inv.n_(I:Inv X pins σ H s):∀b∈frs X.stack,b∈X.env.locals::X.fs:=λb hb=>by
 rcases I.ok.stk with e |⟨e,hf⟩
 ·rw[e]at hb;exact Jp _ hb
 ·rw[e]at hb;unfold frs at hb;rw[JF,hf]at hb;exact hb
theorem Inv.uV(I:Inv X pins σ H s):∀b∈frs X.stack,H b=none:=λb hb=>by
 rcases IL.mp (I.n_ b hb)with e |hb
 ·rw[e];exact I.free
 ·obtain⟨_,o,ho,_⟩:=I.ok.il.mem hb;exact I.base.free b o ho (I.ok.frf b hb) λz=>I.ok.exfs b z hb
theorem Inv.step{g':Array GenState}{t':Nat}{d':Drawn}{ch:List Addr}(I:Inv X pins σ H s)
  (hch:∀b∈ch,(b∈X.ex\/X.s₀.heap.objs.size<=b)/\b≠X.env.locals/\(∀x c,X.env.cells.lookup x=some c->c≠b)/\∀p∈X.pn++pins,p.1≠b)
  (keep:∀b o,b≠X.env.locals->b∉X.fs->b∉ch->s.heap.get? b=some o->H b=none->h'.get? b=some o)
  (slot:∀b o,b≠X.env.locals->b∈X.fs->b∉ch->s.heap.get? b=some o->H b=none->∃sl,h'.get? b=some { o with slots:=sl }) (free:∀b o,b∉ch->s.heap.get? b=some o->H b=none->H' b=none)
  (there:∀b o,b∉ch->s.heap.get? b=some o->∃o',h'.get? b=some o')
  (tups:∀b xs,H b=some (.tup xs)->H' b=some (.tup xs)) (frzs:∀b o u,H b=some (.frz o u)->H' b=some (.frz o u)) (tbls:∀b ps,H b=some (.tbl ps)->∃more,H' b=some (.tbl (ps++more)))
  (ns:∀m,s.heap.Ns X.env.locals m->h'.Ns X.env.locals m) (hok:HOk X.prog X.w H' h') (hg:AllBare g') :
  Inv X pins σ H' { s with heap:=h',gens:=g',drawn:=d',toks:=t' }:=by
 have neL:∀b o,X.s₀.heap.get? b=some o->b≠X.env.locals:=λb o e=>IZ (I_ (ID e) I.ok.above);have neC:∀b o,X.s₀.heap.get? b=some o->b∉X.ex->b∉ch:=λb o e hx hb=>by
  rcases(hch b hb).1 with z |z
  ·exact hx z
  ·exact absurd (I_ (ID e) z) (JJ _)
 have cellK:∀x c,X.env.cells.lookup x=some c->∀v,s.heap.IsCell c v->h'.IsCell c v:=λx c e v ⟨o,ho,hd⟩=>by
  have nch:c∉ch:=λz=>(hch c z).2.2.1 x c e rfl;by_cases hc:c∈X.fs
  ·obtain⟨sl,q⟩:=slot c o (I.cne x c e) hc nch ho (I.freeC x c e);exact⟨_,q,hd⟩
  ·exact⟨o,keep c o (I.cne x c e) hc nch ho (I.freeC x c e),hd⟩
 refine⟨I.ok,I.os,hg,⟨λb o e n hb hx=>?_,λb o e n hb hx=>?_,λb o e n hx=>?_,λb o e hx=>?_,λb xs e=>tups b xs (I.base.tups b xs e),λb o xs e=>frzs b o xs (I.base.frzs b o xs e),λb ps e=>?_⟩,?_,λx c e=>?_,?_,λx c e=>?_,λp hp=>?_,hok,I.len⟩
 ·exact keep b o (neL b o e) hb (neC b o e hx) (I.base.keep b o e n hb hx) (I.base.free b o e n hx)
 ·obtain⟨sl,e1⟩:=I.base.slot b o e n hb hx;obtain⟨sl',e2⟩:=slot b _ (neL b o e) hb (neC b o e hx) e1 (I.base.free b o e n hx);exact⟨sl',e2⟩
 ·obtain⟨o',e1⟩:=I.base.there b o e hx;exact free b o' (neC b o e hx) e1 (I.base.free b o e n hx)
 ·obtain⟨o',e1⟩:=I.base.there b o e hx;exact there b o' (neC b o e hx) e1
 ·obtain⟨m1,e1⟩:=I.base.tbls b ps e;obtain⟨m2,e2⟩:=tbls b _ e1;exact⟨m1++m2,by rw[e2,Array.append_assoc]⟩
 ·obtain⟨m,hn,hl⟩:=I.loc;refine⟨m,ns m hn,λi x v e1 e2 e3=>?_⟩;obtain⟨u,r,l⟩:=hl i x v e1 e2 e3;refine⟨u,r,?_⟩;rcases l with l |⟨k,c,e,z⟩
  ·exact .inl l
  ·exact .inr ⟨k,c,e,cellK x c e _ z⟩
 ·obtain⟨v,z⟩:=I.cell x c e;exact⟨v,cellK x c e v z⟩
 ·obtain⟨m,⟨o,_,_,ho,_⟩,_⟩:=I.loc;exact free _ o (λz=>(hch _ z).2.1 rfl) ho I.free
 ·obtain⟨v,o,ho,hd⟩:=I.cell x c e;exact free c o (λz=>(hch c z).2.2.1 x c e rfl) ho (I.freeC x c e)
 ·obtain⟨e,n,ne,nf,d⟩:=I.pin p hp;have nch:p.1∉ch:=λz=>(hch p.1 z).2.2.2 p hp rfl;exact⟨keep p.1 p.2 ne nf nch e n,free p.1 p.2 nch e n,ne,nf,d⟩
theorem Inv.un{t':Nat}(I:Inv X pins σ H s)(u:Un X.fs [] H H' s.heap h')(hok:HOk X.prog X.w H' h'):Inv X pins σ H' { s with heap:=h',toks:=t' }:=by
 obtain⟨m,⟨o,es,ep,ho,r⟩,_⟩:=id I.loc;obtain⟨sl,hL⟩:=u.any ho I.free (by simp);exact I.step (g':=s.gens) (d':=s.drawn) (ch:=[]) (λ_ z=>nomatch z) (λb o _ hb _ e n=>u.keep b o e n hb (by simp)) (λb o _ hb _ e n=>u.slot b o e n hb (by simp)) (λb o _ e n=>u.free b o e n (by simp)) (λb o _ e=>u.there b o e (by simp)) u.tups u.frzs u.tbls (λm' hm=>by
  obtain⟨o',es',ep',ho',r'⟩:=hm;rw[ho]at ho';cases ho';exact⟨_,es',ep',hL,r'⟩) hok I.bare
theorem Inv.call{g':Array GenState}{t':Nat}{d':Drawn}{ch:List Addr}(I:Inv X pins σ H s)(u:Un (frs X.stack) ch H H' s.heap h')(hok:HOk X.prog X.w H' h')(hg:AllBare g')
  (hch:∀b∈ch,(b∈X.ex\/X.s₀.heap.objs.size<=b)/\b≠X.env.locals/\(∀x c,X.env.cells.lookup x=some c->c≠b)/\∀p∈X.pn++pins,p.1≠b) :
  Inv X pins σ H' { s with heap:=h',gens:=g',drawn:=d',toks:=t' }:=by
 obtain⟨m,⟨o,es,ep,ho,r⟩,_⟩:=id I.loc;obtain⟨sl,hL⟩:=u.any ho I.free λz=>(hch _ z).2.1 rfl;exact I.step (ch:=ch) hch (λb o hL hb hc e n=>u.keep b o e n (λz=>(IL.mp (I.n_ b z)).elim hL hb) hc) (λb o _ _ hc e n=>u.any e n hc) (λb o hc e n=>u.free b o e n hc) (λb o hc e=>u.there b o e hc) u.tups u.frzs u.tbls (λm' hm=>by
  obtain⟨o',es',ep',ho',r'⟩:=hm;rw[ho]at ho';cases ho';exact⟨_,es',ep',hL,r'⟩) hok hg
theorem Inv.turned{t':Nat}{it:Addr}(I:Inv X pins σ H s)(k:∀b o,b≠it->s.heap.get? b=some o->h'.get? b=some o)(hn:H it=none)(hL:it≠X.env.locals)
  (h1:it∈X.ex\/X.s₀.heap.objs.size<=it) (h2:∀x c,X.env.cells.lookup x=some c->c≠it) (h3:∀p∈X.pn++pins,p.1≠it):Inv X pins σ H { s with heap:=h',toks:=t' }:=by
 have nit:∀b u,H b=some u->b≠it:=λb u e z=>by rw[z,hn]at e;cases e
 refine I.step (g':=s.gens) (d':=s.drawn) (ch:=[it]) (λb hb=>?_) (λb o _ _ hc e _=>k b o (λz=>hc (by simp[z])) e) (λb o _ _ hc e _=>⟨o.slots,k b o (λz=>hc (by simp[z])) e⟩) (λ_ _ _ _ n=>n)
  (λb o hc e=>⟨o,k b o (λz=>hc (by simp[z])) e⟩) (λ_ _ e=>e) (λ_ _ _ e=>e) (λb ps e=>⟨#[],by rw[e];simp⟩) (λm hm=>?_) (λb u e=>?_) I.bare
 ·have e:b=it:=by simpa using hb
  subst e;exact⟨h1,hL,h2,h3⟩
 ·obtain⟨o,es,ep,ho,r⟩:=hm;exact⟨o,es,ep,k _ o (KJ hL) ho,r⟩
 ·refine(I.hok b u e).mK (λc v hc q=>k c v ?_ q) (λ_ q=>q) λ_ _ q=>q;rcases hc with z |z
  ·rw[z];exact nit b u e
  ·exact nit c _ z
theorem Inv.tok(I:Inv X pins σ H s)(t:Nat):Inv X pins σ H { s with toks:=t }:=I.un (h':=s.heap) (t':=t) Un.refl I.hok
theorem Inv.kept{t':Nat}(I:Inv X pins σ H s)(k:∀b u,s.heap.get? b=some u->h'.get? b=some u):Inv X pins σ H { s with heap:=h',toks:=t' }:=I.un (Un.kept k) (I.hok.kept k)
theorem Inv.laid{a:Addr}{o:HO}{t':Nat}(I:Inv X pins σ H s)(k:∀b u,s.heap.get? b=some u->h'.get? b=some u)(hp:s.heap.objs.size<=a)(new:bz X.prog X.w (upd H a o) h' a o) :
  Inv X pins σ (upd H a o) { s with heap:=h',toks:=t' }:=I.un (Un.laid k hp (I.hok.fresh hp)) (I.hok.laid k hp new)
theorem Inv.write{x e:Addr}{o:HO}{t':Nat}(I:Inv X pins σ H s)(mu:Mut (H x))(he:e=x\/H e=some (.own x))(k:∀b u,b≠e->s.heap.get? b=some u->h'.get? b=some u)(heo:∃u,h'.get? e=some u)
  (new:bz X.prog X.w (upd H x o) h' x o):Inv X pins σ (upd H x o) { s with heap:=h',toks:=t' }:=I.un (Un.write mu he k heo) (I.hok.write mu he k heo new)
theorem Inv.vp{pins':List (Addr×Obj)}(I:Inv X pins σ H s)(h:∀p∈pins',s.heap.get? p.1=some p.2/\H p.1=none/\p.1≠X.env.locals/\p.1∉X.fs/\∀v,p.2.data≠.cell v):Inv X pins' σ H s:=
 ⟨I.ok,I.os,I.bare,I.base,I.loc,I.cell,I.free,I.freeC,λp hp=>(Jk.mp hp).elim (λz=>I.pin p (MU _ z)) (h p),I.hok,I.len⟩
theorem tW{N:List Str}(hN:N.Nodup){i j:Nat}{x:Str}(a:N[i]?=some x)(b:N[j]?=some x):i=j:=by
 obtain⟨h1,e1⟩:=IJ.mp a;obtain⟨h2,e2⟩:=IJ.mp b;exact(List.getElem_inj hN).mp (e1.trans e2.symm)
theorem yj{M:Model}{A:Around}{E:Value->Shared->Prop}{i:Nat}{x:Str}{v:V}{u:Value}{Q:Unit->Shared->Prop}(I:Inv X pins σ H s)(hN:X.N.Nodup)(hi:X.N[i]?=some x)(hx:Loc X.env.scope x)(r:RelV v u)
  (h:∀s',Inv X pins (σ.set i (some v)) H s'->(∃a,Jg a s.heap s'.heap/\(a=X.env.locals\/X.env.cells.lookup x=some a))->Q () s') (hf:X.fn x=true\/X.env.scope.names.lookup x=some .local:=by first |exact .inl rfl |exact .inr rfl |assumption):wpAny M A (storeName X.env x u) Q E s:=by
 obtain⟨m,hn,hl⟩:=id I.loc;have hcls:(X.env.scope.kind == .class||(X.env.scope.kind == .module&&X.env.locals != X.env.globals))=false:=by rw[I.ok.kind];rfl
 have hiσ:i<σ.length:=by rw[I.len];exact(IJ.mp hi).1
 have cne:=I.cne;have tracked:∀{a:Addr}{h':Heap},(∃o,s.heap.get? a=some o/\H a=none)->Jg a s.heap h'->HOk X.prog X.w H h':=λ{a h'} ha hs b ob e=>by
  obtain⟨_,_,hfree⟩:=ha;refine(I.hok b ob e).mK (λc w' hc q=>(hs.2 c ?_).trans q) (λ_ q=>q) λ_ _ q=>q;rintro rfl;rcases hc with rfl |hc
  ·rw[hfree]at e;cases e
  ·rw[hfree]at hc;cases hc
 rcases hx with hk |hk
 ·refine wpAny_storeName_local hk hn (λh' hn' hs=>?_) hcls;obtain⟨oL,_,_,hoL,_⟩:=id hn;refine h _ ⟨I.ok,I.os,I.bare,⟨λb o e n hb hx=>?_,λb o e n hb hx=>?_,I.base.free,λb o e hx=>?_,I.base.tups,I.base.frzs,I.base.tbls⟩,⟨_,hn',λj y v' e1 e2 e3=>?_⟩,λy c e=>?_,I.free,I.freeC,λp hp=>?_,tracked ⟨oL,hoL,I.free⟩ hs,by simpa using I.len⟩ ⟨_,hs,.inl rfl⟩
  ·exact(hs.2 b (IZ (I_ (ID e) I.ok.above))).trans (I.base.keep b o e n hb hx)
  ·obtain⟨sl,e1⟩:=I.base.slot b o e n hb hx;exact⟨sl,(hs.2 b (IZ (I_ (ID e) I.ok.above))).trans e1⟩
  ·obtain⟨o',e1⟩:=I.base.there b o e hx;exact⟨o',(hs.2 b (IZ (I_ (ID e) I.ok.above))).trans e1⟩
  ·by_cases hj:j=i
   ·subst hj;rw[hi]at e1;cases e1;rw[Ol hiσ]at e2;cases e2;exact⟨u,r,.inl ⟨hk,by simp⟩⟩
   ·rw[LY (KJ hj)]at e2;obtain⟨u',r',q⟩:=hl j y v' e1 e2 e3;refine⟨u',r',?_⟩;rcases q with⟨k,e⟩ |⟨k,c,e,z⟩
    ·refine .inl ⟨k,?_⟩;have:y≠x:=λe=>hj (tW hN e1 (e▸hi));simp[this,e]
    ·exact .inr ⟨k,c,e,z.sameBut hs (cne y c e)⟩
  ·obtain⟨w',z⟩:=I.cell y c e;exact⟨w',z.sameBut hs (cne y c e)⟩
  ·obtain⟨e,n,ne,nf,d⟩:=I.pin p hp;exact⟨(hs.2 p.1 ne).trans e,n,ne,nf,d⟩
 ·have hfn:X.fn x=true:=by
   rcases hf with z |z
   ·exact z
   ·rw[z]at hk;cases hk
  obtain⟨c,hc⟩:=I.ok.has x (.inl hk);obtain⟨w',z⟩:=I.cell x c hc;refine wpAny_storeName_cell I.ok.kind hk hc z (λh' hc' hs=>?_);obtain⟨oc,hoc,hocd⟩:=id z;refine h { s with heap:=h' } ⟨I.ok,I.os,I.bare,⟨λb o e n hb hx=>?_,λb o e n hb hx=>?_,I.base.free,λb o e hx=>?_,I.base.tups,I.base.frzs,I.base.tbls⟩,⟨m,hn.sameBut hs (KJ (cne x c hc)),λj y v' e1 e2 e3=>?_⟩,λy c' e=>?_,I.free,I.freeC,λp hp=>?_,tracked ⟨oc,hoc,I.freeC x c hc⟩ hs,by simpa using I.len⟩ ⟨c,hs,.inr hc⟩
  ·exact(hs.2 b (IZ (I_ (ID e) (I.ok.cab x c hfn hc)))).trans (I.base.keep b o e n hb hx)
  ·obtain⟨sl,e1⟩:=I.base.slot b o e n hb hx;exact⟨sl,(hs.2 b (IZ (I_ (ID e) (I.ok.cab x c hfn hc)))).trans e1⟩
  ·obtain⟨o',e1⟩:=I.base.there b o e hx;exact⟨o',(hs.2 b (IZ (I_ (ID e) (I.ok.cab x c hfn hc)))).trans e1⟩
  ·by_cases hj:j=i
   ·subst hj;rw[hi]at e1;cases e1;rw[Ol hiσ]at e2;cases e2;exact⟨u,r,.inr ⟨.inl hk,c,hc,hc'⟩⟩
   ·rw[LY (KJ hj)]at e2;obtain⟨u',r',q⟩:=hl j y v' e1 e2 e3;refine⟨u',r',?_⟩;rcases q with q |⟨k,c',e,z'⟩
    ·exact .inl q
    ·refine .inr ⟨k,c',e,z'.sameBut hs ?_⟩;rintro rfl;exact hj (tW hN e1 (I.ok.inj _ _ _ e hc▸hi))
  ·by_cases hcc:c'=c
   ·subst hcc;exact⟨_,hc'⟩
   ·obtain⟨w2,z2⟩:=I.cell y c' e;exact⟨w2,z2.sameBut hs hcc⟩
  ·obtain⟨e,n,ne,nf,d⟩:=I.pin p hp;refine⟨(hs.2 p.1 ?_).trans e,n,ne,nf,d⟩;intro q;rw[q,hoc]at e;have q':oc=p.2:=Jj e;exact d w' (by rw[<-q'];exact hocd)
theorem rA{M:Model}{A:Around}{E:Value->Shared->Prop}{i:Nat}{x:Str}{v:V}{u:Value}{Q:Unit->Shared->Prop}(I:Inv X pins σ H s)(hN:X.N.Nodup)(hi:X.N[i]?=some x)(hx:Loc X.env.scope x)(r:RelV v u)
  (h:∀s',Inv X pins (σ.set i (some v)) H s'->Q () s') (hf:X.fn x=true\/X.env.scope.names.lookup x=some .local:=by first |exact .inl rfl |exact .inr rfl |assumption):wpAny M A (storeName X.env x u) Q E s:=
 yj I hN hi hx r (λs' I' _=>h s' I') hf
theorem Inv.GJ{s':Shared}{ch:List Addr}(I:Inv X pins σ H s)(ho:s'.os=s.os)(u:Un (frs X.stack) ch H H' s.heap s'.heap)(hok:HOk X.prog X.w H' s'.heap)(hg:AllBare s'.gens)
  (hch:∀b∈ch,(b∈X.ex\/X.s₀.heap.objs.size<=b)/\b≠X.env.locals/\(∀x c,X.env.cells.lookup x=some c->c≠b)/\∀p∈X.pn++pins,p.1≠b):Inv X pins σ H' s':=by
 obtain⟨h',g',d',t',o'⟩:=s';have e:o'=s.os:=ho;subst e;exact I.call (g':=g') (t':=t') (d':=d') u hok hg hch
end
noncomputable abbrev XK:=Value->Option Addr->Hp->Prop
noncomputable abbrev St:=List (Option V)
noncomputable abbrev VK:=V->Hp->Prop
noncomputable abbrev TE:=St->Hp->VK->Prop
noncomputable abbrev TT:=St->Hp->(Bool->Hp->Prop)->Prop
noncomputable abbrev TA:=St->Hp->(List V->Hp->Prop)->Prop
structure Ends where
 nx:St->Hp->Prop
 rt:VK
 bk:St->Hp->Prop:=λ_ _=>False
 ct:St->Hp->Prop:=λ_ _=>False
noncomputable abbrev TS:=Ends->St->Hp->Prop
def EP(X:Cx)(pins:List (Addr×Obj))(σ:St)(Q:VK)(u:Value)(s':Shared):Prop:=∃v H',Inv X pins σ H' s'/\RelV v u/\Q v H'
def TP(X:Cx)(pins:List (Addr×Obj))(σ:St)(Q:Bool->Hp->Prop)(b:Bool)(s':Shared):Prop:=∃H',Inv X pins σ H' s'/\Q b H'
def AP(X:Cx)(pins:List (Addr×Obj))(σ:St)(Q:List V->Hp->Prop)(us:List Value)(s':Shared):Prop:=∃vs H',Inv X pins σ H' s'/\Vals vs us/\Q vs H'
def SP(X:Cx)(pins:List (Addr×Obj))(D:Ends)(f:Flow)(s':Shared):Prop:=
 match f with
 | .next=>∃σ' H',Inv X pins σ' H' s'/\D.nx σ' H'
 | .brk=>∃σ' H',Inv X pins σ' H' s'/\D.bk σ' H'
 | .cont=>∃σ' H',Inv X pins σ' H' s'/\D.ct σ' H'
 | .ret u=>∃v σ' H',Inv X pins σ' H' s'/\RelV v u/\D.rt v H'
def PE(X:Cx)(e:Expr)(t:TE):Prop:=
 ∀(pins:List (Addr×Obj))(s:Shared)(σ:St)(H:Hp)(Q:VK),Inv X pins σ H s->t σ H Q->wpAny (model X.prog X.w) X.A (eval e X.env) (EP X pins σ Q) X.xe s
def PT(X:Cx)(e:Expr)(t:TT):Prop:=
 ∀(pins:List (Addr×Obj))(s:Shared)(σ:St)(H:Hp)(Q:Bool->Hp->Prop),Inv X pins σ H s->t σ H Q->wpAny (model X.prog X.w) X.A (isTrue e X.env (eval e X.env)) (TP X pins σ Q) X.xe s
def PW(X:Cx)(e:Expr)(t:TT):Prop:=
 ∀(whole:Sem Value)(pins:List (Addr×Obj))(s:Shared)(σ:St)(H:Hp)(Q:Bool->Hp->Prop),Inv X pins σ H s->t σ H Q->wpAny (model X.prog X.w) X.A (isTrue e X.env whole) (TP X pins σ Q) X.xe s
theorem PW.pt{X:Cx}{e:Expr}{t:TT}(h:PW X e t):PT X e t:=h _
def PA(X:Cx)(es:List Expr)(t:TA):Prop:=
 ∀(pos:Pos)(pins:List (Addr×Obj))(s:Shared)(σ:St)(H:Hp)(Q:List V->Hp->Prop),Inv X pins σ H s->t σ H Q->wpAny (model X.prog X.w) X.A (spliced (backTo pos (starEach es X.env))) (AP X pins σ Q) X.xe s
def PS(X:Cx)(st:Stmt)(t:TS):Prop:=
 ∀(pins:List (Addr×Obj))(s:Shared)(σ:St)(H:Hp)(D:Ends),Inv X pins σ H s->t D σ H->wpAny (model X.prog X.w) X.A (exec st X.env) (SP X pins D) X.xe s
def PSs(X:Cx)(st:List Stmt)(t:TS):Prop:=
 ∀(pins:List (Addr×Obj))(s:Shared)(σ:St)(H:Hp)(D:Ends),Inv X pins σ H s->t D σ H->wpAny (model X.prog X.w) X.A (execs st X.env) (SP X pins D) X.xe s
theorem thn{α:Type}{t:Sem α}{Q Q':α->Shared->Prop}{M:Model}{A:Around}{E:Value->Shared->Prop}{s:Shared}(h:wpAny M A t Q E s)(hQ:∀a s,Q a s->Q' a s):wpAny M A t Q' E s:=JZ h hQ λ_ _ x=>x
section
variable{X:Cx}
noncomputable def Ic(i:Nat):TE:=λσ H Q=>∃v,σ[i]?=some (some v)/\Q v H
noncomputable def tC(v:V):TE:=λ_ H Q=>Q v H
theorem xO{i:Nat}{x:Str}{pos:Pos}(hN:X.N[i]?=some x)(hv:Vis X.env.scope x)(hd:(x==("__debug__":Str))=false:=by decide)(hcd:(x==("__classdict__":Str))=false:=by decide):PE X (.Name x pos) (Ic i):=by
 intro pins s σ H Q I h;obtain⟨v,e,h⟩:=h;obtain⟨m,hn,hl⟩:=I.loc;obtain⟨u,r,l⟩:=hl i x v hN e hv;have fin:EP X pins σ Q u s:=⟨v,H,I,r,h⟩;rcases l with⟨hk,hm⟩ |⟨hk,c,hc,hcell⟩
 ·exact P9 (wpAny_loadName_local I.ok.kind hk hn hm fin) hd
 ·rcases hk with hk |hk
  ·exact P9 (wpAny_loadName_cell I.ok.kind hk hc hcell fin) hd
  ·exact P9 (wpAny_loadName_free I.ok.kind hk hc hcell fin hcd) hd
theorem DS{i j pos}:PE X (.Constant (.int i) j pos) (tC (.int i)):=λ_ _ _ H _ I h=>wpAny_Constant_int ⟨.int i,H,I.tok _,⟨_,rfl⟩,h⟩
theorem Hw{b j pos}:PE X (.Constant (.bool b) j pos) (tC (.bl b)):=λ_ _ _ H _ I h=>Constant_bool ⟨.bl b,H,I,rfl,h⟩
theorem EI{x j pos}:PE X (.Constant (.str x) j pos) (tC (.str x)):=λ_ _ _ H _ I h=>Calls.Constant_str ⟨.str x,H,I.tok _,⟨_,rfl⟩,h⟩
def Gl(X:Cx)(x:Str):Prop:=X.env.kindOf x=some .globalImplicit
theorem vm{E:Value->Shared->Prop}{pins:List (Addr×Obj)}{s:Shared}{σ:St}{H:Hp}{x:Str}{u:Value}{pos:Pos}{Q:Value->Shared->Prop}(I:Inv X pins σ H s)(hg:Gl X x)(hm:X.mg x=some u)(h:Q u s)
  (hd:(x==("__debug__":Str))=false:=by decide):wpAny (model X.prog X.w) X.A (eval (.Name x pos) X.env) Q E s:=
 Nu I.ok.kind hg (Calls.loadGlobal_global (by rw[I.ok.glob];exact I.mod.glob.keeps I.bk) hm h) hd
theorem bW{E:Value->Shared->Prop}{pins:List (Addr×Obj)}{s:Shared}{σ:St}{H:Hp}{x:Str}{u:Value}{pos:Pos}{Q:Value->Shared->Prop}(I:Inv X pins σ H s)(hg:Gl X x)(hm:X.mg x=none)(hv:bootBuiltins x=some u)(h:Q u s)
  (hn:x≠"__name__":=by decide) (hd:(x==("__debug__":Str))=false:=by decide):wpAny (model X.prog X.w) X.A (eval (.Name x pos) X.env) Q E s:=by
 obtain⟨mb,h1,h2⟩:=I.mod.blt;exact Nu I.ok.kind hg (Calls.loadGlobal_builtin (by rw[I.ok.glob];exact I.mod.glob.keeps I.bk) hm (by rw[I.ok.blt];exact h1.keeps I.bk) ((h2 x hn).trans hv) h) hd
theorem CL{x:Str}{v:V}{u:Value}{pos:Pos}(hg:Gl X x)(hm:X.mg x=some u)(r:RelV v u)(hd:(x==("__debug__":Str))=false:=by decide):PE X (.Name x pos) (tC v):=
 λ_ _ _ H _ I h=>vm I hg hm ⟨v,H,I,r,h⟩ hd
theorem Dg{x:Str}{v:V}{u:Value}{pos:Pos}(hg:Gl X x)(hm:X.mg x=none)(hv:bootBuiltins x=some u)(r:RelV v u)(hn:x≠"__name__":=by decide)(hd:(x==("__debug__":Str))=false:=by decide):PE X (.Name x pos) (tC v):=
 λ_ _ _ H _ I h=>bW I hg hm hv ⟨v,H,I,r,h⟩ hn hd
variable{a b:Expr}{ta tb:TE}{pos:Pos}
variable{tA tB':TT}{rest:List Expr}
noncomputable def tOr(t u:TT):TT:=λσ H Q=>t σ H λc H1=>if c=true then Q true H1 else u σ H1 Q
noncomputable def Ia(t:TT):TT:=λσ H Q=>t σ H λc H1=>Q (!c) H1
theorem ER(ha:PT X a tA):PW X (.BoolOp .Or [a] pos) tA:=by
 intro wh pins s σ H Q I h;refine isTrue_or (thn (ha pins s σ H Q I h) λc s1 e=>?_);cases c with
 |false=>exact isTrue_or_nil e
 |true=>exact e
theorem GD(ha:PT X a tA)(hb:PW X (.BoolOp .Or (b::rest) pos) tB'):PW X (.BoolOp .Or (a::b::rest) pos) (tOr tA tB'):=by
 intro wh pins s σ H Q I h;refine isTrue_or (thn (ha pins s σ H _ I h) λc s1 ⟨H1,I1,q1⟩=>?_);cases c with
 |true=>exact⟨H1,I1,q1⟩
 |false=>exact hb wh pins s1 σ H1 Q I1 q1
theorem Fm(ha:PT X a tA):PT X (.UnaryOp .Not a pos) (Ia tA):=by
 intro pins s σ H Q I h;exact isTrue_not (ha pins s σ H (λc H1=>Q (!c) H1) I h)
noncomputable def G_(ta tb:TE):TE:=λσ H Q=>ta σ H λx H1=>∃c,x=.bl c/\if c=true then tb σ H1 Q else Q (.bl false) H1
noncomputable def Gv(ta:TE):TE:=λσ H Q=>ta σ H λx H1=>∃c,x=.bl c/\Q (.bl (!c)) H1
theorem Ez{op}{t:TE}(h:PE X a t):PE X (.BoolOp op [a] pos) t:=λpins s σ H Q I hw=>BoolOp_one (h pins s σ H Q I hw)
theorem FQ(ha:PE X a ta)(hb:PE X (.BoolOp .And (b::rest) pos) tb):PE X (.BoolOp .And (a::b::rest) pos) (G_ ta tb):=by
 intro pins s σ H Q I h;refine BoolOp_and (thn (ha pins s σ H _ I h) λv s1 ⟨x,H1,I1,r1,q1⟩=>?_);obtain⟨c,rfl,q1⟩:=q1;cases r1;refine Km ?_;cases c with
 |true=>exact hb pins s1 σ H1 Q I1 q1
 |false=>exact⟨.bl false,H1,I1,rfl,q1⟩
theorem EZ(ha:PE X a ta):PE X (.UnaryOp .Not a pos) (Gv ta):=by
 intro pins s σ H Q I h;refine UnaryOp_ (thn (ha pins s σ H _ I h) λv s1 ⟨x,H1,I1,r1,q1⟩=>?_);obtain⟨c,rfl,q1⟩:=q1;cases r1;exact not_of (Km ⟨.bl (!c),H1,I1,rfl,q1⟩)
end
def SqL(K:Iy)(H:Hp)(a:Addr)(xs:List V):Prop:=
 Rd H a (.lst xs) \/
  ∃(o:Obj)(its:Array Value)(n:Nat),K.lookup a=some o/\o.cls=.type "list"/\o.dict=none/\o.data=.seq its n/\its.size<=sizeLine/\Vals xs its.toList
def SqT(K:Iy)(H:Hp)(a:Addr)(xs:List V):Prop:=
 Rd H a (.tup xs) \/
  ∃(o:Obj)(its:Array Value)(n:Nat),K.lookup a=some o/\o.cls=.type "tuple"/\o.data=.seq its n/\its.size<=sizeLine/\Vals xs its.toList
noncomputable def HJ:Value->Option V
 | .none=>some .non
 | .bool b=>some (.bl b)
 | .int i _=>some (.int i)
 | .str x _=>some (.str x)
 | .bytes b _=>some (.byt b)
 | .float b _=>some (.flt b)
 | .ref a=>some (.ref a)
 | .type n=>some (.ty n)
 |_=>none
theorem RelV.abs{x:V}{u:Value}(r:RelV x u):HJ u=some x:=by
 cases x with
 |non=>cases r;rfl
 |bl _=>cases r;rfl
 |int _=>obtain⟨t,rfl⟩:=r;rfl
 |str _=>obtain⟨t,rfl⟩:=r;rfl
 |byt _=>obtain⟨t,rfl⟩:=r;rfl
 |flt _=>obtain⟨t,rfl⟩:=r;rfl
 |ref _=>cases r;rfl
 |ty _=>cases r;rfl
theorem RelV.inj{x y:V}{u:Value}(r:RelV x u)(q:RelV y u):x=y:=Jj (r.abs.symm.trans q.abs)
theorem Vals.inj:∀{xs ys:List V}{us:List Value},Vals xs us->Vals ys us->xs=ys
 |_,_,_,.nil,.nil=>rfl
 |_,_,_,.cons r t,.cons r' t'=>by rw[r.inj r',Vals.inj t t']
section
variable{X:Cx}{pins:List (Addr×Obj)}{σ:St}{H:Hp}{s:Shared}{a:Addr}{xs ys:List V}
theorem SqL.of{K:Iy}(h:H a=some (.lst xs)):SqL K H a xs:=.inl (.inl h)
theorem SqT.of{K:Iy}(h:H a=some (.tup xs)):SqT K H a xs:=.inl (.inl h)
theorem Inv.list(I:Inv X pins σ H s)(h:SqL X.K H a xs):∃its:List Value,Vals xs its/\PlainL s.heap a its.toArray/\xs.length<=sizeLine:=by
 rcases h with h |⟨o,its,n,hk,hc,hd,hs,hz,r⟩
 ·obtain⟨z,its,n,r,e⟩:=h.ok I.hok;exact⟨its,r,⟨_,n,e,rfl,rfl,rfl⟩,z⟩
 ·refine⟨its.toList,r,⟨o,n,I.kIn a o hk,hc,hd,by simpa using hs⟩,?_⟩;have e:=r.length;simp only[IC]at e;omega
theorem Inv.tuple(I:Inv X pins σ H s)(h:SqT X.K H a xs):∃its:List Value,Vals xs its/\IsTup s.heap a its.toArray/\xs.length<=sizeLine:=by
 rcases h with h |⟨o,its,n,hk,hc,hs,hz,r⟩
 ·obtain⟨z,its,r,p⟩:=h.ok I.hok;exact⟨its,r,p,z⟩
 ·refine⟨its.toList,r,⟨o,I.kIn a o hk,hc,n,by simpa using hs⟩,?_⟩;have e:=r.length;simp only[IC]at e;omega
theorem Inv.tq(I:Inv X pins σ H s)(h:SqL X.K H a xs)(h':SqL X.K H a ys):xs=ys:=by
 obtain⟨its,r,⟨o,n,e,_,_,d⟩,_⟩:=I.list h;obtain⟨its',r',⟨o',n',e',_,_,d'⟩,_⟩:=I.list h';rw[e]at e';cases e';rw[d]at d';injection d' with d1 _;have:its=its':=by simpa using Jn Rg d1
 subst this;exact r.inj r'
theorem Inv.xf(I:Inv X pins σ H s)(h:SqT X.K H a xs)(h':SqT X.K H a ys):xs=ys:=by
 obtain⟨its,r,⟨o,e,_,n,d⟩,_⟩:=I.tuple h;obtain⟨its',r',⟨o',e',_,n',d'⟩,_⟩:=I.tuple h';rw[e]at e';cases e';rw[d]at d';injection d' with d1 _;have:its=its':=by simpa using Jn Rg d1
 subst this;exact r.inj r'
end
noncomputable abbrev Cx.i5(X:Cx)(E:Value->Shared->Prop):Cx:={ X with xe:=E }
noncomputable abbrev Cx.nox(X:Cx):Cx:=X.i5 λ_ _=>False
theorem Cx.Ok.i5{X:Cx}(ok:X.Ok)(E:Value->Shared->Prop):(X.i5 E).Ok:=
 ⟨ok.mod,ok.kind,ok.glob,ok.blt,ok.above,ok.inj,ok.has,ok.cab,ok.hd,ok.frames,ok.stk,ok.exf,ok.bs,ok.bsz,ok.noex,ok.exfs,ok.il,ok.frf⟩
theorem Cx.Ok.fT{X:Cx}{E:Value->Shared->Prop}(ok:(X.i5 E).Ok):X.Ok:=
 ⟨ok.mod,ok.kind,ok.glob,ok.blt,ok.above,ok.inj,ok.has,ok.cab,ok.hd,ok.frames,ok.stk,ok.exf,ok.bs,ok.bsz,ok.noex,ok.exfs,ok.il,ok.frf⟩
section
variable{X:Cx}{pins:List (Addr×Obj)}{σ:St}{H:Hp}{s:Shared}{E:Value->Shared->Prop}
theorem Inv.i5(I:Inv X pins σ H s)(E:Value->Shared->Prop):Inv (X.i5 E) pins σ H s:=⟨I.ok.i5 E,I.os,I.bare,I.base,I.loc,I.cell,I.free,I.freeC,I.pin,I.hok,I.len⟩
theorem Inv.fT(I:Inv (X.i5 E) pins σ H s):Inv X pins σ H s:=⟨I.ok.fT,I.os,I.bare,I.base,I.loc,I.cell,I.free,I.freeC,I.pin,I.hok,I.len⟩
theorem SP.fT{D:Ends}{f:Flow}{s':Shared}(h:SP (X.i5 E) pins D f s'):SP X pins D f s':=by
 cases f with
 |next=>obtain⟨σ',H',I,q⟩:=h;exact⟨σ',H',I.fT,q⟩
 |brk=>obtain⟨σ',H',I,q⟩:=h;exact⟨σ',H',I.fT,q⟩
 |cont=>obtain⟨σ',H',I,q⟩:=h;exact⟨σ',H',I.fT,q⟩
 |ret u=>obtain⟨v,σ',H',I,r,q⟩:=h;exact⟨v,σ',H',I.fT,r,q⟩
theorem PSs.nox{st:List Stmt}{t:TS}(h:PSs X.nox st t):PSs X st t:=λpins s σ H D I hw=>
 JZ (h pins s σ H D (I.i5 _) hw) (λ_ _ q=>q.fT) λ_ _ z=>KR z
end
section
variable{X:Cx}{st:Stmt}{rest:List Stmt}{t u:TS}{e:Expr}{te:TE}{pos:Pos}
noncomputable def GX:TS:=λD σ H=>D.nx σ H
noncomputable def Ii(t u:TS):TS:=λD σ H=>t { D with nx:=u D } σ H
theorem CP:PSs X [] GX:=λ_ _ σ H _ I h=>Od ⟨σ,H,I,h⟩
theorem A3(h1:PS X st t)(h2:PSs X rest u):PSs X (st::rest) (Ii t u):=by
 intro pins s σ H D I h;refine PU (thn (h1 pins s σ H { D with nx:=u D } I h) λf s1 q=>?_);cases f with
 |next=>
  obtain⟨σ',H',I',q⟩:=q;exact h2 pins s1 σ' H' D I' q
 |ret v=>exact q
 |brk=>exact q
 |cont=>exact q
theorem C1(h1:PS X st t):PSs X [st] t:=by
 intro pins s σ H D I h;refine PU (thn (h1 pins s σ H D I h) λf s1 q=>?_);cases f with
 |next=>exact Od q
 |ret v=>exact q
 |brk=>exact q
 |cont=>exact q
theorem Inv.quiet{pins:List (Addr×Obj)}{σ:St}{H:Hp}{s:Shared}(I:Inv X pins σ H s):interactive X.env=false:=by simp[interactive,I.ok.kind]
noncomputable def Hf(te:TE):TS:=λD σ H=>te σ H λ_ H1=>D.nx σ H1
theorem C7(he:PE X e te)(hs:swapsWith e none pos.line X.env=pure false:=by rfl):PS X (.Expr e pos) (Hf te):=by
 intro pins s σ H D I h;exact wpAny_Expr_any (thn (he pins s σ H _ I h) λv s1 ⟨x,H1,I1,r1,q1⟩=>⟨σ,H1,I1,q1⟩) I.quiet hs
noncomputable def HW(te:TE):TS:=λD σ H=>te σ H D.rt
theorem D_(he:PE X e te):PS X (.Return (some e) pos) (HW te):=by
 intro pins s σ H D I h;exact wpAny_Return_some (thn (he pins s σ H _ I h) λv s1 ⟨x,H1,I1,r1,q1⟩=>⟨x,σ,H1,I1,r1,q1⟩)
noncomputable def HD(c:TT)(t u:TS):TS:=λD σ H=>c σ H λb H1=>if b=true then t D σ H1 else u D σ H1
theorem He{c:Expr}{a b:List Stmt}{tc:TT}(hc:PT X c tc)(ha:PSs X a t)(hb:PSs X b u):PS X (.If c a b pos) (HD tc t u):=by
 intro pins s σ H D I h;refine wpAny_If (thn (hc pins s σ H _ I h) λd s1 ⟨H1,I1,q1⟩=>?_);cases d with
 |true=>exact ha pins s1 σ H1 D I1 q1
 |false=>exact hb pins s1 σ H1 D I1 q1
end
noncomputable abbrev TG:=V->St->Hp->(St->Hp->Prop)->Prop
noncomputable abbrev TGs:=List V->St->Hp->(St->Hp->Prop)->Prop
def PG(X:Cx)(target:Expr)(t:TG):Prop:=
 ∀(pins:List (Addr×Obj))(s:Shared)(σ:St)(H:Hp)(v:V)(u:Value)(Q:St->Hp->Prop),Inv X pins σ H s->RelV v u->t v σ H Q ->
  wpAny (model X.prog X.w) X.A (assign target X.env u) (λ_ s'=>∃σ' H',Inv X pins σ' H' s'/\Q σ' H') X.xe s
def PGs(X:Cx)(ts:List Expr)(t:TGs):Prop:=
 ∀(pins:List (Addr×Obj))(s:Shared)(σ:St)(H:Hp)(vs:List V)(us:List Value)(Q:St->Hp->Prop),Inv X pins σ H s->Vals vs us->t vs σ H Q ->
  wpAny (model X.prog X.w) X.A (assignInOrder ((assignEach ts X.env).map (·.2)) us) (λ_ s'=>∃σ' H',Inv X pins σ' H' s'/\Q σ' H') X.xe s
noncomputable abbrev tJ:=V->V->V->Hp->(Hp->Prop)->Prop
def wj(X:Cx)(t:tJ):Prop:=
 ∀(pins:List (Addr×Obj))(s:Shared)(σ:St)(H:Hp)(o i v:V)(ov iv u:Value)(Q:Hp->Prop),Inv X pins σ H s->RelV o ov->RelV i iv->RelV v u->t o i v H Q ->
  wpAny (model X.prog X.w) X.A (setItem ov iv u) (λ_ s'=>∃H',Inv X pins σ H' s'/\Q H') X.xe s
section
variable{X:Cx}{pos:Pos}
noncomputable def BI(i:Nat):TG:=λv σ H Q=>Q (σ.set i (some v)) H
theorem Dc{i:Nat}{x:Str}(hN:X.N.Nodup)(hi:X.N[i]?=some x)(hx:Loc X.env.scope x)(hf:X.fn x=true\/X.env.scope.names.lookup x=some .local:=by first |exact .inl rfl |exact .inr rfl |assumption):PG X (.Name x pos) (BI i):=by
 intro pins s σ H v u Q I r h;exact wpAny_assign_Name (rA I hN hi hx r (λs' I'=>⟨_,H,I',h⟩) hf)
noncomputable def HZ:TGs:=λvs σ H Q=>vs=[]/\Q σ H
noncomputable def G4(t:TG)(u:TGs):TGs:=λvs σ H Q=>∃v r,vs=v::r/\t v σ H λσ' H'=>u r σ' H' Q
theorem Dt:PGs X [] HZ:=by
 intro pins s σ H vs us Q I r h;obtain⟨e,h⟩:=h;subst e;cases r;exact assignInOrder_nil ⟨σ,H,I,h⟩
theorem zM{e:Expr}{es:List Expr}{t:TG}{u:TGs}(h1:PG X e t)(h2:PGs X es u)
  (hs:(assignEach (e::es) X.env).map (·.2)=assign e X.env::(assignEach es X.env).map (·.2):=by rfl):PGs X (e::es) (G4 t u):=by
 intro pins s σ H vs us Q I r h;obtain⟨v,vr,e1,h⟩:=h;subst e1;cases r with
 |cons r rr=>
  rw[hs];refine assignInOrder_cons (thn (h1 pins s σ H _ _ _ I r h) λ_ s1 ⟨σ1,H1,I1,q1⟩=>?_);exact h2 pins s1 σ1 H1 _ _ Q I1 rr q1
noncomputable def Ip(K:Iy)(n:Nat)(t:TGs):TG:=λv σ H Q=>∃a xs,v=.ref a/\SqT K H a xs/\xs.length=n/\t xs σ H Q
theorem xJ{es:List Expr}{k:Nat}{t:TGs}{n:Nat}(hc:X.calm=true)(h:PGs X es t)
  (hn:(assignEach es X.env).length=n:=by rfl) (hst:(assignEach es X.env).findIdx? (·.1)=none:=by rfl):PG X (.Tuple es k pos) (Ip X.K n t):=by
 intro pins s σ H v u Q I r hw;obtain⟨a,xs,e1,hq,hl,hw⟩:=hw;subst e1;cases r;obtain⟨its,rv,ht,hz⟩:=I.tuple hq;refine assign_Tuple_tuple (I.ok.hd hc) ht (by simp[hn,<-hl,rv.length]) hst λh' hx=>?_;have I1:Inv X pins σ H { s with heap:=h' }:=I.kept (t':=s.toks) λb o e=>hx b o (IZ (ID e)) e;exact h pins _ σ H xs _ Q I1 (by simpa using rv) hw
noncomputable def HH(to ti:TE)(t:tJ):TG:=λv σ H Q=>to σ H λo H1=>ti σ H1 λi H2=>t o i v H2 λH3=>Q σ H3
theorem DX{o i:Expr}{to ti:TE}{t:tJ}(ho:PE X o to)(hi:PE X i ti)(hs:wj X t)
  (ha:∀v,assign (.Subscript o i pos) X.env v=(do
   let ov<-holding [v] (eval o X.env)
   let iv<-holding [v,ov] (eval i X.env)
   standAt pos
   holding [v,ov,iv] (setItem ov iv v)
   release [v,ov,iv] []):=by intro _;rfl):PG X (.Subscript o i pos) (HH to ti t):=by
 intro pins s σ H v u Q I r h;rw[ha];refine ar (Jl (thn (ho pins s σ H _ I h) λov s1 ⟨x,H1,I1,r1,q1⟩=>?_));refine ar (Jl (thn (hi pins s1 σ H1 _ I1 q1) λiv s2 ⟨y,H2,I2,r2,q2⟩=>?_));refine ar (QK (ar (Jl (thn (hs pins s2 σ H2 x y v ov iv u _ I2 r1 r2 r q2) λ_ s3 ⟨H3,I3,q3⟩=>?_))));exact wpAny_release ⟨σ,H3,I3,q3⟩
noncomputable def ET(te:TE)(g:TG):TS:=λD σ H=>te σ H λx H1=>g x σ H1 D.nx
theorem DK{tg e:Expr}{te:TE}{g:TG}(he:PE X e te)(hg:PG X tg g)(hs:swapsWithSole [tg] e pos.line X.env=pure false:=by rfl)(hw:swappedStores [tg] e X.env=pure none:=by rfl)
  (h1:(assignEach [tg] X.env).map (·.2)=[assign tg X.env]:=by rfl):PS X (.Assign [tg] e pos) (ET te g):=by
 intro pins s σ H D I h;refine wpAny_Assign_stores (thn (he pins s σ H _ I h) λv s1 ⟨x,H1,I1,r1,q1⟩=>?_) hs hw;rw[h1];exact thn (hg pins s1 σ H1 x v _ I1 r1 q1) λ_ s2 q=>q
theorem D8{i:Nat}{x:Str}{e:Expr}{te:TE}{pos':Pos}(hN:X.N.Nodup)(hi:X.N[i]?=some x)(hx:Loc X.env.scope x)(he:PE X e te)(hs:swapsWith e (some (.Name x pos')) pos.line X.env=pure false:=by rfl)(hf:X.fn x=true\/X.env.scope.names.lookup x=some .local:=by first |exact .inl rfl |exact .inr rfl |assumption) :
  PS X (.Assign [.Name x pos'] e pos) (ET te (BI i)):=by
 intro pins s σ H D I h;refine wpAny_Assign_Name (thn (he pins s σ H _ I h) λv s1 ⟨y,H1,I1,r1,q1⟩=>?_) hs;exact rA I1 hN hi hx r1 (λs2 I2=>⟨_,H1,I2,q1⟩) hf
end
structure It where
 go:Nat->Hp->Prop
 yld:Nat->Hp->V->Hp->Prop
 stop:Nat->Hp->Prop
def eC(X:Cx)(pins:List (Addr×Obj))(H:Hp)(b:Addr):Prop:=
 H b=none/\b≠X.env.locals/\b∉X.fs/\(b∈X.ex\/X.s₀.heap.objs.size<=b)/\(∀x c,X.env.cells.lookup x=some c->c≠b)/\∀p∈X.pn++pins,p.1≠b
theorem Inv.jz{X:Cx}{pins:List (Addr×Obj)}{σ:St}{H H':Hp}{s:Shared}{b:Addr}(I:Inv X pins σ H s)(hb:s.heap.objs.size<=b)(hn:H' b=none):eC X pins H' b:=by
 refine⟨hn,Ku (I_ I.lt hb),I.FL hb,.inr (JS I.sz hb),λx c e z=>?_,λp hp z=>?_⟩
 ·obtain⟨v,q⟩:=I.cell x c e;exact absurd (I_ q.lt (by rw[z];exact hb)) (JJ _)
 ·exact absurd (I_ (ID (I.pin p hp).1) (by rw[z];exact hb)) (JJ _)
structure Turn(P:Program)(w:World)(K:Iy)(tg:Expr)(J:It)(fp:List Addr)(it:Addr)(tn:Nat->Heap->Prop):Prop where
 mem:it∈fp
 obj:∀i h,tn i h->∀b∈fp,∃o,h.get? b=some o/\∀v,o.data≠.cell v
 keep:∀i h h',tn i h->(∀b∈fp,∀o,h.get? b=some o->h'.get? b=some o)->tn i h'
 item:∀(X:Cx),X.prog=P->X.w=w->X.K=K->X.calm=true->∀(i:Nat)(pins:List (Addr×Obj))(s:Shared)(σ:St)(H:Hp)(E:Value->Shared->Prop),Inv X pins σ H s->(∀b∈fp,eC X pins H b)->tn i s.heap->J.go i H ->
  wpAny (model P w) X.A (pyNext (.ref it)) (λr s1=>∃u,r=some u /\
   wpAny (model P w) X.A (letOwnedTupleGo tg (.ref it) u) (λ_ s2=>∃x H',Inv X pins σ H' s2/\RelV x u/\J.yld i H x H'/\tn (i+1) s2.heap/\∀b∈fp,H' b=none) E s1) E s
 done:∀(X:Cx),X.prog=P->X.w=w->X.K=K->X.calm=true->∀(i:Nat)(pins:List (Addr×Obj))(s:Shared)(σ:St)(H:Hp)(E:Value->Shared->Prop),Inv X pins σ H s->(∀b∈fp,eC X pins H b)->tn i s.heap->J.stop i H ->
  wpAny (model P w) X.A (pyNext (.ref it)) (λr s1=>r=none/\Inv X pins σ H s1) E s
 self:∀(A:Around)(i:Nat)(s:Shared)(Q:Value->Shared->Prop)(E:Value->Shared->Prop),tn i s.heap->Q (.ref it) s->wpAny (model P w) A (pyIter (.ref it)) Q E s
noncomputable abbrev TI:=St->Hp->(It->Hp->Prop)->Prop
def PIE(X:Cx)(pins:List (Addr×Obj))(σ:St)(tg:Expr)(R:It->Hp->Prop)(itv:Value)(s2:Shared):Prop:=
 ∃(it:Addr)(fp:List Addr)(tn:Nat->Heap->Prop)(J:It)(H':Hp),itv=.ref it/\Inv X pins σ H' s2/\Turn X.prog X.w X.K tg J fp it tn/\tn 0 s2.heap/\(∀b∈fp,eC X pins H' b)/\R J H'
def PI(X:Cx)(tg iter:Expr)(wi:TI):Prop:=
 ∀(pins:List (Addr×Obj))(s:Shared)(σ:St)(H:Hp)(R:It->Hp->Prop),Inv X pins σ H s->wi σ H R ->
  wpAny (model X.prog X.w) X.A (eval iter X.env) (λv s1=>wpAny (model X.prog X.w) X.A (pyIter v) (PIE X pins σ tg R) X.xe s1) X.xe s
theorem q_ {M : Model} {A : Around} {E : Value → Shared → Prop} {s : Shared} {tg : Expr} {it : Addr} {u : Value} {o : Obj} {n : String} {vs : Array Value} {Q : Unit → Shared → Prop} (ho : s.heap.get? it = some o) (hc : o.cls = .type n) (hd : o.data = .fields vs)
    (hn : ["enumerate", "zip", "dict_itemiterator", "dict_reverseitemiterator", "odict_iterator", "itertools.zip_longest", "itertools.pairwise"].contains n = false) (hQ : Q () s) : wpAny M A (letOwnedTupleGo tg (.ref it) u) Q E s := by
  unfold letOwnedTupleGo;cases tg <;> first
    | exact C0 hQ
    | (cases u <;> first
        | exact C0 hQ
        | (refine ar (P_ ho ?_)
           rw [hc, hd];show wpAny M A (if (["enumerate", "zip", "dict_itemiterator", "dict_reverseitemiterator", "odict_iterator", "itertools.zip_longest", "itertools.pairwise"].contains n && vs[0]? == some (rawInt _)) = true then _ else _) Q E s;rw [IF (by intro h; rw [hn, Qt] at h; cases h)];exact C0 hQ))
noncomputable def Itl(K:Iy)(a:Addr):It:=
 ⟨λi H=>∃xs x,SqL K H a xs/\xs[i]?=some x,λi H x H'=>H'=H/\∀xs,SqL K H a xs->xs[i]?=some x,λi H=>∃xs,SqL K H a xs/\xs.length<=i⟩
noncomputable def Itt(K:Iy)(a:Addr):It:=
 ⟨λi H=>∃xs x,SqT K H a xs/\xs[i]?=some x,λi H x H'=>H'=H/\∀xs,SqT K H a xs->xs[i]?=some x,λi H=>∃xs,SqT K H a xs/\xs.length<=i⟩
noncomputable def Itr(lo:Int)(n:Nat):It:=⟨λi _=>i<n,λi H x H'=>H'=H/\x=.int (lo+i),λi _=>n<=i⟩
theorem yh{P:Program}{w:World}{K:Iy}{tg:Expr}(a it:Addr):Turn P w K tg (Itl K a) [it] it (λi h=>h.IsListIter it a i)where
 mem:=by simp
 obj:=λi h st b hb=>by
  have e:b=it:=by simpa using hb
  subst e;obtain⟨o,e,c,d⟩:=st;exact⟨o,e,λv z=>by rw[d]at z;cases z⟩
 keep:=λi h h' st k=>st.at λo e=>k it (by simp) o e
 item:=by
  intro X hP hw hK hc i pins s σ H E I hf st hg;subst hP hw hK;obtain⟨xs,x,hq,hx⟩:=hg;obtain⟨its,rv,p,hz⟩:=I.list hq;obtain⟨u,hu,ru⟩:=rv.get hx;obtain⟨f0,f1,f2,f3,f4,f5⟩:=hf it (by simp);refine wpAny_pyNext_list_item st p.isList (x:=u) (by simpa using hu) λh' st' sb=>?_;have I1:Inv X pins σ H { s with heap:=h' }:=I.turned (t':=s.toks) (λb o hb e=>(sb.2 b hb).trans e) f0 f1 f3 f4 f5;obtain⟨o,e,c,d⟩:=id st';exact⟨u,rfl,q_ (s:={ s with heap:=h' }) e c d (by decide) ⟨x,H,I1,ru,⟨rfl,λys hy=>by rw[I.tq hy hq];exact hx⟩,st',λb hb=>(hf b hb).1⟩⟩
 done:=by
  intro X hP hw hK hc i pins s σ H E I hf st hg;subst hP hw hK;obtain⟨xs,hq,hx⟩:=hg;obtain⟨its,rv,p,hz⟩:=I.list hq;obtain⟨f0,f1,f2,f3,f4,f5⟩:=hf it (by simp);have hl:=rv.length;exact wpAny_pyNext_list_end (I.ok.hd hc) st p.isList (by simp;omega) λh' eb=>⟨rfl,I.turned (t':=s.toks) (λb o hb e=>eb b o hb e) f0 f1 f3 f4 f5⟩
 self:=λ_ _ _ _ _ st h=>wpAny_pyIter_listiter st h
theorem wI{P:Program}{w:World}{K:Iy}{tg:Expr}(a it:Addr):Turn P w K tg (Itt K a) [it] it (λi h=>h.IsTupleIter it a i)where
 mem:=by simp
 obj:=λi h st b hb=>by
  have e:b=it:=by simpa using hb
  subst e;obtain⟨o,e,c,d⟩:=st;exact⟨o,e,λv z=>by rw[d]at z;cases z⟩
 keep:=λi h h' st k=>st.at λo e=>k it (by simp) o e
 item:=by
  intro X hP hw hK hc i pins s σ H E I hf st hg;subst hP hw hK;obtain⟨xs,x,hq,hx⟩:=hg;obtain⟨its,rv,p,hz⟩:=I.tuple hq;obtain⟨u,hu,ru⟩:=rv.get hx;obtain⟨f0,f1,f2,f3,f4,f5⟩:=hf it (by simp);refine wpAny_pyNext_tuple_item st (show s.heap.IsTuple a its.toArray from p) (x:=u) (by simpa using hu) λh' st' sb=>?_;have I1:Inv X pins σ H { s with heap:=h' }:=I.turned (t':=s.toks) (λb o hb e=>(sb.2 b hb).trans e) f0 f1 f3 f4 f5;obtain⟨o,e,c,d⟩:=id st';exact⟨u,rfl,q_ (s:={ s with heap:=h' }) e c d (by decide) ⟨x,H,I1,ru,⟨rfl,λys hy=>by rw[I.xf hy hq];exact hx⟩,st',λb hb=>(hf b hb).1⟩⟩
 done:=by
  intro X hP hw hK hc i pins s σ H E I hf st hg;subst hP hw hK;obtain⟨xs,hq,hx⟩:=hg;obtain⟨its,rv,p,hz⟩:=I.tuple hq;obtain⟨f0,f1,f2,f3,f4,f5⟩:=hf it (by simp);have hl:=rv.length;exact wpAny_pyNext_tuple_end (I.ok.hd hc) st (show s.heap.IsTuple a its.toArray from p) (by simp;omega) λh' eb=>⟨rfl,I.turned (t':=s.toks) (λb o hb e=>eb b o hb e) f0 f1 f3 f4 f5⟩
 self:=λ_ _ _ _ _ st h=>wpAny_pyIter_tupleiter st h
theorem vS{P:Program}{w:World}{K:Iy}{tg:Expr}(it:Addr)(lo:Int)(n:Nat):Turn P w K tg (Itr lo n) [it] it (λi h=>IsRangeIter h it (lo+(i:Nat)*1) ((n:Int)-(i:Nat)) 1)where
 mem:=by simp
 obj:=λi h st b hb=>by
  have e:b=it:=by simpa using hb
  subst e;exact⟨_,st,λv z=>by
   have z':Data.fields _=Data.cell v:=z;cases z'⟩
 keep:=λi h h' st k=>k it (by simp) _ st
 item:=by
  intro X hP hw hK hc i pins s σ H E I hf st hg;subst hP hw hK;obtain⟨f0,f1,f2,f3,f4,f5⟩:=hf it (by simp);have W:=Walks.range (prog:=X.prog) (w:=X.w) (I.ok.hd hc) it lo 1 n;refine W.item i s _ _ hg st λv h' tk hv st' kk=>?_;obtain⟨t,rfl⟩:=hv;have I1:Inv X pins σ H { s with heap:=h',toks:=tk }:=I.turned (λb o hb e=>kk b o (by simpa using hb) e) f0 f1 f3 f4 f5;refine⟨_,rfl,q_ (s:={ s with heap:=h',toks:=tk }) (n:="range_iterator") st' rfl rfl (by decide) ⟨.int (lo+i),H,I1,⟨t,?_⟩,⟨rfl,rfl⟩,st',λb hb=>(hf b hb).1⟩⟩;rw[Int.mul_one]
 done:=by
  intro X hP hw hK hc i pins s σ H E I hf st hg;subst hP hw hK;obtain⟨f0,f1,f2,f3,f4,f5⟩:=hf it (by simp);exact wpAny_pyNext_range_end (I.ok.hd hc) st (by have:n<=i:=hg;omega) λh' eb=>⟨rfl,I.turned (t':=s.toks) (λb o hb e=>eb b o hb e) f0 f1 f3 f4 f5⟩
 self:=λ_ _ _ _ _ st h=>wpAny_pyIter_rangeiter st h
section
variable{X:Cx}{tg:Expr}
theorem sE{pins:List (Addr×Obj)}{σ:St}{H:Hp}{s:Shared}{R:It->Hp->Prop}{E:Value->Shared->Prop}{lo hi:Int}{t u v:Tok}{tk:Nat}(I:Inv X pins σ H s)(h1:-(2 ^ 62)<=lo)(h2:lo<2 ^ 62)(h3:-(2 ^ 62)<=hi)(h4:hi<2 ^ 62)
  (q:R (Itr lo (hi-lo).toNat) H):wpAny (model X.prog X.w) X.A (pyIter (.ref s.heap.objs.size)) (PIE X pins σ tg R) E { s with heap:=s.heap.push { cls:=.type "range",data:=.fields #[.int lo t,.int hi u,.int 1 v] },toks:=tk }:=by
 refine wpAny_pyIter_range (PK ..) (QI h1 h2 h3 h4) ?_;have I1:Inv X pins σ H { s with heap:=s.heap.push { cls:=.type "range",data:=.fields #[.int lo t,.int hi u,.int 1 v] },toks:=tk }:=I.kept λb o e=>gV _ e;refine⟨(s.heap.push { cls:=.type "range",data:=.fields #[.int lo t,.int hi u,.int 1 v] }).objs.size,[(s.heap.push { cls:=.type "range",data:=.fields #[.int lo t,.int hi u,.int 1 v] }).objs.size],_,_,H,rfl,
  I1.kept (t':=tk) λb o e=>gV _ e,vS _ lo (hi-lo).toNat,?_,λb hb=>?_,q⟩
 ·have e1:lo+((0:Nat):Int)*1=lo:=by simp
  have e2:(((hi-lo).toNat:Nat):Int)-((0:Nat):Int)=KC lo hi 1:=by rw[OU];split<;>omega
  show IsRangeIter _ _ (lo+((0:Nat):Int)*1) ((((hi-lo).toNat:Nat):Int)-((0:Nat):Int)) 1;rw[e1,e2];exact IG _ rfl
 ·have e:b=(s.heap.push { cls:=.type "range",data:=.fields #[.int lo t,.int hi u,.int 1 v] }).objs.size:=by simpa using hb
  subst e;exact I1.jz (IB _) (I1.hok.fresh (IB _))
noncomputable def G5(ta:TA):TI:=λσ H R=>ta σ H λvs H1=>∃j:Int,vs=[.int j]/\-(2 ^ 62)<=j/\j<2 ^ 62/\R (Itr 0 j.toNat) H1
noncomputable def F3(ta:TA):TI:=λσ H R=>ta σ H λvs H1=>∃i j:Int,vs=[.int i,.int j]/\(-(2 ^ 62)<=i/\i<2 ^ 62/\-(2 ^ 62)<=j/\j<2 ^ 62)/\R (Itr i (j-i).toNat) H1
theorem xS{a:Expr}{ta:TA}{p pos:Pos}(hg:Gl X "range")(hm:X.mg "range"=none)(ha:PA X [a] ta)(hs:starEach [a] X.env=[(false,eval a X.env)]:=by rfl):PI X tg (.Call (.Name "range" p) [a] [] pos) (G5 ta):=by
 intro pins s σ H R I h;refine Ni (bW I hg hm OJ (Je (thn (ha pos pins s σ H _ I h) λus s1 ⟨vs,H1,I1,r1,q1⟩=>?_) hs rfl));obtain⟨j,e,q1,q2,q⟩:=q1;subst e;cases r1 with
 |cons r rr=>
  cases rr;obtain⟨t,rfl⟩:=r;exact call_range_1 (sE I1 (by omega) (by omega) q1 q2 (by simpa using q))
theorem zD{a b:Expr}{ta:TA}{p pos:Pos}(hg:Gl X "range")(hm:X.mg "range"=none)(ha:PA X [a,b] ta)(hs:starEach [a,b] X.env=[(false,eval a X.env),(false,eval b X.env)]:=by rfl)(hs2:starEach [b] X.env=[(false,eval b X.env)]:=by rfl) :
  PI X tg (.Call (.Name "range" p) [a,b] [] pos) (F3 ta):=by
 intro pins s σ H R I h;refine Ni (bW I hg hm OJ (Je (thn (ha pos pins s σ H _ I h) λus s1 ⟨vs,H1,I1,r1,q1⟩=>?_) (by rw[hs,hs2]) (by rw[hs2];rfl)));obtain⟨i,j,e,⟨q1,q2,q3,q4⟩,q⟩:=q1;subst e;cases r1 with
 |cons r rr=>
  cases rr with
  |cons r' rr=>
   cases rr;obtain⟨t,rfl⟩:=r;obtain⟨t',rfl⟩:=r';exact call_range_2 (sE I1 q1 q2 q3 q4 q)
noncomputable def Hz(wi:TI)(g:TG)(tb:TS):TS:=λD σ H=>wi σ H λJ H1=>∃W:Nat->Nat->St->Hp->Prop,(∃m,W 0 m σ H1)/\∀i m σ H,W i m σ H ->
 (J.stop i H/\D.nx σ H)\/(J.go i H/\∃N:St->Hp->Prop,(∀σ' H',N σ' H'->∃m',m'<m/\W (i+1) m' σ' H')/\∀x H',J.yld i H x H'->g x σ H' λσ2 H2=>tb { D with nx:=N,ct:=N,bk:=D.nx } σ2 H2)
noncomputable def kJ(fp:List Addr)(h:Heap):List (Addr×Obj):=fp.filterMap λb=>(h.get? b).map λo=>(b,o)
theorem ff{fp:List Addr}{h:Heap}{b:Addr}{o:Obj}(hb:b∈fp)(e:h.get? b=some o):(b,o)∈kJ fp h:=O8.mpr ⟨b,hb,by rw[e];rfl⟩
theorem xq{fp:List Addr}{h:Heap}{p:Addr×Obj}(hp:p∈kJ fp h):p.1∈fp/\h.get? p.1=some p.2:=by
 obtain⟨b,hb,e⟩:=O8.mp hp;cases q:h.get? b with
 |none=>rw[q]at e;cases e
 |some o=>
  rw[q]at e;have e':(b,o)=p:=Jj e;subst e';exact⟨hb,q⟩
theorem Inv.pinned{pins:List (Addr×Obj)}{σ:St}{H:Hp}{s:Shared}{fp:List Addr}(I:Inv X pins σ H s)(hf:∀b∈fp,eC X pins H b)(ho:∀b∈fp,∃o,s.heap.get? b=some o/\∀v,o.data≠.cell v):Inv X (pins++kJ fp s.heap) σ H s:=
 I.vp λp hp=>(Jk.mp hp).elim (λz=>I.pin p (JL _ z)) λz=>by
  obtain⟨hb,e⟩:=xq z;obtain⟨f0,f1,f2,_⟩:=hf p.1 hb;obtain⟨o,e',d⟩:=ho p.1 hb;rw[e]at e';cases e';exact⟨e,f0,f1,f2,d⟩
theorem Inv.jV{pins pl:List (Addr×Obj)}{σ:St}{H:Hp}{s:Shared}(I:Inv X (pins++pl) σ H s):Inv X pins σ H s:=I.vp λp hp=>I.pin p (JL _ (MU _ hp))
theorem Fp{iter:Expr}{body:List Stmt}{wi:TI}{g:TG}{tb:TS}{pos:Pos}(hp:PassesOwn (model X.prog X.w) X.A X.env X.xe)(hc:X.calm=true)(hi:PI X tg iter wi)(hg:PG X tg g)(hb:PSs X body tb)
  (hs:∀x,foldedSetIterable iter X.env x=pure x:=by intro _;rfl):PS X (.For tg iter body [] pos) (Hz wi g tb):=by
 intro pins s σ H D I h;refine wpAny_For (thn (hi pins s σ H _ I h) λv s1 h1=>thn h1 λitv s2 h2=>?_) hs;obtain⟨it,fp,tn,J,H2,e,I2,T,st2,f2,W,⟨m0,w0⟩,turn⟩:=h2;subst e;have stat:∀{H':Hp},(∀b∈fp,H' b=none)->∀b∈fp,eC X pins H' b:=λhn b hb=>⟨hn b hb,(f2 b hb).2⟩;refine codeAny_forLoop_any (λn s'=>∃i σ' H',Inv X pins σ' H' s'/\tn i s'.heap/\(∀b∈fp,H' b=none)/\W i n σ' H') ?_ m0 ⟨0,σ,H2,I2,st2,λb hb=>(f2 b hb).1,w0⟩;rintro n s3 ⟨i,σ3,H3,I3,st3,fr3,w3⟩;rcases turn i n σ3 H3 w3 with⟨stop,qn⟩ |⟨go,N,hN,step⟩
 ·refine L8 hp (thn (T.done X rfl rfl rfl hc i pins s3 σ3 H3 X.xe I3 (stat fr3) st3 stop) λr s4 ⟨hr,I4⟩=>?_);subst hr;exact Od ⟨σ3,H3,I4,qn⟩
 ·refine L8 hp (thn (T.item X rfl rfl rfl hc i pins s3 σ3 H3 X.xe I3 (stat fr3) st3 go) λr s4 ⟨u,hr,h4⟩=>?_);subst hr;refine L8 hp (thn h4 λ_ s5 ⟨x,H5,I5,r5,y5,st5,fr5⟩=>?_);have I5':=I5.pinned (stat fr5) (T.obj _ _ st5);refine L8 hp (thn (hg _ s5 σ3 H5 x u _ I5' r5 (step x H5 y5)) λ_ s6 ⟨σ6,H6,I6,q6⟩=>?_);refine L8 hp (thn (hb _ s6 σ6 H6 _ I6 q6) λf s7 q7=>?_);have again:∀{σ7:St}{H7:Hp},Inv X (pins++kJ fp s5.heap) σ7 H7 s7->N σ7 H7->∃m,m<n/\∃i σ' H',Inv X pins σ' H' s7/\tn i s7.heap/\(∀b∈fp,H' b=none)/\W i m σ' H':=λ{σ7 H7} I7 n7=>by
   obtain⟨m',hm,w7⟩:=hN σ7 H7 n7;refine⟨m',hm,i+1,σ7,H7,I7.jV,T.keep _ _ _ st5 λb hb o e=>(I7.pin (b,o) (JL _ (JL _ (ff hb e)))).1,λb hb=>?_,w7⟩;obtain⟨o,e,d⟩:=T.obj _ _ st5 b hb;exact(I7.pin (b,o) (JL _ (JL _ (ff hb e)))).2.1
  cases f with
  |next=>obtain⟨σ7,H7,I7,n7⟩:=q7;exact again I7 n7
  |cont=>obtain⟨σ7,H7,I7,n7⟩:=q7;exact again I7 n7
  |brk=>obtain⟨σ7,H7,I7,q7⟩:=q7;exact⟨σ7,H7,I7.jV,q7⟩
  |ret v=>obtain⟨x7,σ7,H7,I7,r7,q7⟩:=q7;exact⟨x7,σ7,H7,I7.jV,r7,q7⟩
end
noncomputable abbrev R2:=V->V->Hp->VK->Prop
def OpR(X:Cx)(f:Value->Value->Sem Value)(r:R2):Prop:=
 ∀(pins:List (Addr×Obj))(s:Shared)(σ:St)(H:Hp)(x y:V)(v u:Value)(Q:VK),Inv X pins σ H s->RelV x v->RelV y u->r x y H Q ->
  wpAny (model X.prog X.w) X.A (f v u) (EP X pins σ Q) X.xe s
def UnR(X:Cx)(f:Value->Sem Value)(r:V->Hp->VK->Prop):Prop:=
 ∀(pins:List (Addr×Obj))(s:Shared)(σ:St)(H:Hp)(x:V)(v:Value)(Q:VK),Inv X pins σ H s->RelV x v->r x H Q ->
  wpAny (model X.prog X.w) X.A (f v) (EP X pins σ Q) X.xe s
def bJ(X:Cx)(f:Value)(r:List V->Hp->VK->Prop):Prop:=
 ∀(pins:List (Addr×Obj))(s:Shared)(σ:St)(H:Hp)(xs:List V)(us:List Value)(Q:VK),Inv X pins σ H s->Vals xs us->r xs H Q ->
  wpAny (model X.prog X.w) X.A (call f us) (EP X pins σ Q) X.xe s
def Iu(X:Cx)(r:V->Hp->(Bool->Hp->Prop)->Prop):Prop:=
 ∀(pins:List (Addr×Obj))(s:Shared)(σ:St)(H:Hp)(x:V)(v:Value)(Q:Bool->Hp->Prop),Inv X pins σ H s->RelV x v->r x H Q ->
  wpAny (model X.prog X.w) X.A (truthy v) (TP X pins σ Q) X.xe s
noncomputable def tOp(r:R2)(ta tb:TE):TE:=λσ H Q=>ta σ H λx H1=>tb σ H1 λy H2=>r x y H2 Q
noncomputable def tUn(r:V->Hp->VK->Prop)(ta:TE):TE:=λσ H Q=>ta σ H λx H1=>r x H1 Q
noncomputable def rI(C:Int->Int->Prop)(g:Int->Int->V):R2:=λx y H Q=>∃i j,x=.int i/\y=.int j/\C i j/\Q (g i j) H
noncomputable def rI0(g:Int->Int->V):R2:=λx y H Q=>∃i j,x=.int i/\y=.int j/\Q (g i j) H
def rU(g:Int->V):V->Hp->VK->Prop:=λx H Q=>∃i,x=.int i/\Q (g i) H
section
variable{X:Cx}{a b c:Expr}{ta tb tc:TE}{pos:Pos}
theorem Ay(ha:PE X a ta)(hb:PE X b tb){pins:List (Addr×Obj)}{s:Shared}{σ:St}{H:Hp}{R:V->V->Hp->Prop}(I:Inv X pins σ H s)
  (h:ta σ H λx H1=>tb σ H1 λy H2=>R x y H2) {Q:Value->Shared->Prop} {f:Value->Value->Sem Value}
  (hf:∀v u s2 x y H2,Inv X pins σ H2 s2->RelV x v->RelV y u->R x y H2->wpAny (model X.prog X.w) X.A (f v u) Q X.xe s2) :
  wpAny (model X.prog X.w) X.A (eval a X.env) (λv s₁=>wpAny (model X.prog X.w) X.A (eval b X.env) (λu s₂=>wpAny (model X.prog X.w) X.A (f v u) Q X.xe s₂) X.xe s₁) X.xe s:=by
 refine thn (ha pins s σ H _ I h) λv s1 ⟨x,H1,I1,r1,q1⟩=>?_;refine thn (hb pins s1 σ H1 _ I1 q1) λu s2 ⟨y,H2,I2,r2,q2⟩=>?_;exact hf v u s2 x y H2 I2 r1 r2 q2
theorem Gm{op:Operator}{r:R2}(ho:OpR X (binaryOp op) r)(ha:PE X a ta)(hb:PE X b tb):PE X (.BinOp a op b pos) (tOp r ta tb):=by
 intro pins s σ H Q I h;exact wpAny_BinOp (Ay ha hb I h λv u s2 x y H2 I2 rx ry q=>ho pins s2 σ H2 x y v u Q I2 rx ry q)
theorem GA{op:UnaryOp}{r:V->Hp->VK->Prop}(ho:UnR X (unaryOp op) r)(ha:PE X a ta):PE X (.UnaryOp op a pos) (tUn r ta):=by
 intro pins s σ H Q I h;exact UnaryOp_ (thn (ha pins s σ H _ I h) λv s1 ⟨x,H1,I1,r1,q1⟩=>ho pins s1 σ H1 x v Q I1 r1 q1)
theorem opI{f:Value->Value->Sem Value}{C:Int->Int->Prop}{g:Int->Int->Int}
  (rule:∀(i j:Int)(t u:Tok)(s:Shared)(Q:Value->Shared->Prop)(E:Value->Shared->Prop),C i j->Q (.int (g i j) s.toks) { s with toks:=s.toks+1 }->wpAny (model X.prog X.w) X.A (f (.int i t) (.int j u)) Q E s) :
  OpR X f (rI C λi j=>.int (g i j)):=by
 intro pins s σ H x y v u Q I rx ry h;obtain⟨i,j,rfl,rfl,hc,q⟩:=h;obtain⟨t,rfl⟩:=rx;obtain⟨t',rfl⟩:=ry;exact rule i j t t' s _ _ hc ⟨.int (g i j),H,I.tok _,⟨_,rfl⟩,q⟩
theorem ED{f:Value->Value->Sem Value}{g:Int->Int->Int}
  (rule:∀(i j:Int)(t u:Tok)(s:Shared)(Q:Value->Shared->Prop)(E:Value->Shared->Prop),Q (.int (g i j) s.toks) { s with toks:=s.toks+1 }->wpAny (model X.prog X.w) X.A (f (.int i t) (.int j u)) Q E s) :
  OpR X f (rI0 λi j=>.int (g i j)):=by
 intro pins s σ H x y v u Q I rx ry h;obtain⟨i,j,rfl,rfl,q⟩:=h;obtain⟨t,rfl⟩:=rx;obtain⟨t',rfl⟩:=ry;exact rule i j t t' s _ _ ⟨.int (g i j),H,I.tok _,⟨_,rfl⟩,q⟩
theorem vN{f:Value->Value->Sem Value}{g:Int->Int->Bool}
  (rule:∀(i j:Int)(t u:Tok)(s:Shared)(Q:Value->Shared->Prop)(E:Value->Shared->Prop),Q (.bool (g i j)) s->wpAny (model X.prog X.w) X.A (f (.int i t) (.int j u)) Q E s) :
  OpR X f (rI0 λi j=>.bl (g i j)):=by
 intro pins s σ H x y v u Q I rx ry h;obtain⟨i,j,rfl,rfl,q⟩:=h;obtain⟨t,rfl⟩:=rx;obtain⟨t',rfl⟩:=ry;exact rule i j t t' s _ _ ⟨.bl (g i j),H,I,rfl,q⟩
def pq(i j:Int):Prop:=0<j/\j<1073741824
def oO(i j:Int):Prop:=0<=j/\j<=1000000/\i.natAbs<2 ^ 64
def jW(i j:Int):Prop:=(-(2 ^ 64)<i/\i<2 ^ 64)\/(-(2 ^ 64)<j/\j<2 ^ 64)
theorem jW.ok{i j:Int}(h:jW i j):IntMulOk i j:=by
 rcases h with⟨h1,h2⟩ |⟨h1,h2⟩
 ·exact .of_left (QL h1 h2)
 ·exact .of_right (QL h1 h2)
theorem EX:OpR X (binaryOp .Add) (rI0 λi j=>.int (i+j)):=ED λ_ _ _ _ _ _ _ q=>add_int q
theorem ft:OpR X (binaryOp .Sub) (rI0 λi j=>.int (i-j)):=ED λ_ _ _ _ _ _ _ q=>sub_int q
theorem dk:OpR X (binaryOp .Mult) (rI jW λi j=>.int (i*j)):=opI λ_ _ _ _ _ _ _ hc q=>mul_int q hc.ok
theorem Cp:OpR X (binaryOp .FloorDiv) (rI pq λi j=>.int (i / j)):=opI λi j _ _ _ _ _ hc q=>by
 have h1:(0:Int)<j:=hc.1;have h2:j<1073741824:=hc.2;exact floordiv_int (by omega) (by rw[Int.fdiv_eq_ediv_of_nonneg i (by omega)];exact q) (.inl (PyProof.noPylong_small (by omega)))
theorem dJ:OpR X (binaryOp .Mod) (rI (λ_ j=>0<j) λi j=>.int (i % j)):=opI λi j _ _ _ _ _ hc q=>by
 have h1:(0:Int)<j:=hc;exact mod_int' (by omega) (by rw[Int.fmod_eq_emod_of_nonneg i (by omega)];exact q)
theorem nC:OpR X (binaryOp .Pow) (rI oO λi j=>.int (i ^ j.toNat)):=opI λ_ _ _ _ _ _ _ hc q=>pow_int_small hc.1 hc.2.1 hc.2.2 q
theorem unI{f:Value->Sem Value}{g:Int->Int}
  (rule:∀(i:Int)(t:Tok)(s:Shared)(Q:Value->Shared->Prop)(E:Value->Shared->Prop),Q (.int (g i) s.toks) { s with toks:=s.toks+1 }->wpAny (model X.prog X.w) X.A (f (.int i t)) Q E s) :
  UnR X f (rU λi=>.int (g i)):=by
 intro pins s σ H x v Q I rx h;obtain⟨i,rfl,q⟩:=h;obtain⟨t,rfl⟩:=rx;exact rule i t s _ _ ⟨.int (g i),H,I.tok _,⟨_,rfl⟩,q⟩
theorem cH:UnR X (unaryOp .USub) (rU λi=>.int (-i)):=unI λ_ _ _ _ _ q=>neg_int q
end
noncomputable def A4:V->V->Bool
 | .non,.non=>true | .non,.int _=>true | .int _,.non=>true | .non,.bl _=>true | .bl _,.non=>true | .non,.str _=>true | .str _,.non=>true
 | .int _,.int _=>true | .bl _,.bl _=>true | .str _,.str _=>true | .byt _,.byt _=>true
 | .int _,.str _=>true | .str _,.int _=>true | .bl _,.str _=>true | .str _,.bl _=>true
 |_,_=>false
noncomputable def rEq:R2:=λx y H Q=>A4 x y=true/\Q (.bl (decide (x=y))) H
noncomputable def rNe:R2:=λx y H Q=>A4 x y=true/\Q (.bl (!decide (x=y))) H
theorem vk{i j:Int}:decide (V.int i=V.int j)=(i==j):=by
 rw[Kc];simp
theorem yg{i j:Bool}:decide (V.bl i=V.bl j)=(i==j):=by
 rw[Kc];simp
theorem uI{i j:Str}:decide (V.str i=V.str j)=(i==j):=by
 rw[Kc];simp
theorem vb{i j:Array UInt8}:decide (V.byt i=V.byt j)=(i.toList==j.toList):=by
 rw[Kc];cases i;cases j;simp
section
variable{X:Cx}{a b c:Expr}{ta tb tc:TE}{pos:Pos}
theorem bp{pins:List (Addr×Obj)}{σ:St}{H:Hp}{s:Shared}{Q:VK}{k k':Bool}(I:Inv X pins σ H s)(q:Q (.bl k) H)(e:k=k'):EP X pins σ Q (.bool k') s:=by
 subst e;exact⟨.bl k,H,I,rfl,q⟩
theorem FX:OpR X (compareOp .Eq) rEq:=by
 intro pins s σ H x y v u Q I rx ry h;obtain⟨hs,q⟩:=h;cases x with
 |non=>
  cases rx;cases y with
  |non=>cases ry;exact Q3 (bp I q (by simp))
  |bl j=>cases ry;exact Q4 (bp I q (by simp))
  |int j=>obtain⟨t',rfl⟩:=ry;exact Rh (bp I q (by simp))
  |str j=>obtain⟨t',rfl⟩:=ry;exact Rj (bp I q (by simp))
  |_=>exact absurd (show false=true from hs) IS
 |bl i=>
  cases rx;cases y with
  |non=>cases ry;exact Q5 (bp I q (by simp))
  |bl j=>cases ry;exact eq_bool (bp I q yg)
  |str j=>obtain⟨t',rfl⟩:=ry;exact Q6 (bp I q (by simp))
  |_=>exact absurd (show false=true from hs) IS
 |int i=>
  obtain⟨t,rfl⟩:=rx;cases y with
  |non=>cases ry;exact Rk (bp I q (by simp))
  |int j=>obtain⟨t',rfl⟩:=ry;exact eq_int (bp I q vk)
  |str j=>obtain⟨t',rfl⟩:=ry;exact Rm (bp I q (by simp))
  |_=>exact absurd (show false=true from hs) IS
 |str i=>
  obtain⟨t,rfl⟩:=rx;cases y with
  |non=>cases ry;exact Rn (bp I q (by simp))
  |bl j=>cases ry;exact Q7 (bp I q (by simp))
  |int j=>obtain⟨t',rfl⟩:=ry;exact Ro (bp I q (by simp))
  |str j=>obtain⟨t',rfl⟩:=ry;exact eq_str (bp I q uI)
  |_=>exact absurd (show false=true from hs) IS
 |byt i=>
  obtain⟨t,rfl⟩:=rx;cases y with
  |byt j=>obtain⟨t',rfl⟩:=ry;exact PySem.W.eq_bytes (bp I q vb)
  |_=>exact absurd (show false=true from hs) IS
 |_=>cases y<;>exact absurd (show false=true from hs) IS
theorem Hm:OpR X (compareOp .NotEq) rNe:=by
 intro pins s σ H x y v u Q I rx ry h;obtain⟨hs,q⟩:=h;cases x with
 |non=>
  cases rx;cases y with
  |non=>cases ry;exact Q8 (bp I q (by simp))
  |bl j=>cases ry;exact Q9 (bp I q (by simp))
  |int j=>obtain⟨t',rfl⟩:=ry;exact Rp (bp I q (by simp))
  |str j=>obtain⟨t',rfl⟩:=ry;exact Rq (bp I q (by simp))
  |_=>exact absurd (show false=true from hs) IS
 |bl i=>
  cases rx;cases y with
  |non=>cases ry;exact Q_ (bp I q (by simp))
  |bl j=>cases ry;exact ne_bool (bp I q (Jn not yg))
  |str j=>obtain⟨t',rfl⟩:=ry;exact Ra (bp I q (by simp))
  |_=>exact absurd (show false=true from hs) IS
 |int i=>
  obtain⟨t,rfl⟩:=rx;cases y with
  |non=>cases ry;exact Rt (bp I q (by simp))
  |int j=>obtain⟨t',rfl⟩:=ry;exact ne_int (bp I q (Jn not vk))
  |str j=>obtain⟨t',rfl⟩:=ry;exact Ru (bp I q (by simp))
  |_=>exact absurd (show false=true from hs) IS
 |str i=>
  obtain⟨t,rfl⟩:=rx;cases y with
  |non=>cases ry;exact Rv (bp I q (by simp))
  |bl j=>cases ry;exact Rb (bp I q (by simp))
  |int j=>obtain⟨t',rfl⟩:=ry;exact Rw (bp I q (by simp))
  |str j=>obtain⟨t',rfl⟩:=ry;exact ne_str (bp I q (Jn not uI))
  |_=>exact absurd (show false=true from hs) IS
 |byt i=>
  obtain⟨t,rfl⟩:=rx;cases y with
  |byt j=>obtain⟨t',rfl⟩:=ry;exact PySem.W.ne_bytes (bp I q (Jn not vb))
  |_=>exact absurd (show false=true from hs) IS
 |_=>cases y<;>exact absurd (show false=true from hs) IS
theorem oo:OpR X (compareOp .Lt) (rI0 λi j=>.bl (decide (i<j))):=vN λ_ _ _ _ _ _ _ q=>lt_int q
theorem dO:OpR X (compareOp .LtE) (rI0 λi j=>.bl (decide (i<=j))):=vN λ_ _ _ _ _ _ _ q=>le_int q
theorem BY:OpR X (compareOp .Gt) (rI0 λi j=>.bl (decide (j<i))):=vN λ_ _ _ _ _ _ _ q=>gt_int q
theorem FY:OpR X (compareOp .GtE) (rI0 λi j=>.bl (decide (j<=i))):=vN λ_ _ _ _ _ _ _ q=>ge_int q
theorem OpR.or{f:Value->Value->Sem Value}{r r':R2}(h:OpR X f r)(h':OpR X f r'):OpR X f (λx y H Q=>r x y H Q\/r' x y H Q):=by
 intro pins s σ H x y v u Q I rx ry q;rcases q with q |q
 ·exact h pins s σ H x y v u Q I rx ry q
 ·exact h' pins s σ H x y v u Q I rx ry q
theorem zH(b:Expr){op:CmpOp}(h:op≠.In:=by decide)(h2:op≠.NotIn:=by decide):behindInMarks op b=false:=by
  have e1:(op==CmpOp.In)=false:=by cases op<;>first |rfl |exact absurd rfl h
  have e2:(op==CmpOp.NotIn)=false:=by cases op<;>first |rfl |exact absurd rfl h2
  cases b<;>simp[behindInMarks,e1,e2]
theorem Cc{op:CmpOp}{r:R2}(ho:OpR X (compareOp op) r)(ha:PE X a ta)(hb:PE X b tb)(hm:behindInMarks op b=false):PE X (.Compare a [op] [b] pos) (tOp r ta tb):=by
 intro pins s σ H Q I h;exact wpAny_Compare1 (Ay ha hb I h λv u s2 x y H2 I2 rx ry q=>ho pins s2 σ H2 x y v u Q I2 rx ry q) hm
noncomputable def BO(t:TE):TT:=λσ H Q=>t σ H λx H'=>∃k,x=.bl k/\Q k H'
theorem DC{op:CmpOp}{r:R2}(ho:OpR X (compareOp op) r)(ha:PE X a ta)(hb:PE X b tb)(hm:behindInMarks op b=false):PT X (.Compare a [op] [b] pos) (BO (tOp r ta tb)):=by
 intro pins s σ H Q I h;refine wpAny_isTrue_Compare1 (thn (ha pins s σ H _ I h) λv s1 ⟨x,H1,I1,r1,q1⟩=>thn (hb pins s1 σ H1 _ I1 q1) λu s2 ⟨y,H2,I2,r2,q2⟩=>
  thn (ho pins s2 σ H2 x y v u _ I2 r1 r2 q2) λc s3 ⟨z,H3,I3,r3,k,e,q3⟩=>?_) hm
 subst e;cases r3;exact Km ⟨H3,I3,q3⟩
noncomputable def sj(r r':R2)(ta tb tc:TE):TE:=λσ H Q=>ta σ H λx H1=>tb σ H1 λy H2=>r x y H2 λz H3=>∃k,z=.bl k /\
 (if k=true then tc σ H3 λw' H4=>r' y w' H4 Q else Q (.bl false) H3)
theorem As{op op':CmpOp}{r r':R2}(ho:OpR X (compareOp op) r)(ho':OpR X (compareOp op') r')(ha:PE X a ta)(hb:PE X b tb)(hc:PE X c tc)
  (hm:lastMarks [op,op'] [b,c]=false:=by with_unfolding_all rfl):PE X (.Compare a [op,op'] [b,c] pos) (sj r r' ta tb tc):=by
 intro pins s σ H Q I h;refine Compare_chain (thn (ha pins s σ H _ I h) λv s1 ⟨x,H1,I1,r1,q1⟩=>chain_link (thn (hb pins s1 σ H1 _ I1 q1) λu s2 ⟨y,H2,I2,r2,q2⟩=>
  thn (ho pins s2 σ H2 x y v u _ I2 r1 r2 q2) λd s3 ⟨z,H3,I3,r3,k,e,q3⟩=>?_)) hm
 subst e;cases r3;refine Km ?_;cases k with
 |false=>exact ite_ff ⟨.bl false,H3,I3,rfl,q3⟩
 |true=>exact ite_tt (chain_last (thn (hc pins s3 σ H3 _ I3 q3) λw' s4 ⟨z',H4,I4,r4,q4⟩=>ho' pins s4 σ H4 y z' u w' Q I4 r2 r4 q4))
theorem zX{op op':CmpOp}{r r':R2}(ho:OpR X (compareOp op) r)(ho':OpR X (compareOp op') r')(ha:PE X a ta)(hb:PE X b tb)(hc:PE X c tc)
  (hm:lastMarks [op,op'] [b,c]=false:=by with_unfolding_all rfl):PT X (.Compare a [op,op'] [b,c] pos) (BO (sj r r' ta tb tc)):=by
 intro pins s σ H Q I h;refine isTrue_chain (thn (ha pins s σ H _ I h) λv s1 ⟨x,H1,I1,r1,q1⟩=>test_link (thn (hb pins s1 σ H1 _ I1 q1) λu s2 ⟨y,H2,I2,r2,q2⟩=>
  thn (ho pins s2 σ H2 x y v u _ I2 r1 r2 q2) λd s3 ⟨z,H3,I3,r3,k,e,q3⟩=>?_)) hm
 subst e;cases r3;refine Km ?_;cases k with
 |false=>
  obtain⟨k',e',q'⟩:=q3;cases e';exact ite_ff ⟨H3,I3,q'⟩
 |true=>
  refine ite_tt (test_last (thn (hc pins s3 σ H3 _ I3 q3) λw' s4 ⟨z',H4,I4,r4,q4⟩=>thn (ho' pins s4 σ H4 y z' u w' _ I4 r2 r4 q4) λd' s5 ⟨z2,H5,I5,r5,k2,e2,q5⟩=>?_));subst e2;cases r5;exact Km ⟨H5,I5,q5⟩
def Bq(K:Iy)(x:V)(H:Hp)(k:Bool):Prop:=
 match x with
 | .non=>k=false
 | .bl b=>k=b
 | .int i=>k=(i != 0)
 | .str y=>y.length<=sizeLine/\k=((y.length:Int) != 0)
 | .byt y=>y.size<=sizeLine/\k=((y.size:Int) != 0)
 | .ref p=>(∃xs,SqL K H p xs/\k=!xs.isEmpty)\/(∃xs,SqT K H p xs/\k=!xs.isEmpty)\/∃kvs,H p=some (.dK kvs)/\k=!kvs.isEmpty
 |_=>False
theorem wO{κ:Type}{kvs:List (κ×V)}{vs:List (κ×Value)}(r:KV kvs vs):(!vs.isEmpty)=!kvs.isEmpty:=by
 cases r<;>rfl
theorem nE{xs:List V}{its:List Value}(r:Vals xs its):(!its.toArray.isEmpty)=!xs.isEmpty:=by
 cases r<;>simp
theorem kM:(sizeLine:Nat)<2 ^ 63:=by rw[Kd];decide
theorem FF:Iu X (λx H Q=>∃k,Bq X.K x H k/\Q k H):=by
 intro pins s σ H x v Q I rx h;obtain⟨k,e,q⟩:=h;have hl:=kM;have hs:sizeLine=16777216:=Kd;cases x with
 |non=>
  cases rx;have e':k=false:=e;subst e';exact truthy_none ⟨H,I,q⟩
 |bl b=>
  cases rx;have e':k=b:=e;subst e';exact Km ⟨H,I,q⟩
 |int i=>
  obtain⟨t,rfl⟩:=rx;have e':k=(i != 0):=e;subst e';exact PySem.P.truthy_int ⟨H,I,q⟩
 |str y=>
  obtain⟨t,rfl⟩:=rx;obtain⟨hy,e'⟩:y.length<=sizeLine/\k=((y.length:Int) != 0):=e;subst e';exact PySem.P.truthy_str (by omega) ⟨H,I.tok _,q⟩
 |byt y=>
  obtain⟨t,rfl⟩:=rx;obtain⟨hy,e'⟩:y.size<=sizeLine/\k=((y.size:Int) != 0):=e;subst e';exact PySem.W.truthy_bytes (by omega) ⟨H,I.tok _,q⟩
 |ref p=>
  cases rx;have e':(∃xs,SqL X.K H p xs/\k=!xs.isEmpty)\/(∃xs,SqT X.K H p xs/\k=!xs.isEmpty)\/∃kvs,H p=some (.dK kvs)/\k=!kvs.isEmpty:=e;rcases e' with⟨xs,hx,e'⟩ |⟨xs,hx,e'⟩ |⟨kvs,hx,e'⟩
  ·subst e';obtain⟨its,r,pl,hz⟩:=I.list hx;have hlen:=r.length;exact wpAny_truthy_list pl.isList (by simp only[IE];omega) ⟨H,I.tok _,by rw[nE r];exact q⟩
  ·subst e';obtain⟨its,r,pl,hz⟩:=I.tuple hx;have hlen:=r.length;exact truthy_tuple pl (by simp only[IE];omega) ⟨H,I.tok _,by rw[nE r];exact q⟩
  ·subst e';obtain⟨hz,hS,vs,r,m⟩:kvs.length<=sizeLine/\(p==sysModules)=false/\∃vs,KV kvs vs/\s.heap.DictOf (aV X.prog X.w) p vs:=I.hok p _ hx;have hlen:kvs.length=vs.length:=Nt r;exact wpAny_truthy_dict hS m (by omega) ⟨H,I.tok _,by rw[wO r];exact q⟩
 |_=>exact(show False from e).elim
theorem AG(ha:PE X a ta)(he:∀whole,isTrue a X.env whole=(do let v<-whole;standAt a.pos;holding [v] (truthy v))) :
  PT X a (λσ H Q=>ta σ H λx H'=>∃k,Bq X.K x H' k/\Q k H'):=by
 intro pins s σ H Q I h;exact isTrue_plain (thn (ha pins s σ H _ I h) λv s1 ⟨x,H1,I1,r1,q1⟩=>FF pins s1 σ H1 x v Q I1 r1 q1) (he _)
theorem vT:OpR X (binaryOp .Add) (λx y H Q=>∃i j,x=.str i/\y=.str j/\i.length+j.length<=sizeLine/\Q (.str (i++j)) H):=by
 intro pins s σ H x y v u Q I rx ry h;obtain⟨i,j,rfl,rfl,hz,q⟩:=h;obtain⟨t,rfl⟩:=rx;obtain⟨t',rfl⟩:=ry;exact add_str (λt' tk=>⟨.str (i++j),H,I.tok _,⟨_,rfl⟩,q⟩) hz
theorem vals1{x:V}{us:List Value}(r:Vals [x] us):∃u,us=[u]/\RelV x u:=by
 cases r with
 |cons r1 r2=>cases r2;exact⟨_,rfl,r1⟩
theorem vals2{x y:V}{us:List Value}(r:Vals [x,y] us):∃u w',us=[u,w']/\RelV x u/\RelV y w':=by
 cases r with
 |cons r1 r2=>
  cases r2 with
  |cons r3 r4=>cases r4;exact⟨_,_,rfl,r1,r3⟩
theorem xW(hc:X.calm=true):bJ X (.builtin "max") (λxs H Q=>∃i j,xs=[.int i,.int j]/\Q (.int (if j>i then j else i)) H):=by
 intro pins s σ H xs us Q I r h;obtain⟨i,j,rfl,q⟩:=h;obtain⟨u,w',rfl,⟨t,rfl⟩,⟨t',rfl⟩⟩:=vals2 r;refine max_two_ints (I.ok.hd hc) λh' tk k=>⟨_,H,I.kept k,?_,q⟩;by_cases hj:j>i
 ·rw[Iw hj,Iw hj];exact⟨_,rfl⟩
 ·rw[IF hj,IF hj];exact⟨_,rfl⟩
theorem x_(hc:X.calm=true):bJ X (.builtin "min") (λxs H Q=>∃i j,xs=[.int i,.int j]/\Q (.int (if j<i then j else i)) H):=by
 intro pins s σ H xs us Q I r h;obtain⟨i,j,rfl,q⟩:=h;obtain⟨u,w',rfl,⟨t,rfl⟩,⟨t',rfl⟩⟩:=vals2 r;refine min_two_ints (I.ok.hd hc) λh' tk k=>⟨_,H,I.kept k,?_,q⟩;by_cases hj:j<i
 ·rw[Iw hj,Iw hj];exact⟨_,rfl⟩
 ·rw[IF hj,IF hj];exact⟨_,rfl⟩
def Ib(K:Iy)(x:V)(H:Hp)(n:Nat):Prop:=
 match x with
 | .str y=>y.length<=sizeLine/\n=y.length
 | .byt y=>y.size<=sizeLine/\n=y.size
 | .ref p=>(∃xs,SqL K H p xs/\n=xs.length)\/∃xs,SqT K H p xs/\n=xs.length
 |_=>False
theorem sA:bJ X (.builtin "len") (λxs H Q=>∃x n,xs=[x]/\Ib X.K x H n/\Q (.int n) H):=by
 intro pins s σ H xs us Q I r h;obtain⟨x,n,rfl,e,q⟩:=h;obtain⟨u,rfl,rx⟩:=vals1 r;have hl:=kM;have hs:sizeLine=16777216:=Kd;cases x with
 |str y=>
  obtain⟨t,rfl⟩:=rx;obtain⟨hy,e'⟩:y.length<=sizeLine/\n=y.length:=e;subst e';exact len_str (by omega) ⟨.int _,H,I.tok _,⟨_,rfl⟩,q⟩
 |byt y=>
  obtain⟨t,rfl⟩:=rx;obtain⟨hy,e'⟩:y.size<=sizeLine/\n=y.size:=e;subst e';exact PySem.W.len_bytes (by omega) ⟨.int _,H,I.tok _,⟨_,rfl⟩,q⟩
 |ref p=>
  cases rx;have e':(∃xs,SqL X.K H p xs/\n=xs.length)\/∃xs,SqT X.K H p xs/\n=xs.length:=e;rcases e' with⟨xs,hx,e'⟩ |⟨xs,hx,e'⟩
  ·subst e';obtain⟨its,r',pl,hz⟩:=I.list hx;have hlen:=r'.length;exact Calls.call_len_list pl.isList (by simp only[IE];omega) ⟨.int xs.length,H,I.tok _,⟨_,by simp only[IE];rw[hlen]⟩,q⟩
  ·subst e';obtain⟨its,r',pl,hz⟩:=I.tuple hx;have hlen:=r'.length;exact len_tuple pl (by simp only[IE];omega) ⟨.int xs.length,H,I.tok _,⟨_,by simp only[IE];rw[hlen]⟩,q⟩
 |_=>exact(show False from e).elim
end
structure AW(h:Heap)(x dx C:Addr)(mA:Str->Option Value):Prop where
 obj:h.get? x=some (Oc C dx)
 ns:h.Ns1 dx mA
 ne:dx≠x
theorem xp{h:Heap}{dx:Addr}{mA:Str->Option Value}(n:h.Ns1 dx mA):∃od,h.get? dx=some od/\∀name,Oy name od=some (mA name):=by
 obtain⟨o,es,ep,ho,hd,hk,_,hm⟩:=n;refine⟨o,ho,λname=>?_⟩;have e:=hm name;unfold nsFind findBy at e;rw[<-Array.find?_toList]at e;unfold Oy;rw[hd];dsimp only;split
 ·rename_i y q;rw[q]at e;exact Jn some e
 ·rename_i q;rw[q]at e;have a:es.toList.any (·.refKey)=false:=by
   rw[List.any_eq_false];intro y hy;obtain⟨z,t,hkey⟩:=hk y (Array.mem_toList_iff.mp hy);simp[DictEntry.refKey,hkey]
  have a':¬es.toList.any (·.refKey)=true:=by rw[a];exact IS
  rw[IF a'];exact Jn some e
theorem AW.look{h:Heap}{x dx C:Addr}{mA:Str->Option Value}(I:AW h x dx C mA):∃od,PySem.W.InstAt h x (Oc C dx) C (some od)/\∀name,Oy name od=some (mA name):=
 let⟨od,ho,hl⟩:=xp I.ns
 ⟨od,⟨I.obj,rfl,rfl,ho⟩,hl⟩
theorem fC.some_of{v:V}{o:Option Value}(r:fC (some v) o):∃u,o=some u/\RelV v u:=by
 cases o with
 |none=>exact(show False from r).elim
 |some u=>exact⟨u,rfl,r⟩
section
variable{P:Program}{w:World}{H H':Hp}{h h':Heap}{a C dx:Addr}{fs fs':List (Str×V)}
theorem Dq(hok:HOk P w H h)(e:H a=some (.ins C dx fs)):∃mA,AW h a dx C mA/\(∀f,fC (fs.lookup f) (mA f))/\Rf mA (fs.map (·.1))/\fs.length<=1000/\H dx=some (.own a):=by
 obtain⟨d,z,ne,ob,mA,n,r,q⟩:=(show bz P w H h a (.ins C dx fs)from hok a _ e);exact⟨mA,⟨ob,n,ne⟩,r,q,z,d⟩
end
structure Cls(K:Iy)(C:Addr):Prop where
 pg:PV K C Str.empty=true
 hd:PySem.W.hasDictIn K C=true
 po:PySem.W.plainOver K C=true
 sa:Qu K (.ref C) "__setattr__"=some (some (.builtin "object.__setattr__"))
theorem Cls.get{K:Iy}{C:Addr}(c:Cls K C)(f:Str):PV K C f=true:=c.pg
section
variable{X:Cx}{pins:List (Addr×Obj)}{σ:St}{H:Hp}{s:Shared}{A:Around}{E:Value->Shared->Prop}{Q:Value->Shared->Prop}{c:Value}{b:Bool}
inductive fI(K:Iy)(H:Hp):V->Value->Prop where
 |non:fI K H .non (.type "NoneType")
 |bl (x:Bool):fI K H (.bl x) (.type "bool")
 |int (i:Int):fI K H (.int i) (.type "int")
 |str (x:Str):fI K H (.str x) (.type "str")
 |flt (x:UInt64):fI K H (.flt x) (.type "float")
 |lst {a:Addr} {xs:List V} (e:H a=some (.lst xs)):fI K H (.ref a) (.type "list")
 |frz {a:Addr} {o:Obj} {xs:List V} (e:H a=some (.frz o (.lst xs))):fI K H (.ref a) (.type "list")
 |tup {a:Addr} {xs:List V} (e:H a=some (.tup xs)):fI K H (.ref a) (.type "tuple")
 |dK {a:Addr} {kvs:List (Key×V)} (e:H a=some (.dK kvs)):fI K H (.ref a) (.type "dict")
 |dT {a:Addr} {kvs:List (List Key×V)} (e:H a=some (.dT kvs)):fI K H (.ref a) (.type "dict")
 |ins {a C dx:Addr} {fs:List (Str×V)} (e:H a=some (.ins C dx fs)) (cl:Cls K C) (ha:Qu K (.ref C) "__class__"=some (some (.builtin "object.__class__")))
   (hn:PySem.W.specialIn K (.builtin "object.__class__") "__get__"=some (some (.builtin "getset_descriptor.__get__"))) (htk:PySem.W.takesIn K (.builtin "object.__class__")=some true)
   (hm:PySem.W.mroIn K C (.type "object")=some true):fI K H (.ref a) (.ref C)
theorem yw{x:V}{u t:Value}(I:Inv X pins σ H s)(rx:RelV x u)(ty:fI X.K H x t)(e:Qv X.K t c=some b)(h:∀tk,Q (.bool b) { s with toks:=tk }) :
  wpAny (model X.prog X.w) A (call (.builtin "isinstance") [u,c]) Q E s:=by
 cases ty with
 |non=>cases(show u=Value.none from rx);exact Ke PySem.W.kitx_none I.kIn True.intro e (λz=>nomatch z) h
 |bl y=>cases(show u=Value.bool y from rx);exact Ke PySem.W.kitx_bool I.kIn True.intro e (λz=>nomatch z) h
 |int i=>obtain⟨t,q⟩:=(show∃t,u=Value.int i t from rx);cases q;exact Ke PySem.W.kitx_int I.kIn True.intro e (λz=>nomatch z) h
 |str y=>obtain⟨t,q⟩:=(show∃t,u=Value.str y t from rx);cases q;exact Ke PySem.W.kitx_str I.kIn True.intro e (λz=>nomatch z) h
 |flt y=>obtain⟨t,q⟩:=(show∃t,u=Value.float y t from rx);cases q;exact Ke PySem.W.kitx_float I.kIn True.intro e (λz=>nomatch z) h
 | @lst a xs ea=>
  cases(show u=Value.ref a from rx);obtain⟨_,_,n,_,h1⟩:=(show bz X.prog X.w H s.heap a (.lst xs)from I.hok a _ ea);exact Ke Px I.kIn ⟨_,h1,rfl⟩ e (λz=>nomatch z) h
 | @frz a ob xs ea=>
  cases(show u=Value.ref a from rx);obtain⟨_,_,_,n,_,h1⟩:=(show bz X.prog X.w H s.heap a (.frz ob (.lst xs))from I.hok a _ ea);exact Ke Px I.kIn ⟨_,h1,rfl⟩ e (λz=>nomatch z) h
 | @tup a xs ea=>
  cases(show u=Value.ref a from rx);obtain⟨_,_,_,p⟩:=(show bz X.prog X.w H s.heap a (.tup xs)from I.hok a _ ea);obtain⟨o,h1,h2,_⟩:=p;exact Ke PySem.W.kitx_tuple I.kIn ⟨o,h1,h2⟩ e (λz=>nomatch z) h
 | @dK a kvs ea=>
  cases(show u=Value.ref a from rx);obtain⟨_,_,vs,_,p⟩:=(show bz X.prog X.w H s.heap a (.dK kvs)from I.hok a _ ea);obtain⟨o,es,ep,h1,h2,_⟩:=p;exact Ke Py I.kIn ⟨o,h1,h2.1⟩ e (λz=>nomatch z) h
 | @dT a kvs ea=>
  cases(show u=Value.ref a from rx);obtain⟨_,_,xs,_,o,es,ep,h1,h2,_⟩:=(show bz X.prog X.w H s.heap a (.dT kvs)from I.hok a _ ea);exact Ke Py I.kIn ⟨o,h1,h2.1⟩ e (λz=>nomatch z) h
 | @ins a C dx fs ea cl ha hn htk hm=>
  cases(show u=Value.ref a from rx);obtain⟨mA,O,_⟩:=Dq I.hok ea;obtain⟨od,J,_⟩:=O.look;exact Ke (PySem.W.kitx_own (cl.get _) cl.hd ha hn htk hm) I.kIn J e (λz=>nomatch z) h
end
structure cL(k:Nat)(A:Around):Prop where
 hd:A.handled=none
 dp:A.depth+3*k+5<recursionLimit
 un:A.units+16*k+200<cLine
theorem cL.mono{j k:Nat}{A:Around}(r:cL k A)(h:j<=k):cL j A:=⟨r.hd,by have:=r.dp;omega,by have:=r.un;omega⟩
theorem cL.deeper{k:Nat}{A:Around}(r:cL (k+1) A)(env:Env):cL k (A.deeper env):=
 ⟨r.hd,by have:=r.dp;show A.depth+1+3*k+5<_;omega,by have:=r.un;show A.units+3+16*k+200<_;omega⟩
theorem cL.depth{k:Nat}{A:Around}(r:cL k A):A.depth<recursionLimit:=by have:=r.dp;omega
theorem cL.units{k:Nat}{A:Around}(r:cL k A):A.units+64<cLine:=by have:=r.un;omega
noncomputable def Ik:TA:=λ_ H Q=>Q [] H
noncomputable def GL(ta:TE)(tr:TA):TA:=λσ H Q=>ta σ H λx H1=>tr σ H1 λxs H2=>Q (x::xs) H2
section
variable{X:Cx}{e:Expr}{es:List Expr}{te:TE}{t:TA}{pos:Pos}
theorem fY:PA X [] Ik:=λ_ _ _ _ H Q I h=>Pz ⟨[],H,I,.nil,h⟩
theorem dN(ha:PE X e te)(hr:PA X es t)(hs:starEach (e::es) X.env=(false,eval e X.env)::starEach es X.env:=by rfl):PA X (e::es) (GL te t):=by
 intro pos pins s σ H Q I h;rw[hs];show wpAny _ _ (spliced ((false,eval e X.env)::backTo pos (starEach es X.env))) _ _ s;refine Kv (thn (ha pins s σ H _ I h) λu s1 ⟨x,H1,I1,r1,q1⟩=>?_);exact thn (hr pos pins s1 σ H1 _ I1 q1) λus s2 ⟨xs,H2,I2,r2,q2⟩=>⟨x::xs,H2,I2,.cons r1 r2,q2⟩
noncomputable def Ir(t:TA):TE:=λσ H Q=>t σ H λxs H1=>xs.length<=sizeLine/\∀p,H1 p=none->Q (.ref p) (upd H1 p (.tup xs))
noncomputable def Io(t:TA):TE:=λσ H Q=>t σ H λxs H1=>xs.length<=sizeLine/\∀p,H1 p=none->Q (.ref p) (upd H1 p (.lst xs))
theorem yb{x1}(h:PA X es t):PE X (.Tuple es x1 pos) (Ir t):=by
 intro pins s σ H Q I hq;refine wpAny_Tuple_spliced (thn (h pos pins s σ H _ I hq) λus s1 ⟨xs,H1,I1,r,z,q⟩=>⟨by rw[<-r.length];exact z,?_⟩);have hf:H1 s1.heap.objs.size=none:=I1.hok.fresh (IB _);refine⟨.ref s1.heap.objs.size,upd H1 s1.heap.objs.size (.tup xs),I1.laid (t':=s1.toks) (λb u e=>gV _ e) (IB _) ?_,rfl,q _ hf⟩;exact⟨z,us,r,⟨_,IG _ rfl,rfl,_,rfl⟩⟩
theorem zb(h:PA X es t):PE X (.List es pos) (Io t):=by
 intro pins s σ H Q I hq;refine wpAny_List_spliced (thn (h pos pins s σ H _ I hq) λus s1 ⟨xs,H1,I1,r,z,q⟩=>⟨by rw[<-r.length];exact z,?_⟩);have hf:H1 s1.heap.objs.size=none:=I1.hok.fresh (IB _);refine⟨.ref s1.heap.objs.size,upd H1 s1.heap.objs.size (.lst xs),I1.laid (t':=s1.toks) (λb u e=>gV _ e) (IB _) ?_,rfl,q _ hf⟩;exact⟨z,us,0,r,IG _ rfl⟩
end
noncomputable abbrev Sp:=List V->Hp->VK->XK->Prop
noncomputable abbrev CXT:=List Env->Hp->Shared->XK->Value->Shared->Prop
structure vO(P:Program)(w:World)(K:Iy)(mg:Str->Option Value)(base:Heap)(A:Around)(outer:List Env)(s:Shared)(H:Hp):Prop where
 frames:A.frames=some outer
 mod:Mod K mg base
 bs:∀b o,base.get? b=some o->s.heap.get? b=some o/\H b=none
 bsz:base.objs.size<=s.heap.objs.size
 il:s.heap.FunFrames base outer
 frf:∀b∈frs outer,H b=none
 hok:HOk P w H s.heap
 bare:AllBare s.gens
def CE(outer:List Env)(P:Program)(w:World)(H:Hp)(s:Shared)(Q:VK)(u:Value)(s':Shared):Prop:=
 ∃v H',s'.os=s.os/\AllBare s'.gens/\Un (frs outer) [] H H' s.heap s'.heap/\HOk P w H' s'.heap/\RelV v u/\Q v H'
def CR(CX:CXT)(outer:List Env)(P:Program)(w:World)(H:Hp)(s:Shared)(Q:VK)(E:XK)(r:Result)(s':Shared):Prop:=
 match r with
 | .ok (.ret u)=>CE outer P w H s Q u s'
 | .ok _=>False
 | .error e=>CX outer H s E e s'
structure dG(P:Program)(w:World)(K:Iy)(mg:Str->Option Value)(base:Heap)(CX:CXT)(k:Nat)(f:Addr)(fd:FuncData)(ps:List Str)(sp:Sp):Prop where
 len:∀vs H Q E,sp vs H Q E->vs.length=ps.length
 run:∀(A:Around)(outer:List Env)(s:Shared)(H:Hp)(args:Args)(us:List Value)(vs:List V)(Q:VK)(E:XK),cL k A->vO P w K mg base A outer s H->BindsTo s fd args (ps.zip us)->Vals vs us->sp vs H Q E ->
  codeAny (model P w) A (.call (.ref f) args) (CR CX outer P w H s Q E) s
theorem dG.mono{P:Program}{w:World}{K:Iy}{mg:Str->Option Value}{base:Heap}{CX:CXT}{j k:Nat}{f:Addr}{fd:FuncData}{ps:List Str}{sp:Sp}(F:dG P w K mg base CX j f fd ps sp)(h:j<=k) :
  dG P w K mg base CX k f fd ps sp:=⟨F.len,λA outer s H args us vs Q E hr=>F.run A outer s H args us vs Q E (hr.mono h)⟩
theorem dG.imp{P:Program}{w:World}{K:Iy}{mg:Str->Option Value}{base:Heap}{CX:CXT}{k:Nat}{f:Addr}{fd:FuncData}{ps:List Str}{sp sp':Sp}(F:dG P w K mg base CX k f fd ps sp)
  (h:∀vs H Q E,sp' vs H Q E->sp vs H Q E):dG P w K mg base CX k f fd ps sp':=
 ⟨λvs H Q E q=>F.len vs H Q E (h _ _ _ _ q),λA outer s H args us vs Q E hr he hb hv hs=>F.run A outer s H args us vs Q E hr he hb hv (h _ _ _ _ hs)⟩
section
variable{X:Cx}{pins:List (Addr×Obj)}{σ:St}{H:Hp}{s s':Shared}
theorem Inv.HU(I:Inv X pins σ H s):vO X.prog X.w X.K X.mg X.base X.A X.stack s H:=
 ⟨I.ok.frames,I.ok.mod,I.bs,JS I.ok.bsz I.sz,I.stack,I.uV,I.hok,I.bare⟩
theorem Inv.after{Q:VK}{u:Value}(I:Inv X pins σ H s)(h:CE X.stack X.prog X.w H s Q u s'):EP X pins σ Q u s':=by
 obtain⟨v,H',os,bare,un,hok,r,q⟩:=h;obtain⟨hh,g,d,t,os'⟩:=s';obtain rfl:os'=s.os:=os;exact⟨v,H',I.call (h':=hh) (g':=g) (d':=d) (t':=t) (ch:=[]) un hok bare (λb z=>absurd z (by simp)),r,q⟩
end
noncomputable def BS(sp:Sp)(dvs:List V)(E:XK)(t:TA):TE:=λσ H Q=>t σ H λvs H1=>sp (vs++dvs) H1 Q E
def Binds(K:Iy)(fd:FuncData)(ps:List Str)(ds:List Value):Prop:=
 ∀(s:Shared)(us:List Value),K.In s.heap->(us++ds).length=ps.length->BindsTo s fd ⟨us,[]⟩ (ps.zip (us++ds))
theorem Binds.all{K:Iy}{fd:FuncData}{ps:List Str}(h:∀us:List Value,us.length=ps.length->bindArgs fd ⟨us,[]⟩=pure (ps.zip us)):Binds K fd ps []:=λs us _ hl=>by
 rw[KS]at hl ⊢;exact .of_eq (h us hl)
def Passes(CX:CXT)(X:Cx)(E:XK):Prop:=∀(pins:List (Addr×Obj))(σ:St)(H:Hp)(s:Shared)(e:Value)(s':Shared),Inv X pins σ H s->CX X.stack H s E e s'->X.xe e s'
section
variable{X:Cx}{CX:CXT}{k:Nat}{f C:Addr}{fd:FuncData}{ps:List Str}{sp:Sp}{dvs:List V}{ds:List Value}{E:XK}{x m:Str}{p pos apos:Pos}{e o:Expr}{es:List Expr}{ta:TE}{t:TA}
theorem yM{pins:List (Addr×Obj)}{σ:St}{H:Hp}{s:Shared}{Q:VK}{us:List Value}{vs:List V}(F:dG X.prog X.w X.K X.mg X.base CX k f fd ps sp)(hr:cL k X.A)(hb:Binds X.K fd ps ds)(hd:Vals dvs ds)(hx:Passes CX X E)
  (I:Inv X pins σ H s) (r:Vals vs us) (h:sp (vs++dvs) H Q E):wpAny (model X.prog X.w) X.A (call (.ref f) us) (EP X pins σ Q) X.xe s:=by
 have r2:Vals (vs++dvs) (us++ds):=r.append hd;have hl:(us++ds).length=ps.length:=by rw[<-r2.length];exact F.len _ _ _ _ h
 refine OK (MV (F.run X.A X.stack s H ⟨us,[]⟩ (us++ds) (vs++dvs) Q E hr I.HU (hb s us I.kIn hl) r2 h) λr s' hq=>?_);cases r with
 |error e=>exact hx pins σ H s e s' I hq
 |ok fl=>
  cases fl with
  |ret u=>exact I.after hq
  |next=>exact KR hq
  |brk=>exact KR hq
  |cont=>exact KR hq
theorem Dz(F:dG X.prog X.w X.K X.mg X.base CX k f fd ps sp)(hr:cL k X.A)(hg:Gl X x)(hm:X.mg x=some (.ref f))(hk:LO X.K (.ref f)=true)(hb:Binds X.K fd ps ds)(hd:Vals dvs ds)(hx:Passes CX X E)
  (ha:PA X (e::es) t) (hdb:(x==("__debug__":Str))=false:=by decide) (he:starEach (e::es) X.env=(false,eval e X.env)::starEach es X.env:=by rfl) (hpl:(backTo pos (starEach es X.env)).any (·.1)=false:=by rfl) :
  PE X (.Call (.Name x p) (e::es) [] pos) (BS sp dvs E t):=by
 intro pins s σ H Q I h;refine Kg (vm I hg hm ?_ hdb);refine O9 (h₀:=X.base) I.ok.mod.kin hk (thn (ha pos pins s σ H _ I h) λus s1 ⟨vs,H1,I1,r,q⟩=>⟨I1.kIn,?_⟩) he hpl;exact yM F hr hb hd hx I1 r q
end
structure jr(N P:List Str)(sc:Scope):Prop where
 kind:sc.kind=.function
 co:sc.isCoroutine=false
 gen:sc.isGenerator=false
 nd:N.Nodup
 pre:N.take P.length=P
 par:∀x∈P,sc.names.lookup x=some .local\/sc.names.lookup x=some .cell
 nofree:∀y∈sc.names,y.2≠.free
theorem qv{kindOf:Str->Option NameKind}{x:Str}:∀{binds:List (Str×Value)}{m:Str->Option Value},(∀v,(x,v)∉binds)->bindL kindOf binds m x=m x
 | [],_,_=>rfl
 |(n,v)::r,m,h=>by
  unfold bindL;rw[qv λw hw=>h w (Jp _ hw)];split
  ·have:x≠n:=by rintro rfl;exact h v JK
   simp[this]
  ·rfl
theorem qw{kindOf:Str->Option NameKind}{x:Str}:∀{binds:List (Str×Value)}{m:Str->Option Value},(∀v,(x,v)∉binds)->bindC kindOf binds m x=m x
 | [],_,_=>rfl
 |(n,v)::r,m,h=>by
  unfold bindC;rw[qw λw hw=>h w (Jp _ hw)];split
  ·rfl
  ·have:x≠n:=by rintro rfl;exact h v JK
   simp[this]
theorem qk{kindOf:Str->Option NameKind}{x:Str}{v:Value}:∀{P:List Str}{vs:List Value}{i:Nat}{m:Str->Option Value},P.Nodup->P[i]?=some x->vs[i]?=some v->kindOf x=some .local ->
  bindL kindOf (P.zip vs) m x=some v
 | [],_,_,_,_,h,_,_=>by simp at h
 |_::_,[],_,_,_,_,h,_=>by simp at h
 |p::P,w::vs,0,m,nd,h1,h2,hk=>by
  simp at h1 h2;subst h1;subst h2;show bindL kindOf ((p,w)::P.zip vs) m p=_;unfold bindL;rw[qv λv hv=>(KG.mp nd).1 (Oe hv).1,Iw hk];simp
 |p::P,w::vs,i+1,m,nd,h1,h2,hk=>by
  show bindL kindOf ((p,w)::P.zip vs) m x=_;unfold bindL;exact qk (i:=i) (KG.mp nd).2 (by simpa using h1) (by simpa using h2) hk
theorem pV{kindOf:Str->Option NameKind}{x:Str}{v:Value}:∀{P:List Str}{vs:List Value}{i:Nat}{m:Str->Option Value},P.Nodup->P[i]?=some x->vs[i]?=some v->kindOf x≠some .local ->
  bindC kindOf (P.zip vs) m x=some v
 | [],_,_,_,_,h,_,_=>by simp at h
 |_::_,[],_,_,_,_,h,_=>by simp at h
 |p::P,w::vs,0,m,nd,h1,h2,hk=>by
  simp at h1 h2;subst h1;subst h2;show bindC kindOf ((p,w)::P.zip vs) m p=_;unfold bindC;rw[qw λv hv=>(KG.mp nd).1 (Oe hv).1,IF hk];simp
 |p::P,w::vs,i+1,m,nd,h1,h2,hk=>by
  show bindC kindOf ((p,w)::P.zip vs) m x=_;unfold bindC;exact pV (i:=i) (KG.mp nd).2 (by simpa using h1) (by simpa using h2) hk
noncomputable def start(N:List Str)(vs:List V):St:=vs.map some++Jw (N.length-vs.length) none
noncomputable def kS(CX:CXT)(P:Program)(w:World)(K:Iy)(mg:Str->Option Value)(base:Heap)(N:List Str)(qual:Str)(scope:Scope)(f:Addr)(cd:Value)(A:Around)(outer:List Env)(s:Shared)(H:Hp)(E:XK):Cx where
 prog:=P
 w:=w
 K:=K
 mg:=mg
 base:=base
 A:=A.deeper (envOfC qual scope s.heap.objs.size f cd)
 N:=N
 s₀:=s
 H₀:=H
 env:=envOfC qual scope s.heap.objs.size f cd
 outer:=outer
 stack:=envOfC qual scope s.heap.objs.size f cd::outer
 ex:=[]
 calm:=true
 fn:=λ_=>true
 pn:=[]
 xe:=λe s'=>wpAny (model P w) (A.deeper (envOfC qual scope s.heap.objs.size f cd)) (leaving (envOfC qual scope s.heap.objs.size f cd) e) (λ_ s''=>CX outer H s E e s'') (λe' s''=>CX outer H s E e' s'') s'
theorem sY{sc:Scope}{n:Nat}{x:Str}(h:sc.names.lookup x=some .cell):∃c,(cellsFrom n sc.names []).lookup x=some c:=by
 have q:=Om sc.names n [] (.inl h);exact Md.mp q
theorem xn{CX:CXT}{P:Program}{w:World}{K:Iy}{mg:Str->Option Value}{base:Heap}{N ps:List Str}{qual:Str}{scope:Scope}{f:Addr}{cd:Value}{A:Around}{outer:List Env}{s s1:Shared}{H:Hp}{E:XK}{us:List Value}{vs:List V}
  (S:jr N ps scope) (hd:A.handled=none) (e0:vO P w K mg base A outer s H) (hl:vs.length=ps.length) (r:Vals vs us)
  (x:InCallC s s.heap.objs.size (bindL (envOfC qual scope s.heap.objs.size f cd).kindOf (ps.zip us) λ_=>none) (cellsFrom (s.heap.objs.size+1) scope.names []) (bindC (envOfC qual scope s.heap.objs.size f cd).kindOf (ps.zip us) λ_=>none) s1) :
  Inv (kS CX P w K mg base N qual scope f cd A outer s H E) [] (start N vs) H s1:=by
 have hpl:ps.length<=N.length:=by have:=Jn MC S.pre;rw[IY]at this;omega
 obtain⟨h1,tk,rfl,hk⟩:=x.done;have noA:∀b:Addr,b∉(kS CX P w K mg base N qual scope f cd A outer s H E).ex:=λb z=>absurd (show b∈([]:List Addr)from z) (by simp);refine⟨⟨e0.mod,S.kind,rfl,rfl,IB _,λy z c h1 h2=>?_,λy hy=>?_,λy c _ h=>?_,λ_=>hd,Around.frames_deeper e0.frames,.inr ⟨rfl,rfl⟩,λb z=>absurd z (noA b),e0.bs,e0.bsz,λb _ _=>noA b,λb z=>absurd z (noA b),e0.il,e0.frf⟩,
  rfl,e0.bare,Un.kept hk,⟨_,x.toInCall.ns,λi y v h1 h2 h3=>?_⟩,λy c h=>⟨_,x.cell y c h⟩,e0.hok.fresh (IB _),λy c h=>?_,λp hp=>absurd (show p∈([]:List (Addr×Obj))from hp) (by simp),e0.hok.kept hk,?_⟩
 ·exact name_of_addr x.apart (JX h1) (JX h2)
 ·have hy:scope.names.lookup y=some .cell\/scope.names.lookup y=some .free:=hy;rcases hy with hy |hy
  ·exact sY hy
  ·exact absurd rfl (S.nofree _ (JX hy))
 ·exact Ka (x.above y c (JX h))
 ·have hi:i<vs.length:=by
   unfold start at h2;by_cases hi:i<vs.length
   ·exact hi
   ·rw[Jd (by simpa using hi)]at h2;rw[Lz]at h2;split at h2<;>cases h2
  have ha:vs[i]?=some v:=by
   unfold start at h2;rw[Jb (by simpa using hi),IU]at h2;cases e:vs[i]? with
   |none=>rw[e]at h2;cases h2
   |some a=>rw[e]at h2;cases h2;rfl
  obtain⟨u,hu,rv⟩:=r.get ha;have hp:ps[i]?=some y:=by
   rw[<-S.pre,List.getElem?_take_of_lt (by omega)];exact h1
  have ndP:ps.Nodup:=by rw[<-S.pre];exact S.nd.sublist (List.take_sublist _ _)
  refine⟨u,rv,?_⟩;rcases S.par y (JG hp)with k |k
  ·exact .inl ⟨k,qk ndP hp hu k⟩
  ·obtain⟨c,e⟩:=sY (n:=s.heap.objs.size+1) k;refine .inr ⟨.inl k,c,e,?_⟩;have q:=x.cell y c e;rw[pV ndP hp hu (by show scope.names.lookup y≠_;rw[k];decide)]at q;exact q
 ·exact e0.hok.fresh (Ka (x.above y c (JX h)))
 ·unfold start;show _=N.length;rw[IH,IA,Oz];omega
theorem GG{CX:CXT}{P:Program}{w:World}{K:Iy}{mg:Str->Option Value}{base:Heap}{k:Nat}{f:Addr}{name qual:Str}{params:Arguments}{body:List Stmt}{scope:Scope}{dV kV doc pm cdv ct oc:Value}{an od:Option Addr}
  {osl:Array (Option Value)} {N ps:List Str} {sp:Sp} (lk:K.lookup f=some ⟨oc,od,.func (LP name qual params body scope dV kV doc pm an cdv ct),osl⟩) (hcd:M8 K cdv qual=true) (S:jr N ps scope)
  (len:∀vs H Q E,sp vs H Q E->vs.length=ps.length)
  (hbody:∀(A:Around)(outer:List Env)(s:Shared)(H:Hp)(vs:List V)(Q:VK)(E:XK),cL k (A.deeper (envOfC qual scope s.heap.objs.size f cdv))->sp vs H Q E ->
   ∃t,PSs (kS CX P w K mg base N qual scope f cdv A outer s H E) body t/\t { nx:=λ_ H'=>Q .non H',rt:=Q } (start N vs) H) :
  dG P w K mg base CX (k+1) f (LP name qual params body scope dV kV doc pm an cdv ct) ps sp:=by
 refine⟨len,λA outer s H args us vs Q E hr e0 hb r hsp=>?_⟩;have hl:=len _ _ _ _ hsp;have KX:K.In s.heap:=e0.mod.kin.keeps λb o e=>(e0.bs b o e).1;have lim:s.heap.NoLimit:=e0.mod.nolimit.keeps λb o e=>(e0.bs b o e).1;have hkind:∀y∈ps.zip us,scope.names.lookup y.1=some .local\/(scope.names.lookup y.1=some .cell/\((cellsFrom (s.heap.objs.size+1) scope.names []).lookup y.1).isSome=true):=λ⟨n,v⟩ hy=>by
  rcases S.par n (Oe hy).1 with q |q
  ·exact .inl q
  ·exact .inr ⟨q,Om _ _ _ (.inl q)⟩
 refine codeAny_call_function hr.depth (KX _ _ lk) rfl S.co S.gen rfl (PySem.W.codeRec_of KX hcd) (hb _ _ _ _ ?_);refine wpAny_newFunctionEnv_cells S.kind hkind λenv he s1 x=>?_;subst he;refine⟨lim.keeps x.toInCall.keep,codeAny_func ?_⟩;obtain⟨t,ht,hq⟩:=hbody A outer s H vs Q E (hr.deeper _) hsp;have I:Inv (kS CX P w K mg base N qual scope f cdv A outer s H E) [] (start N vs) H s1:=xn S hr.hd e0 hl r x;refine JZ (ht [] s1 (start N vs) H _ I hq) (λfl s' hs=>?_) λe s' hs=>hs;have fin:∀{σ':St}{H':Hp}{v:V}{u:Value},Inv (kS CX P w K mg base N qual scope f cdv A outer s H E) [] σ' H' s'->RelV v u->Q v H'->CE outer P w H s Q u s':=
  λ{σ' H' v u} J rv q=>⟨v,H',J.os,J.bare,J.base,J.hok,rv,q⟩
 cases fl with
 |ret u=>
  obtain⟨v,σ',H',J,rv,q⟩:=hs;exact fin J rv q
 |next=>
  obtain⟨σ',H',J,q⟩:=hs;exact fin (v:=V.non) (u:=Value.none) J rfl q
 |brk=>
  obtain⟨_,_,_,q⟩:=hs;exact KR q
 |cont=>
  obtain⟨_,_,_,q⟩:=hs;exact KR q
section
variable{X:Cx}{x:Str}{p pos:Pos}{e:Expr}{es:List Expr}{t:TA}{id T:String}{r:List V->Hp->VK->Prop}
noncomputable def tCB(r:List V->Hp->VK->Prop)(t:TA):TE:=λσ H Q=>t σ H λvs H1=>r vs H1 Q
theorem Aw(hc:bJ X (.builtin id) r)(hg:Gl X x)(hm:X.mg x=none)(hv:bootBuiltins x=some (.builtin id))(ha:PA X (e::es) t)(hn:x≠"__name__":=by decide)(hdb:(x==("__debug__":Str))=false:=by decide)
  (he:starEach (e::es) X.env=(false,eval e X.env)::starEach es X.env:=by rfl) (hpl:(backTo pos (starEach es X.env)).any (·.1)=false:=by rfl):PE X (.Call (.Name x p) (e::es) [] pos) (tCB r t):=by
 intro pins s σ H Q I h;refine Kg (bW I hg hm hv ?_ hn hdb);exact MW (thn (ha pos pins s σ H _ I h) λus s1 ⟨vs,H1,I1,r1,q1⟩=>hc pins s1 σ H1 vs us Q I1 r1 q1) he hpl
theorem yG(hc:bJ X (.type T) r)(hg:Gl X x)(hm:X.mg x=none)(hv:bootBuiltins x=some (.type T))(ha:PA X (e::es) t)(hn:x≠"__name__":=by decide)(hdb:(x==("__debug__":Str))=false:=by decide)
  (he:starEach (e::es) X.env=(false,eval e X.env)::starEach es X.env:=by rfl) (hpl:(backTo pos (starEach es X.env)).any (·.1)=false:=by rfl):PE X (.Call (.Name x p) (e::es) [] pos) (tCB r t):=by
 intro pins s σ H Q I h;refine Kg (bW I hg hm hv ?_ hn hdb);exact Je (thn (ha pos pins s σ H _ I h) λus s1 ⟨vs,H1,I1,r1,q1⟩=>hc pins s1 σ H1 vs us Q I1 r1 q1) he hpl
end
end L2
namespace HT
open PySem PyProof.Rows
section
variable{prog:Program}{w:World}{A:Around}{E:Value->Shared->Prop}{s:Shared}
theorem Cy{t b:Addr}{vs ws:List Value}{Q:Value->Shared->Prop}(ht:IsTup s.heap t vs.toArray)(hb:IsTup s.heap b ws.toArray)(hv:vs≠[])
  (h1:ws=[]->Q (.ref t) s) (h2:ws≠[]->Q (.ref s.heap.objs.size) { s with heap:=s.heap.push { cls:=.type "tuple",data:=.seq (vs++ws).toArray } })
  (hsz:vs.length+ws.length<=sizeLine):wpAny (model prog w) A (binaryOp .Add (.ref t) (.ref b)) Q E s:=by
 obtain⟨⟨cls,dd,data,sl⟩,ho,hc,n,hd⟩:=id ht;obtain⟨⟨cls2,dd2,data2,sl2⟩,ho2,hc2,n2,hd2⟩:=id hb;simp only at hc hd hc2 hd2;subst hc hd hc2 hd2;have e:vs.toArray++ws.toArray=(vs++ws).toArray:=by simp
 by_cases hw:ws=[]
 ·exact O_ ⟨_,ho,rfl⟩ ⟨_,ho2,rfl⟩ NT OV MD Mo (Me _ _)
   (tuple_addW1 t b vs.toArray ws.toArray n n2 dd dd2 sl sl2 (by simpa using hv) (by simp[hw])) ⟨ho,ho2,h1 hw⟩
 ·refine O_ ⟨_,ho,rfl⟩ ⟨_,ho2,rfl⟩ NT OV MD Mo (Me _ _)
   (tuple_addW2 t b vs.toArray ws.toArray n n2 dd dd2 sl sl2 (by simpa using hv) (by simpa using hw) (by rw[IE,IE];exact hsz)) ⟨ho,ho2,?_⟩
  rw[e];exact h2 hw
noncomputable def sIx(n d:Nat):Option Int->Nat
 |none=>d
 |some v=>if v<0 then(v+(n:Int)).toNat else min v.toNat n
theorem gX(n d:Nat):sIx n d none=d:=rfl
theorem jc(n d k:Nat):sIx n d (some (k:Int))=min k n:=by
 show(if(k:Int)<0 then((k:Int)+(n:Int)).toNat else min (k:Int).toNat n)=min k n;rw[IF (by omega),Jh]
theorem Ft(n d:Nat)(hd:d<=n)(o:Option Int):sIx n d o<=n:=by
 cases o with
 |none=>exact hd
 |some v=>
  show(if v<0 then(v+(n:Int)).toNat else min v.toNat n)<=n;by_cases hv:v<0
  ·rw[Iw hv];omega
  ·rw[IF hv];exact Nat.min_le_right _ _
theorem vf(v:Int)(n d:Nat):(if v<0 then max (v+(n:Int)) 0 else min v (n:Int))=((sIx n d (some v):Nat):Int):=by
 show(if v<0 then max (v+(n:Int)) 0 else min v (n:Int))=(((if v<0 then(v+(n:Int)).toNat else min v.toNat n):Nat):Int);by_cases hv:v<0
 ·simp only[Iw hv];omega
 ·simp only[IF hv];omega
theorem wk(lo hi:Option Int)(n:Nat):L9 lo hi 1 (n:Int)=(((sIx n 0 lo:Nat):Int),((sIx n n hi:Nat):Int)):=by
 have h1:¬((1:Int)<0):=by omega
 unfold L9;simp only[h1,Lh];refine Rx ?_ ?_
 ·cases lo with
  |none=>rfl
  |some v=>exact vf v n 0
 ·cases hi with
  |none=>rfl
  |some v=>exact vf v n n
theorem vR(i j:Nat):J7 (i:Int) (j:Int) 1=j-i:=by
 unfold J7;have h1:(1:Int)>0:=by omega
 simp only[h1,Lr,Ry];split<;>omega
theorem oC{v:Value}{o:Option Int}{Q:Option Int->Shared->Prop}(p:IsPart v o)(h:Q o s):wpAny (model prog w) A (Qw v) Q E s:=by
 cases p with
 |none=>exact M9 h
 |int i t=>exact QM h
theorem h8{sl:Addr}{vl vu:Value}{lo hi:Option Int}{n:Nat}{Q:Int×Int×Nat->Shared->Prop}(hs:s.heap.IsSliceOf sl vl vu .none)(pl:IsPart vl lo)(pu:IsPart vu hi)
  (h:Q (((sIx n 0 lo:Nat):Int),1,sIx n n hi-sIx n 0 lo) s):wpAny (model prog w) A (Li (.ref sl) (pure (n:Int))) Q E s:=by
 obtain⟨os,hos,hcs,hds⟩:=id hs;unfold Li NP;refine ar (ar (Ju hos hds (x:=vl) rfl (ar (Ju hos hds (x:=vu) rfl (ar (Ju hos hds (x:=.none) rfl (C0 ?_)))))));refine ar (M9 ?_);show wpAny _ _ (if((1:Int)==0)=true then _ else _) _ _ s;rw[IF (by decide)];refine ar (oC pl (ar (oC pu (ar (C0 ?_)))));show wpAny _ _ (match L9 lo hi 1 (n:Int)with |(lo,hi)=>pure (lo,(1:Int),J7 lo hi 1)) _ _ s;rw[wk lo hi n];show wpAny _ _ (pure (((sIx n 0 lo:Nat):Int),(1:Int),J7 ((sIx n 0 lo:Nat):Int) ((sIx n n hi:Nat):Int) 1)) _ _ s;rw[vR];exact C0 h
theorem Ae(xs:Array Value)(i k:Nat):((IP k).filterMap λ(m:Nat)=>xs[((i:Int)+(m:Int)*1).toNat]?).toArray=((xs.toList.drop i).take k).toArray:=by
 have e:(λ(m:Nat)=>xs[((i:Int)+(m:Int)*1).toNat]?)=λm=>xs[i+m]?:=by
  funext m;have:((i:Int)+(m:Int)*1).toNat=i+m:=by omega
  rw[this]
 rw[e];have:=pick_run xs i k;rw[Pa]at this;have e2:((λx=>xs[x]?)∘λx=>i+x)=λm=>xs[i+m]?:=rfl;rw[e2]at this;rw[this]
theorem mh{t sl:Addr}{items:Array Value}{vl vu:Value}{lo hi:Option Int}{Q:Value->Shared->Prop}(ht:IsTup s.heap t items)(hs:s.heap.IsSliceOf sl vl vu .none)(pl:IsPart vl lo)(pu:IsPart vu hi)
    (hw:¬(sIx items.size 0 lo=0/\sIx items.size items.size hi=items.size))
    (h:Q (.ref s.heap.objs.size) { s with heap:=s.heap.push { cls:=.type "tuple",data:=.seq ((items.toList.drop (sIx items.size 0 lo)).take (sIx items.size items.size hi-sIx items.size 0 lo)).toArray } })
    (hsz:items.size<=sizeLine):wpAny (model prog w) A (getItem (.ref t) (.ref sl)) Q E s:=by
  have htake:sizeOk (.seq ((items.toList.drop (sIx items.size 0 lo)).take (sIx items.size items.size hi-sIx items.size 0 lo)).toArray):=by
    show((items.toList.drop (sIx items.size 0 lo)).take (sIx items.size items.size hi-sIx items.size 0 lo)).toArray.size<=sizeLine;rw[IE,IY,Jc,IC];omega
  have hj:sIx items.size items.size hi<=items.size:=Ft _ _ (IB _) hi;obtain⟨os,hos,hcs,hds⟩:=id hs;have hTs:s.TypeIs (.ref sl) "slice":=⟨os,hos,hcs⟩;unfold getItem
  try with_reducible refine Jl ?_
  first |refine ar (C0 ?_) |skip
  refine ar (NJ ht.typeIs (by decide) ?_);refine ar (Jz (name:=Jo "__getitem__") ht.typeIs Jy
    (JB Jy ht.typeIs M3 ?_ (Nl _ _)))
  show wpAny _ _ (L5 (.ref t)>>=_) _ _ s;refine ar (OW ht ?_);refine ar (J0 hTs ?_);rw[Iw (by decide)];refine ar (h8 hs pl pu ?_);have hno:¬((((sIx items.size 0 lo:Nat):Int)==0&&(1:Int)==1&&(sIx items.size items.size hi-sIx items.size 0 lo)==items.size)=true):=by
    intro q;rw[JR,JR]at q;have q1:((sIx items.size 0 lo:Nat):Int)=0:=eq_of_beq q.1.1;have q2:sIx items.size items.size hi-sIx items.size 0 lo=items.size:=eq_of_beq q.2;exact hw ⟨by omega,by omega⟩
  show wpAny _ _ (if(((sIx items.size 0 lo:Nat):Int)==0&&(1:Int)==1&&(sIx items.size items.size hi-sIx items.size 0 lo)==items.size)=true then _ else _) _ _ s;rw[IF hno,Ae]
  first
    |exact ar (m:=JH _) (Jr (C0 ⟨_,rfl,C0 h⟩) htake)
    |exact ar (m:=JH _) (Jr (ar (C0 (C0 ⟨_,rfl,C0 h⟩))) htake)
    |exact ar (ar (m:=JH _) (Jr (C0 (C0 ⟨_,rfl,C0 h⟩)) htake))
    |exact ar (ar (m:=JH _) (Jr (C0 ⟨_,rfl,C0 h⟩) htake))
end
end HT
namespace L2
open PySem PySem.Spec PyProof.Rows
noncomputable abbrev TO:=St->Hp->(Option Int->Hp->Prop)->Prop
def PO(X:Cx)(e:Option Expr)(t:TO):Prop:=
 ∀(pins:List (Addr×Obj))(s:Shared)(σ:St)(H:Hp)(Q:Option Int->Hp->Prop),Inv X pins σ H s->t σ H Q ->
  wpAny (model X.prog X.w) X.A (evalPart e X.env) (λu s'=>∃o H',Inv X pins σ H' s'/\IsPart u o/\Q o H') X.xe s
noncomputable def Du:TO:=λ_ H Q=>Q none H
noncomputable def Gg(t:TE):TO:=λσ H Q=>t σ H λx H1=>∃i,x=.int i/\Q (some i) H1
theorem intsAre_of{ns:List Int}:∀{us:List Value},Vals (ns.map V.int) us->IntsAre us ns:=by
 induction ns with
 |nil=>intro us r;rw[Mf]at r;cases r;exact .nil
 |cons n ns ih=>
  intro us r;rw[IM]at r;cases r with
  |cons r1 r2=>
   obtain⟨t,e⟩:=r1;subst e;exact .cons n t (ih r2)
section
variable{X:Cx}{e:Expr}{te:TE}{lo hi:Option Expr}{tl th:TO}{pos p2:Pos}
theorem C6:PO X none Du:=by
 intro pins s σ H Q I h;rw[OX];exact C0 ⟨none,H,I,.none,h⟩
theorem Dy(h:PE X e te):PO X (some e) (Gg te):=by
 intro pins s σ H Q I hw;rw[QN];refine thn (h pins s σ H _ I hw) λu s1 ⟨x,H1,I1,r1,q1⟩=>?_;obtain⟨i,rfl,q⟩:=q1;obtain⟨t,rfl⟩:=r1;exact⟨some i,H1,I1,.int i t,q⟩
def SlR(X:Cx)(r:V->Option Int->Option Int->Hp->VK->Prop):Prop:=
 ∀(pins:List (Addr×Obj))(s:Shared)(σ:St)(H:Hp)(x:V)(v vl vu:Value)(lo hi:Option Int)(sl:Addr)(Q:VK),Inv X pins σ H s->RelV x v->s.heap.IsSliceOf sl vl vu .none->IsPart vl lo->IsPart vu hi->r x lo hi H Q ->
  ∃T id,typeLookup (.type T) "__getitem__"=pure (some (.builtin id))/\s.TypeIs v T/\wpAny (model X.prog X.w) X.A (getItem v (.ref sl)) (EP X pins σ Q) X.xe s
noncomputable def tSl(r:V->Option Int->Option Int->Hp->VK->Prop)(te:TE)(tl th:TO):TE:=λσ H Q=>te σ H λx H1=>tl σ H1 λl H2=>th σ H2 λu H3=>r x l u H3 Q
theorem tS{r:V->Option Int->Option Int->Hp->VK->Prop}(hr:SlR X r)(he:PE X e te)(hl:PO X lo tl)(hu:PO X hi th):PE X (.Subscript e (.Slice lo hi none p2) pos) (tSl r te tl th):=by
 intro pins s σ H Q I h;refine OL (thn (he pins s σ H _ I h) λv s1 ⟨x,H1,I1,r1,q1⟩=>?_);refine wpAny_Slice (thn (hl pins s1 σ H1 _ I1 q1) λvl s2 ⟨l,H2,I2,pl,q2⟩=>thn (hu pins s2 σ H2 _ I2 q2) λvu s3 ⟨u,H3,I3,pu,q3⟩=>?_);rw[OX];refine C0 ?_;have I4:Inv X pins σ H3 { s3 with heap:=s3.heap.push { cls:=.type "slice",data:=.fields #[vl,vu,.none] } }:=I3.kept (t':=s3.toks) λb ob q=>gV _ q;obtain⟨T,id,hT,ht,hg⟩:=hr pins { s3 with heap:=s3.heap.push { cls:=.type "slice",data:=.fields #[vl,vu,.none] } } σ H3 x v vl vu l u s3.heap.objs.size Q I4 r1 (Pb ..) pl pu q3;show wpAny (model X.prog X.w) X.A (subscriptTail e (.Slice lo hi none p2) v (.ref s3.heap.objs.size)) (EP X pins σ Q) X.xe { s3 with heap:=s3.heap.push { cls:=.type "slice",data:=.fields #[vl,vu,.none] } };exact tail_any (ops:=[.ref s3.heap.objs.size,v]) ht hT hg (by with_unfolding_all rfl)
noncomputable def gQ(xs:List V)(lo hi:Option Int):List V:=(xs.drop (HT.sIx xs.length 0 lo)).take (HT.sIx xs.length xs.length hi-HT.sIx xs.length 0 lo)
theorem mz(xs:List V)(lo hi:Option Int):(gQ xs lo hi).length<=xs.length:=by
 unfold gQ;rw[IY,Jc];omega
def Ih(K:Iy):V->Option Int->Option Int->Hp->VK->Prop:=λx lo hi H Q=>∃a xs,x=.ref a/\SqT K H a xs /\
 ¬(HT.sIx xs.length 0 lo=0/\HT.sIx xs.length xs.length hi=xs.length)/\∀p,H p=none->Q (.ref p) (upd H p (.tup (gQ xs lo hi)))
theorem DW:SlR X (Ih X.K):=by
 intro pins s σ H x v vl vu lo hi sl Q I rx hs pl pu h;obtain⟨a,xs,rfl,hx,hw,q⟩:=h;cases rx;obtain⟨its,r,ht,hz⟩:=I.tuple hx;have hlen:its.toArray.size=xs.length:=by rw[IE];exact r.length.symm
 refine⟨"tuple",_,Jy.lookup,ht.typeIs,?_⟩;refine HT.mh ht hs pl pu (by rw[hlen];exact hw) ?_ (by rw[hlen];exact hz);rw[hlen];refine⟨.ref s.heap.objs.size,_,I.laid (t':=s.toks) (o:=.tup (gQ xs lo hi)) (λb ob q=>gV _ q) (IB _) ?_,rfl,q _ (I.hok.fresh (IB _))⟩;exact⟨JS (mz xs lo hi) hz,_,(r.drop (HT.sIx xs.length 0 lo)).take (HT.sIx xs.length xs.length hi-HT.sIx xs.length 0 lo),Of _ _⟩
noncomputable def Ha(K:Iy):R2:=λx y H Q=>∃a b xs ys,x=.ref a/\y=.ref b/\SqT K H a xs/\SqT K H b ys/\xs≠[]/\xs.length+ys.length<=sizeLine /\
 (ys=[]->Q (.ref a) H)/\(ys≠[]->∀p,H p=none->Q (.ref p) (upd H p (.tup (xs++ys))))
theorem Vals.lY{xs:List V}{us:List Value}(r:Vals xs us):us=[]↔xs=[]:=by
 cases r with
 |nil=>simp
 |cons _ _=>simp
theorem Dh:OpR X (binaryOp .Add) (Ha X.K):=by
 intro pins s σ H x y v u Q I rx ry h;obtain⟨a,b,xs,ys,rfl,rfl,ha,hb,hx,hz,q1,q2⟩:=h;cases rx;cases ry;obtain⟨its,r1,p1,_⟩:=I.tuple ha;obtain⟨its2,r2,p2,_⟩:=I.tuple hb;refine HT.Cy p1 p2 (λz=>hx (r1.lY.mp z)) (λz=>⟨.ref a,H,I,rfl,q1 (r2.lY.mp z)⟩) (λz=>?_) (by rw[<-r1.length,<-r2.length];exact hz);refine⟨.ref s.heap.objs.size,_,I.laid (t':=s.toks) (o:=.tup (xs++ys)) (λb ob q=>gV _ q) (IB _) ?_,rfl,q2 (λw=>z (r2.lY.mpr w)) _ (I.hok.fresh (IB _))⟩;exact⟨by rw[IH];exact hz,_,r1.append r2,Of _ _⟩
end
noncomputable def ixN(n:Nat)(i:Int):Option Nat:=if 0<=i then(if i<n then some i.toNat else none)else if -(n:Int)<=i then some (i+n).toNat else none
noncomputable def atI{α:Type}(xs:List α)(i:Int):Option α:=(ixN xs.length i).bind λj=>xs[j]?
theorem uM{n:Nat}{i:Int}{j:Nat}(h:ixN n i=some j):seqIndex? i n=some j/\j<n/\-(n:Int)<=i/\i<n:=by
 unfold ixN at h;by_cases h0:0<=i
 ·rw[Iw h0]at h;by_cases h1:i<n
  ·rw[Iw h1]at h;have e:i.toNat=j:=Jj h;exact⟨by rw[PL h0 h1,e],by omega,by omega,h1⟩
  ·rw[IF h1]at h;cases h
 ·rw[IF h0]at h;by_cases h1:-(n:Int)<=i
  ·rw[Iw h1]at h;have e:(i+n).toNat=j:=Jj h;exact⟨by rw[Pc (by omega) h1,e],by omega,h1,by omega⟩
  ·rw[IF h1]at h;cases h
theorem ve{α:Type}{xs:List α}{i:Int}{v:α}(h:atI xs i=some v):∃j,seqIndex? i xs.length=some j/\xs[j]?=some v/\j<xs.length/\-(xs.length:Int)<=i/\i<xs.length:=by
 unfold atI at h;cases e:ixN xs.length i with
 |none=>rw[e]at h;cases h
 |some j=>
  rw[e]at h;obtain⟨h1,h2,h3,h4⟩:=uM e;exact⟨j,h1,h,h2,h3,h4⟩
theorem jA{α:Type}(xs:List α)(v:α):atI (xs++[v]) (-1)=some v:=by
 have hl:(xs++[v]).length=xs.length+1:=by simp
 have e:ixN (xs++[v]).length (-1)=some xs.length:=by
  unfold ixN;rw[hl,IF (by decide),Iw (by omega)];congr 1;omega
 unfold atI;rw[e];show(xs++[v])[xs.length]?=some v;simp
def vx(b:Expr):Prop:=∀o i,subscripted b false o i=operate [o,i] (getItem o i)
def IxR(X:Cx)(r:R2):Prop:=
 ∀(value slice:Expr)(pins:List (Addr×Obj))(s:Shared)(σ:St)(H:Hp)(x y:V)(v u:Value)(Q:VK),Inv X pins σ H s->RelV x v->RelV y u->r x y H Q ->
  subscripted slice false v u=operate [v,u] (getItem v u)->wpAny (model X.prog X.w) X.A (subscriptTail value slice v u) (EP X pins σ Q) X.xe s
section
variable{X:Cx}{a b:Expr}{ta tb:TE}{pos:Pos}
theorem FZ{r:R2}(hr:IxR X r)(ha:PE X a ta)(hb:PE X b tb)(hs:vx b):PE X (.Subscript a b pos) (tOp r ta tb):=by
 intro pins s σ H Q I h;exact OL (Ay ha hb I h λv u s2 x y H2 I2 rx ry q=>hr a b pins s2 σ H2 x y v u Q I2 rx ry q (hs _ _))
noncomputable def HP(K:Iy):R2:=λx y H Q=>∃p xs i v,x=.ref p/\y=.int i/\SqL K H p xs/\atI xs i=some v/\Q v H
noncomputable def HB(K:Iy):R2:=λx y H Q=>∃p xs i v,x=.ref p/\y=.int i/\SqT K H p xs/\atI xs i=some v/\Q v H
theorem CS:IxR X (HP X.K):=by
 intro value slice pins s σ H x y v u Q I rx ry h hs;obtain⟨p,xs,i,z,rfl,rfl,hq,he,q⟩:=h;cases rx;obtain⟨t,rfl⟩:=ry;obtain⟨its,r,pl,hz⟩:=I.list hq;obtain⟨j,h1,h2,h3,h4,h5⟩:=ve he;obtain⟨w,ew,rw'⟩:=r.get h2;have hl:=r.length;have hn:=kM;have fin:EP X pins σ Q w s:=⟨z,H,I,rw',q⟩;by_cases h0:0<=i
 ·have hj:i.toNat=j:=by
   rw[PL h0 h5]at h1;exact Jj h1
  exact item_listR pl.isList h0 (by omega) (by rw[hj];simpa using ew) fin hs
 ·have hj:(i+(its.toArray.size:Int)).toNat=j:=by
   rw[Pc (by omega) h4]at h1;rw[IE,<-hl];exact Jj h1
  exact Oo (x:=w) pl.isList.typeIs PB.lookup
   (wpAny_getItem_list_neg (Q:=λr s'=>r=w/\EP X pins σ Q r s') pl.isList (by omega) (by rw[IE]<;>omega) (by omega) (by rw[hj];simpa using ew) ⟨rfl,fin⟩) hs
theorem Fw:IxR X (HB X.K):=by
 intro value slice pins s σ H x y v u Q I rx ry h hs;obtain⟨p,xs,i,z,rfl,rfl,hq,he,q⟩:=h;cases rx;obtain⟨t,rfl⟩:=ry;obtain⟨its,r,pl,hz⟩:=I.tuple hq;obtain⟨j,h1,h2,h3,h4,h5⟩:=ve he;obtain⟨w,ew,rw'⟩:=r.get h2;have hl:=r.length;have hn:=kM;have fin:EP X pins σ Q w s:=⟨z,H,I,rw',q⟩;exact Oo (x:=w) pl.typeIs slot_tuple_getitem.lookup
  (getItem_tuple (j:=j) (Q:=λr s'=>r=w/\EP X pins σ Q r s') pl (by omega) (by omega) (by rw[IE,<-hl];exact h1) (by simpa using ew) ⟨rfl,fin⟩) hs
theorem wN(its:List Value)(n j:Nat)(u:Value):KO (·.setIfInBounds j u) { cls:=.type "list",data:=.seq its.toArray n }={ cls:=.type "list",data:=.seq (its.set j u).toArray n }:=by
 simp[KO]
theorem Inv.lst{pins:List (Addr×Obj)}{σ:St}{H:Hp}{s:Shared}{p:Addr}{xs:List V}(I:Inv X pins σ H s)(h:H p=some (.lst xs)) :
  ∃(its:List Value)(n:Nat),Vals xs its/\s.heap.get? p=some { cls:=.type "list",data:=.seq its.toArray n }/\xs.length<=sizeLine:=by
 obtain⟨z,its,n,r,e⟩:=I.hok p _ h;exact⟨its,n,r,e,z⟩
theorem Inv.FT{pins:List (Addr×Obj)}{σ:St}{H:Hp}{s:Shared}{p:Addr}{xs ys:List V}{its its':List Value}{n n':Nat}{f:Obj->Obj}(I:Inv X pins σ H s)(h:H p=some (.lst xs))
  (ho:s.heap.get? p=some { cls:=.type "list",data:=.seq its.toArray n }) (hf:f { cls:=.type "list",data:=.seq its.toArray n }={ cls:=.type "list",data:=.seq its'.toArray n' }) (r:Vals ys its') (hz:ys.length<=sizeLine) (t:Nat) :
  Inv X pins σ (upd H p (.lst ys)) { s with heap:=s.heap.update p f,toks:=t }:=by
 have e:(s.heap.update p f).get? p=some { cls:=.type "list",data:=.seq its'.toArray n' }:=by
  rw[LR f ho (by rw[hf]<;>rfl),hf]
 refine I.write (x:=p) (e:=p) (by rw[h];trivial) (.inl rfl) (λb u hb q=>(Oq _ _ (KJ hb)).trans q) ⟨_,e⟩ ?_;exact⟨hz,its',n',r,e⟩
def wK:V->V->V->Hp->(Hp->Prop)->Prop:=λo i v H Q=>∃p xs k j,o=.ref p/\i=.int k/\H p=some (.lst xs)/\ixN xs.length k=some j/\Q (upd H p (.lst (xs.set j v)))
theorem set_list:wj X wK:=by
 intro pins s σ H o i v ov iv u Q I ro ri rv h;obtain⟨p,xs,k,j,rfl,rfl,hp,hj,q⟩:=h;cases ro;obtain⟨t,rfl⟩:=ri;obtain⟨its,n,r,ho,hz⟩:=I.lst hp;obtain⟨h1,h2,h3,h4⟩:=uM hj;have hl:=r.length;have hn:=kM;have I':Inv X pins σ (upd H p (.lst (xs.set j v))) { s with heap:=s.heap.update p (KO (·.setIfInBounds j u)) }:=
  I.FT hp ho (wN its n j u) (r.set rv j) (by rw[KH];exact hz) s.toks
 by_cases h0:0<=k
 ·have hk:k.toNat=j:=by
   rw[PL h0 h4]at h1;exact Jj h1
  exact PySem.W.ki_setAt ho h0 (by omega) (by rw[IE,<-hl];exact h4) (by rw[hk];exact⟨_,I',q⟩)
 ·have hk:(k+(its.toArray.size:Int)).toNat=j:=by
   rw[Pc (by omega) h3]at h1;rw[IE,<-hl];exact Jj h1
  exact PySem.W.ki_setBack ho (by omega) (by rw[IE,<-hl];exact h3) (by omega) (by rw[hk];exact⟨_,I',q⟩)
theorem sW(lo hi:Option Int)(n:Nat):(sliceBounds lo hi none n).1=((HT.sIx n 0 lo:Nat):Int)/\(sliceBounds lo hi none n).2.1=((HT.sIx n n hi:Nat):Int)/\(sliceBounds lo hi none n).2.2=1:=by
 refine⟨?_,?_,rfl⟩
 ·cases lo with
  |none=>simp[sliceBounds,HT.sIx]
  |some i=>
   simp only[sliceBounds,HT.sIx,PX,show(1:Int)>0 by decide,Lr];by_cases h:i<0
   ·simp only[h,Lr]<;>omega
   ·simp only[h,Lh]<;>omega
 ·cases hi with
  |none=>simp[sliceBounds,HT.sIx]
  |some i=>
   simp only[sliceBounds,HT.sIx,PX,show(1:Int)>0 by decide,Lr];by_cases h:i<0
   ·simp only[h,Lr]<;>omega
   ·simp only[h,Lh]<;>omega
theorem qQ(its:List Value)(lo hi:Option Int):slicePick its.toArray lo hi none=((its.drop (HT.sIx its.length 0 lo)).take (HT.sIx its.length its.length hi-HT.sIx its.length 0 lo)).toArray:=by
 obtain⟨h1,h2,h3⟩:=sW lo hi its.toArray.size;unfold slicePick;rw[h1,h2,h3];simp only[sliceRange_one,pick_run,IE]<;>rfl
def HK(K:Iy):V->Option Int->Option Int->Hp->VK->Prop:=λx lo hi H Q=>∃a xs,x=.ref a/\SqL K H a xs/\∀p,H p=none->Q (.ref p) (upd H p (.lst (gQ xs lo hi)))
theorem uT:SlR X (HK X.K):=by
 intro pins s σ H x v vl vu lo hi sl Q I rx hs pl pu h;obtain⟨a,xs,rfl,hx,q⟩:=h;cases rx;obtain⟨its,r,ht,hz⟩:=I.list hx;have hlen:=r.length;refine⟨"list",_,PB.lookup,ht.isList.typeIs,?_⟩;refine wpAny_getItem_list_slice ht.isList hs pl pu .none (by simp) ?_ (by rw[IE]<;>omega);rw[qQ,<-hlen];refine⟨.ref s.heap.objs.size,_,I.laid (t':=s.toks) (o:=.lst (gQ xs lo hi)) (λb ob q=>gV _ q) (IB _) ?_,rfl,q _ (I.hok.fresh (IB _))⟩;exact⟨JS (mz xs lo hi) hz,_,0,(r.drop (HT.sIx xs.length 0 lo)).take (HT.sIx xs.length xs.length hi-HT.sIx xs.length 0 lo),IG _ rfl⟩
noncomputable def ez:V->Bool
 | .non=>true
 | .bl _=>true
 | .int _=>true
 | .str _=>true
 |_=>false
noncomputable def eqV:V->V->Bool
 | .non,.non=>true
 | .bl a,.bl b=>a==b
 | .bl a,.int b=>(if a then 1 else 0)==b
 | .int a,.bl b=>a==(if b then 1 else 0)
 | .int a,.int b=>a==b
 | .str a,.str b=>a==b
 |_,_=>false
theorem kU{A:Around}{s:Shared}{y x:V}{u v:Value}(ry:RelV y u)(rx:RelV x v)(fy:ez y=true)(fx:ez x=true):Ml A s u v (eqV y x):=by
 cases y with
 |non=>
  cases ry;cases x with
  |non=>cases rx;exact Og _
  |bl b=>cases rx;exact R8 b
  |int b=>obtain⟨t,rfl⟩:=rx;exact Sl b t
  |str b=>obtain⟨t,rfl⟩:=rx;exact Sm b t
  |_=>exact absurd (show false=true from fx) IS
 |bl a=>
  cases ry;cases x with
  |non=>cases rx;exact R9 a
  |bl b=>cases rx;exact R_ a b
  |int b=>obtain⟨t,rfl⟩:=rx;exact Sn a b t
  |str b=>obtain⟨t,rfl⟩:=rx;exact So a b t
  |_=>exact absurd (show false=true from fx) IS
 |int a=>
  obtain⟨t',rfl⟩:=ry;cases x with
  |non=>cases rx;exact Sr a t'
  |bl b=>cases rx;exact Ss a t' b
  |int b=>obtain⟨t,rfl⟩:=rx;exact SD a t' b t
  |str b=>obtain⟨t,rfl⟩:=rx;exact O6 a t' b t
  |_=>exact absurd (show false=true from fx) IS
 |str a=>
  obtain⟨t',rfl⟩:=ry;cases x with
  |non=>cases rx;exact Su a t'
  |bl b=>cases rx;exact Sv a t' b
  |int b=>obtain⟨t,rfl⟩:=rx;exact O7 a t' b t
  |str b=>obtain⟨t,rfl⟩:=rx;exact SE a t' b t
  |_=>exact absurd (show false=true from fx) IS
 |_=>exact absurd (show false=true from fy) IS
noncomputable def eqU(x:V)(u:Value):Bool:=match u with
 | .none=>eqV .non x
 | .bool b=>eqV (.bl b) x
 | .int i _=>eqV (.int i) x
 | .str z _=>eqV (.str z) x
 |_=>false
theorem zr{x y:V}{u:Value}(r:RelV y u)(f:ez y=true):eqU x u=eqV y x:=by
 cases y with
 |non=>cases r;rfl
 |bl b=>cases r;rfl
 |int i=>obtain⟨t,rfl⟩:=r;rfl
 |str z=>obtain⟨t,rfl⟩:=r;rfl
 |_=>exact absurd (show false=true from f) IS
theorem i8{x:V}:∀{xs:List V}{us:List Value},Vals xs us->xs.all ez=true->us.any (eqU x)=xs.any λy=>eqV y x
 |_,_,.nil,_=>rfl
 |y::xs,u::us,.cons r t,f=>by
  rw[Lj,JR]at f;rw[K1,K1,zr r f.1,i8 t f.2]
theorem h_{A:Around}{s:Shared}{x:V}{v:Value}(rx:RelV x v)(fx:ez x=true):∀{xs:List V}{us:List Value},Vals xs us->xs.all ez=true->∀u∈us,Ml A s u v (eqU x u)
 |_,_,.nil,_=>λu hu=>by cases hu
 |y::xs,u::us,.cons r t,f=>λu' hu=>by
  rw[Lj,JR]at f;rcases IL.mp hu with rfl |hu
  ·rw[zr r f.1];exact kU r rx f.1 fx
  ·exact h_ rx fx t f.2 u' hu
noncomputable def inV(x:V)(xs:List V):Bool:=xs.any λy=>eqV y x
noncomputable def rIn(K:Iy)(neg:Bool):R2:=λx y H Q=>∃p xs,y=.ref p/\(SqL K H p xs\/SqT K H p xs)/\ez x=true/\xs.all ez=true/\Q (.bl (if neg then !inV x xs else inV x xs)) H
theorem qp:OpR X (compareOp .In) (rIn X.K false):=by
 intro pins s σ H x y v u Q I rx ry h;obtain⟨p,xs,rfl,hq,fx,fs,q⟩:=h;cases ry;rcases hq with hq |hq
 ·obtain⟨its,r,pl,hz⟩:=I.list hq;refine Qa (eqU x) pl.isList (λw hw=>h_ rx fx r fs w (by simpa using hw)) ⟨.bl _,H,I,rfl,?_⟩;rw[show its.toArray.any (eqU x)=its.any (eqU x) by simp,i8 r fs];exact q
 ·obtain⟨its,r,pl,hz⟩:=I.tuple hq;refine SeqAt.in_tupleAt (eqU x) pl (λw hw=>h_ rx fx r fs w (by simpa using hw)) ⟨.bl _,H,I,rfl,?_⟩;rw[show its.toArray.any (eqU x)=its.any (eqU x) by simp,i8 r fs];exact q
theorem kW:OpR X (compareOp .NotIn) (rIn X.K true):=by
 intro pins s σ H x y v u Q I rx ry h;obtain⟨p,xs,rfl,hq,fx,fs,q⟩:=h;cases ry;rcases hq with hq |hq
 ·obtain⟨its,r,pl,hz⟩:=I.list hq;refine Pe (eqU x) pl.isList (λw hw=>h_ rx fx r fs w (by simpa using hw)) ⟨.bl _,H,I,rfl,?_⟩;rw[show its.toArray.any (eqU x)=its.any (eqU x) by simp,i8 r fs];exact q
 ·obtain⟨its,r,pl,hz⟩:=I.tuple hq;refine SeqAt.notIn_tupleAt (eqU x) pl (λw hw=>h_ rx fx r fs w (by simpa using hw)) ⟨.bl _,H,I,rfl,?_⟩;rw[show its.toArray.any (eqU x)=its.any (eqU x) by simp,i8 r fs];exact q
theorem bJ.or{f:Value}{r r':List V->Hp->VK->Prop}(h:bJ X f r)(h':bJ X f r'):bJ X f (λxs H Q=>r xs H Q\/r' xs H Q):=by
 intro pins s σ H xs us Q I rs q;rcases q with q |q
 ·exact h pins s σ H xs us Q I rs q
 ·exact h' pins s σ H xs us Q I rs q
theorem lh:bJ X (.type "list") (λxs H Q=>∃p ys,xs=[.ref p]/\(SqL X.K H p ys\/SqT X.K H p ys)/\∀l,H l=none->Q (.ref l) (upd H l (.lst ys))):=by
 intro pins s σ H xs us Q I r h;obtain⟨p,ys,rfl,hq,q⟩:=h;obtain⟨u,rfl,rx⟩:=vals1 r;cases rx;have fin:∀(its:List Value),Vals ys its->ys.length<=sizeLine->∀(h':Heap)(c':Nat),(∀b o',s.heap.get? b=some o'->h'.get? b=some o') ->
   h'.get? s.heap.objs.size=some { cls:=.type "list",dict:=none,data:=.seq its.toArray c',slots:=#[] }->EP X pins σ Q (.ref s.heap.objs.size) { s with heap:=h' }:=λits r' hz h' c' kp e=>
  ⟨.ref s.heap.objs.size,_,I.laid (t':=s.toks) kp (IB _) (show bz X.prog X.w _ h' _ (.lst ys)from⟨hz,its,c',r',e⟩),rfl,q _ (I.hok.fresh (IB _))⟩
 rcases hq with hq |hq
 ·obtain⟨its,r',pl,hz⟩:=I.list hq;have hlen:=r'.length;obtain⟨o,ho,hc,n,hd⟩:=pl.isList;exact QO p (.inl rfl) ho hc hd (λh' c' kp e=>fin its r' hz h' c' kp e) (by simp only[IE]<;>omega)
 ·obtain⟨its,r',pl,hz⟩:=I.tuple hq;have hlen:=r'.length;obtain⟨o,ho,hc,n,hd⟩:=pl;exact QO p (.inr rfl) ho hc hd (λh' c' kp e=>fin its r' hz h' c' kp e) (by simp only[IE]<;>omega)
theorem km:bJ X (.type "tuple") (λxs H Q=>∃p ys,xs=[.ref p]/\((SqL X.K H p ys/\∀l,H l=none->Q (.ref l) (upd H l (.tup ys)))\/(SqT X.K H p ys/\Q (.ref p) H))):=by
 intro pins s σ H xs us Q I r h;obtain⟨p,ys,rfl,h⟩:=h;obtain⟨u,rfl,rx⟩:=vals1 r;cases rx;rcases h with⟨hq,q⟩ |⟨hq,q⟩
 ·obtain⟨its,r',pl,hz⟩:=I.list hq;have hlen:=r'.length;refine call_tuple_list pl.isList (λh' kp=>?_) (by simp only[IE]<;>omega);have I1:Inv X pins σ H { s with heap:=h' }:=I.kept (t':=s.toks) kp;have I2:Inv X pins σ (upd H h'.objs.size (.tup ys)) { s with heap:=h'.push { cls:=.type "tuple",data:=.seq its.toArray } }:=
   I1.laid (t':=s.toks) (λb o e=>gV _ e) (IB _) (show bz X.prog X.w _ _ _ (.tup ys)from⟨hz,its,r',Of _ _⟩)
  exact⟨.ref h'.objs.size,_,I2,rfl,q _ (I1.hok.fresh (IB _))⟩
 ·obtain⟨its,r',pl,hz⟩:=I.tuple hq;exact call_tuple_same pl ⟨.ref p,H,I,rfl,q⟩
def tyV(K:Iy)(T:String)(x:V)(H:Hp):Prop:=match x with
 | .str _=>T="str"
 | .int _=>T="int"
 | .ref p=>(T="list"/\∃xs,SqL K H p xs)\/(T="tuple"/\∃o,K.lookup p=some o/\o.cls=.type "tuple"/\o.dict=none) \/
   (T="dict"/\((∃kvs,H p=some (.dK kvs))\/∃kvs,H p=some (.dT kvs)))\/(T="set"/\∃S n,H p=some (.set S n))
 |_=>False
theorem xP{pins:List (Addr×Obj)}{σ:St}{H:Hp}{s:Shared}{T:String}{x:V}{v:Value}(I:Inv X pins σ H s)(r:RelV x v)(ty:tyV X.K T x H) :
  s.TypeIs v T/\∀a,v=.ref a->∃ob,s.heap.get? a=some ob/\ob.dict=none:=by
 cases x with
 |str z=>
  obtain⟨t,rfl⟩:=r;cases(show T="str"from ty);exact⟨typeIs_str s z t,λ_ e=>nomatch e⟩
 |int i=>
  obtain⟨t,rfl⟩:=r;cases(show T="int"from ty);exact⟨typeIs_int s i t,λ_ e=>nomatch e⟩
 |ref p=>
  cases r;rcases ty with⟨rfl,xs,hq⟩ |⟨rfl,o,hk,hc,hd⟩ |⟨rfl,hk⟩ |⟨rfl,S,n,hk⟩
  ·obtain⟨its,_,pl,_⟩:=I.list hq;refine⟨pl.isList.typeIs,λa e=>?_⟩;cases e;obtain⟨o,n,e,c,hd,_⟩:=pl;exact⟨o,e,hd⟩
  ·refine⟨⟨o,I.kIn p o hk,hc⟩,λa e=>?_⟩;cases e;exact⟨o,I.kIn _ o hk,hd⟩
  ·have z:∃o,s.heap.get? p=some o/\o.ExactDict:=by
    rcases hk with⟨kvs,hk⟩ |⟨kvs,hk⟩
    ·obtain⟨_,_,_,_,o,_,_,e,ex,_⟩:=I.hok p _ hk;exact⟨o,e,ex⟩
    ·obtain⟨_,_,_,_,o,_,_,e,ex,_⟩:=I.hok p _ hk;exact⟨o,e,ex⟩
   obtain⟨o,e,ex⟩:=z;refine⟨⟨o,e,ex.1⟩,λa e2=>?_⟩;cases e2;exact⟨o,e,ex.2.1⟩
  ·obtain⟨o,_,_,_,e,ex,_⟩:=I.hok p _ hk;refine⟨⟨o,e,ex.1⟩,λa e2=>?_⟩;cases e2;exact⟨o,e,ex.2.1⟩
 |_=>exact KR ty
variable{o e:Expr}{es:List Expr}{to:TE}{t:TA}{name:Str}{apos cpos:Pos}{T id:String}{r:V->List V->Hp->VK->Prop}
end
def MtM(X:Cx)(id:String)(r:V->List V->Hp->VK->Prop):Prop:=
 ∀(pins:List (Addr×Obj))(s:Shared)(σ:St)(H:Hp)(x:V)(xs:List V)(v:Value)(us:List Value)(Q:VK),Inv X pins σ H s->RelV x v->Vals xs us->r x xs H Q ->
  wpAny (model X.prog X.w) X.A (call (.builtin id) (v::us)) (EP X pins σ Q) X.xe s
theorem Vals.one{x:V}{us:List Value}(h:Vals [x] us):∃u,us=[u]/\RelV x u:=by
 cases h with
 |cons r t=>cases t;exact⟨_,rfl,r⟩
theorem Vals.two{x y:V}{us:List Value}(h:Vals [x,y] us):∃u v,us=[u,v]/\RelV x u/\RelV y v:=by
 cases h with
 |cons r t=>obtain⟨u,rfl,q⟩:=Vals.one t;exact⟨_,_,rfl,r,q⟩
theorem Vals.eraseIdx:∀{xs:List V}{us:List Value}(i:Nat),Vals xs us->Vals (xs.eraseIdx i) (us.eraseIdx i)
 |_,_,_,.nil=>.nil
 |_,_,0,.cons _ t=>t
 |_,_,i+1,.cons r t=>.cons r (Vals.eraseIdx i t)
theorem Vals.reverse{xs:List V}{us:List Value}(h:Vals xs us):Vals xs.reverse us.reverse:=by
 induction h with
 |nil=>exact .nil
 |cons r t ih=>rw[Mt,Mt];exact Vals.append ih (.cons r .nil)
theorem qf{α:Type}:∀(l:List α)(i:Nat),(l.eraseIdx i).length<=l.length
 | [],_=>IB _
 |_::_,0=>L7 _
 |_::r,i+1=>Nat.succ_le_succ (qf r i)
section
variable{X:Cx}{pins:List (Addr×Obj)}{σ:St}{H:Hp}{s:Shared}{l b:Addr}{xs ys zs:List V}
theorem Inv.vP{its its':List Value}{n:Nat}{f:Array Value->Array Value}{t':Nat}(I:Inv X pins σ H s)(hH:H l=some (.lst xs))
  (e:s.heap.get? l=some { cls:=.type "list",data:=.seq its.toArray n }) (hf:f its.toArray=its'.toArray) (hv:Vals ys its') (hz:ys.length<=sizeLine) :
  Inv X pins σ (upd H l (.lst ys)) { s with heap:=s.heap.update l (KO f),toks:=t' }:=by
 have q:=PySem.IsL.update e f;rw[hf]at q;refine I.write (x:=l) (e:=l) (by rw[hH];exact trivial) (.inl rfl) (λb' u hb hu=>(Oq s.heap (KO f) (KJ hb)).trans hu) ⟨_,q⟩ ?_;exact⟨hz,its',_,hv,q⟩
theorem Inv.Ig{its:List Value}{t':Nat}(I:Inv X pins σ H s)(hv:Vals ys its)(hz:ys.length<=sizeLine) :
  Inv X pins σ (upd H s.heap.objs.size (.lst ys)) { s with heap:=s.heap.push { cls:=.type "list",data:=.seq its.toArray },toks:=t' }:=
 I.laid (λ_ _ q=>gV _ q) (IB _) ⟨hz,its,0,hv,IG _ rfl⟩
theorem Inv.fresh(I:Inv X pins σ H s):H s.heap.objs.size=none:=I.hok.fresh (IB _)
theorem Inv.mO(I:Inv X pins σ H s)(hH:H l=some (.lst xs)):xs.length<=sizeLine/\∃(its:List Value)(n:Nat),Vals xs its/\xs.length=its.length/\s.heap.get? l=some { cls:=.type "list",data:=.seq its.toArray n }:=by
 obtain⟨z,its,n,r,e⟩:=I.hok l _ hH;exact⟨z,its,n,r,r.length,e⟩
theorem sS{n:Nat}(h:n<=sizeLine):Lu n=false:=by
 unfold Lu;exact IW (by omega)
end
section
variable{X:Cx}
def Cq:V->List V->Hp->VK->Prop:=λx vs H Q=>∃l xs y,x=.ref l/\vs=[y]/\H l=some (.lst xs)/\xs.length<sizeLine/\Q .non (upd H l (.lst (xs++[y])))
theorem pX:MtM X "list.append" Cq:=by
 intro pins s σ H x vs v us Q I rx rv h;obtain⟨l,xs,y,rfl,rfl,hH,hz,q⟩:=h;cases rx;obtain⟨u,rfl,ru⟩:=rv.one;obtain⟨z,its,n,r,hl,e⟩:=I.mO hH;refine OM F.slot_list_append ⟨_,e,rfl⟩ F.entry_list_append (F.args_list_append_2 _ _) (PySem.list_append l its.toArray n u (by rw[IE];omega)) ⟨e,?_⟩;refine⟨.non,_,I.vP (its':=its++[u]) hH e (by simp) (r.append (.cons ru .nil)) ?_,rfl,q⟩;rw[IH,Ji];omega
def vw:V->List V->Hp->VK->Prop:=λx vs H Q=>∃l b xs zs,x=.ref l/\vs=[.ref b]/\H l=some (.lst xs)/\H b=some (.lst zs)/\xs.length+zs.length<=sizeLine/\Q .non (upd H l (.lst (xs++zs)))
theorem zC:MtM X "list.extend" vw:=by
 intro pins s σ H x vs v us Q I rx rv h;obtain⟨l,b,xs,zs,rfl,rfl,hH,hB,hz,q⟩:=h;cases rx;obtain⟨u,rfl,ru⟩:=rv.one;cases ru;obtain⟨z,its,n,r,hl,e⟩:=I.mO hH;obtain⟨z2,its2,n2,r2,hl2,e2⟩:=I.mO hB;have hsz:its.toArray.size+its2.toArray.size<=sizeLine:=by rw[IE,IE];omega
 have hlong:¬(!its.toArray.isEmpty&&Lu (its.toArray.size+its2.toArray.size))=true:=by
  rw[sS hsz,Qx];exact IS
 refine OM Pf ⟨_,e,rfl⟩ O1 (ON _ _)
  (AutoSeq1.list_extend_list_list_0 l its.toArray n b its2.toArray n2 hlong (by rw[IE];omega) (by omega)) ⟨e,e2,?_⟩
 refine⟨.non,_,I.vP (its':=its++its2) hH e (by simp) (r.append r2) ?_,rfl,q⟩;rw[IH];omega
def zE:V->List V->Hp->VK->Prop:=λx vs H Q=>∃l xs i k y,x=.ref l/\vs=[.int i]/\H l=some (.lst xs)/\-(2 ^ 63)<=i/\i<2 ^ 63/\seqIndex? i xs.length=some k/\xs[k]?=some y/\Q y (upd H l (.lst (xs.eraseIdx k)))
theorem Ax:MtM X "list.pop" zE:=by
 intro pins s σ H x vs v us Q I rx rv h;obtain⟨l,xs,i,k,y,rfl,rfl,hH,h1,h2,hk,hy,q⟩:=h;cases rx;obtain⟨u,rfl,ru⟩:=rv.one;obtain⟨t,rfl⟩:=ru;obtain⟨z,its,n,r,hl,e⟩:=I.mO hH;obtain⟨w,hw,rw'⟩:=r.get hy;refine OM F.slot_list_pop ⟨_,e,rfl⟩ F.entry_list_pop (F.args_list_pop_2 _ _)
  (MeetsSeq.list_pop_at l its.toArray n i t k w (fitsIndex_both h1 h2) (by rw[IE,<-hl];exact hk) (by rw[<-Kr];exact hw) (by rw[IE];omega)) ⟨e,?_⟩
 refine⟨y,_,I.vP (its':=its.eraseIdx k) hH e ?_ (r.eraseIdx k) ?_,rw',q⟩
 ·show its.toArray.eraseIdxIfInBounds k=(its.eraseIdx k).toArray;rw[List.eraseIdxIfInBounds_toArray]
 ·have:=qf xs k;omega
noncomputable def HL:R2:=λx y H Q=>∃l b xs zs,x=.ref l/\y=.ref b/\H l=some (.lst xs)/\H b=some (.lst zs)/\xs.length+zs.length<=sizeLine/\∀p,H p=none->Q (.ref p) (upd H p (.lst (xs++zs)))
theorem E9:OpR X (binaryOp .Add) HL:=by
 intro pins s σ H x y v u Q I rx ry h;obtain⟨l,b,xs,zs,rfl,rfl,hH,hB,hz,q⟩:=h;cases rx;cases ry;obtain⟨z,its,n,r,hl,e⟩:=I.mO hH;obtain⟨z2,its2,n2,r2,hl2,e2⟩:=I.mO hB;refine PySem.P.add_list e e2 ?_ (by rw[IE,IE];omega);have ea:its.toArray++its2.toArray=(its++its2).toArray:=by simp
 rw[ea];exact⟨.ref _,_,I.Ig (t':=s.toks) (r.append r2) (by rw[IH];omega),rfl,q _ I.fresh⟩
end
end L2
namespace Att
open PySem PySem.W PySem.Calls PyProof.Rows
theorem nk{P:Params}{h:Heap}:∀(ns:List Int)(vs:List Value),WellAll P h vs (ns.map WData.int)->IntsAre vs ns:=by
 intro ns
 induction ns with
 |nil=>
  intro vs w;rw[Mf]at w;cases w;exact .nil
 |cons n ns ih=>
  intro vs w;rw[IM]at w;cases w with
  |cons a b=>
   cases a;exact .cons _ _ (ih _ b)
theorem yC{l:OpenLaw}{n:Nat}(hn:l.most=some n){P:Params}{h:Heap}{args:List WData}{vals:List Value}
    (hpre:l.row.toRowW.claim.pre args=true) (hwl:WellAll P h vals args) :
    ∃a vs ns,vals=[Value.ref a]/\args=[WData.list (ns.map WData.int)]/\h.get? a=some { cls:=.type "list",data:=.seq vs.toArray }/\IntsAre vs ns/\ns.length<=n:=by
  have hsh:WShape.hasAll [] args [.list .int]=true:=(pre_splitW hpre).1;have hc:l.pre.holds [] { args:=args }=true:=(pre_splitW hpre).2;obtain⟨d,r,rfl,h1,h2⟩:=hasAllW_cons hsh;obtain rfl:=hasAllW_nil h2;obtain⟨xs,rfl,h3⟩:=hasW_list h1;obtain⟨ns,rfl⟩:=items_int h3;have hlen:ns.length<=n:=by
    unfold OpenLaw.pre at hc;have h4:(WTm.not (.lt (.lit (.int (n:Int))) (.len (.arg 0)))).holds [] { args:=[.list (ns.map .int)] }=true:=by
      have h4:=(holds_andW hc).1;rw[hn]at h4;exact h4
    have h5:=condW_of h4 (w_not (w_lt w_lit (w_len_list (w_arg rfl))));rw[IA]at h5;refine NU λq=>?_;have q':(n:Int)<((ns.length:Nat):Int):=by omega
    first
      |(rw[IV q']at h5;exact absurd h5 (by decide))
      |(simp at h5;omega)
  cases hwl with
  |cons w1 w2=>
    cases w2;cases w1 with
    |list ho hall=>exact⟨_,_,ns,rfl,rfl,ho,nk ns _ hall,hlen⟩
theorem yx(l:OpenLaw)(args:List WData):l.row.toRowW.claim.post args (.bool true) args=true:=
 postW_of (r:=l.row.toRowW) (X:=(true==true))
  (show Sa [] (.bool true) .bool=true by first |rfl |decide |simp[Sa,WShape.arms,WShape.armsAll])
  (show(WTm.eq .res (.lit (.bool true))).value [] { args:=args,res:=some (.bool true),after:=args }=some (.bool (true==true))from w_eq_bool (w_res rfl) w_lit) rfl
theorem ue{l:OpenLaw}{n:Nat}{q:Program}{loose:List Str}{XP:(Str->Option Value)->Heap->Prop}{YP:World->Heap->Prop}{d:DefRec}
  (hn:l.most=some n) (hdf:d.params.defaults=[])
  (call:∀(w:World)(s₀ s₁:Shared)(mg mb:Str->Option Value)(fa:Addr)(o:Obj)(pm cd doc:Value)(a:Addr)(vs:List Value)(ns:List Int),
   Ground q loose [] XP w s₀ mg mb s₁.heap->YP w s₁.heap ->
   s₁.heap.get? fa=some o->o.data=.func (docDef d.name d.params d.body d.scope pm cd doc)->s₁.heap.CodeRec cd d.name->mg d.name=some (.ref fa) ->
   s₁.heap.get? a=some { cls:=.type "list",data:=.seq vs.toArray }->IntsAre vs ns->ns.length<=n->s₁.gens=#[] ->
   codeAny (model l.prog w) callerA (.call (.ref fa) ⟨[.ref a],[]⟩) (λr s'=>r=.ok (.ret (.bool true))/\OldK s₁.heap s'.heap/\s'.os=s₁.os/\AllBare s'.gens) s₁) :
  WalkO q loose XP YP l.row.toRowW d [] (λf vs=>Qb f vs):=by
 intro w s₀ s₁ mg mb G Y fa o pm cd doc dV kV ho hd hcd hD hmg hg args vals as hpre hlay hrd hwl hlo;obtain rfl:dV=.none:=Dflts.none hD hdf;obtain rfl:kV=.none:=Dflts.noKw hD;obtain⟨a,vs,ns,rfl,rfl,hobj,hints,hlen⟩:=yC hn hpre hwl;refine enter_call (MV (call w s₀ s₁ mg mb fa o pm cd doc a vs ns G Y ho (fd_plain hd) hcd hmg hobj hints hlen hg) λr s' hq=>?_);obtain⟨rfl,h2,h3,h4⟩:=hq;exact⟨.inl ⟨.bool true,.bool true,[],rfl,λ_=>rfl,.bool true,yx l _,λ_=>⟨List.Pairwise.nil,λ_ hm=>(nomatch hm)⟩⟩,h2,h3,h4⟩
end Att
namespace L2
open PySem PySem.Spec PyProof.Rows
theorem eO:∀{vs:List Value}{ns:List Int},IntsAre vs ns->Vals (ns.map V.int) vs
 |_,_,.nil=>.nil
 |_,_,.cons n t h=>.cons ⟨t,rfl⟩ (eO h)
def Az(H:Hp):Prop:=∀b,H b=none\/∃o xs,H b=some (.frz o (.lst xs))
theorem zR{P:Program}{w:World}{K:Iy}{mg mb:Str->Option Value}{CX:CXT}{k:Nat}{fa a:Addr}{fd:FuncData}{x:Str}{sp:Sp}{s₁:Shared}{vs:List Value}{ns:List Int}
  (KX:K.In s₁.heap) (hns:s₁.heap.Ns mainGlobals mg) (hb:s₁.heap.Ns builtinsNs mb) (hbb:∀x:Str,x≠"__name__"->mb x=bootBuiltins x) (hlim:s₁.heap.NoLimit) (hg:s₁.gens=#[])
  (ha:s₁.heap.get? a=some { cls:=.type "list",data:=.seq vs.toArray }) (hi:IntsAre vs ns) (hl:ns.length<=sizeLine) (hr:cL k callerA)
  (F:∀base:Heap,K.In base->base.Ns mainGlobals mg->dG P w K mg base CX k fa fd [x] sp) (hbind:∀(s:Shared)(u:Value),BindsTo s fd ⟨[u],[]⟩ [(x,u)])
  (hsp:∀H:Hp,Az H->SqL K H a (ns.map V.int)->sp [.ref a] H (λv _=>v=.bl true) λ_ _ _=>False)
  (hCX:∀H e s',CX [] H s₁ (λ_ _ _=>False) e s'->False) :
  codeAny (model P w) callerA (.call (.ref fa) ⟨[.ref a],[]⟩) (λr s'=>r=.ok (.ret (.bool true))/\OldK s₁.heap s'.heap/\s'.os=s₁.os/\AllBare s'.gens) s₁:=by
 have rv:=eO hi;have lenV:=hi.length;have core:∀H:Hp,Az H->SqL K H a (ns.map V.int)->HOk P w H s₁.heap->(∀b,H b≠none->b=a)->(H a≠none->K.lookup a=none) ->
   codeAny (model P w) callerA (.call (.ref fa) ⟨[.ref a],[]⟩) (λr s'=>r=.ok (.ret (.bool true))/\OldK s₁.heap s'.heap/\s'.os=s₁.os/\AllBare s'.gens) s₁:=by
  intro H hO hS hok hA hK;have base_of:∀{b:Addr}{o:Obj},s₁.heap.get? b=some o->H b=none->(jX s₁.heap H).get? b=some o:=λe n=>A6 e n;have noA:∀{b:Addr}{o:Obj}{es:Array DictEntry}{ep:Nat},s₁.heap.get? b=some o->o.data=.dict es ep->H b=none:=λ{b o es ep} e d=>by
   cases q:H b with
   |none=>rfl
   |some u=>
    have e':b=a:=hA b (by rw[q];simp);subst e';rw[ha]at e;cases e;have d':Data.seq vs.toArray _=Data.dict es ep:=d;cases d'
  have nsK:∀{b:Addr}{m:Str->Option Value},s₁.heap.Ns b m->(jX s₁.heap H).Ns b m:=λ{b m} ⟨o,es,ep,e,d,r⟩=>⟨o,es,ep,base_of e (noA e d),d,r⟩;have hKb:K.In (jX s₁.heap H):=λb o e=>base_of (KX b o e) (by
   cases q:H b with
   |none=>rfl
   |some u=>
    have e':b=a:=hA b (by rw[q];simp);subst e';rw[hK (by rw[q];simp)]at e;cases e)
  have hM:Mod K mg (jX s₁.heap H):=⟨hKb,nsK hns,⟨mb,nsK hb,hbb⟩,let⟨mc,h1,h2⟩:=hlim;⟨mc,nsK h1,h2⟩⟩;have e0:vO P w K mg (jX s₁.heap H) callerA [] s₁ H:=⟨rfl,hM,λb o e=>Ci e,K_ (yS _ _),trivial,λb hb=>absurd (show b∈([]:List Addr)from hb) (by simp),hok,.of_eq hg⟩;refine MV ((F _ hKb (nsK hns)).run callerA [] s₁ H ⟨[.ref a],[]⟩ [.ref a] [.ref a] _ _ hr e0 (hbind s₁ (.ref a)) (.cons rfl .nil) (hsp H hO hS)) λr s' h=>?_;cases r with
  |error e=>exact(hCX H e s' h).elim
  |ok fl=>
   cases fl with
   |next=>exact KR h
   |brk=>exact KR h
   |cont=>exact KR h
   |ret u=>
    obtain⟨v,H',os,bare,un,hok',r',q⟩:=h;have q':v=.bl true:=q;subst q';obtain rfl:u=Value.bool true:=r';refine⟨rfl,OldK.of_keep λb o e=>?_,os,bare⟩;cases q:H b with
    |none=>exact un.keep b o e q (by intro z;exact absurd (show b∈([]:List Addr)from z) (by simp)) (by simp)
    |some u=>
     rcases hO b with z |⟨ob,xs,z⟩
     ·rw[q]at z;cases z
     ·have z2:=un.frzs b ob _ z;obtain⟨e1,_⟩:=hok b _ z;obtain⟨e2,_⟩:=hok' b _ z2;rw[e]at e1;cases e1;exact e2
 cases hk:K.lookup a with
 |some o=>
  have e:=KX a o hk;rw[ha]at e;cases e;refine core (λ_=>none) (λ_=>.inl rfl) (.inr ⟨_,vs.toArray,_,hk,rfl,rfl,rfl,by rw[IE,lenV];exact hl,by simpa using rv⟩) (λb u z=>by have z':(none:Option HO)=some u:=z;cases z') (λb z=>absurd rfl z) λz=>absurd rfl z
 |none=>
  refine core (λb=>if b=a then some (.frz { cls:=.type "list",data:=.seq vs.toArray } (.lst (ns.map V.int)))else none) (λb=>?_) (.inl (.inr ⟨{ cls:=.type "list",data:=.seq vs.toArray },Iw rfl⟩)) (λb u z=>?_) (λb z=>?_) λ_=>hk
  ·by_cases hb:b=a
   ·exact .inr ⟨_,_,Iw hb⟩
   ·exact .inl (IF hb)
  ·by_cases hb:b=a
   ·have z':=(Iw hb).symm.trans z;cases z';subst hb;exact⟨ha,by rw[IA];exact hl,vs,_,rv,ha⟩
   ·have z':=(IF hb).symm.trans z;cases z'
  ·by_cases hb:b=a
   ·exact hb
   ·exact absurd (IF hb) z
theorem C9{l:PySem.W.OpenLaw}{n k:Nat}{q:Program}{loose:List Str}{XP:(Str->Option Value)->Heap->Prop}{YP:World->Heap->Prop}{d:DefRec}{K:Params->Iy}{CX:World->CXT}{sp:World->Sp}{x:Str}
  (hn:l.most=some n) (hn2:n<=sizeLine) (hdf:d.params.defaults=[]) (hr:cL k callerA)
  (hY:∀(w:World)(h:Heap),YP w h->(K w.params).In h)
  (F:∀(w:World)(mg:Str->Option Value)(fa:Addr)(h:Heap),(K w.params).In h->h.Ns mainGlobals mg->mg d.name=some (.ref fa) ->
   ∃fd:FuncData,(∀(s:Shared)(u:Value),BindsTo s fd ⟨[u],[]⟩ [(x,u)]) /\
    ∀base:Heap,(K w.params).In base->base.Ns mainGlobals mg->dG l.prog w (K w.params) mg base (CX w) k fa fd [x] (sp w))
  (hsp:∀(w:World)(H:Hp)(a:Addr)(ns:List Int),ns.length<=n->Az H->SqL (K w.params) H a (ns.map V.int)->sp w [.ref a] H (λv _=>v=.bl true) λ_ _ _=>False)
  (hCX:∀(w:World)(H:Hp)(s:Shared)(e:Value)(s':Shared),CX w [] H s (λ_ _ _=>False) e s'->False) :
  QP q loose XP YP l.row.toRowW d [] (λf vs=>Qb f vs):=by
 refine Att.ue hn hdf λw s₀ s₁ mg mb fa o pm cd doc a vs ns G Y ho hd hcd hmg hobj hints hlen hg=>?_;have KX:=hY w _ Y;obtain⟨fd,hb,hF⟩:=F w mg fa _ KX G.T.g hmg;exact zR KX G.T.g G.T.b G.T.builtins G.T.nolimit hg hobj hints (JS hlen hn2) hr hF hb (λH hO hS=>hsp w H a ns hlen hO hS) λH e s'=>hCX w H s₁ e s'
noncomputable def ji(s:Stmt):Arguments:=match s with
 | .FunctionDef _ a _ _ _ _ _ _ _ _=>a
 |_=>{ posonlyargs:=[],args:=[],vararg:=none,kwonlyargs:=[],kw_defaults:=[],kwarg:=none,defaults:=[] }
noncomputable def eQ(s:Stmt):List Stmt:=match s with
 | .FunctionDef _ _ b _ _ _ _ _ _ _=>b
 |_=>[]
noncomputable def bN(s:Stmt):Scope:=match s with
 | .FunctionDef _ _ _ _ _ _ sc _ _ _=>sc
 |_=>{ kind:=.function,names:=[],isGenerator:=false,isCoroutine:=false }
noncomputable abbrev CX0:CXT:=λ_ _ _ _ _ _=>False
noncomputable abbrev E0:XK:=λ_ _ _=>False
theorem BH{X:Cx}:Passes CX0 X E0:=λ_ _ _ _ _ _ _ h=>h.elim
structure Fun(K:Iy)(x qual:Str)(st:Stmt)(f:Addr)(fd:FuncData):Prop where
 ex:∃(oc:Value)(od:Option Addr)(kV doc pm:Value)(an:Option Addr)(cdv ct:Value)(osl:Array (Option Value)),
  fd=LP x qual (ji st) (eQ st) (bN st) .none kV doc pm an cdv ct/\K.lookup f=some ⟨oc,od,.func fd,osl⟩/\M8 K cdv qual=true
 kp:LO K (.ref f)=true
section
variable{P:Program}{w:World}{K:Iy}{mg:Str->Option Value}{base:Heap}
theorem Fun.ok{x qual:Str}{st:Stmt}{f:Addr}{fd:FuncData}{N ps:List Str}{k:Nat}{sp:Sp}(F:Fun K x qual st f fd)(S:jr N ps (bN st))(len:∀vs H Q E,sp vs H Q E->vs.length=ps.length)
  (hbody:∀(cdv:Value)(A:Around)(outer:List Env)(s:Shared)(H:Hp)(vs:List V)(Q:VK)(E:XK),cL k (A.deeper (envOfC qual (bN st) s.heap.objs.size f cdv))->sp vs H Q E ->
   ∃t,PSs (kS CX0 P w K mg base N qual (bN st) f cdv A outer s H E).nox (eQ st) t/\t { nx:=λ_ H'=>Q .non H',rt:=Q } (start N vs) H):dG P w K mg base CX0 (k+1) f fd ps sp:=by
 obtain⟨oc,od,kV,doc,pm,an,cdv,ct,osl,rfl,lk,hcd⟩:=F.ex;refine GG lk hcd S len λA outer s H vs Q E hr hsp=>?_;obtain⟨t,h,q⟩:=hbody cdv A outer s H vs Q E hr hsp;exact⟨t,h.nox,q⟩
theorem Fe{x qual:Str}{st:Stmt}{f:Addr}{oc:Value}{od an:Option Addr}{osl:Array (Option Value)}{kV doc pm cdv ct:Value}(l:K.lookup f=some ⟨oc,od,.func (LP x qual (ji st) (eQ st) (bN st) .none kV doc pm an cdv ct),osl⟩)
  (c:M8 K cdv qual=true) (k:LO K (.ref f)=true):Fun K x qual st f (LP x qual (ji st) (eQ st) (bN st) .none kV doc pm an cdv ct):=⟨⟨oc,od,kV,doc,pm,an,cdv,ct,osl,rfl,l,c⟩,k⟩
end
theorem dF{n:Nat}(h:n<=1000):n<sizeLine:=Pg h (by decide)
def dw(H H':Hp):Prop:=∀b o,H b=some o->H' b=some o
noncomputable def fM(env:Env):List (Str×NameKind)->List (Str×Addr)->List (Str×Addr)
 | [],acc=>acc
 |(n,k)::r,acc=>fM env r (if k == .free then(n,(env.cells.lookup n).getD 0)::acc else acc)
theorem oz(h:∀y∈scope.names,y.2=.free->∃c,env.cells.lookup y.1=some c):closureFor scope env=pure (fM env scope.names []):=by
 have all:∀(l:List (Str×NameKind))(acc:List (Str×Addr)),(∀y∈l,y.2=.free->∃c,env.cells.lookup y.1=some c) ->
   (forIn l acc λ(x:Str×NameKind)(r:List (Str×Addr))=>match x with
    |(name,kind)=>if(kind==NameKind.free)=true then(do let a<-cellOf env name;pure (ForInStep.yield ((name,a)::r)))else pure (ForInStep.yield r):Sem (List (Str×Addr)))=pure (fM env l acc):=by
  intro l
  induction l with
  |nil=>intro acc _;rfl
  |cons y r ih=>
   intro acc hl;obtain⟨n,k⟩:=y;have hr:∀y∈r,y.2=.free->∃c,env.cells.lookup y.1=some c:=λy hy=>hl y (Jp _ hy);rw[Lf];by_cases hk:k=.free
   ·subst hk;obtain⟨c,hc⟩:=hl _ JK rfl;have e:cellOf env n=pure c:=by unfold cellOf;rw[show env.cells.lookup n=some c from hc]
    simp only[beq_self_eq_true,Lr,e,pure_bind];rw[ih _ hr];simp only[fM,beq_self_eq_true,Lr,show env.cells.lookup n=some c from hc,Option.getD_some]
   ·have hb:(k==NameKind.free)=false:=by simpa using hk
    simp only[hb,J1,Lh,pure_bind];rw[ih _ hr];simp only[fM,hb,J1,Lh]
 have q:=all scope.names [] h;unfold closureFor;simp only[bind_pure]at q ⊢;exact q
theorem tE:∀{l:List (Str×NameKind)}{acc:List (Str×Addr)}{x:Str}{c:Addr},(∀y∈l,y.2=.free->∃c,env.cells.lookup y.1=some c) ->
  (∀x c,(x,c)∈acc->env.cells.lookup x=some c)->(x,c)∈fM env l acc->env.cells.lookup x=some c
 | [],_,_,_,_,ha,h=>ha _ _ h
 |(n,k)::r,acc,x,c,hl,ha,h=>by
  refine tE (l:=r) (λy hy=>hl y (Jp _ hy)) (λx c hm=>?_) h;by_cases hk:(k==NameKind.free)=true
  ·rw[Iw hk]at hm;rcases IL.mp hm with e |e
   ·cases e;obtain⟨c',hc⟩:=hl _ JK (by simpa using hk);have hc':env.cells.lookup n=some c':=hc;rw[hc'];rfl
   ·exact ha _ _ e
  ·rw[IF hk]at hm;exact ha _ _ hm
theorem dI(hl:∀y∈l,y.2=.free->∃c,env.cells.lookup y.1=some c)(h:(fM env l []).lookup x=some c):env.cells.lookup x=some c:=
 tE hl (λ_ _ z=>absurd z (by simp)) (JX h)
theorem m9:∀{l:List (Str×NameKind)}{acc:List (Str×Addr)}{x:Str},((x,NameKind.free)∈l\/∃c,(x,c)∈acc)->∃c,(x,c)∈fM env l acc
 | [],_,_,h=>h.elim (λz=>absurd z (by simp)) λz=>z
 |(n,k)::r,acc,x,h=>by
  refine m9 (l:=r) ?_;rcases h with h |⟨c,h⟩
  ·rcases IL.mp h with e |e
   ·cases e;exact .inr ⟨_,by rw[Iw (by simp)];exact JK⟩
   ·exact .inl e
  ·by_cases hk:(k==NameKind.free)=true
   ·exact .inr ⟨c,by rw[Iw hk];exact Jp _ h⟩
   ·exact .inr ⟨c,by rw[IF hk];exact h⟩
theorem dZ:∀{l:List (Str×β)}{x:Str}{c:β},(x,c)∈l->∃c',l.lookup x=some c'
 | [],_,_,h=>nomatch h
 |(n,d)::r,x,c,h=>by
  rw[JI];cases e:x==n with
  |true=>exact⟨d,rfl⟩
  |false=>
   rcases IL.mp h with q |q
   ·cases q;simp at e
   ·exact dZ q
noncomputable def cx(X:Cx)(scope:Scope)(N:List Str)(C:Addr)(s:Shared)(H:Hp)(fp:List Addr):Cx:=
 { X with N:=N,s₀:=s,H₀:=H,env:=compEnvC scope (fM X.env scope.names []) C X.env,outer:=X.stack,ex:=fp,fn:=λ_=>false,pn:=[],xe:=λ_ _=>False }
structure fE(esc scope:Scope)(EN N:List Str)(k:Nat):Prop where
 kind:scope.kind=.function
 nocell:∀y∈scope.names,y.2≠.cell
 names:∀y∈scope.names,y.2=.local->scope.names.lookup y.1=some .local
 frees:∀y∈scope.names,y.2=.free->esc.names.lookup y.1=some .cell\/esc.names.lookup y.1=some .free
 len:N.length=k+EN.length
 nm:(((N.drop k).zip EN).all λp=>(decide (p.1=p.2)&&decide (scope.names.lookup p.1=some .free))||decide (scope.names.lookup p.1=none))=true
theorem cA{scope:Scope}{env:Env}{x:Str}{k:NameKind}:∀{l:List (Str×NameKind)},
  (l.map λ(n,k)=>if(k==NameKind.free&&env.scope.kind == .function&&env.kindOf n==some .cell)then(n,NameKind.cell)else(n,k)).lookup x=some k ->
  l.lookup x=some k\/(l.lookup x=some .free/\k=.cell/\env.kindOf x=some .cell)
 | [],h=>by simp at h
 |(n,k')::r,h=>by
  have ih:=@cA scope env x k r;cases hx:x==n with
  |true=>
   have e:x=n:=by simpa using hx
   subst e;by_cases hc:(k'==NameKind.free&&env.scope.kind == .function&&env.kindOf x==some .cell)=true
   ·simp only[IM,Iw hc,JI,hx]at h;cases h;have hc2:(k'=.free/\env.scope.kind=.function)/\env.kindOf x=some .cell:=by simpa using hc
    exact .inr ⟨by simp[JI,hc2.1.1],rfl,hc2.2⟩
   ·simp only[IM,IF hc,JI,hx]at h;exact .inl (by simpa[JI]using h)
  |false=>
   have h':(r.map λ(n,k)=>if(k==NameKind.free&&env.scope.kind == .function&&env.kindOf n==some .cell)then(n,NameKind.cell)else(n,k)).lookup x=some k:=by
    by_cases hc:(k'==NameKind.free&&env.scope.kind == .function&&env.kindOf n==some .cell)=true
    ·simpa only[IM,Iw hc,JI,hx]using h
    ·simpa only[IM,IF hc,JI,hx]using h
   rw[JI,hx];exact ih h'
theorem kQ{scope:Scope}{env:Env}{x:Str}:∀{l:List (Str×NameKind)},l.lookup x=some .free ->
  (l.map λ(n,k)=>if(k==NameKind.free&&env.scope.kind == .function&&env.kindOf n==some .cell)then(n,NameKind.cell)else(n,k)).lookup x=some .cell \/
  (l.map λ(n,k)=>if(k==NameKind.free&&env.scope.kind == .function&&env.kindOf n==some .cell)then(n,NameKind.cell)else(n,k)).lookup x=some .free
 | [],h=>by simp at h
 |(n,k')::r,h=>by
  have ih:=@kQ scope env x r;cases hx:x==n with
  |true=>
   by_cases hc:(k'==NameKind.free&&env.scope.kind == .function&&env.kindOf n==some .cell)=true
   ·exact .inl (by simp only[IM,Iw hc,JI,hx])
   ·refine .inr ?_;simp only[IM,IF hc,JI,hx];simpa only[JI,hx]using h
  |false=>
   have h':r.lookup x=some .free:=by simpa only[JI,hx]using h
   by_cases hc:(k'==NameKind.free&&env.scope.kind == .function&&env.kindOf n==some .cell)=true
   ·simpa only[IM,Iw hc,JI,hx]using ih h'
   ·simpa only[IM,IF hc,JI,hx]using ih h'
section
variable{X:Cx}{pins:List (Addr×Obj)}{σ:St}{H:Hp}{s:Shared}{scope:Scope}{N:List Str}{k:Nat}{fp:List Addr}
theorem fE.cells(S:fE X.env.scope scope X.N N k)(ok:X.Ok):∀y∈scope.names,y.2=.free->∃c,X.env.cells.lookup y.1=some c:=λy hy hf=>ok.has y.1 (S.frees y hy hf)
theorem Inv.CQ{h4:Heap}(I:Inv X pins σ H s)(S:fE X.env.scope scope X.N N k)(hf:∀b∈fp,eC X pins H b)(hlt:∀b∈fp,b<s.heap.objs.size)(hn:h4.Ns s.heap.objs.size λ_=>none)(hk:∀b o,s.heap.get? b=some o->h4.get? b=some o) :
  Inv (cx X scope N s.heap.objs.size s H fp) [] (Jw k none++σ) H { s with heap:=h4,toks:=tk }:=by
 have hcells:=S.cells I.ok;have noA:∀p:Addr×Obj,p∈(cx X scope N s.heap.objs.size s H fp).pn++[]->False:=λp hp=>absurd (show p∈([]:List (Addr×Obj))from hp) (by simp);refine⟨⟨I.ok.mod,S.kind,I.ok.glob,I.ok.blt,IB _,λy z c h1 h2=>?_,λy hy=>?_,λy c h=>?_,I.ok.hd,I.ok.frames,.inl rfl,λb hb=>?_,I.bs,JS I.ok.bsz I.sz,λb o e hb=>?_,λb hb hz=>?_,I.stack,I.uV⟩,
  rfl,I.bare,Un.kept hk,⟨_,hn,λi y v h1 h2 h3=>?_⟩,λy c h=>?_,I.hok.fresh (IB _),λy c h=>?_,λp hp=>(noA p hp).elim,I.hok.kept hk,?_⟩
 ·exact I.ok.inj y z c (dI hcells h1) (dI hcells h2)
 ·have hy:(relabel scope X.env).names.lookup y=some .cell\/(relabel scope X.env).names.lookup y=some .free:=hy;have hfree:scope.names.lookup y=some .free:=by
   rcases hy with q |q
   ·rcases cA (scope:=scope) q with q |⟨q,_⟩
    ·exact absurd rfl (S.nocell _ (JX q))
    ·exact q
   ·rcases cA (scope:=scope) q with q |⟨q,z,_⟩
    ·exact q
    ·cases z
  obtain⟨c,hc⟩:=m9 (env:=X.env) (l:=scope.names) (acc:=[]) (.inl (JX hfree));exact dZ hc
 ·exact absurd h (by show¬(false=true);decide)
 ·obtain⟨f0,f1,f2,f3,f4,f5⟩:=hf b hb;exact⟨IZ (hlt b hb),λx c h=>f4 x c (dI hcells h)⟩
 ·obtain⟨f0,f1,f2,f3,f4,f5⟩:=hf b hb;rcases f3 with q |q
  ·exact I.ok.noex b o e q
  ·exact absurd (I_ (ID (I.ok.bs b o e).1) q) (JJ _)
 ·obtain⟨f0,f1,f2,f3,f4,f5⟩:=hf b hb;rcases IL.mp (I.n_ b hz)with z |z
  ·exact f1 z
  ·exact f2 z
 ·
  have hi:k<=i:=by
   refine NU λq=>?_;rw[Jb (by simpa using q),Lz]at h2;split at h2<;>cases h2
  obtain⟨j,rfl⟩:=Nat.exists_eq_add_of_le hi;have h2':σ[j]?=some (some v):=by
   rw[Jd (by simp)]at h2;simpa using h2
  have hy:(relabel scope X.env).names.lookup y=some .local\/(relabel scope X.env).names.lookup y=some .cell\/(relabel scope X.env).names.lookup y=some .free:=h3;have hjn:j<X.N.length:=by
   have:=(IJ.mp h2').1;rw[I.len]at this;exact this
  have hyn:N[k+j]?=some y:=h1;have hnm:=K5.mp S.nm (y,X.N[j]) (by
   refine MP.mpr ⟨j,?_⟩;rw[NQ];exact⟨by rw[Ph];exact hyn,by simp[hjn]⟩)
  have hvis:scope.names.lookup y≠none:=by
   rcases hy with q |q |q
   ·rcases cA (scope:=scope) q with q |⟨q,_⟩<;>rw[q]<;>simp
   ·rcases cA (scope:=scope) q with q |⟨q,_⟩<;>rw[q]<;>simp
   ·rcases cA (scope:=scope) q with q |⟨q,_⟩<;>rw[q]<;>simp
  have hnm2:y=X.N[j]/\scope.names.lookup y=some .free:=by
   rcases(L_ _ _).mp hnm with q |q
   ·exact⟨J9 ((JR _ _).mp q).1,J9 ((JR _ _).mp q).2⟩
   ·exact absurd (J9 q) hvis
  obtain⟨hyj,hfree⟩:=hnm2;have hk2:=S.frees _ (JX hfree) rfl;have hvis2:Vis X.env.scope y:=.inr hk2;obtain⟨m,hm,hl⟩:=I.loc;obtain⟨u,ru,lk⟩:=hl j y v (by rw[hyj];simp[hjn]) h2' hvis2;refine⟨u,ru,?_⟩;rcases lk with⟨q,_⟩ |⟨_,c,hc,hcell⟩
  ·rcases hk2 with z |z
   ·exact absurd (q.symm.trans (show X.env.kindOf y=some .cell from z)) (by simp)
   ·exact absurd (q.symm.trans (show X.env.kindOf y=some .free from z)) (by simp)
  ·refine .inr ⟨kQ (scope:=scope) hfree,c,?_,hcell.keeps hk⟩;obtain⟨c',hc'⟩:=m9 (env:=X.env) (l:=scope.names) (acc:=[]) (.inl (JX hfree));obtain⟨c2,hc2⟩:=dZ hc';have q:=dI hcells hc2;rw[hc]at q;cases q;exact hc2
 ·obtain⟨v,q⟩:=I.cell y c (dI hcells h);exact⟨v,q.keeps hk⟩
 ·exact I.freeC y c (dI hcells h)
 ·show(Jw k none++σ).length=N.length;rw[IH,Oz,S.len,I.len]
end
section
variable{prog:Program}{w:World}{A:Around}{R:Result->Shared->Prop}{s:Shared}
theorem jh{R:Value->Shared->Prop}:∀(x:Value)(s':Shared),False->notedBy (model prog w) A env R x s':=λ_ _ h=>h.elim
theorem sU(I:Nat->Shared->Prop)
  (turn:∀n s,I n s->wpAny (model prog w) A (pyNext it) (λr s₁=>match r with
   |none=>R (.ok .next) s₁
   |some v=>wpAny (model prog w) A (letOwnedTupleGo target it v) (λ_ s₁'=>wpAny (model prog w) A (assign target env v) (λ_ s₂=>
     wpAny (model prog w) A (forIn ifs true λc r=>if r=true then do let ok<-isTrue c env (eval c env);pure (ForInStep.yield ok)else pure (ForInStep.yield r)) (λok s₃=>
      if ok=true then wpAny (model prog w) A (eval elt env) (λx s₄=>
       wpAny (model prog w) A (call (.builtin "list.append") [acc,x]) (λ_ s₅=>∃m,m<n/\I m s₅) (λ_ _=>False) s₄) (notedBy (model prog w) A env λx s'=>R (.error x) s') s₃
      else∃m,m<n/\I m s₃) (λ_ _=>False) s₂) (λ_ _=>False) s₁') (λ_ _=>False) s₁) (λ_ _=>False) s)
  (n:Nat) (h:I n s) :
  codeAny (model prog w) A (.compLoop (.ListComp elt [⟨target,iter,ifs,0⟩] scope pos) 0 it acc env) R s:=by
 refine codeAny_loop rfl I (λn s hI=>?_) n h;show wpAny _ A ((compTurn (.ListComp elt [⟨target,iter,ifs,0⟩] scope pos) 0 it acc env).onRaise (λx=>do noteFrame x env;theTreesLotGoes x)) _ _ s;refine wpAny_noted ?_;rw[compTurn_list];refine ar (QK (ar (JZ (turn n s hI) (λr s₁ h₁=>?_) jh)));cases r with
 |none=>exact C0 h₁
 |some v=>
  refine ar (JZ h₁ (λ_ s₁' h₁'=>?_) jh);refine ar (JZ h₁' (λ_ s₂ h₂=>ar (JZ h₂ (λok s₃ h₃=>?_) jh)) jh);cases ok with
  |false=>exact C0 ⟨rfl,h₃⟩
  |true=>
   exact ar (ar (JZ h₃ (λx s₄ h₄=>ar (JZ h₄ (λ_ s₅ h₅=>C0 (C0 ⟨rfl,h₅⟩)) jh)) λ_ _ q=>q))
end
def PTs(X:Cx)(ifs:List Expr)(t:TT):Prop:=
 ∀(pins:List (Addr×Obj))(s:Shared)(σ:St)(H:Hp)(Q:Bool->Hp->Prop),Inv X pins σ H s->t σ H Q ->
  wpAny (model X.prog X.w) X.A (forIn ifs true λc r=>if r=true then do let ok<-isTrue c X.env (eval c X.env);pure (ForInStep.yield ok)else pure (ForInStep.yield r)) (TP X pins σ Q) X.xe s
noncomputable def HV:TT:=λ_ H Q=>Q true H
theorem Cm:PTs X [] HV:=λ_ _ _ H _ I h=>wpAny_tests_nil ⟨H,I,h⟩
theorem CW(h:PT X c t):PTs X [c] t:=λpins s σ H Q I q=>wpAny_tests_one (h pins s σ H Q I q)
def LCW(J:It)(g:TG)(tt:TT)(te:TE)(k:Nat)(D:Addr)(σ:St)(H1:Hp)(Q:Hp->Prop):Prop:=
 ∃W:Nat->Nat->St->Hp->Prop,(∃m,W 0 m (Jw k none++σ) (upd H1 D (.lst [])))/\∀i m σ' H',W i m σ' H' ->
  (J.stop i H'/\Q H')\/(J.go i H'/\∃N:St->Hp->Prop,(∀σ2 H2,N σ2 H2->∃m',m'<m/\W (i+1) m' σ2 H2) /\
   ∀x H2,J.yld i H' x H2->g x σ' H2 λσ3 H3=>tt σ3 H3 λb H4=>if b=true then te σ3 H4 λv H5=>∃xs,H5 D=some (.lst xs)/\xs.length<sizeLine/\N σ3 (upd H5 D (.lst (xs++[v])))else N σ3 H4)
noncomputable def Fv(wi:TI)(g:TG)(tt:TT)(te:Hp->TE)(k:Nat):TE:=λσ H Q=>wi σ H λJ H1=>∀D,H1 D=none->LCW J g tt (te (upd H1 D (.lst []))) k D σ H1 λH2=>Q (.ref D) H2
def Bx(X:Cx)(C:Addr)(x:Value)(s':Shared):Prop:=∃m,s'.heap.Ns C m/\∀h',Jg C s'.heap h'->∀cenv:Env,cenv.locals=C->wpAny (model X.prog X.w) X.A (passOn "comprehension.variables-let-go" x cenv:Sem Value) (λ_ _=>False) X.xe { s' with heap:=h' }
def LCE(X:Cx)(scope:Scope)(N:List Str)(elt:Expr)(te:Hp->TE):Prop:=∀(pins:List (Addr×Obj))(σ:St)(C:Addr)(s3:Shared)(H3:Hp)(fp:List Addr)(pt:List (Addr×Obj))(s:Shared)(σ':St)(H':Hp)(Q:VK),s3.heap.objs.size=C->Inv X pins σ H3 s3->(∀b∈fp,eC X pins H3 b)->(∀b∈fp,∃o,(b,o)∈pt) ->
 Inv (cx X scope N C s3 H3 fp) pt σ' H' s->te H3 σ' H' Q->wpAny (model X.prog X.w) X.A (eval elt (compEnvC scope (fM X.env scope.names []) C X.env)) (EP (cx X scope N C s3 H3 fp) pt σ' Q) (notedBy (model X.prog X.w) X.A (compEnvC scope (fM X.env scope.names []) C X.env) (Bx X C)) s
theorem Ec(he:∀C s H fp,PE (cx X scope N C s H fp) elt te):LCE X scope N elt λ_=>te:=λ_ _ C s3 H3 fp pt s σ' H' Q _ _ _ _ I q=>JZ (he C s3 H3 fp pt s σ' H' Q I q) (λ_ _ z=>z) λ_ _ z=>z.elim
noncomputable def tLC(wi:TI)(g:TG)(tt:TT)(te:TE)(k:Nat):TE:=λσ H Q=>wi σ H λJ H1=>∀D,H1 D=none->LCW J g tt te k D σ H1 λH2=>Q (.ref D) H2
section
variable{X:Cx}{tg elt iter:Expr}{ifs:List Expr}{scope:Scope}{pos:Pos}{wi:TI}{g:TG}{tt:TT}{N:List Str}{k:Nat}
theorem Ag{pins:List (Addr×Obj)}{σ:St}{H2:Hp}{s2:Shared}{it:Addr}{fp:List Addr}{tn:Nat->Heap->Prop}{J:It}{E:Value->Shared->Prop}{QD:Addr->Hp->Prop}{RR:Value->Addr->Result->Shared->Prop}{te:Hp->TE}
  (hc:X.calm=true) (S:fE X.env.scope scope X.N N k) (hg:∀C s H fp,PG (cx X scope N C s H fp) tg g) (ht:∀C s H fp,PTs (cx X scope N C s H fp) ifs tt) (he:LCE X scope N elt te) (hRE:∀D C x s',Bx X C x s'->RR (.ref D) C (.error x) s')
  (I2:Inv X pins σ H2 s2) (T:Turn X.prog X.w X.K tg J fp it tn) (st2:tn 0 s2.heap) (f2:∀b∈fp,eC X pins H2 b) (q:∀D,H2 D=none->LCW J g tt (te (upd H2 D (.lst []))) k D σ H2 (QD D))
  (hRR:∀(D C:Addr)(s':Shared)(H':Hp)(m:Str->Option Value),s2.heap.objs.size<C->Inv X pins σ H' s'->s'.heap.Ns C m->H' C=none->C≠X.env.locals->C∉X.fs->X.s₀.heap.objs.size<=C->(∀x c,X.env.cells.lookup x=some c->c≠C)->(∀p∈X.pn++pins,p.1≠C)->QD D H'->RR (.ref D) C (.ok .next) s') :
  wpAny (model X.prog X.w) X.A (newList []) (λacc s₃=>wpAny (model X.prog X.w) X.A (newFunctionEnv scope X.env.globals (fM X.env scope.names []) [] X.env.qual none .none (some X.env)) (λcenv s₄=>
   codeAny (model X.prog X.w) X.A (.compStart (.ListComp elt [⟨tg,iter,ifs,0⟩] scope pos) 0 (.ref it) acc { cenv with scope:=relabel scope X.env }) (RR acc cenv.locals) s₄) E s₃) E s2:=by
 have hD:H2 s2.heap.objs.size=none:=I2.hok.fresh (IB _);obtain⟨W,⟨m0,w0⟩,turn⟩:=q _ hD;refine Jr ?_;have I3:Inv X pins σ (upd H2 s2.heap.objs.size (.lst [])) { s2 with heap:=s2.heap.push { cls:=.type "list",dict:=none,data:=.seq ([]:List Value).toArray } }:=by
  refine I2.laid (t':=s2.toks) (λb u e=>gV _ e) (IB _) ?_;exact⟨KN _,[],0,.nil,IG _ rfl⟩
 have k3:∀b o,s2.heap.get? b=some o->(s2.heap.push { cls:=.type "list",dict:=none,data:=.seq ([]:List Value).toArray }).get? b=some o:=λb o e=>gV _ e;generalize hs3:({ s2 with heap:=s2.heap.push { cls:=.type "list",dict:=none,data:=.seq ([]:List Value).toArray } }:Shared)=s3 at I3 ⊢;have hsz:s3.heap.objs.size=s2.heap.objs.size+1:=by rw[<-hs3];exact JY ..
 have k3':∀b o,s2.heap.get? b=some o->s3.heap.get? b=some o:=by rw[<-hs3];exact k3
 generalize hDe:s2.heap.objs.size=D at *;have fpD:∀b∈fp,b<D:=λb hb=>by
  obtain⟨o,e,_⟩:=T.obj _ _ st2 b hb;rw[<-hDe];exact ID e
 have f3:∀b∈fp,eC X pins (upd H2 D (.lst [])) b:=λb hb=>by
  refine⟨?_,(f2 b hb).2⟩;rw[aP (IZ (fpD b hb))];exact(f2 b hb).1
 refine wpAny_newFunctionEnv S.nocell (by intro y hy;simp at hy) (λh4 hn4 hs4=>?_) S.kind
 try dsimp only at hn4 hs4 ⊢
 have k4:∀b o,s3.heap.get? b=some o->h4.get? b=some o:=λb o e=>hs4.extBut b o (IZ (ID e)) (gV _ e);have I4:=I3.CQ (h4:=h4) (tk:=s3.toks+0) S f3 (λb hb=>by rw[hsz];exact Lm (fpD b hb)) hn4 k4;have st4:tn 0 h4:=T.keep _ _ _ st2 λb hb o e=>k4 b o (k3' b o e);have fr4:∀b∈fp,(upd H2 D (.lst [])) b=none:=λb hb=>(f3 b hb).1;generalize hC:s3.heap.objs.size=C at *;have hX:∀(H':Hp),(∀b∈fp,H' b=none)->∀b∈fp,eC (cx X scope N C s3 (upd H2 D (.lst [])) fp) [] H' b:=λH' hn b hb=>by
  obtain⟨g0,g1,g2,g3,g4,g5⟩:=f3 b hb;refine⟨hn b hb,?_,?_,.inl hb,?_,λp hp=>absurd (show p∈([]:List (Addr×Obj))from hp) (by simp)⟩
  ·exact IZ (Pj (Lm (fpD b hb)) hsz.symm)
  ·intro z;rcases IL.mp (I3.n_ b z)with z |z
   ·exact g1 z
   ·exact g2 z
  ·intro x c h;exact g4 x c (dI (S.cells I3.ok) h)
 have fin:∀(s':Shared)(σ':St)(H':Hp),Inv (cx X scope N C s3 (upd H2 D (.lst [])) fp) [] σ' H' s'->QD D H'->RR (.ref D) C (.ok .next) s':=by
  intro s' σ' H' I' qd;obtain⟨m,hm,_⟩:=id I'.loc;have IX:Inv X pins σ H' s':=by
   refine I3.GJ (s':=s') (ch:=fp) I'.os I'.base I'.hok I'.bare λb hb=>?_;obtain⟨g0,g1,g2,g3,g4,g5⟩:=f3 b hb;exact⟨g3,g1,g4,g5⟩
  have hlt:=I3.lt;rw[hC]at hlt;refine hRR D C s' H' m (Pj (Nat.lt_succ_self D) hsz.symm) IX hm I'.free (Ku hlt) (I3.FL (K_ hC)) (JS I3.sz (K_ hC)) (λx c e z=>?_) (λp hp z=>?_) qd
  ·obtain⟨v,hv⟩:=I3.cell x c e;have q:=hv.lt;rw[hC,z]at q;exact JJ _ q
  ·have q:=ID (I3.pin p hp).1;rw[hC,z]at q;exact JJ _ q
 have loop:∀s₀:Shared,s₀={ s3 with heap:=h4,toks:=s3.toks+([]:List (Str×Value)).length } ->
   codeAny (model X.prog X.w) X.A (.compLoop (.ListComp elt [⟨tg,iter,ifs,0⟩] scope pos) 0 (.ref it) (.ref D) (compEnvC scope (fM X.env scope.names []) C X.env)) (RR (.ref D) C) s₀:=by
  rintro s₀ rfl;refine sU (λn s'=>∃i σ' H',Inv (cx X scope N C s3 (upd H2 D (.lst [])) fp) [] σ' H' s'/\tn i s'.heap/\(∀b∈fp,H' b=none)/\W i n σ' H') ?_ m0 ⟨0,_,_,I4,st4,fr4,w0⟩;rintro n s5 ⟨i,σ5,H5,I5,st5,fr5,w5⟩;rcases turn i n σ5 H5 w5 with⟨stop,qn⟩ |⟨go,NN,hN,step⟩
  ·refine thn (T.done (cx X scope N C s3 (upd H2 D (.lst [])) fp) rfl rfl rfl hc i [] s5 σ5 H5 _ I5 (hX _ fr5) st5 stop) λr s6 ⟨hr,I6⟩=>?_;subst hr;exact fin s6 σ5 H5 I6 qn
  ·refine thn (T.item (cx X scope N C s3 (upd H2 D (.lst [])) fp) rfl rfl rfl hc i [] s5 σ5 H5 _ I5 (hX _ fr5) st5 go) λr s6 ⟨u,hr,h6⟩=>?_;subst hr;refine thn h6 λ_ s7 ⟨x,H7,I7,r7,y7,st7,fr7⟩=>?_;have I7':=I7.pinned (hX _ fr7) (T.obj _ _ st7);have back:∀{s9:Shared}{σ9:St}{H9:Hp},Inv (cx X scope N C s3 (upd H2 D (.lst [])) fp) ([]++kJ fp s7.heap) σ9 H9 s9->NN σ9 H9->∃m,m<n/\∃i σ' H',Inv (cx X scope N C s3 (upd H2 D (.lst [])) fp) [] σ' H' s9/\tn i s9.heap/\(∀b∈fp,H' b=none)/\W i m σ' H':=λ{s9 σ9 H9} I9 n9=>by
    obtain⟨m',hm,w9⟩:=hN σ9 H9 n9;refine⟨m',hm,i+1,σ9,H9,I9.jV,T.keep _ _ _ st7 λb hb o e=>(I9.pin (b,o) (JL _ (JL _ (ff hb e)))).1,λb hb=>?_,w9⟩;obtain⟨o,e,d⟩:=T.obj _ _ st7 b hb;exact(I9.pin (b,o) (JL _ (JL _ (ff hb e)))).2.1
   refine thn (hg C s3 _ fp _ s7 σ5 H7 x u _ I7' r7 (step x H7 y7)) λ_ s8 ⟨σ8,H8,I8,q8⟩=>?_;refine thn (ht C s3 _ fp _ s8 σ8 H8 _ I8 q8) λok s9 ⟨H9,I9,q9⟩=>?_;cases ok with
   |false=>
    rw[IF IS]at q9;rw[IF IS];exact back I9 q9
   |true=>
    rw[Iw rfl]at q9;rw[Iw rfl];refine JZ (he pins σ C s3 _ fp _ s9 σ8 H9 _ hC I3 f3 (λb hb=>by
      obtain⟨o,e,_⟩:=T.obj _ _ st7 b hb;exact⟨o,JL _ (ff hb e)⟩) I9 q9) (λy s10 ⟨v,H10,I10,r10,q10⟩=>?_) λx s10 z=>JZ z (λ_ _=>hRE D C x _) (λ_ _=>hRE D C _ _)
    obtain⟨xs,hD10,hz,qN⟩:=q10;refine thn (pX (X:=cx X scope N C s3 (upd H2 D (.lst [])) fp) _ s10 σ8 H10 (.ref D) [v] (.ref D) [y] (λ_ H'=>NN σ8 H') I10 rfl (.cons r10 .nil) ⟨D,xs,v,rfl,rfl,hD10,hz,qN⟩) λ_ s11 ⟨_,H11,I11,_,q11⟩=>?_;exact back I11 q11
 exact codeAny_compStart_list (loop _ rfl) (T.self _ 0 _ _ _ st4 (loop _ rfl))
theorem DO{te:Hp->TE}(hc:X.calm=true)(S:fE esc scope EN N k)(h1:X.env.scope=esc)(h2:X.N=EN)(hi:PI X tg iter wi)(hg:∀C s H fp,PG (cx X scope N C s H fp) tg g)(ht:∀C s H fp,PTs (cx X scope N C s H fp) ifs tt)(he:LCE X scope N elt te)
  (hs:∀x,foldedSetIterable iter X.env x=pure x:=by intro _;rfl):PE X (.ListComp elt [⟨tg,iter,ifs,0⟩] scope pos) (Fv wi g tt te k):=by
 subst h1 h2;intro pins s σ H Q I h;rw[eval_ListComp];refine wpAny_comprehension_free (use:=none) rfl hs (oz (S.cells I.ok)) S.kind S.names (thn (hi pins s σ H _ I h) λv s1 h1=>thn h1 λitv s2 h2=>?_);obtain⟨it,fp,tn,J,H2,e,I2,T,st2,f2,q⟩:=h2;subst e;refine Ag (RR:=λacc C=>compPost (model X.prog X.w) X.A X.xe none (EP X pins σ Q) acc C) hc S hg ht he (λ_ _ _ _ z=>z) I2 T st2 f2 q ?_;intro D C s' H' m hC IX hm hn hL hF hS hcell hp qd;refine⟨m,hm,λh' sb=>?_⟩;exact⟨.ref D,H',IX.turned (t':=s'.toks) (λb o hb e=>sb.extBut b o hb e) hn hL (.inr hS) hcell hp,rfl,qd⟩
theorem G7{te:TE}(hc:X.calm=true)(S:fE esc scope EN N k)(h1:X.env.scope=esc)(h2:X.N=EN)(hi:PI X tg iter wi)(hg:∀C s H fp,PG (cx X scope N C s H fp) tg g)(ht:∀C s H fp,PTs (cx X scope N C s H fp) ifs tt)(he:∀C s H fp,PE (cx X scope N C s H fp) elt te)
  (hs:∀x,foldedSetIterable iter X.env x=pure x:=by intro _;rfl):PE X (.ListComp elt [⟨tg,iter,ifs,0⟩] scope pos) (tLC wi g tt te k):=DO hc S h1 h2 hi hg ht (Ec he) hs
end
inductive D where
 |non |bl (b:Bool) |int (i:Int) |str (x:Str) |tup (xs:List D) |lst (xs:List D)
mutual
noncomputable def D.eqv:D->D->Bool
 | .non,.non=>true
 | .bl a,.bl b=>a==b
 | .bl a,.int b=>(if a then 1 else 0)==b
 | .int a,.bl b=>a==(if b then 1 else 0)
 | .int a,.int b=>a==b
 | .str a,.str b=>a==b
 | .tup xs,.tup ys=>D.bS xs ys
 | .lst xs,.lst ys=>D.bS xs ys
 |_,_=>false
noncomputable def D.bS:List D->List D->Bool
 | [],[]=>true
 |x::xs,y::ys=>D.eqv x y&&D.bS xs ys
 |_,_=>false
end
mutual
theorem D.eqv_refl:∀d:D,D.eqv d d=true
 | .non=>rfl
 | .bl a=>by simp[D.eqv]
 | .int a=>by simp[D.eqv]
 | .str a=>by simp[D.eqv]
 | .tup xs=>by simp only[D.eqv];exact D.iD xs
 | .lst xs=>by simp only[D.eqv];exact D.iD xs
theorem D.iD:∀ds:List D,D.bS ds ds=true
 | []=>rfl
 |d::ds=>by simp only[D.bS,D.eqv_refl d,D.iD ds,Bool.and_self]
end
mutual
noncomputable def D.depth:D->Nat
 | .tup xs=>D.cq xs+1
 | .lst xs=>D.cq xs+1
 |_=>0
noncomputable def D.cq:List D->Nat
 | []=>0
 |x::xs=>max (D.depth x) (D.cq xs)
end
mutual
inductive Rep(H:Hp):V->D->Prop
 |non:Rep H .non .non
 |bl (b:Bool):Rep H (.bl b) (.bl b)
 |int (i:Int):Rep H (.int i) (.int i)
 |str (x:Str):Rep H (.str x) (.str x)
 |tup {a:Addr} {vs:List V} {ds:List D}:H a=some (.tup vs)->aw H vs ds->Rep H (.ref a) (.tup ds)
 |lst {a:Addr} {vs:List V} {ds:List D}:H a=some (.lst vs)->aw H vs ds->Rep H (.ref a) (.lst ds)
inductive aw(H:Hp):List V->List D->Prop
 |nil:aw H [] []
 |cons {v:V} {d:D} {vs:List V} {ds:List D}:Rep H v d->aw H vs ds->aw H (v::vs) (d::ds)
end
theorem aw.length:∀{vs:List V}{ds:List D},aw H vs ds->vs.length=ds.length
 |_,_,.nil=>rfl
 |_,_,.cons _ t=>by simp[aw.length t]
theorem aw.get:∀{vs:List V}{ds:List D}{i:Nat}{v:V},aw H vs ds->vs[i]?=some v->∃d,ds[i]?=some d/\Rep H v d
 |_,_,_,_,.nil,e=>by simp at e
 |_,_,0,_,.cons r _,e=>by simp at e;subst e;exact⟨_,rfl,r⟩
 |_,_,i+1,v,.cons _ t,e=>by
  obtain⟨d,h1,h2⟩:=aw.get (i:=i) (v:=v) t (by simpa using e);exact⟨d,by simpa using h1,h2⟩
theorem aw.get':∀{vs:List V}{ds:List D}{i:Nat}{d:D},aw H vs ds->ds[i]?=some d->∃v,vs[i]?=some v/\Rep H v d
 |_,_,_,_,.nil,e=>by simp at e
 |_,_,0,_,.cons r _,e=>by simp at e;subst e;exact⟨_,rfl,r⟩
 |_,_,i+1,v,.cons _ t,e=>by
  obtain⟨d,h1,h2⟩:=aw.get' (i:=i) (d:=v) t (by simpa using e);exact⟨d,by simpa using h1,h2⟩
theorem aw.append:∀{vs us:List V}{ds es:List D},aw H vs ds->aw H us es->aw H (vs++us) (ds++es)
 |_,_,_,_,.nil,s=>s
 |_,_,_,_,.cons r t,s=>.cons r (aw.append t s)
theorem aw.take:∀{vs:List V}{ds:List D}(n:Nat),aw H vs ds->aw H (vs.take n) (ds.take n)
 |_,_,0,_=>.nil
 |_,_,_+1,.nil=>.nil
 |_,_,n+1,.cons r t=>.cons r (aw.take n t)
theorem aw.drop:∀{vs:List V}{ds:List D}(n:Nat),aw H vs ds->aw H (vs.drop n) (ds.drop n)
 |_,_,0,r=>r
 |_,_,_+1,.nil=>.nil
 |_,_,n+1,.cons _ t=>aw.drop n t
theorem aw.reverse:∀{vs:List V}{ds:List D},aw H vs ds->aw H vs.reverse ds.reverse
 |_,_,.nil=>.nil
 |_,_,.cons r t=>by rw[Mt,Mt];exact(aw.reverse t).append (.cons r .nil)
mutual
theorem Rep.mono(e:dw H H'):∀{v:V}{d:D},Rep H v d->Rep H' v d
 |_,_,.non=>.non
 |_,_,.bl b=>.bl b
 |_,_,.int i=>.int i
 |_,_,.str x=>.str x
 |_,_,.tup h r=>.tup (e _ _ h) (aw.mono e r)
 |_,_,.lst h r=>.lst (e _ _ h) (aw.mono e r)
theorem aw.mono(e:dw H H'):∀{vs:List V}{ds:List D},aw H vs ds->aw H' vs ds
 |_,_,.nil=>.nil
 |_,_,.cons r t=>.cons (Rep.mono e r) (aw.mono e t)
end
mutual
theorem Rep.inj:∀{v:V}{d e:D},Rep H v d->Rep H v e->d=e
 |_,_,_,.non,.non=>rfl
 |_,_,_,.bl _,.bl _=>rfl
 |_,_,_,.int _,.int _=>rfl
 |_,_,_,.str _,.str _=>rfl
 |_,_,_,.tup h r,.tup h' r'=>by rw[h]at h';cases h';rw[aw.inj r r']
 |_,_,_,.tup h r,.lst h' r'=>by rw[h]at h';cases h'
 |_,_,_,.lst h r,.tup h' r'=>by rw[h]at h';cases h'
 |_,_,_,.lst h r,.lst h' r'=>by rw[h]at h';cases h';rw[aw.inj r r']
theorem aw.inj:∀{vs:List V}{ds es:List D},aw H vs ds->aw H vs es->ds=es
 |_,_,_,.nil,.nil=>rfl
 |_,_,_,.cons r t,.cons r' t'=>by rw[Rep.inj r r',aw.inj t t']
end
theorem aw.ints:∀(ns:List Int),aw H (ns.map V.int) (ns.map D.int)
 | []=>.nil
 |n::ns=>.cons (.int n) (aw.ints ns)
theorem aw.ph:∀{vs:List V}{ns:List Int},aw H vs (ns.map D.int)->vs=ns.map V.int
 | [],[],.nil=>rfl
 |v::vs,n::ns,.cons r t=>by
  cases r;rw[IM,aw.ph t]
theorem D.cg:∀(ds es:List D),D.bS ds es=((IP (min ds.length es.length)).all (λj=>D.eqv (ds.getD j .non) (es.getD j .non))&&ds.length==es.length)
 | [],[]=>rfl
 | [],e::es=>by simp[D.bS]
 |d::ds,[]=>by simp[D.bS]
 |d::ds,e::es=>by
  have ih:=D.cg ds es;have q:min (d::ds).length (e::es).length=min ds.length es.length+1:=by simp only[Js];omega
  rw[q,Ot,Lj,NV];have z:((d::ds).length==(e::es).length)=(ds.length==es.length):=by
   rw[Kc];simp
  rw[z,D.bS,ih,Bool.and_assoc];rfl
theorem D.gC:∀{ds:List D}{i:Nat}{d:D},ds[i]?=some d->D.depth d<=D.cq ds
 | [],_,_,e=>by simp at e
 |x::xs,0,d,e=>by
  simp at e;subst e;exact Nat.le_max_left _ _
 |x::xs,i+1,d,e=>JS (D.gC (ds:=xs) (i:=i) (by simpa using e)) (Nat.le_max_right _ _)
section
variable{X:Cx}
theorem yY(I:Inv X pins σ H s):∀(n:Nat)(A:Around)(x y:V)(u v:Value)(d e:D),A.units+n<cLine->D.depth d<=n->RelV x u->RelV y v->Rep H x d->Rep H y e ->
  Ml A s u v (D.eqv d e):=by
 intro n
 induction n with
 |zero=>
  intro A x y u v d e hu hd ru rv rx ry;have hu':A.units<cLine:=by omega
  cases rx with
  |tup h r=>simp[D.depth]at hd
  |lst h r=>simp[D.depth]at hd
  |non=>
   cases ry with
   |tup h r=>
    cases ru;cases rv;obtain⟨its,rv,p,hz⟩:=I.tuple (SqT.of h);exact R0 p hu'
   |lst h r=>
    cases ru;cases rv;obtain⟨its,rv,p,hz⟩:=I.list (SqL.of h);exact Sb p.isList hu'
   |_=>simp only[D.eqv];exact kU ru rv rfl rfl
  |bl a=>
   cases ry with
   |tup h r=>
    cases ru;cases rv;obtain⟨its,rv,p,hz⟩:=I.tuple (SqT.of h);exact R1 a p hu'
   |lst h r=>
    cases ru;cases rv;obtain⟨its,rv,p,hz⟩:=I.list (SqL.of h);exact Sd a p.isList hu'
   |_=>simp only[D.eqv];exact kU ru rv rfl rfl
  |int a=>
   cases ry with
   |tup h r=>
    obtain⟨t,rfl⟩:=ru;cases rv;obtain⟨its,rv,p,hz⟩:=I.tuple (SqT.of h);exact Se a t p hu'
   |lst h r=>
    obtain⟨t,rfl⟩:=ru;cases rv;obtain⟨its,rv,p,hz⟩:=I.list (SqL.of h);exact Sw a t p.isList hu'
   |_=>simp only[D.eqv];exact kU ru rv rfl rfl
  |str a=>
   cases ry with
   |tup h r=>
    obtain⟨t,rfl⟩:=ru;cases rv;obtain⟨its,rv,p,hz⟩:=I.tuple (SqT.of h);exact Sf a t p hu'
   |lst h r=>
    obtain⟨t,rfl⟩:=ru;cases rv;obtain⟨its,rv,p,hz⟩:=I.list (SqL.of h);exact Sx a t p.isList hu'
   |_=>simp only[D.eqv];exact kU ru rv rfl rfl
 |succ n ih=>
  intro A x y u v d e hu hd ru rv rx ry;have hu':A.units<cLine:=by omega
  have items:∀{vs us:List V}{ds es:List D}{its its2:List Value},D.cq ds<=n->Vals vs its->Vals us its2->aw H vs ds->aw H us es ->
    ∀j(h1:j<its.toArray.size)(h2:j<its2.toArray.size),Ml A.in1 s its.toArray[j] its2.toArray[j] (D.eqv (ds.getD j .non) (es.getD j .non)):=by
   intro vs us ds es its its2 hdd r1 r2 q1 q2 j h1 h2;have h1':j<its.length:=by simpa using h1
   have h2':j<its2.length:=by simpa using h2
   have l1:=r1.length;have l2:=r2.length;have m1:=q1.length;have m2:=q2.length;have e1:vs[j]?=some (vs[j]'(by omega)):=H0 _;have e2:us[j]?=some (us[j]'(by omega)):=H0 _;obtain⟨a1,b1,c1⟩:=r1.get e1;obtain⟨a2,b2,c2⟩:=r2.get e2;obtain⟨f1,g1,k1⟩:=q1.get e1;obtain⟨f2,g2,k2⟩:=q2.get e2;have z1:its.toArray[j]=a1:=by
    have:its[j]?=some its[j]:=H0 h1';rw[b1]at this;simpa using(Jj this).symm
   have z2:its2.toArray[j]=a2:=by
    have:its2[j]?=some its2[j]:=H0 h2';rw[b2]at this;simpa using(Jj this).symm
   rw[z1,z2,Iz,Iz,g1,g2];refine ih A.in1 _ _ _ _ _ _ ?_ (JS (D.gC g1) hdd) c1 c2 k1 k2;show A.units+1+n<cLine;omega
  cases rx with
  | @tup a vs ds h r=>
   obtain⟨its,rv1,p,hz⟩:=I.tuple (SqT.of h);cases ry with
   | @tup b us es h' r'=>
    cases ru;cases rv;obtain⟨its2,rv2,p2,hz2⟩:=I.tuple (SqT.of h');by_cases hab:a=b
    ·subst hab;rw[h]at h';cases h';rw[aw.inj r' r,D.eqv_refl];exact Og _
    ·have hdd:D.cq ds<=n:=by simp only[D.depth]at hd;omega
     have q:=Nm hab (SG (e:=λj=>D.eqv (ds.getD j .non) (es.getD j .non)) p p2 hu' (items hdd rv1 rv2 r r'));rw[IE,IE,<-rv1.length,<-rv2.length,r.length,r'.length,<-D.cg]at q;simp only[D.eqv];exact q
   | @lst b us es h' r'=>
    cases ru;cases rv;obtain⟨its2,rv2,p2,hz2⟩:=I.list (SqL.of h');simp only[D.eqv];exact R3 p p2.isList hu'
   |non=>cases ru;cases rv;simp only[D.eqv];exact R4 p hu'
   |bl c=>cases ru;cases rv;simp only[D.eqv];exact R5 c p hu'
   |int c=>cases ru;obtain⟨t,rfl⟩:=rv;simp only[D.eqv];exact Sg c t p hu'
   |str c=>cases ru;obtain⟨t,rfl⟩:=rv;simp only[D.eqv];exact Sh c t p hu'
  | @lst a vs ds h r=>
   obtain⟨its,rv1,p,hz⟩:=I.list (SqL.of h);cases ry with
   | @lst b us es h' r'=>
    cases ru;cases rv;obtain⟨its2,rv2,p2,hz2⟩:=I.list (SqL.of h');by_cases hab:a=b
    ·subst hab;rw[h]at h';cases h';rw[aw.inj r' r,D.eqv_refl];exact Og _
    ·have hdd:D.cq ds<=n:=by simp only[D.depth]at hd;omega
     have l1:=rv1.length;have l2:=rv2.length;have m1:=r.length;have m2:=r'.length;by_cases hl:ds.length=es.length
     ·have q:=Nm hab (SN (e:=λj=>D.eqv (ds.getD j .non) (es.getD j .non)) p.isList p2.isList (by simp;omega) hu' (items hdd rv1 rv2 r r'));have z:D.bS ds es=(IP its.toArray.size).all λj=>D.eqv (ds.getD j .non) (es.getD j .non):=by
       rw[D.cg,<-hl,La,IE,<-l1,m1];simp
      simp only[D.eqv];rw[z];exact q
     ·have q:=Nm hab (Rz p.isList p2.isList (by simp;omega) hu');have z:D.bS ds es=false:=by
       rw[D.cg];simp[hl]
      simp only[D.eqv];rw[z];exact q
   | @tup b us es h' r'=>
    cases ru;cases rv;obtain⟨its2,rv2,p2,hz2⟩:=I.tuple (SqT.of h');simp only[D.eqv];exact R6 p.isList p2 hu'
   |non=>cases ru;cases rv;simp only[D.eqv];exact Si p.isList hu'
   |bl c=>cases ru;cases rv;simp only[D.eqv];exact Sj c p.isList hu'
   |int c=>cases ru;obtain⟨t,rfl⟩:=rv;simp only[D.eqv];exact Sy c t p.isList hu'
   |str c=>cases ru;obtain⟨t,rfl⟩:=rv;simp only[D.eqv];exact Sz c t p.isList hu'
  |non=>exact Mu (ih A.in1 _ y u v _ e (by show A.units+1+n<cLine;omega) (by simp[D.depth]) ru rv .non ry)
  |bl c=>exact Mu (ih A.in1 _ y u v _ e (by show A.units+1+n<cLine;omega) (by simp[D.depth]) ru rv (.bl c) ry)
  |int c=>exact Mu (ih A.in1 _ y u v _ e (by show A.units+1+n<cLine;omega) (by simp[D.depth]) ru rv (.int c) ry)
  |str c=>exact Mu (ih A.in1 _ y u v _ e (by show A.units+1+n<cLine;omega) (by simp[D.depth]) ru rv (.str c) ry)
end
section
variable{X:Cx}
noncomputable def isT(T:String):D->Bool
 | .non=>false
 | .bl _=>T== "bool" || T== "int"
 | .int _=>T== "int"
 | .str _=>T== "str"
 | .tup _=>T== "tuple"
 | .lst _=>T== "list"
noncomputable def okT(T:String):Bool:=T== "bool" || T== "int" || T== "str" || T== "tuple" || T== "list"
theorem GR{K:Iy}{H:Hp}{x:V}{d:D}{T:String}(r:Rep H x d)(h:okT T=true):∃t,fI K H x t/\Qv K t (.type T)=some (isT T d):=by
  have h5:T="bool"\/T="int"\/T="str"\/T="tuple"\/T="list":=by simpa[okT,or_assoc]using h
  cases r with
  |non=>exact⟨_,.non,by rcases h5 with e |e |e |e |e<;>subst e<;>first |rfl |kernel_rfl⟩
  |bl b=>exact⟨_,.bl b,by rcases h5 with e |e |e |e |e<;>subst e<;>first |rfl |kernel_rfl⟩
  |int i=>exact⟨_,.int i,by rcases h5 with e |e |e |e |e<;>subst e<;>first |rfl |kernel_rfl⟩
  |str x=>exact⟨_,.str x,by rcases h5 with e |e |e |e |e<;>subst e<;>first |rfl |kernel_rfl⟩
  |tup h r=>exact⟨_,.tup h,by rcases h5 with e |e |e |e |e<;>subst e<;>first |rfl |kernel_rfl⟩
  |lst h r=>exact⟨_,.lst h,by rcases h5 with e |e |e |e |e<;>subst e<;>first |rfl |kernel_rfl⟩
noncomputable def Iv(T:String)(te:TE):TE:=λσ H Q=>te σ H λx H1=>∃d,Rep H1 x d/\Q (.bl (isT T d)) H1
theorem xt{e:Expr}{te:TE}{nm:Str}{T:String}{p p2 pos:Pos}(hg:Gl X "isinstance")(hm:X.mg "isinstance"=none)(hg2:Gl X nm)(hm2:X.mg nm=none)(hv:bootBuiltins nm=some (.type T))(ho:okT T=true)(ha:PE X e te)
  (hn:nm≠"__name__":=by decide) (hd:(nm==("__debug__":Str))=false:=by decide) (hb:bootBuiltins "isinstance"=some (.builtin "isinstance"):=by decide+kernel)
  (he:starEach [e,.Name nm p2] X.env=(false,eval e X.env)::starEach [.Name nm p2] X.env:=by rfl) (hs2:starEach [.Name nm p2] X.env=(false,eval (.Name nm p2) X.env)::starEach [] X.env:=by rfl) (hpl:(backTo pos (starEach [.Name nm p2] X.env)).any (·.1)=false:=by rfl) :
  PE X (.Call (.Name "isinstance" p) [e,.Name nm p2] [] pos) (Iv T te):=by
 intro pins s σ H Q I h;have hT:PE X (.Name nm p2) (tC (.ty T)):=Dg hg2 hm2 hv rfl hn hd;refine Kg (bW I hg hm hb ?_ (by decide) (by decide));refine MW (thn ((dN ha (dN hT fY hs2) he) pos pins s σ H (λvs H1=>∃x d,vs=[x,.ty T]/\Rep H1 x d/\Q (.bl (isT T d)) H1) I ?_) λus s1 ⟨vs,H1,I1,r1,q1⟩=>?_) he hpl
 ·refine(show te σ H λx H1=>_ from ?_);refine cast (Jn (te σ H) ?_) h;funext x H1;refine propext ⟨λ⟨d,r,q⟩=>⟨x,d,rfl,r,q⟩,λ⟨x',d,e,r,q⟩=>?_⟩;cases e;exact⟨d,r,q⟩
 ·obtain⟨x,d,e,r,q⟩:=q1;subst e;obtain⟨u,w',rfl,ru,rw'⟩:=r1.two;obtain⟨t,ty,k⟩:=GR (K:=X.K) r ho;cases(show w'=Value.type T from rw');exact yw I1 ru ty k λtk=>⟨.bl _,H1,I1.tok tk,rfl,q⟩
end
section
variable{X:Cx}{pins:List (Addr×Obj)}{σ:St}{H:Hp}{s:Shared}{h':Heap}{fp:List Addr}
theorem Inv.mU(I:Inv X pins σ H s)(ha:s.heap.objs.size<=a)(hk:∀b u,b∉fp->s.heap.get? b=some u->h'.get? b=some u)(hf:∀b∈fp,eC X pins H b)(new:bz X.prog X.w (upd H a o) h' a o) :
  Inv X pins σ (upd H a o) { s with heap:=h',toks:=t' }:=by
 have hn:H a=none:=I.hok.fresh ha;have nfp:∀b u,H b=some u->b∉fp:=λb u e z=>by
  have q:=(hf b z).1;rw[e]at q;cases q
 have hne:∀b(u:Obj),s.heap.get? b=some u->b≠a:=λb u e=>IZ (I_ (ID e) ha);refine I.step (g':=s.gens) (d':=s.drawn) (ch:=fp) (λb hb=>?_) (λb u _ _ hc e _=>hk b u hc e) (λb u _ _ hc e _=>⟨u.slots,hk b u hc e⟩) (λb u _ e n=>?_)
  (λb u hc e=>⟨u,hk b u hc e⟩) (λb xs e=>?_) (λb u xs e=>?_) (λb ps e=>⟨#[],?_⟩) (λm hm=>?_) (λb u e=>?_) I.bare
 ·obtain⟨f0,f1,f2,f3,f4,f5⟩:=hf b hb;exact⟨f3,f1,f4,f5⟩
 ·rw[aP (hne b u e)];exact n
 ·rw[aP (bo e hn)];exact e
 ·rw[aP (bo e hn)];exact e
 ·rw[aP (bo e hn),e];simp
 ·obtain⟨u,es,ep,ho,r⟩:=hm;exact⟨u,es,ep,hk _ u (λz=>(hf _ z).2.1 rfl) ho,r⟩
 ·by_cases hb:b=a
  ·subst hb;rw[bY]at e;cases e;exact new
  ·rw[aP hb]at e;refine(I.hok b u e).mK (λc v hc q=>hk c v ?_ q) (λc q=>by rw[aP (bo q hn)];exact q) λc xs q=>by rw[aP (bo q hn)];exact q
   rcases hc with z |z
   ·rw[z];exact nfp b u e
   ·exact nfp c _ z
theorem Inv.C5(I:Inv X pins σ H s)(hk:∀b u,b∉fp->s.heap.get? b=some u->h'.get? b=some u)(hf:∀b∈fp,eC X pins H b):Inv X pins σ H { s with heap:=h',toks:=t' }:=by
 have nfp:∀b u,H b=some u->b∉fp:=λb u e z=>by
  have q:=(hf b z).1;rw[e]at q;cases q
 refine I.step (g':=s.gens) (d':=s.drawn) (ch:=fp) (λb hb=>?_) (λb u _ _ hc e _=>hk b u hc e) (λb u _ _ hc e _=>⟨u.slots,hk b u hc e⟩) (λb u _ e n=>n)
  (λb u hc e=>⟨u,hk b u hc e⟩) (λb xs e=>e) (λb u xs e=>e) (λb ps e=>⟨#[],?_⟩) (λm hm=>?_) (λb u e=>?_) I.bare
 ·obtain⟨f0,f1,f2,f3,f4,f5⟩:=hf b hb;exact⟨f3,f1,f4,f5⟩
 ·rw[e];simp
 ·obtain⟨u,es,ep,ho,r⟩:=hm;exact⟨u,es,ep,hk _ u (λz=>(hf _ z).2.1 rfl) ho,r⟩
 ·refine(I.hok b u e).mK (λc v hc q=>hk c v ?_ q) (λ_ q=>q) λ_ _ q=>q;rcases hc with z |z
  ·rw[z];exact nfp b u e
  ·exact nfp c _ z
end
noncomputable def Ite(K:Iy)(l:Addr):It:=
 ⟨λi H=>∃xs x,SqL K H l xs/\xs[i]?=some x,λi H x H'=>∃p y,H p=none/\x=.ref p/\H'=upd H p (.tup [.int i,y])/\∀xs,SqL K H l xs->xs[i]?=some y,λi H=>∃xs,SqL K H l xs/\xs.length<=i⟩
theorem yZ{P:Program}{w:World}{K:Iy}{es:List Expr}{kk:Nat}{tp:Pos}(l e it:Addr)(hne:e≠it) :
  Turn P w K (.Tuple es kk tp) (Ite K l) [e,it] e (λi h=>(∃old,IsEnum h e it ((i:Nat):Int) old)/\h.IsListIter it l i)where
 mem:=by simp
 obj:=λi h st b hb=>by
  obtain⟨⟨old,he⟩,hit⟩:=st;rcases IL.mp hb with z |z
  ·subst z;exact⟨_,he,λv z=>by
    have z':Data.fields _=Data.cell v:=z;cases z'⟩
  ·have z:b=it:=IQ.mp z;subst z;obtain⟨o,q,_,d⟩:=hit;exact⟨o,q,λv z=>by rw[d]at z;cases z⟩
 keep:=λi h h' st k=>by
  obtain⟨⟨old,he⟩,hit⟩:=st;exact⟨⟨old,k e (by simp) _ he⟩,hit.at λo q=>k it (by simp) o q⟩
 item:=by
  intro X hP hw hK hc i pins s σ H E I hf st hg;subst hP hw hK;obtain⟨⟨old,he⟩,hit⟩:=st;obtain⟨xs,x,hq,hx⟩:=hg;obtain⟨its,rv,p,hz⟩:=I.list hq;obtain⟨u,hu,ru⟩:=rv.get hx;refine wpAny_pyNext_enum_item he hit p.isList (x:=u) (by simpa using hu) hne λh1 ho1 hit1 ht1 hz1 hk1=>?_;refine⟨_,rfl,Nw (s:={ s with heap:=h1,toks:=s.toks+1 }) ho1 λh2 he2 hs2=>?_⟩;have helt:e<s.heap.objs.size:=ID he;have ht2:h2.get? s.heap.objs.size=some { cls:=.type "tuple",data:=.seq #[.int i s.toks,u] }:=hs2.extBut _ _ (Ku helt) ht1;have k2:∀b o,b∉[e,it]->s.heap.get? b=some o->h2.get? b=some o:=λb o hb q=>by
   have hb1:b≠e:=λz=>hb (by simp[z]);have hb2:b≠it:=λz=>hb (by simp[z]);exact hs2.extBut b o hb1 (hk1 b o hb1 hb2 q)
  have I2:Inv X pins σ (upd H s.heap.objs.size (.tup [.int i,x])) { s with heap:=h2,toks:=s.toks+1 }:=by
   refine I.mU (fp:=[e,it]) (IB _) k2 hf ?_;exact⟨by show 2<=sizeLine;decide,[.int i s.toks,u],.cons ⟨_,rfl⟩ (.cons ru .nil),⟨_,ht2,rfl,_,rfl⟩⟩
  refine⟨.ref s.heap.objs.size,_,I2,rfl,⟨s.heap.objs.size,x,I.hok.fresh (IB _),rfl,rfl,λys hy=>by rw[I.tq hy hq];exact hx⟩,⟨⟨_,by simpa using he2⟩,?_⟩,λb hb=>?_⟩
  ·exact hit1.extBut hs2.extBut (KJ hne)
  ·have hlt:b<s.heap.objs.size:=by
    rcases IL.mp hb with z |z
    ·rw[z];exact helt
    ·have z:b=it:=IQ.mp z;subst z;obtain⟨o,q,_⟩:=hit;exact ID q
   rw[aP (IZ hlt)];exact(hf b hb).1
 done:=by
  intro X hP hw hK hc i pins s σ H E I hf st hg;subst hP hw hK;obtain⟨⟨old,he⟩,hit⟩:=st;obtain⟨xs,hq,hx⟩:=hg;obtain⟨its,rv,p,hz⟩:=I.list hq;have hl:=rv.length;obtain⟨f0,f1,f2,f3,f4,f5⟩:=hf it (by simp);exact wpAny_pyNext_enum_end (I.ok.hd hc) he hit p.isList (by simp;omega) λh' eb=>⟨rfl,I.turned (t':=s.toks) (λb o hb e=>eb b o hb e) f0 f1 f3 f4 f5⟩
 self:=λ_ _ _ _ _ st h=>by
  obtain⟨⟨old,he⟩,_⟩:=st;exact Mv he h
section
variable{prog:Program}{w:World}{A:Around}{E:Value->Shared->Prop}{s:Shared}
theorem v3(hit:s.heap.IsTupleIter it t i)(ht:s.heap.IsTuple t items)(hx:items[i]?=some x)
  (hQ:∀h',h'.IsTupleIter it t (i+1)->Jg it s.heap h'->Q x { s with heap:=h' }):wpAny (model prog w) A (I0 (.ref it)) Q E s:=by
 obtain⟨o,ho,hc,hd⟩:=id hit;obtain⟨ot,hot,_,nt,hdt⟩:=ht;unfold I0;refine ar (Jz (name:=Jo "__next__") hit.typeIs Lk (JB Lk hit.typeIs Nn ?_ (M_ _)));refine(show wpAny _ _ (field (.ref it) 0>>=_) _ _ s from ar (Ju ho hd (x:=.ref t) rfl ?_));show wpAny _ _ (if(Value.ref t==Value.none)=true then _ else _) _ _ s;rw[IF (by intro z;exact IS z)];refine(show wpAny _ _ (field (.ref it) 1>>=_) _ _ s from ar (Ju ho hd (x:=.int i 0) rfl ?_));refine(show wpAny _ _ (seqItems? (.ref t)>>=_) _ _ s from ar (Kk hot hdt ?_));simp only[Jh,hx];refine ar (OA ho hd (by simp) (C0 ⟨x,rfl,C0 (hQ _ ⟨_,LR _ ho (Obj.isFreed_of_fields (Pk hd _)),(Obj.cls_mapFields ..).trans hc,?_⟩ (Ly ..))⟩));rw[Pk hd];simp[rawInt]
theorem zf(hh:A.handled=none)(hit:s.heap.IsTupleIter it t i)(ht:s.heap.IsTuple t items)(hx:items[i]?=none)
  (hE:∀h' e,LG it s.heap h'->(∃o,h'.get? e=some o/\o.cls=.type "StopIteration")->E (.ref e) { s with heap:=h' }):wpAny (model prog w) A (I0 (.ref it)) Q E s:=by
 obtain⟨o,ho,hc,hd⟩:=id hit;obtain⟨ot,hot,_,nt,hdt⟩:=ht;unfold I0;refine ar (Jz (name:=Jo "__next__") hit.typeIs Lk (JB Lk hit.typeIs Nn ?_ (M_ _)));refine(show wpAny _ _ (field (.ref it) 0>>=_) _ _ s from ar (Ju ho hd (x:=.ref t) rfl ?_));show wpAny _ _ (if(Value.ref t==Value.none)=true then _ else _) _ _ s;rw[IF (by intro z;exact IS z)];refine(show wpAny _ _ (field (.ref it) 1>>=_) _ _ s from ar (Ju ho hd (x:=.int i 0) rfl ?_));refine(show wpAny _ _ (seqItems? (.ref t)>>=_) _ _ s from ar (Kk hot hdt ?_));simp only[Jh,hx];refine ar (KU (ar (OA ho hd (by simp) ?_)));refine(show wpAny _ _ (newExc (.type "StopIteration") []>>=_) _ _ _ from ar ?_);simp only[newExc,newTuple];refine ar (Jr (ar (m:=firstArgMember _ _) (LH (a:=Value.none) (by first |rfl |(simp only[firstArgMember];rfl)) (Jr ?_ (by size_fits)))) (by size_fits));simp only[raiseNew];refine ar (QQ ?_)
 first |rw[show A.in1.handled=none from hh] |rw[hh]
 exact ar (C0 (wpAny_throw (hE _ _ (((Ly ..).extBut.push _).push _) ⟨_,IG _ rfl,rfl⟩)))
end
theorem ir(hh:A.handled=none)(it t:Addr)(hne:t≠it)(items:Array Value) :
  Draws prog w A it [it,t] items.size (λi v=>items[i]?=some v) (λi h=>h.IsTupleIter it t i/\h.IsTuple t items)where
 live:=λ_ _ st=>let⟨o,ho,_⟩:=st.1;⟨o,ho⟩
 frame:=λ_ _ _ st hk=>⟨st.1.at λo e=>hk it (by simp) o e,st.2.at λo e=>hk t (by simp) o e⟩
 item:=λi s Q E hi st hQ=>v3 st.1 st.2 (x:=items[i]) (by simp[hi]) λh' a b=>hQ _ h' s.toks (by simp[hi]) ⟨a,st.2.extBut b.extBut hne⟩ b
 done:=λs Q E st hE=>zf hh st.1 st.2 (by simp) hE
structure cu(z TI TO i1 i2:Addr)(fp1 fp2:List Addr):Prop where
 TIz:TI≠z
 TOz:TO≠z
 TITO:TI≠TO
 z1:z∉fp1
 z2:z∉fp2
 TO1:TO∉fp1
 TO2:TO∉fp2
 i12:i1∉fp2
 i21:i2∉fp1
 m1:i1∈fp1
 m2:i2∈fp2
 TI1:TI≠i1
 TI2:TI≠i2
section
variable{prog:Program}{w:World}{A:Around}{E:Value->Shared->Prop}{s:Shared}{z TI TO i1 i2:Addr}{fp1 fp2:List Addr}{n1 n2 k:Nat}{P1 P2:Nat->Value->Prop}{S1 S2:Nat->Heap->Prop}{a b:Value}
theorem cu.i1z(D:cu z TI TO i1 i2 fp1 fp2):i1≠z:=λe=>D.z1 (e▸D.m1)
theorem cu.i2z(D:cu z TI TO i1 i2 fp1 fp2):i2≠z:=λe=>D.z2 (e▸D.m2)
theorem cu.TOi1(D:cu z TI TO i1 i2 fp1 fp2):TO≠i1:=λe=>D.TO1 (e▸D.m1)
theorem cu.TOi2(D:cu z TI TO i1 i2 fp1 fp2):TO≠i2:=λe=>D.TO2 (e▸D.m2)
theorem dY{a:Addr}{Q:Option Obj->Shared->Prop}(h:Q (s.heap.get? a) s):wpAny (model prog w) A (loadIfAlive a) Q E s:=
 λ_ _ _=>h
abbrev dq(h:Heap)(z TI TO:Addr)(own:Value)(fl:Bool):Prop:=h.get? z=some { cls:=.type "zip",dict:=none,data:=.fields #[own,.bool fl,.bool false,.ref TI,.ref TO],slots:=#[] }
def ny(h:Heap)(own:Value):Prop:=own=.none\/∃T:Addr,own=rawInt T/\h.get? T=none
theorem vg(hz:dq s.heap z TI TO own fl)(hf:ny s.heap own)(h:Q true s):wpAny (model prog w) A (Jx (.ref z)) Q E s:=by
 unfold Jx;rcases hf with rfl |⟨T,rfl,hT⟩
 ·exact ar (Ju hz rfl (x:=.none) rfl (C0 h))
 ·refine ar (Ju hz rfl (x:=rawInt T) rfl ?_);refine(show wpAny _ _ (loadIfAlive ((T:Int)).toNat>>=_) _ _ _ from ar (dY ?_));rw[Jh,hT];exact KP rfl (C0 h)
theorem zF{Q:Value->Shared->Prop}(D:cu z TI TO i1 i2 fp1 fp2)(D1:Draws prog w A i1 fp1 n1 P1 S1)(D2:Draws prog w A i2 fp2 n2 P2 S2){own:Value}{fl:Bool}(hz:dq s.heap z TI TO own fl)(hfr:ny s.heap own)(hTI:IsPair s.heap TI (.ref i1) (.ref i2))(hTO:IsPair s.heap TO a b)
  (h1:S1 k s.heap) (h2:S2 k s.heap) (l1:k<n1) (l2:k<n2)
  (hQ:∀x y h' tk,P1 k x->P2 k y->IsZip h' z TI TO (rawInt s.heap.objs.size)->IsPair h' TI (.ref i1) (.ref i2)->IsPair h' TO x y->S1 (k+1) h'->S2 (k+1) h'->IsPair h' s.heap.objs.size x y->h'.objs.size=s.heap.objs.size+1 ->
   (∀c o,c≠z->c≠TO->c≠i1->c≠i2->s.heap.get? c=some o->h'.get? c=some o)->Q (.ref s.heap.objs.size) { s with heap:=h',toks:=tk }) :
  wpAny (model prog w) A (Builtin.«zip.__next__» ⟨[.ref z],[]⟩) (λfin s'=>∃v,fin=.done (.ret v)/\Q v s') E s:=by
 refine(show wpAny _ _ (field (.ref z) 2>>=_) _ _ _ from ar (Ju hz rfl (x:=.bool false) rfl ?_));refine(show wpAny _ _ (field (.ref z) 3>>=_) _ _ _ from ar (Ju hz rfl (x:=.ref TI) rfl ?_));refine ar (Kk hTI rfl ?_);refine(show wpAny _ _ (Jx (.ref z)>>=_) _ _ _ from ar (vg hz hfr ?_));simp only[Lr];refine ar (KU (ar (Ju hz rfl (x:=.ref TO) rfl ?_)));refine ar (J2 hz (by simp) λg1 hz1 e1=>?_)
 replace hz1:dq g1 z TI TO .ellipsis fl:=hz1
 replace e1:Jg z s.heap g1:=e1
 refine ar ?_;simp only[NW,Qc,Lf,LS];refine ar (ar (Nx ?_));have q1:S1 k g1:=D1.frame _ _ _ h1 λc hc o q=>e1.extBut c o (λy=>D.z1 (y▸hc)) q;have q2:S2 k g1:=D2.frame _ _ _ h2 λc hc o q=>e1.extBut c o (λy=>D.z2 (y▸hc)) q;refine(show wpAny _ _ (I0 (.ref i1)>>=_) _ _ _ from ar (D1.item k _ _ _ l1 q1 λx g2 t2 p1 q1' e2=>C0 ?_))
 replace e2:Jg i1 g1 g2:=e2
 have hTO2:IsPair g2 TO a b:=e2.extBut _ _ D.TOi1 (e1.extBut _ _ D.TOz hTO);refine ar (Kk hTO2 rfl (ar (MX hTO2 λg3 hTO3 e3=>?_)))
 replace hTO3:IsPair g3 TO x b:=hTO3
 replace e3:Jg TO g2 g3:=e3
 refine ar (PM (C0 ?_));refine ar (ar (Nx ?_));have r1:S1 (k+1) g3:=D1.frame _ _ _ q1' λc hc o q=>e3.extBut c o (λy=>D.TO1 (y▸hc)) q;have r2:S2 k g3:=D2.frame _ _ _ q2 λc hc o q=>e3.extBut c o (λy=>D.TO2 (y▸hc)) (e2.extBut c o (λy=>D.i12 (y▸hc)) q);refine(show wpAny _ _ (I0 (.ref i2)>>=_) _ _ _ from ar (D2.item k _ _ _ l2 r2 λy g4 t4 p2 r2' e4=>C0 ?_))
 replace e4:Jg i2 g3 g4:=e4
 have hTO4:IsPair g4 TO x b:=e4.extBut _ _ D.TOi2 hTO3;refine ar (Kk hTO4 rfl (ar (MX hTO4 λg5 hTO5 e5=>?_)))
 replace hTO5:IsPair g5 TO x y:=hTO5
 replace e5:Jg TO g4 g5:=e5
 refine ar (PM (C0 (C0 ?_)));refine ar (Kk hTO5 rfl (ar (Na ?_)));have hsz:g5.objs.size=s.heap.objs.size:=by rw[e5.1,e4.1,e3.1,e2.1,e1.1]
 have hz5:dq g5 z TI TO .ellipsis fl:=e5.extBut _ _ D.TOz.symm (e4.extBut _ _ D.i2z.symm (e3.extBut _ _ D.TOz.symm (e2.extBut _ _ D.i1z.symm hz1)));have k5:∀c o,c≠z->c≠TO->c≠i1->c≠i2->s.heap.get? c=some o->g5.get? c=some o:=λc o c1 c2 c3 c4 q=>
  e5.extBut _ _ c2 (e4.extBut _ _ c4 (e3.extBut _ _ c2 (e2.extBut _ _ c3 (e1.extBut _ _ c1 q))))
 have u1:S1 (k+1) g5:=D1.frame _ _ _ r1 λc hc o q=>e5.extBut c o (λy=>D.TO1 (y▸hc)) (e4.extBut c o (λy=>D.i21 (y▸hc)) q);have u2:S2 (k+1) g5:=D2.frame _ _ _ r2' λc hc o q=>e5.extBut c o (λy=>D.TO2 (y▸hc)) q;have hzl:z<g5.objs.size:=ID hz5;refine(show wpAny _ _ (Mg (.ref z) (.ref g5.objs.size)>>=_) _ _ _ from ar ?_);unfold Mg;have hz6:dq (g5.push { cls:=.type "tuple",data:=.seq #[x,y] }) z TI TO .ellipsis fl:=gV _ hz5;refine ar (J2 hz6 (by simp) λg7 hz7 e7=>?_)
 replace hz7:dq g7 z TI TO (rawInt g5.objs.size) fl:=hz7
 refine J2 hz7 (by simp) λg8 hz8 e8=>?_
 replace hz8:IsZip g8 z TI TO (rawInt g5.objs.size):=hz8
 replace e7:Jg z (g5.push { cls:=.type "tuple",data:=.seq #[x,y] }) g7:=e7
 replace e8:Jg z g7 g8:=e8
 have up:∀c o,c≠z->g5.get? c=some o->g8.get? c=some o:=λc o c1 q=>e8.extBut _ _ c1 (e7.extBut _ _ c1 (gV _ q));have hT8:IsPair g8 g5.objs.size x y:=e8.extBut _ _ (Ku hzl) (e7.extBut _ _ (Ku hzl) (IG _ rfl));have z8:g8.objs.size=g5.objs.size+1:=by rw[e8.1,e7.1,JY]
 rw[hsz]at hz8 hT8 z8;refine C0 ⟨_,rfl,?_⟩;show Q (.ref g5.objs.size) _;rw[hsz];exact hQ x y g8 _ p1 p2 hz8 (up _ _ D.TIz (k5 _ _ D.TIz D.TITO D.TI1 D.TI2 hTI)) (up _ _ D.TOz hTO5) (D1.frame _ _ _ u1 λc hc o q=>up c o (λy=>D.z1 (y▸hc)) q) (D2.frame _ _ _ u2 λc hc o q=>up c o (λy=>D.z2 (y▸hc)) q) hT8 z8
  λc o c1 c2 c3 c4 q=>up c o c1 (k5 c o c1 c2 c3 c4 q)
theorem AJ(D:cu z TI TO i1 i2 fp1 fp2)(D1:Draws prog w A i1 fp1 n1 P1 S1)(D2:Draws prog w A i2 fp2 n2 P2 S2)(hz:dq s.heap z TI TO own fl)(hfr:ny s.heap own)(hTI:IsPair s.heap TI (.ref i1) (.ref i2))(hTO:IsPair s.heap TO a b)
  (h1:S1 k s.heap) (h2:S2 k s.heap) (hend:k=n1\/(k<n1/\k=n2))
  (hE:∀h' e tk,(∀c o,c≠z->c≠TO->c≠i1->c≠i2->s.heap.get? c=some o->h'.get? c=some o)->(∃o,h'.get? e=some o/\o.cls=.type "StopIteration")->E (.ref e) { s with heap:=h',toks:=tk }) :
  wpAny (model prog w) A (Builtin.«zip.__next__» ⟨[.ref z],[]⟩) Q E s:=by
 refine(show wpAny _ _ (field (.ref z) 2>>=_) _ _ _ from ar (Ju hz rfl (x:=.bool false) rfl ?_));refine(show wpAny _ _ (field (.ref z) 3>>=_) _ _ _ from ar (Ju hz rfl (x:=.ref TI) rfl ?_));refine ar (Kk hTI rfl ?_);refine(show wpAny _ _ (Jx (.ref z)>>=_) _ _ _ from ar (vg hz hfr ?_));simp only[Lr];refine ar (KU (ar (Ju hz rfl (x:=.ref TO) rfl ?_)));refine ar (J2 hz (by simp) λg1 hz1 e1=>?_)
 replace hz1:dq g1 z TI TO .ellipsis fl:=hz1
 replace e1:Jg z s.heap g1:=e1
 refine ar ?_;simp only[NW,Qc,Lf,LS];refine ar (ar (Nx ?_));have q1:S1 k g1:=D1.frame _ _ _ h1 λc hc o q=>e1.extBut c o (λy=>D.z1 (y▸hc)) q;have q2:S2 k g1:=D2.frame _ _ _ h2 λc hc o q=>e1.extBut c o (λy=>D.z2 (y▸hc)) q;rcases hend with hk |⟨hk,hk2⟩
 ·subst hk;refine(show wpAny _ _ (I0 (.ref i1)>>=_) _ _ _ from ar (D1.done _ _ _ q1 λg2 e e2 he=>?_));obtain⟨oe,hoe,hce⟩:=he
  replace e2:LG i1 g1 g2:=e2
  have hz2:dq g2 z TI TO .ellipsis fl:=e2 _ _ D.i1z.symm hz1;have hez:e≠z:=λx=>by subst x;rw[hz2]at hoe;cases hoe;simp at hce
  refine J2 hz2 (by simp) λg3 _ e3=>hE g3 e _ (λc o c1 _ c3 _ q=>e3.extBut _ _ c1 (e2 _ _ c3 (e1.extBut _ _ c1 q))) ⟨oe,e3.extBut _ _ hez hoe,hce⟩
 ·subst hk2;refine(show wpAny _ _ (I0 (.ref i1)>>=_) _ _ _ from ar (D1.item k _ _ _ hk q1 λx g2 t2 p1 q1' e2=>C0 ?_))
  replace e2:Jg i1 g1 g2:=e2
  have hTO2:IsPair g2 TO a b:=e2.extBut _ _ D.TOi1 (e1.extBut _ _ D.TOz hTO);refine ar (Kk hTO2 rfl (ar (MX hTO2 λg3 hTO3 e3=>?_)))
  replace e3:Jg TO g2 g3:=e3
  refine ar (PM (C0 ?_));refine ar (ar (Nx ?_));have r2:S2 k g3:=D2.frame _ _ _ q2 λc hc o q=>e3.extBut c o (λy=>D.TO2 (y▸hc)) (e2.extBut c o (λy=>D.i12 (y▸hc)) q);refine(show wpAny _ _ (I0 (.ref i2)>>=_) _ _ _ from ar (D2.done _ _ _ r2 λg4 e e4 he=>?_));obtain⟨oe,hoe,hce⟩:=he
  replace e4:LG i2 g3 g4:=e4
  have hz4:dq g4 z TI TO .ellipsis fl:=e4 _ _ D.i2z.symm (e3.extBut _ _ D.TOz.symm (e2.extBut _ _ D.i1z.symm hz1));have hez:e≠z:=λx=>by subst x;rw[hz4]at hoe;cases hoe;simp at hce
  refine J2 hz4 (by simp) λg5 _ e5=>hE g5 e _ (λc o c1 c2 c3 c4 q=>e5.extBut _ _ c1 (e4 _ _ c4 (e3.extBut _ _ c2 (e2.extBut _ _ c3 (e1.extBut _ _ c1 q))))) ⟨oe,e5.extBut _ _ hez hoe,hce⟩
end
section
variable{prog:Program}{w:World}{A:Around}{E:Value->Shared->Prop}{s:Shared}{z TI TO i1 i2:Addr}{fp1 fp2:List Addr}{n1 n2 k:Nat}{P1 P2:Nat->Value->Prop}{S1 S2:Nat->Heap->Prop}{a b:Value}
theorem qy(D:cu z TI TO i1 i2 fp1 fp2)(D1:Draws prog w A.in1 i1 fp1 n1 P1 S1)(D2:Draws prog w A.in1 i2 fp2 n2 P2 S2)(hz:dq s.heap z TI TO own fl)(hfr:ny s.heap own)(hTI:IsPair s.heap TI (.ref i1) (.ref i2))(hTO:IsPair s.heap TO a b)
  (h1:S1 k s.heap) (h2:S2 k s.heap) (l1:k<n1) (l2:k<n2)
  (hQ:∀x y h' tk,P1 k x->P2 k y->IsZip h' z TI TO (rawInt s.heap.objs.size)->IsPair h' TI (.ref i1) (.ref i2)->IsPair h' TO x y->S1 (k+1) h'->S2 (k+1) h'->IsPair h' s.heap.objs.size x y->h'.objs.size=s.heap.objs.size+1 ->
   (∀c o,c≠z->c≠TO->c≠i1->c≠i2->s.heap.get? c=some o->h'.get? c=some o)->Q (some (.ref s.heap.objs.size)) { s with heap:=h',toks:=tk }) :
  wpAny (model prog w) A (pyNext (.ref z)) Q E s:=by
 have hT:s.TypeIs (.ref z) "zip":=⟨_,hz,rfl⟩;unfold pyNext;exact ar (LB (Jz (name:=Jo "__next__") hT KW (JB KW hT MM
  (zF D D1 D2 hz hfr hTI hTO h1 h2 l1 l2 λx y h' tk a1 a2 a3 a4 a5 a6 a7 a8 a9 a10=>C0 (hQ x y h' tk a1 a2 a3 a4 a5 a6 a7 a8 a9 a10)) (Mw _))))
theorem rH(D:cu z TI TO i1 i2 fp1 fp2)(D1:Draws prog w A.in1 i1 fp1 n1 P1 S1)(D2:Draws prog w A.in1 i2 fp2 n2 P2 S2)(hz:dq s.heap z TI TO own fl)(hfr:ny s.heap own)(hTI:IsPair s.heap TI (.ref i1) (.ref i2))(hTO:IsPair s.heap TO a b)
  (h1:S1 k s.heap) (h2:S2 k s.heap) (hend:k=n1\/(k<n1/\k=n2))
  (hQ:∀h' tk,(∀c o,c≠z->c≠TO->c≠i1->c≠i2->s.heap.get? c=some o->h'.get? c=some o)->Q none { s with heap:=h',toks:=tk }):wpAny (model prog w) A (pyNext (.ref z)) Q E s:=by
 have hT:s.TypeIs (.ref z) "zip":=⟨_,hz,rfl⟩;unfold pyNext;refine ar (LB (Jz (name:=Jo "__next__") hT KW (JB KW hT MM
  (AJ D D1 D2 hz hfr hTI hTO h1 h2 hend λh' e tk hk he=>?_) (Mw _))))
 obtain⟨o,ho,hc⟩:=he;exact ar (Kw (T:="StopIteration") (b:=true) ⟨o,ho,hc⟩ OB (C0 (hQ _ tk hk)))
noncomputable abbrev zT(h:Heap)(t:Addr):Heap:=h.push { cls:=.type "tuple_iterator",data:=.fields #[.ref t,.int 0 0] }
noncomputable abbrev zTT(h:Heap)(t u:Addr):Heap:=zT (zT h t) u
noncomputable abbrev zPI(h:Heap)(t u:Addr):Heap:=(zTT h t u).push { cls:=.type "tuple",data:=.seq #[.ref h.objs.size,.ref (zT h t).objs.size] }
noncomputable abbrev zPO(h:Heap)(t u:Addr):Heap:=(zPI h t u).push { cls:=.type "tuple",data:=.seq #[.none,.none] }
noncomputable abbrev o9(h:Heap)(t u:Addr):Heap:=(zPO h t u).push { cls:=.type "zip",data:=.fields #[.none,.bool false,.bool false,.ref (zTT h t u).objs.size,.ref (zPI h t u).objs.size] }
theorem zY(t u:Addr)(xs ys:Array Value):Meets (Builtin.«zip.__new__» ⟨[.type "zip",.ref t,.ref u],[]⟩) (λ_ R s=>s.heap.IsTuple t xs/\s.heap.IsTuple u ys/\R (.ok (.ret (.ref (zPO s.heap t u).objs.size))) { s with heap:=o9 s.heap t u }):=
 .of_wp λprog w A R s h=>by
  obtain⟨hp,g,d,tk,os⟩:=s;obtain⟨ht,hu,h⟩:=h;have hsub:=sub_zip;have h1:MY (Nj ⟨hp,g,d,tk,os⟩) t xs:=ht;have h2:MY (Nj ⟨hp.push { cls:=.type "tuple_iterator",data:=.fields #[.ref t,.int 0 0] },g,d,tk,os⟩) u ys:=by
   obtain⟨o,e,r⟩:=hu;exact⟨o,gV _ e,r⟩
  wp_walk using Kx h1,Kx h2
  exact⟨_,rfl,h⟩
theorem zj(ht:s.heap.IsTuple t xs)(hu:s.heap.IsTuple u ys)
  (h:∀h',IsZip h' (s.heap.objs.size+4) (s.heap.objs.size+2) (s.heap.objs.size+3) .none->IsPair h' (s.heap.objs.size+2) (.ref s.heap.objs.size) (.ref (s.heap.objs.size+1))->IsPair h' (s.heap.objs.size+3) .none .none ->
   h'.IsTupleIter s.heap.objs.size t 0->h'.IsTupleIter (s.heap.objs.size+1) u 0->(∀c o,s.heap.get? c=some o->h'.get? c=some o)->Q (.ref (s.heap.objs.size+4)) { s with heap:=h' }) :
  wpAny (model prog w) A (call (.type "zip") [.ref t,.ref u]) Q E s:=by
 refine NX RC (by decide) (PY _ _) (Qd _ _) (λobj=>OO obj _ _) Qe (zY t u xs ys) ⟨ht,hu,?_⟩;have s1:(zT s.heap t).objs.size=s.heap.objs.size+1:=JY ..;have s2:(zTT s.heap t u).objs.size=s.heap.objs.size+2:=by rw[JY,s1]
 have s3:(zPI s.heap t u).objs.size=s.heap.objs.size+3:=by rw[JY,s2]
 have s4:(zPO s.heap t u).objs.size=s.heap.objs.size+4:=by rw[JY,s3]
 have g5:(o9 s.heap t u).get? (zPO s.heap t u).objs.size=some _:=IG _ rfl;have g4:(o9 s.heap t u).get? (zPI s.heap t u).objs.size=some _:=gV _ (IG _ rfl);have g3:(o9 s.heap t u).get? (zTT s.heap t u).objs.size=some _:=gV _ (gV _ (IG _ rfl));have g2:(o9 s.heap t u).get? (zT s.heap t).objs.size=some _:=gV _ (gV _ (gV _ (IG _ rfl)));have g1:(o9 s.heap t u).get? s.heap.objs.size=some _:=gV _ (gV _ (gV _ (gV _ (IG _ rfl))));show _/\_;rw[s2,s3,s4]at g5;rw[s1,s2]at g3;rw[s3]at g4;rw[s1]at g2;rw[s4];exact⟨⟨_,g5,rfl⟩,h _ g5 g3 g4 ⟨_,g1,rfl,rfl⟩ ⟨_,g2,rfl,rfl⟩ λc o q=>gV _ (gV _ (gV _ (gV _ (gV _ q))))⟩
end
theorem rK(ht:∀c∈[N+4,N+2,N+3,N,N+1],t≠c)(hu:∀c∈[N+4,N+2,N+3,N,N+1],u≠c):cu (N+4) (N+2) (N+3) N (N+1) [N,t] [N+1,u]:=by
 have d:∀i j:Nat,i≠j->(N+i:Nat)≠N+j:=λi j h e=>h (O2 e);have t4:=ht (N+4) (by simp);have t3:=ht (N+3) (by simp);have t1:=ht (N+1) (by simp);have u4:=hu (N+4) (by simp);have u3:=hu (N+3) (by simp);have u0:=hu N (by simp);refine⟨d 2 4 (by decide),d 3 4 (by decide),d 2 3 (by decide),λh=>?_,λh=>?_,λh=>?_,λh=>?_,λh=>?_,λh=>?_,by simp,by simp,d 2 0 (by decide),d 2 1 (by decide)⟩
 ·rcases IL.mp h with z |z
  ·exact d 4 0 (by decide) z
  ·exact t4 (IQ.mp z).symm
 ·rcases IL.mp h with z |z
  ·exact d 4 1 (by decide) z
  ·exact u4 (IQ.mp z).symm
 ·rcases IL.mp h with z |z
  ·exact d 3 0 (by decide) z
  ·exact t3 (IQ.mp z).symm
 ·rcases IL.mp h with z |z
  ·exact d 3 1 (by decide) z
  ·exact u3 (IQ.mp z).symm
 ·rcases IL.mp h with z |z
  ·exact d 0 1 (by decide) z
  ·exact u0 (IQ.mp z).symm
 ·rcases IL.mp h with z |z
  ·exact d 1 0 (by decide) z
  ·exact t1 (IQ.mp z).symm
section
variable{prog:Program}{w:World}{A:Around}{E:Value->Shared->Prop}{s:Shared}
theorem A0{t sl:Addr}{items:Array Value}{vl vu:Value}{lo hi:Option Int}{Q:Value->Shared->Prop}(ht:IsTup s.heap t items)(hs:s.heap.IsSliceOf sl vl vu .none)(pl:IsPart vl lo)(pu:IsPart vu hi)
    (hw:HT.sIx items.size 0 lo=0/\HT.sIx items.size items.size hi=items.size) (h:Q (.ref t) s):wpAny (model prog w) A (getItem (.ref t) (.ref sl)) Q E s:=by
  obtain⟨os,hos,hcs,hds⟩:=id hs;have hTs:s.TypeIs (.ref sl) "slice":=⟨os,hos,hcs⟩;unfold getItem
  try with_reducible refine Jl ?_
  first |refine ar (C0 ?_) |skip
  refine ar (NJ ht.typeIs (by decide) ?_);refine ar (Jz (name:=Jo "__getitem__") ht.typeIs Jy (JB Jy ht.typeIs M3 ?_ (Nl _ _)));refine(show wpAny _ _ (L5 (.ref t)>>=_) _ _ s from ar (OW ht (ar (J0 hTs ?_))));rw[Iw (by decide)];refine ar (HT.h8 hs pl pu ?_);have yes:(((HT.sIx items.size 0 lo:Nat):Int)==0&&(1:Int)==1&&(HT.sIx items.size items.size hi-HT.sIx items.size 0 lo)==items.size)=true:=by
    rw[hw.1,hw.2];simp
  show wpAny _ _ (if(((HT.sIx items.size 0 lo:Nat):Int)==0&&(1:Int)==1&&(HT.sIx items.size items.size hi-HT.sIx items.size 0 lo)==items.size)=true then _ else _) _ _ s;rw[Iw yes];obtain⟨o,ho,hcl,n,hd⟩:=id ht;have hT:s.TypeIs (.ref t) "tuple":=⟨o,ho,hcl⟩;have hx:wpAny (model prog w) A.in1 (Ny (.ref t)) (λb s'=>b=true/\s'=s) E s:=by
    unfold Ny
    first
      |exact ar (J0 hT (C0 ⟨by decide,rfl⟩))
      |(refine ar (J0 hT ?_);exact C0 ⟨by simp,rfl⟩)
  refine ar (JZ hx (λb s' hb=>?_) λ_ _ x=>x);obtain⟨rfl,rfl⟩:=hb;rw[Iw rfl];exact ar (KU (C0 ⟨_,rfl,C0 h⟩))
theorem wJ{sl:Addr}{tk:Tok}{n:Nat}{Q:Int×Int×Nat->Shared->Prop}(hs:s.heap.IsSliceOf sl .none .none (.int (-1) tk))(h:Q ((n:Int)-1,-1,n) s):wpAny (model prog w) A (Li (.ref sl) (pure (n:Int))) Q E s:=by
 obtain⟨os,hos,hcs,hds⟩:=id hs;unfold Li NP;refine ar (ar (Ju hos hds (x:=.none) rfl (ar (Ju hos hds (x:=.none) rfl (ar (Ju hos hds (x:=.int (-1) tk) rfl (C0 ?_)))))));refine ar (QM ?_);show wpAny _ _ (if((-1:Int)==0)=true then _ else _) _ _ s;rw[IF (by decide)];refine ar (M9 (ar (M9 (ar (C0 ?_)))));show wpAny _ _ (pure ((n:Int)-1,(-1:Int),J7 ((n:Int)-1) (-1) (-1))) _ _ s;have e:J7 ((n:Int)-1) (-1) (-1)=n:=by
  unfold J7;have h1:¬((-1:Int)>0):=by decide
  simp only[h1,Lh];have h2:(-(-1:Int))=1:=by decide
  rw[h2,Ry];split<;>omega
 rw[e];exact C0 h
theorem Dj(xs:List Value):((IP xs.length).filterMap λ(m:Nat)=>xs.toArray[(((xs.length:Nat):Int)-1+(m:Int)*(-1)).toNat]?)=xs.reverse:=by
 apply Mx;intro i;have key:∀(k:Nat),k<=xs.length->((IP k).filterMap λ(m:Nat)=>xs.toArray[(((xs.length:Nat):Int)-1+(m:Int)*(-1)).toNat]?)=xs.reverse.take k:=by
  intro k
  induction k with
  |zero=>intro _;simp
  |succ k ih=>
   intro hk;have e:(((xs.length:Nat):Int)-1+(k:Int)*(-1)).toNat=xs.length-1-k:=by omega
   rw[Oh,MQ,ih (by omega),Mz];congr 1;simp only[JF,List.filterMap_nil,e];rw[List.getElem?_reverse (by omega)];have h2:xs.length-1-k<xs.length:=by omega
   simp[h2]
 rw[key xs.length (IB _),Jf (by simp)]
theorem A2{its:List Value}(ht:IsTup s.heap t its.toArray)(hs:s.heap.IsSliceOf sl .none .none (.int (-1) tk))(hsz:its.length<=sizeLine)
    (h:Q (.ref s.heap.objs.size) { s with heap:=s.heap.push { cls:=.type "tuple",data:=.seq its.reverse.toArray } }):wpAny (model prog w) A (getItem (.ref t) (.ref sl)) Q E s:=by
  obtain⟨os,hos,hcs,hds⟩:=id hs;have hTs:s.TypeIs (.ref sl) "slice":=⟨os,hos,hcs⟩;unfold getItem
  try with_reducible refine Jl ?_
  first |refine ar (C0 ?_) |skip
  refine ar (NJ ht.typeIs (by decide) ?_);refine ar (Jz (name:=Jo "__getitem__") ht.typeIs Jy (JB Jy ht.typeIs M3 ?_ (Nl _ _)));refine(show wpAny _ _ (L5 (.ref t)>>=_) _ _ s from ar (OW ht (ar (J0 hTs ?_))));rw[Iw (by decide)];refine ar (wJ hs ?_);have no:¬(((((its.toArray.size:Nat):Int)-1==0)&&((-1:Int)==1)&&(its.toArray.size==its.toArray.size))=true):=by
    intro q;rw[JR,JR]at q;exact absurd q.1.2 (by decide)
  show wpAny _ _ (if((((its.toArray.size:Nat):Int)-1==0)&&((-1:Int)==1)&&(its.toArray.size==its.toArray.size))=true then _ else _) _ _ s;rw[IF no];have z:its.toArray.size=its.length:=IE ..;rw[z];rw[Dj];have htake:sizeOk (.seq its.reverse.toArray):=by
    show its.reverse.toArray.size<=sizeLine;rw[IE,K4];exact hsz
  first
    |exact ar (m:=JH _) (Jr (C0 ⟨_,rfl,C0 h⟩) htake)
    |exact ar (m:=JH _) (Jr (ar (C0 (C0 ⟨_,rfl,C0 h⟩))) htake)
    |exact ar (ar (m:=JH _) (Jr (C0 (C0 ⟨_,rfl,C0 h⟩)) htake))
    |exact ar (ar (m:=JH _) (Jr (C0 ⟨_,rfl,C0 h⟩) htake))
theorem Fs{ws:List Value}(ht:IsTup s.heap t ([]:List Value).toArray)(hb:IsTup s.heap b ws.toArray)(h:Q (.ref b) s):wpAny (model prog w) A (binaryOp .Add (.ref t) (.ref b)) Q E s:=by
 obtain⟨⟨cls,dd,data,sl⟩,ho,hc,n,hd⟩:=id ht;obtain⟨⟨cls2,dd2,data2,sl2⟩,ho2,hc2,n2,hd2⟩:=id hb;simp only at hc hd hc2 hd2;subst hc hd hc2 hd2;exact O_ ⟨_,ho,rfl⟩ ⟨_,ho2,rfl⟩ NT OV MD Mo (Me _ _) (tuple_addW0 t b _ _ n n2 dd dd2 sl sl2 (by simp)) ⟨ho,ho2,h⟩
end
section
variable{X:Cx}
def ik(n:Nat)(lo hi:Option Int):Prop:=HT.sIx n 0 lo=0/\HT.sIx n n hi=n
noncomputable instance(n:Nat)(lo hi:Option Int):Decidable (ik n lo hi):=inferInstanceAs (Decidable (_/\_))
def GY(K:Iy):V->Option Int->Option Int->Hp->VK->Prop:=λx lo hi H Q=>∃a xs,x=.ref a/\SqT K H a xs/\(ik xs.length lo hi->Q (.ref a) H)/\(¬ik xs.length lo hi->∀p,H p=none->Q (.ref p) (upd H p (.tup (gQ xs lo hi))))
theorem C_:SlR X (GY X.K):=by
 intro pins s σ H x v vl vu lo hi sl Q I rx hs pl pu h;obtain⟨a,xs,rfl,hx,q1,q2⟩:=h;by_cases hw:ik xs.length lo hi
 ·cases rx;obtain⟨its,r,ht,hz⟩:=I.tuple hx;have hlen:its.toArray.size=xs.length:=by rw[IE];exact r.length.symm
  refine⟨"tuple",_,Jy.lookup,ht.typeIs,?_⟩;exact A0 ht hs pl pu (by rw[hlen];exact hw) ⟨.ref a,H,I,rfl,q1 hw⟩
 ·exact DW pins s σ H (.ref a) v vl vu lo hi sl Q I rx hs pl pu ⟨a,xs,rfl,hx,hw,q2 hw⟩
noncomputable def DQ(K:Iy):R2:=λx y H Q=>∃a b xs ys,x=.ref a/\y=.ref b/\SqT K H a xs/\SqT K H b ys/\xs.length+ys.length<=sizeLine /\
 (xs=[]->Q (.ref b) H)/\(xs≠[]->ys=[]->Q (.ref a) H)/\(xs≠[]->ys≠[]->∀p,H p=none->Q (.ref p) (upd H p (.tup (xs++ys))))
theorem zV:OpR X (binaryOp .Add) (DQ X.K):=by
 intro pins s σ H x y v u Q I rx ry h;obtain⟨a,b,xs,ys,rfl,rfl,ha,hb,hz,q1,q2,q3⟩:=h;by_cases hx:xs=[]
 ·cases rx;cases ry;obtain⟨its,r1,p1,_⟩:=I.tuple ha;obtain⟨its2,r2,p2,_⟩:=I.tuple hb;obtain rfl:its=[]:=r1.lY.mpr hx;exact Fs p1 p2 ⟨.ref b,H,I,rfl,q1 hx⟩
 ·exact Dh pins s σ H (.ref a) (.ref b) v u Q I rx ry ⟨a,b,xs,ys,rfl,rfl,ha,hb,hx,hz,q2 hx,q3 hx⟩
noncomputable def AK:R2:=λx y H Q=>∃d e,Rep H x d/\Rep H y e/\D.depth d<=50/\((∃ds es,d=.tup ds/\e=.tup es)\/∃ds es,d=.lst ds/\e=.lst es)/\Q (.bl (D.eqv d e)) H
noncomputable def AB:R2:=λx y H Q=>∃d e,Rep H x d/\Rep H y e/\D.depth d<=50/\((∃ds es,d=.tup ds/\e=.tup es)\/∃ds es,d=.lst ds/\e=.lst es)/\Q (.bl (!D.eqv d e)) H
theorem j4{A:Around}{ds es:List D}{its its2:List Value}(I:Inv X pins σ H s)(hu:A.units+64<cLine)(hd:D.cq ds<=50)(r1:Vals vs its)(r2:Vals us its2)(q1:aw H vs ds)(q2:aw H us es) :
  ∀j(h1:j<its.toArray.size)(h2:j<its2.toArray.size),Ml A.in1 s its.toArray[j] its2.toArray[j] (D.eqv (ds.getD j .non) (es.getD j .non)):=by
 intro j h1 h2;have h1':j<its.length:=by simpa using h1
 have h2':j<its2.length:=by simpa using h2
 have l1:=r1.length;have l2:=r2.length;have e1:vs[j]?=some (vs[j]'(by omega)):=H0 _;have e2:us[j]?=some (us[j]'(by omega)):=H0 _;obtain⟨a1,b1,c1⟩:=r1.get e1;obtain⟨a2,b2,c2⟩:=r2.get e2;obtain⟨f1,g1,k1⟩:=q1.get e1;obtain⟨f2,g2,k2⟩:=q2.get e2;have z1:its.toArray[j]=a1:=by
  have:its[j]?=some its[j]:=H0 h1';rw[b1]at this;simpa using(Jj this).symm
 have z2:its2.toArray[j]=a2:=by
  have:its2[j]?=some its2[j]:=H0 h2';rw[b2]at this;simpa using(Jj this).symm
 rw[z1,z2,Iz,Iz,g1,g2];exact yY I 60 A.in1 _ _ _ _ _ _ (by show A.units+1+60<cLine;omega) (JS (D.gC g1) (by omega)) c1 c2 k1 k2
theorem DM(hu:X.A.units+64<cLine):OpR X (compareOp .Eq) AK:=by
 intro pins s σ H x y v u Q I rx ry h;obtain⟨d,e,r1,r2,hd,hk,q⟩:=h;rcases hk with⟨ds,es,rfl,rfl⟩ |⟨ds,es,rfl,rfl⟩
 ·cases r1 with
  |tup h1 q1=>
   cases r2 with
   |tup h2 q2=>
    cases rx;cases ry;obtain⟨its,rv1,p1,_⟩:=I.tuple (SqT.of h1);obtain⟨its2,rv2,p2,_⟩:=I.tuple (SqT.of h2);refine SeqAt.eq_tupleAt (e:=λj=>D.eqv (ds.getD j .non) (es.getD j .non)) p1 p2 (by omega) (j4 I hu (by simp only[D.depth]at hd;omega) rv1 rv2 q1 q2) ⟨.bl _,H,I,rfl,?_⟩;rw[IE,IE,<-rv1.length,<-rv2.length,q1.length,q2.length,<-D.cg];simpa only[D.eqv]using q
 ·cases r1 with
  |lst h1 q1=>
   cases r2 with
   |lst h2 q2=>
    cases rx;cases ry;obtain⟨its,rv1,p1,_⟩:=I.list (SqL.of h1);obtain⟨its2,rv2,p2,_⟩:=I.list (SqL.of h2);have l1:=rv1.length;have l2:=rv2.length;have m1:=q1.length;have m2:=q2.length;by_cases hl:ds.length=es.length
    ·refine SeqAt.eq_listAt (e:=λj=>D.eqv (ds.getD j .non) (es.getD j .non)) p1.isList p2.isList (by simp;omega) (by omega) (j4 I hu (by simp only[D.depth]at hd;omega) rv1 rv2 q1 q2) ⟨.bl _,H,I,rfl,?_⟩;have z:D.bS ds es=(IP its.toArray.size).all λj=>D.eqv (ds.getD j .non) (es.getD j .non):=by
      rw[D.cg,<-hl,La,IE,<-l1,m1];simp
     rw[<-z];simpa only[D.eqv]using q
    ·refine SeqAt.eq_list_lengthsAt p1.isList p2.isList (by simp;omega) (by omega) ⟨.bl _,H,I,rfl,?_⟩;have z:D.bS ds es=false:=by rw[D.cg];simp[hl]
     simpa only[D.eqv,z]using q
theorem EV(hu:X.A.units+64<cLine):OpR X (compareOp .NotEq) AB:=by
 intro pins s σ H x y v u Q I rx ry h;obtain⟨d,e,r1,r2,hd,hk,q⟩:=h;rcases hk with⟨ds,es,rfl,rfl⟩ |⟨ds,es,rfl,rfl⟩
 ·cases r1 with
  |tup h1 q1=>
   cases r2 with
   |tup h2 q2=>
    cases rx;cases ry;obtain⟨its,rv1,p1,_⟩:=I.tuple (SqT.of h1);obtain⟨its2,rv2,p2,_⟩:=I.tuple (SqT.of h2);refine SA (e:=λj=>D.eqv (ds.getD j .non) (es.getD j .non)) p1 p2 (by omega) (j4 I hu (by simp only[D.depth]at hd;omega) rv1 rv2 q1 q2) _ _ _ _ ⟨.bl _,H,I,rfl,?_⟩;rw[IE,IE,<-rv1.length,<-rv2.length,q1.length,q2.length,<-D.cg];simpa only[D.eqv]using q
 ·cases r1 with
  |lst h1 q1=>
   cases r2 with
   |lst h2 q2=>
    cases rx;cases ry;obtain⟨its,rv1,p1,_⟩:=I.list (SqL.of h1);obtain⟨its2,rv2,p2,_⟩:=I.list (SqL.of h2);have l1:=rv1.length;have l2:=rv2.length;have m1:=q1.length;have m2:=q2.length;by_cases hl:ds.length=es.length
    ·refine SF (e:=λj=>D.eqv (ds.getD j .non) (es.getD j .non)) p1.isList p2.isList (by simp;omega) (by omega) (j4 I hu (by simp only[D.depth]at hd;omega) rv1 rv2 q1 q2) _ _ _ _ ⟨.bl _,H,I,rfl,?_⟩;have z:D.bS ds es=(IP its.toArray.size).all λj=>D.eqv (ds.getD j .non) (es.getD j .non):=by
      rw[D.cg,<-hl,La,IE,<-l1,m1];simp
     rw[<-z];simpa only[D.eqv]using q
    ·refine QR p1.isList p2.isList (by simp;omega) (by omega) _ _ _ _ ⟨.bl _,H,I,rfl,?_⟩;have z:D.bS ds es=false:=by rw[D.cg];simp[hl]
     simpa only[D.eqv,z,Bool.not_false]using q
theorem D4(hu:X.A.units+64<cLine):OpR X (compareOp .Eq) (λx y H Q=>rEq x y H Q\/AK x y H Q):=FX.or (DM hu)
theorem Ej(hu:X.A.units+64<cLine):OpR X (compareOp .NotEq) (λx y H Q=>rNe x y H Q\/AB x y H Q):=Hm.or (EV hu)
theorem pb:∀{bs:List Bool}{us:List Value},Vals (bs.map V.bl) us->us=bs.map Value.bool
 | [],_,h=>by cases h;rfl
 |b::bs,_,h=>by
  cases h with
  |cons r t=>cases r;rw[pb t];rfl
theorem yA(hc:X.calm=true):bJ X (.builtin "all") (λxs H Q=>∃(p:Addr)(bs:List Bool),xs=[.ref p]/\SqL X.K H p (bs.map V.bl)/\Q (.bl (bs.all id)) H):=by
 intro pins s σ H xs us Q I r h;obtain⟨p,bs,rfl,hq,q⟩:=h;obtain⟨u,rfl,rx⟩:=vals1 r;cases rx;obtain⟨its,rv,pl,hz⟩:=I.list hq;have hits:=pb rv;subst hits;have hA:X.A.in1.handled=none:=I.ok.hd hc;obtain⟨o,ho,hcl,n,hd⟩:=pl.isList;have hne:p≠s.heap.objs.size:=IZ (ID ho);refine call_all_walk (LL pl.isList ?_);refine⟨s.heap.objs.size,_,_,_,_,_,λi=>bs.getD i true,rfl,Qf (prog:=X.prog) (w:=X.w) hA s.heap.objs.size p hne (bs.map Value.bool).toArray,⟨⟨_,IG _ rfl,rfl,rfl⟩,⟨o,gV _ ho,hcl,n,hd⟩⟩,?_,λh' tk hk=>?_⟩
 ·intro i v s' Q' E' hP hQ;have hP':(bs.map Value.bool).toArray[i]?=some v:=hP;rw[Ks,IU]at hP';cases e:bs[i]? with
  |none=>rw[e]at hP';cases hP'
  |some b=>
   rw[e]at hP';cases hP';have hQ:Q' (bs.getD i true) s':=hQ;rw[Iz,e]at hQ;exact Km hQ
 ·have z:(IP (bs.map Value.bool).toArray.size).all (λi=>bs.getD i true)=bs.all id:=by
   rw[IE,IA,Kc,K5,K5];constructor
   ·intro h b hb;obtain⟨i,hi,e⟩:=JC.mp hb;have:=h i (JO.mpr hi);rw[Iz,H0 hi]at this;simpa[e]using this
   ·intro h i hi;have hi':=JO.mp hi;rw[Iz,H0 hi'];exact h _ (JE hi')
  rw[z];have I1:Inv X pins σ H { s with heap:=s.heap.push { cls:=.type "list_iterator",data:=.fields #[.ref p,.int 0 0] } }:=I.kept (t':=s.toks) λb o e=>gV _ e;have fk:eC X pins H s.heap.objs.size:=I.jz (IB _) (I.hok.fresh (IB _));obtain⟨f0,f1,f2,f3,f4,f5⟩:=fk;exact⟨.bl _,H,I1.turned (t':=tk) (it:=s.heap.objs.size) (λb o hb e=>hk b o (λz=>hb (IQ.mp z)) e) f0 f1 f3 f4 f5,rfl,q⟩
theorem tV:bJ X (.builtin "sorted") (λxs H Q=>∃(p:Addr)(ns:List Int),xs=[.ref p]/\SqL X.K H p (ns.map V.int)/\ns.length<64/\∀(l:Addr)(ms:List Int),H l=none->List.Perm ms ns->ms.Pairwise (·<=·)->Q (.ref l) (upd H l (.lst (ms.map V.int)))):=by
 intro pins s σ H xs us Q I r h;obtain⟨p,ns,rfl,hq,hl,q⟩:=h;obtain⟨u,rfl,rx⟩:=vals1 r;cases rx;obtain⟨its,rv,pl,hz⟩:=I.list hq;have hI:IntsAre its ns:=intsAre_of rv;have h64:its.length<64:=by rw[<-rv.length,IA];exact hl
 refine sorted_ints pl.isList hI h64 λout ms hout hperm hpair=>?_;obtain⟨e,he⟩:=sortedAll_at s.heap its out;refine⟨.ref (s.heap.objs.size+1),_,I.laid (t':=s.toks) (o:=.lst (ms.map V.int)) (λb ob q=>QS q) (L7 _) ?_,rfl,q _ ms (I.hok.fresh (L7 _)) hperm hpair⟩;have hlm:ms.length=ns.length:=hperm.length_eq;exact⟨by rw[IA];have:(64:Nat)<=sizeLine:=(by decide);omega,out.toList,e,eO hout,by simpa using he⟩
end
noncomputable def g_(H:Hp)(p:Addr):Option (List V):=match H p with
 |some (.lst xs)=>some xs
 |some (.tup xs)=>some xs
 |_=>none
theorem ES(h:H p=some (.tup xs)):g_ H p=some xs:=by unfold g_;rw[h]
theorem D9(h:H p=some (.lst xs)):g_ H p=some xs:=by unfold g_;rw[h]
theorem jd(h:g_ H p=some xs):H p=some (.lst xs)\/H p=some (.tup xs):=by
 unfold g_ at h;split at h
 ·cases h;exact .inl ‹_›
 ·cases h;exact .inr ‹_›
 ·cases h
section
variable{X:Cx}
noncomputable def EL:R2:=λx y H Q=>∃p i xs v,x=.ref p/\y=.int i/\g_ H p=some xs/\atI xs i=some v/\Q v H
theorem HM:IxR X EL:=by
 intro value slice pins s σ H x y v u Q I rx ry q hs;obtain⟨p,i,xs,w',rfl,rfl,h,e,q⟩:=q;rcases jd h with h |h
 ·exact CS value slice pins s σ H _ _ v u Q I rx ry ⟨p,xs,i,w',rfl,rfl,SqL.of h,e,q⟩ hs
 ·exact Fw value slice pins s σ H _ _ v u Q I rx ry ⟨p,xs,i,w',rfl,rfl,SqT.of h,e,q⟩ hs
def B8:List V->Hp->VK->Prop:=λvs H Q=>∃p xs,vs=[.ref p]/\g_ H p=some xs/\Q (.int xs.length) H
theorem aN:bJ X (.builtin "len") B8:=by
 intro pins s σ H vs us Q I r h;obtain⟨p,xs,rfl,h,q⟩:=h;rcases jd h with h |h
 ·exact sA pins s σ H _ us Q I r ⟨_,_,rfl,.inl ⟨xs,SqL.of h,rfl⟩,q⟩
 ·exact sA pins s σ H _ us Q I r ⟨_,_,rfl,.inr ⟨xs,SqT.of h,rfl⟩,q⟩
def rN:List V->Hp->VK->Prop:=λvs H Q=>∃p xs,vs=[.ref p]/\g_ H p=some xs/\∀l,H l=none->Q (.ref l) (upd H l (.lst xs))
theorem jK:bJ X (.type "list") rN:=by
 intro pins s σ H vs us Q I r h;obtain⟨p,xs,rfl,h,q⟩:=h;rcases jd h with h |h
 ·exact lh pins s σ H _ us Q I r ⟨p,xs,rfl,.inl (SqL.of h),q⟩
 ·exact lh pins s σ H _ us Q I r ⟨p,xs,rfl,.inr (SqT.of h),q⟩
def uP:List V->Hp->VK->Prop:=λvs H Q=>∃p,vs=[.ref p]/\((∃xs,H p=some (.lst xs)/\∀l,H l=none->Q (.ref l) (upd H l (.tup xs)))\/∃xs,H p=some (.tup xs)/\Q (.ref p) H)
theorem bU:bJ X (.type "tuple") uP:=by
 intro pins s σ H vs us Q I r h;obtain⟨p,rfl,⟨xs,h,q⟩ |⟨xs,h,q⟩⟩:=h
 ·exact km pins s σ H _ us Q I r ⟨p,xs,rfl,.inl ⟨SqL.of h,q⟩⟩
 ·exact km pins s σ H _ us Q I r ⟨p,xs,rfl,.inr ⟨SqT.of h,q⟩⟩
def HI:V->Option Int->Option Int->Hp->VK->Prop:=λx lo hi H Q=>∃p,x=.ref p/\((∃xs,H p=some (.tup xs)/\(ik xs.length lo hi->Q (.ref p) H)/\(¬ik xs.length lo hi->∀l,H l=none->Q (.ref l) (upd H l (.tup (gQ xs lo hi))))) \/
 ∃xs,H p=some (.lst xs)/\∀l,H l=none->Q (.ref l) (upd H l (.lst (gQ xs lo hi))))
theorem Iq:SlR X HI:=by
 intro pins s σ H x v vl vu lo hi sl Q I rx hs pl pu h;obtain⟨p,rfl,⟨xs,h,q1,q2⟩ |⟨xs,h,q⟩⟩:=h
 ·exact C_ pins s σ H _ v vl vu lo hi sl Q I rx hs pl pu ⟨p,xs,rfl,SqT.of h,q1,q2⟩
 ·exact uT pins s σ H _ v vl vu lo hi sl Q I rx hs pl pu ⟨p,xs,rfl,SqL.of h,q⟩
noncomputable def Af(neg:Bool):R2:=λx y H Q=>∃p xs,y=.ref p/\g_ H p=some xs/\ez x=true/\xs.all ez=true/\Q (.bl (if neg then !inV x xs else inV x xs)) H
theorem D7:OpR X (compareOp .In) (Af false):=by
 intro pins s σ H x y v u Q I rx ry h;obtain⟨p,xs,rfl,h,f1,f2,q⟩:=h;rcases jd h with h |h
 ·exact qp pins s σ H _ _ v u Q I rx ry ⟨p,xs,rfl,.inl (SqL.of h),f1,f2,q⟩
 ·exact qp pins s σ H _ _ v u Q I rx ry ⟨p,xs,rfl,.inr (SqT.of h),f1,f2,q⟩
theorem xE:OpR X (compareOp .NotIn) (Af true):=by
 intro pins s σ H x y v u Q I rx ry h;obtain⟨p,xs,rfl,h,f1,f2,q⟩:=h;rcases jd h with h |h
 ·exact kW pins s σ H _ _ v u Q I rx ry ⟨p,xs,rfl,.inl (SqL.of h),f1,f2,q⟩
 ·exact kW pins s σ H _ _ v u Q I rx ry ⟨p,xs,rfl,.inr (SqT.of h),f1,f2,q⟩
noncomputable def BC:R2:=λx y H Q=>(∃i j,x=.int i/\y=.int j/\Q (.int (i+j)) H)\/∃a b,x=.ref a/\y=.ref b /\
  ((∃xs ys,H a=some (.tup xs)/\H b=some (.tup ys)/\xs.length+ys.length<=sizeLine/\(xs=[]->Q (.ref b) H)/\(xs≠[]->ys=[]->Q (.ref a) H)/\(xs≠[]->ys≠[]->∀p,H p=none->Q (.ref p) (upd H p (.tup (xs++ys))))) \/
   ∃xs ys,H a=some (.lst xs)/\H b=some (.lst ys)/\xs.length+ys.length<=sizeLine/\∀p,H p=none->Q (.ref p) (upd H p (.lst (xs++ys))))
theorem CU:OpR X (binaryOp .Add) BC:=by
 intro pins s σ H x y v u Q I rx ry h;rcases h with⟨i,j,rfl,rfl,q⟩ |⟨a,b,rfl,rfl,⟨xs,ys,h1,h2,hz,q1,q2,q3⟩ |⟨xs,ys,h1,h2,hz,q⟩⟩
 ·exact EX pins s σ H _ _ v u Q I rx ry ⟨i,j,rfl,rfl,q⟩
 ·exact zV pins s σ H _ _ v u Q I rx ry ⟨a,b,xs,ys,rfl,rfl,SqT.of h1,SqT.of h2,hz,q1,q2,q3⟩
 ·exact E9 pins s σ H _ _ v u Q I rx ry ⟨a,b,xs,ys,rfl,rfl,h1,h2,hz,q⟩
noncomputable def Es:R2:=λx y H Q=>rEq x y H Q\/AK x y H Q
noncomputable def Fi:R2:=λx y H Q=>rNe x y H Q\/AB x y H Q
theorem bF(hu:X.A.units+64<cLine):OpR X (compareOp .Eq) Es:=D4 hu
theorem jl(hu:X.A.units+64<cLine):OpR X (compareOp .NotEq) Fi:=Ej hu
def BQ:List V->Hp->VK->Prop:=λvs H Q=>∃(p:Addr)(bs:List Bool),vs=[.ref p]/\H p=some (.lst (bs.map V.bl))/\Q (.bl (bs.all id)) H
theorem cP(hc:X.calm=true):bJ X (.builtin "all") BQ:=by
 intro pins s σ H vs us Q I r h;obtain⟨p,bs,rfl,h,q⟩:=h;exact yA hc pins s σ H _ us Q I r ⟨p,bs,rfl,SqL.of h,q⟩
def t5:List V->Hp->VK->Prop:=λvs H Q=>∃(p:Addr)(ns:List Int),vs=[.ref p]/\H p=some (.lst (ns.map V.int))/\ns.length<64/\∀(l:Addr)(ms:List Int),H l=none->List.Perm ms ns->ms.Pairwise (·<=·)->Q (.ref l) (upd H l (.lst (ms.map V.int)))
theorem sO:bJ X (.builtin "sorted") t5:=by
 intro pins s σ H vs us Q I r h;obtain⟨p,ns,rfl,h,hl,q⟩:=h;exact tV pins s σ H _ us Q I r ⟨p,ns,rfl,SqL.of h,hl,q⟩
def Em:List V->Hp->VK->Prop:=λvs H Q=>∃i j,vs=[.int i,.int j]/\Q (.int (if j>i then j else i)) H
def DT:List V->Hp->VK->Prop:=λvs H Q=>∃i j,vs=[.int i,.int j]/\Q (.int (if j<i then j else i)) H
theorem qu(hc:X.calm=true):bJ X (.builtin "max") Em:=xW hc
theorem kE(hc:X.calm=true):bJ X (.builtin "min") DT:=x_ hc
noncomputable def HN(to te:TE):TE:=λσ H Q=>to σ H λx H1=>∃l xs0,x=.ref l/\H1 l=some (.lst xs0)/\te σ H1 λy H2=>∃xs,H2 l=some (.lst xs)/\xs.length<sizeLine/\Q .non (upd H2 l (.lst (xs++[y])))
theorem En(ho:PE X o to)(he:PE X e te)
  (hbase:attributeBase o "append" X.env (eval o X.env)=eval o X.env:=by rfl)
  (hfew:((backTo cpos (starEach [e] X.env)).all (λx=>!x.1)&&(backToKw cpos (keywordEach [] X.env)).all (λx=>x.1.isSome)&&decide ([e].length+([]:List Keyword).length+(if([]:List Keyword).isEmpty then 0 else 1)<30))=true:=by rfl)
  (hline:(apos.endLine==cpos.line)=true:=by rfl) (hs:starEach [e] X.env=(false,eval e X.env)::starEach [] X.env:=by rfl):PE X (.Call (.Attribute o "append" apos) [e] [] cpos) (HN to te):=by
 intro pins s σ H Q I h;refine Ou hbase hfew hline rfl (thn (ho pins s σ H _ I h) λv s1 ⟨x,H1,I1,r1,l,xs0,e0,hl,q1⟩=>?_);subst e0;have ty:tyV X.K "list" (.ref l) H1:=.inl ⟨rfl,_,SqL.of hl⟩;obtain⟨h1,h2⟩:=xP I1 r1 ty;refine⟨"list",_,N5,PySem.F.slot_list_append,PySem.F.type_list_append,h1,h2,?_⟩;have hA:=(dN he fY hs) cpos pins s1 σ H1 (λvs H2=>∃y,vs=[y]/\∃xs,H2 l=some (.lst xs)/\xs.length<sizeLine/\Q .non (upd H2 l (.lst (xs++[y])))) I1 (by
  refine cast (Jn (te σ H1) ?_) q1;funext y H2;refine propext ⟨λq=>⟨y,rfl,q⟩,λ⟨y',e',q⟩=>?_⟩;cases e';exact q)
 rw[hs]at hA ⊢;refine K6 (by show(false||(backTo cpos (starEach ([]:List Expr) X.env)).any (·.1))=false;rfl) (Lo ?_);exact thn hA λus s2 ⟨vs,H2,I2,r2,y,e2,xs,h3,hz,q2⟩=>pX pins s2 σ H2 (.ref l) vs v us Q I2 r1 r2 ⟨l,xs,y,rfl,e2,h3,hz,q2⟩
noncomputable def GW(te ts:TE):TE:=λσ H Q=>te σ H λx H1=>ts σ H1 λy H2=>∃a xs,x=.ref a/\y=.int (-1)/\H2 a=some (.tup xs)/\∀p,H2 p=none->Q (.ref p) (upd H2 p (.tup xs.reverse))
end
theorem CT{X:Cx}{e st:Expr}{te ts:TE}{p2 pos:Pos}(he:PE X e te)(hs:PE X st ts):PE X (.Subscript e (.Slice none none (some st) p2) pos) (GW te ts):=by
 intro pins s σ H Q I h;refine OL (thn (he pins s σ H _ I h) λv s1 ⟨x,H1,I1,r1,q1⟩=>?_);refine wpAny_Slice ?_;rw[OX];refine C0 (C0 ?_);rw[QN];refine thn (hs pins s1 σ H1 _ I1 q1) λu s2 ⟨y,H2,I2,r2,q2⟩=>?_;obtain⟨a,xs,rfl,rfl,hx,q⟩:=q2;cases r1;obtain⟨tk,rfl⟩:=r2;have I3:Inv X pins σ H2 { s2 with heap:=s2.heap.push { cls:=.type "slice",data:=.fields #[.none,.none,.int (-1) tk] } }:=I2.kept (t':=s2.toks) λb ob q=>gV _ q;obtain⟨its,r,ht,hz⟩:=I3.tuple (SqT.of hx);show wpAny (model X.prog X.w) X.A (subscriptTail e (.Slice none none (some st) p2) (.ref a) (.ref s2.heap.objs.size)) (EP X pins σ Q) X.xe { s2 with heap:=s2.heap.push { cls:=.type "slice",data:=.fields #[.none,.none,.int (-1) tk] } };refine tail_any (ops:=[.ref a,.ref s2.heap.objs.size]) ht.typeIs Jy.lookup (A2 ht (Pb ..) (by rw[<-r.length];exact hz) ?_) (by with_unfolding_all rfl);refine⟨.ref _,_,I3.laid (t':=s2.toks) (o:=.tup xs.reverse) (λb ob q=>gV _ q) (IB _) ?_,rfl,q _ (I3.hok.fresh (IB _))⟩;exact⟨by rw[K4];exact hz,_,r.reverse,Of _ _⟩
theorem vF{n:Nat}{k:Int}(h0:0<=k)(h:k<(n:Int)):ixN n k=some k.toNat:=by
 unfold ixN;rw[Iw h0,Iw h]
class NS (e:Expr):Prop where
 eq:∀(es:List Expr)(env:Env),starEach (e::es) env=(false,eval e env)::starEach es env
noncomputable instance{c:Const}{k:Nat}{p:Pos}:NS (.Constant c k p):=⟨λ_ _=>rfl⟩
noncomputable instance{x:Str}{p:Pos}:NS (.Name x p):=⟨λ_ _=>rfl⟩
noncomputable instance{es:List Expr}{k:Nat}{p:Pos}:NS (.Tuple es k p):=⟨λ_ _=>rfl⟩
noncomputable instance{es:List Expr}{p:Pos}:NS (.List es p):=⟨λ_ _=>rfl⟩
noncomputable instance{a:Expr}{o:Operator}{b:Expr}{p:Pos}:NS (.BinOp a o b p):=⟨λ_ _=>rfl⟩
noncomputable instance{o:UnaryOp}{a:Expr}{p:Pos}:NS (.UnaryOp o a p):=⟨λ_ _=>rfl⟩
noncomputable instance{f:Expr}{es:List Expr}{ks:List Keyword}{p:Pos}:NS (.Call f es ks p):=⟨λ_ _=>rfl⟩
noncomputable instance{a b:Expr}{p:Pos}:NS (.Subscript a b p):=⟨λ_ _=>rfl⟩
noncomputable instance{a:Expr}{os:List CmpOp}{bs:List Expr}{p:Pos}:NS (.Compare a os bs p):=⟨λ_ _=>rfl⟩
noncomputable instance{o:BoolOp}{es:List Expr}{p:Pos}:NS (.BoolOp o es p):=⟨λ_ _=>rfl⟩
noncomputable instance{a b c:Expr}{p:Pos}:NS (.IfExp a b c p):=⟨λ_ _=>rfl⟩
noncomputable instance{e:Expr}{gs:List Comprehension}{sc:Scope}{p:Pos}:NS (.ListComp e gs sc p):=⟨λ_ _=>rfl⟩
section
variable{X:Cx}
noncomputable def tLm(r:V->List V->Hp->VK->Prop)(to te:TE):TE:=λσ H Q=>to σ H λx H1=>∃l xs0,x=.ref l/\H1 l=some (.lst xs0)/\te σ H1 λy H2=>r (.ref l) [y] H2 Q
theorem GF{r:V->List V->Hp->VK->Prop}{name:Str}{id:String}{o e:Expr}{to te:TE}{apos cpos:Pos}(slot:Slot "list" name id)(hty:typeOf (.builtin id)=pure (.type "method_descriptor"))(hm:MtM X id r)(ho:PE X o to)(he:PE X e te)
  (hbase:attributeBase o name X.env (eval o X.env)=eval o X.env:=by rfl)
  (hfew:((backTo cpos (starEach [e] X.env)).all (λx=>!x.1)&&(backToKw cpos (keywordEach [] X.env)).all (λx=>x.1.isSome)&&decide ([e].length+([]:List Keyword).length+(if([]:List Keyword).isEmpty then 0 else 1)<30))=true:=by rfl)
  (hline:(apos.endLine==cpos.line)=true:=by rfl) (hs:starEach [e] X.env=(false,eval e X.env)::starEach [] X.env:=by rfl):PE X (.Call (.Attribute o name apos) [e] [] cpos) (tLm r to te):=by
 intro pins s σ H Q I h;refine Ou hbase hfew hline rfl (thn (ho pins s σ H _ I h) λv s1 ⟨x,H1,I1,r1,l,xs0,e0,hl,q1⟩=>?_);subst e0;have ty:tyV X.K "list" (.ref l) H1:=.inl ⟨rfl,_,SqL.of hl⟩;obtain⟨h1,h2⟩:=xP I1 r1 ty;refine⟨"list",_,N5,slot,hty,h1,h2,?_⟩;have hA:=(dN he fY hs) cpos pins s1 σ H1 (λvs H2=>∃y,vs=[y]/\r (.ref l) [y] H2 Q) I1 (by
  refine cast (Jn (te σ H1) ?_) q1;funext y H2;refine propext ⟨λq=>⟨y,rfl,q⟩,λ⟨y',e',q⟩=>?_⟩;cases e';exact q)
 rw[hs]at hA ⊢;refine K6 (by show(false||(backTo cpos (starEach ([]:List Expr) X.env)).any (·.1))=false;rfl) (Lo ?_);exact thn hA λus s2 ⟨vs,H2,I2,r2,y,e2,q2⟩=>hm pins s2 σ H2 (.ref l) vs v us Q I2 r1 r2 (by rw[e2];exact q2)
def BR:List V->Hp->VK->Prop:=λvs H Q=>∃(p:Addr)(bs:List Bool),vs=[.ref p]/\H p=some (.lst (bs.map V.bl))/\Q (.bl (bs.any id)) H
theorem zu(hc:X.calm=true):bJ X (.builtin "any") BR:=by
 intro pins s σ H xs us Q I r h;obtain⟨p,bs,rfl,hq,q⟩:=h;obtain⟨u,rfl,rx⟩:=vals1 r;cases rx;obtain⟨its,rv,pl,hz⟩:=I.list (SqL.of hq);have hits:=pb rv;subst hits;have hA:X.A.in1.handled=none:=I.ok.hd hc;obtain⟨o,ho,hcl,n,hd⟩:=pl.isList;have hne:p≠s.heap.objs.size:=IZ (ID ho);refine call_any_walk (LL pl.isList ?_);refine⟨s.heap.objs.size,_,_,_,_,_,λi=>bs.getD i false,rfl,Qf (prog:=X.prog) (w:=X.w) hA s.heap.objs.size p hne (bs.map Value.bool).toArray,⟨⟨_,IG _ rfl,rfl,rfl⟩,⟨o,gV _ ho,hcl,n,hd⟩⟩,?_,λh' tk hk=>?_⟩
 ·intro i v s' Q' E' hP hQ;have hP':(bs.map Value.bool).toArray[i]?=some v:=hP;rw[Ks,IU]at hP';cases e:bs[i]? with
  |none=>rw[e]at hP';cases hP'
  |some b=>
   rw[e]at hP';cases hP';have hQ:Q' (bs.getD i false) s':=hQ;rw[Iz,e]at hQ;exact Km hQ
 ·have z:(IP (bs.map Value.bool).toArray.size).any (λi=>bs.getD i false)=bs.any id:=by
   rw[IE,IA,Kc,Lv,Lv];constructor
   ·rintro⟨i,hi,hb⟩;have hi':=JO.mp hi;rw[Iz,H0 hi']at hb;exact⟨_,JE hi',hb⟩
   ·rintro⟨b,hb,e⟩;obtain⟨i,hi,e'⟩:=JC.mp hb;refine⟨i,JO.mpr hi,?_⟩;rw[Iz,H0 hi];simpa[e']using e
  rw[z];have I1:Inv X pins σ H { s with heap:=s.heap.push { cls:=.type "list_iterator",data:=.fields #[.ref p,.int 0 0] } }:=I.kept (t':=s.toks) λb o e=>gV _ e;have fk:eC X pins H s.heap.objs.size:=I.jz (IB _) (I.hok.fresh (IB _));obtain⟨f0,f1,f2,f3,f4,f5⟩:=fk;exact⟨.bl _,H,I1.turned (t':=tk) (it:=s.heap.objs.size) (λb o hb e=>hk b o (λz=>hb (IQ.mp z)) e) f0 f1 f3 f4 f5,rfl,q⟩
theorem uW:∀(us:List Value)(k:Nat),(∀j v,us[j]?=some v->RelV (f (k+j)) v)->Vals ((RV k us.length).map f) us
 | [],_,_=>.nil
 |u::us,k,h=>by
  rw[Js,PZ,IM];refine .cons (h 0 u rfl) (uW us (k+1) λj v e=>?_);have:=h (j+1) v (by simpa using e);rw[show k+1+j=k+(j+1) by omega];exact this
noncomputable def tLR(ta:TA):TE:=λσ H Q=>ta σ H λvs H1=>∃j:Int,vs=[.int j]/\0<=j/\j<=1000/\∀l,H1 l=none->Q (.ref l) (upd H1 l (.lst ((IP j.toNat).map λi=>V.int (i:Nat))))
theorem rX(hc:X.calm=true)(hgl:Gl X "list")(hml:X.mg "list"=none)(hgr:Gl X "range")(hmr:X.mg "range"=none)(hbl:bootBuiltins "list"=some (.type "list"))(ha:PA X [a] ta)
  (hs:starEach [a] X.env=[(false,eval a X.env)]:=by rfl)
  (hs2:starEach [Expr.Call (.Name "range" p2) [a] [] pos2] X.env=(false,eval (Expr.Call (.Name "range" p2) [a] [] pos2) X.env)::starEach [] X.env:=by rfl) :
  PE X (.Call (.Name "list" p1) [.Call (.Name "range" p2) [a] [] pos2] [] pos1) (tLR ta):=by
 intro pins s σ H Q I h;refine Kg (bW I hgl hml hbl ?_);refine Je ?_ hs2 rfl;rw[hs2];show wpAny _ _ (spliced ((false,eval (Expr.Call (.Name "range" p2) [a] [] pos2) X.env)::backTo pos1 (starEach [] X.env))) _ _ s;refine Kv ?_;refine Ni (bW I hgr hmr OJ (Je (thn (ha pos2 pins s σ H _ I h) λus s1 ⟨vs,H1,I1,r1,q1⟩=>?_) hs rfl));obtain⟨j,e,j0,j1,q⟩:=q1;subst e;cases r1 with
 |cons r rr=>
  cases rr;obtain⟨t,rfl⟩:=r;refine call_range_1 ?_;have hA:X.A.handled=none:=I.ok.hd hc;have I2:Inv X pins σ H1 { s1 with heap:=s1.heap.push { cls:=.type "range",data:=.fields #[.int 0 s1.toks,.int j t,.int 1 (s1.toks+1)] },toks:=s1.toks+1+1 }:=I1.kept λb o e=>gV _ e;refine C0 ?_;have hsz:KC 0 j 1=((j.toNat:Nat):Int):=by rw[OU];split<;>omega
  refine call_list_range hA (PK ..) (QI (by omega) (by omega) (by omega) (by omega)) hsz (by omega) λh' tk acc c' hk hnew hit=>?_;have hvals:Vals ((IP j.toNat).map λi=>V.int (i:Nat)) acc.toList:=by
   have hl:acc.toList.length=j.toNat:=by rw[IC];exact hit.1
   rw[<-hl,OP];refine uW acc.toList 0 λi v e=>?_;obtain⟨t2,rfl⟩:=hit.2 i v (by simpa using e);exact⟨t2,by congr 1;omega⟩
  refine⟨.ref _,_,I2.laid (t':=tk) (o:=.lst ((IP j.toNat).map λi=>V.int (i:Nat))) hk (IB _) ⟨?_,acc.toList,c',hvals,?_⟩,rfl,q _ (I2.hok.fresh (IB _))⟩
  ·rw[IA,KD];exact Ka (dF (by omega))
  ·simpa using hnew
end
section
variable{X:Cx}
theorem A1:∀{x y:V}{u:Value},RelV x u->RelV y u->x=y:=by
  intro x y u h1 h2;cases x<;>cases y<;>simp only[RelV]at h1 h2<;>first
    |rfl
    |(subst h1;cases h2;done)
    |(subst h1;cases h2;rfl)
    |(obtain⟨t,rfl⟩:=h1;cases h2;done)
    |(obtain⟨t,rfl⟩:=h1;obtain⟨t2,e⟩:=h2;cases e;rfl)
    |(obtain⟨t,rfl⟩:=h1;obtain⟨t2,e⟩:=h2;cases e;done)
    |(obtain⟨t,rfl⟩:=h2;cases h1;done)
noncomputable def Bc(neg:Bool):R2:=λx y H Q=>∃(p:Addr)(vs:List V)(d:D)(ds:List D),y=.ref p/\H p=some (.lst vs)/\aw H vs ds/\Rep H x d/\D.cq ds<=50/\Q (.bl (if neg then !ds.any (λe=>D.eqv e d)else ds.any λe=>D.eqv e d)) H
theorem uS(hu:X.A.units+64<cLine)(I:Inv X pins σ H s)(rx:RelV x v)(hq:H p=some (.lst vs))(rs:aw H vs ds)(rd:Rep H x d)(hd:D.cq ds<=50) :
  ∃(its:List Value)(e:Value->Bool),s.heap.IsList p its.toArray/\(∀y∈its.toArray,Ml X.A.in1 s y v (e y))/\its.toArray.any e=ds.any λe=>D.eqv e d:=by
 classical
 obtain⟨its,r,pl,hz⟩:=I.list (SqL.of hq);have l1:=r.length;have l2:=rs.length;have key:∀(j:Nat)(u:Value),its[j]?=some u->∃(y:V)(e:D),vs[j]?=some y/\ds[j]?=some e/\RelV y u/\Rep H y e:=by
  intro j u hj;have hlt:=(IJ.mp hj).1;have e1:vs[j]?=some (vs[j]'(by omega)):=H0 _;obtain⟨a1,b1,c1⟩:=r.get e1;obtain⟨f1,g1,k1⟩:=rs.get e1;rw[hj]at b1;cases b1;exact⟨_,f1,e1,g1,c1,k1⟩
 refine⟨its,λu=>decide (∃(j:Nat)(y:V)(e:D),its[j]?=some u/\vs[j]?=some y/\ds[j]?=some e/\D.eqv e d=true),pl.isList,?_,?_⟩
 ·intro u hm;have hm':u∈its:=by simpa using hm
  obtain⟨j,hj⟩:=MP.mp hm';obtain⟨y,e,h1,h2,h3,h4⟩:=key j u hj;have q:=yY I 60 X.A.in1 y x u v e d (by show X.A.units+1+60<cLine;omega) (JS (D.gC h2) (by omega)) h3 rx h4 rd;have z:decide (∃(j:Nat)(y:V)(e:D),its[j]?=some u/\vs[j]?=some y/\ds[j]?=some e/\D.eqv e d=true)=D.eqv e d:=by
   rw[Kc,decide_eq_true_eq];refine⟨λ⟨j',y',e',g1,g2,g3,g4⟩=>?_,λh=>⟨j,y,e,hj,h1,h2,h⟩⟩;obtain⟨y2,e2,k1,k2,k3,k4⟩:=key j' u g1;rw[g2]at k1;cases k1;rw[g3]at k2;cases k2;have:=A1 h3 k3;subst this;rw[Rep.inj h4 k4];exact g4
  show Ml X.A.in1 s u v (decide _);rw[z];exact q
 ·rw[List.any_toArray,Kc,Lv,Lv];constructor
  ·rintro⟨u,hu',h⟩;obtain⟨j,y,e,g1,g2,g3,g4⟩:=J9 h;exact⟨e,JG g3,g4⟩
  ·rintro⟨e,he,h⟩;obtain⟨j,hj⟩:=MP.mp he;have hlt:=(IJ.mp hj).1;have e1:its[j]?=some (its[j]'(by omega)):=H0 _;obtain⟨y,e',h1,h2,h3,h4⟩:=key j _ e1;exact⟨_,JG e1,IV ⟨j,y,e,e1,h1,hj,h⟩⟩
theorem DN(hu:X.A.units+64<cLine):OpR X (compareOp .In) (Bc false):=by
 intro pins s σ H x y v u Q I rx ry h;obtain⟨p,vs,d,ds,rfl,hq,rs,rd,hd,q⟩:=h;cases ry;obtain⟨its,e,h1,h2,h3⟩:=uS hu I rx hq rs rd hd;refine Qa e h1 h2 ⟨.bl _,H,I,rfl,?_⟩;rw[h3];exact q
theorem za(hu:X.A.units+64<cLine):OpR X (compareOp .NotIn) (Bc true):=by
 intro pins s σ H x y v u Q I rx ry h;obtain⟨p,vs,d,ds,rfl,hq,rs,rd,hd,q⟩:=h;cases ry;obtain⟨its,e,h1,h2,h3⟩:=uS hu I rx hq rs rd hd;refine Pe e h1 h2 ⟨.bl _,H,I,rfl,?_⟩;rw[h3];exact q
end
noncomputable def Sq(b:Bool)(xs:List V):HO:=match b with
 |true=>.lst xs
 |false=>.tup xs
def iw(b:Bool)(h:Heap)(t:Addr)(xs:Array Value):Prop:=match b with
 |true=>h.IsList t xs
 |false=>h.IsTuple t xs
def gz(b:Bool)(h:Heap)(it t:Addr)(i:Nat):Prop:=match b with
 |true=>h.IsListIter it t i
 |false=>h.IsTupleIter it t i
noncomputable def sqI(b:Bool)(t:Addr):Obj:={ cls:=.type (match b with |true=>"list_iterator" |false=>"tuple_iterator"),data:=.fields #[.ref t,.int 0 0] }
theorem Inv.sq(I:Inv X pins σ H s)(h:H t=some (Sq b xs)):∃its:List Value,Vals xs its/\iw b s.heap t its.toArray/\xs.length<=sizeLine:=by
 cases b with
 |true=>obtain⟨its,rv,p,hz⟩:=I.list (SqL.of h);exact⟨its,rv,p.isList,hz⟩
 |false=>obtain⟨its,rv,p,hz⟩:=I.tuple (SqT.of h);exact⟨its,rv,p,hz⟩
theorem jT(b:Bool)(hh:A.handled=none)(it t:Addr)(hne:t≠it)(items:Array Value):Draws prog w A it [it,t] items.size (λi v=>items[i]?=some v) (λi h=>gz b h it t i/\iw b h t items):=by
 cases b with
 |true=>exact Draws.list hh it t hne items
 |false=>exact ir hh it t hne items
theorem l9(x:gz b h it t i):∃o,h.get? it=some o/\∀v,o.data≠.cell v:=by
 cases b<;>(obtain⟨o,e,_,d⟩:=x;exact⟨o,e,λv z=>by rw[d]at z;cases z⟩)
theorem nu(x:gz b h it t i)(k:∀o,h.get? it=some o->h'.get? it=some o):gz b h' it t i:=by
 cases b<;>(obtain⟨o,e,r⟩:=x;exact⟨o,k o e,r⟩)
theorem uJ(x:h.get? it=some (sqI b t)):gz b h it t 0:=by
 cases b<;>exact⟨_,x,rfl,rfl⟩
theorem Ht(x:iw b h t xs)(k:∀o,h.get? t=some o->h'.get? t=some o):iw b h' t xs:=by
 cases b<;>(obtain⟨o,e,r⟩:=x;exact⟨o,k o e,r⟩)
section
variable{prog:Program}{w:World}{A:Around}{E:Value->Shared->Prop}{s:Shared}
noncomputable abbrev gI(b:Bool)(h:Heap)(t:Addr):Heap:=h.push (sqI b t)
noncomputable abbrev gPI(b c:Bool)(h:Heap)(t u:Addr):Heap:=(gI c (gI b h t) u).push { cls:=.type "tuple",data:=.seq #[.ref h.objs.size,.ref (gI b h t).objs.size] }
noncomputable abbrev gPO(b c:Bool)(h:Heap)(t u:Addr):Heap:=(gPI b c h t u).push { cls:=.type "tuple",data:=.seq #[.none,.none] }
noncomputable abbrev pF(b c:Bool)(h:Heap)(t u:Addr):Heap:=(gPO b c h t u).push { cls:=.type "zip",data:=.fields #[.none,.bool false,.bool false,.ref (gI c (gI b h t) u).objs.size,.ref (gPI b c h t u).objs.size] }
theorem vi(h:iw b s.heap t xs)(hQ:Q (.ref s.heap.objs.size) { s with heap:=gI b s.heap t }):wpAny (model prog w) A (pyIter (.ref t)) Q E s:=by
 cases b with
 |true=>exact LL h hQ
 |false=>exact Kx h hQ
theorem zP(b c:Bool)(t u:Addr)(xs ys:Array Value):Meets (Builtin.«zip.__new__» ⟨[.type "zip",.ref t,.ref u],[]⟩) (λ_ R s=>iw b s.heap t xs/\iw c s.heap u ys/\R (.ok (.ret (.ref (gPO b c s.heap t u).objs.size))) { s with heap:=pF b c s.heap t u }):=
 .of_wp λprog w A R s h=>by
  obtain⟨hp,g,d,tk,os⟩:=s;obtain⟨ht,hu,h⟩:=h;have hsub:=sub_zip;have h1:iw b (Nj ⟨hp,g,d,tk,os⟩) t xs:=ht;have h2:iw c (Nj ⟨gI b hp t,g,d,tk,os⟩) u ys:=Ht hu λo e=>gV _ e
  wp_walk using vi h1,vi h2
  exact⟨_,rfl,h⟩
theorem yU(b c:Bool)(ht:iw b s.heap t xs)(hu:iw c s.heap u ys)
  (h:∀h',IsZip h' (s.heap.objs.size+4) (s.heap.objs.size+2) (s.heap.objs.size+3) .none->IsPair h' (s.heap.objs.size+2) (.ref s.heap.objs.size) (.ref (s.heap.objs.size+1))->IsPair h' (s.heap.objs.size+3) .none .none ->
   gz b h' s.heap.objs.size t 0->gz c h' (s.heap.objs.size+1) u 0->(∀a o,s.heap.get? a=some o->h'.get? a=some o)->Q (.ref (s.heap.objs.size+4)) { s with heap:=h' }) :
  wpAny (model prog w) A (call (.type "zip") [.ref t,.ref u]) Q E s:=by
 refine NX RC (by decide) (PY _ _) (Qd _ _) (λobj=>OO obj _ _) Qe (zP b c t u xs ys) ⟨ht,hu,?_⟩;have s1:(gI b s.heap t).objs.size=s.heap.objs.size+1:=JY ..;have s2:(gI c (gI b s.heap t) u).objs.size=s.heap.objs.size+2:=by rw[JY,s1]
 have s3:(gPI b c s.heap t u).objs.size=s.heap.objs.size+3:=by rw[JY,s2]
 have s4:(gPO b c s.heap t u).objs.size=s.heap.objs.size+4:=by rw[JY,s3]
 have g5:(pF b c s.heap t u).get? (gPO b c s.heap t u).objs.size=some _:=IG _ rfl;have g4:(pF b c s.heap t u).get? (gPI b c s.heap t u).objs.size=some _:=gV _ (IG _ rfl);have g3:(pF b c s.heap t u).get? (gI c (gI b s.heap t) u).objs.size=some _:=gV _ (gV _ (IG _ rfl));have g2:(pF b c s.heap t u).get? (gI b s.heap t).objs.size=some _:=gV _ (gV _ (gV _ (IG _ rfl)));have g1:(pF b c s.heap t u).get? s.heap.objs.size=some _:=gV _ (gV _ (gV _ (gV _ (IG _ rfl))));show _/\_;rw[s2,s3,s4]at g5;rw[s1,s2]at g3;rw[s3]at g4;rw[s1]at g2;rw[s4];exact⟨⟨_,g5,rfl⟩,h _ g5 g3 g4 (uJ g1) (uJ g2) λa o q=>gV _ (gV _ (gV _ (gV _ (gV _ q))))⟩
end
noncomputable def Itg(b c:Bool)(t u:Addr):It:=
  ⟨λi H=>∃xs ys x y,H t=some (Sq b xs)/\H u=some (Sq c ys)/\xs[i]?=some x/\ys[i]?=some y,λi H v H'=>∃p x y,H p=none/\v=.ref p/\H'=upd H p (.tup [x,y])/\(∀xs,H t=some (Sq b xs)->xs[i]?=some x)/\∀ys,H u=some (Sq c ys)->ys[i]?=some y,
   λi H=>∃xs ys,H t=some (Sq b xs)/\H u=some (Sq c ys)/\i<=xs.length/\i<=ys.length/\(i=xs.length\/i=ys.length)⟩
theorem ym{P:Program}{w:World}{K:Iy}{es:List Expr}{kk:Nat}{tp:Pos}(b c:Bool)(t u N:Addr) :
  Turn P w K (.Tuple es kk tp) (Itg b c t u) [N+4,N+2,N+3,N,N+1] (N+4)
   (λi h=>IsZip h (N+4) (N+2) (N+3) .none/\IsPair h (N+2) (.ref N) (.ref (N+1))/\(∃a b,IsPair h (N+3) a b)/\gz b h N t i/\gz c h (N+1) u i)where
 mem:=by simp
 obj:=λi h st e hb=>by
  obtain⟨h1,h2,⟨x,y,h3⟩,h4,h5⟩:=st;simp only[IL,Jt,Ky]at hb;rcases hb with z |z |z |z |z
  ·rw[z];exact⟨_,h1,λv z=>by
    have z':Data.fields _=Data.cell v:=z;cases z'⟩
  ·rw[z];exact⟨_,h2,λv z=>by
    have z':Data.seq _ _=Data.cell v:=z;cases z'⟩
  ·rw[z];exact⟨_,h3,λv z=>by
    have z':Data.seq _ _=Data.cell v:=z;cases z'⟩
  ·rw[z];exact l9 h4
  ·rw[z];exact l9 h5
 keep:=λi h h' st k=>by
  obtain⟨h1,h2,⟨x,y,h3⟩,h4,h5⟩:=st;exact⟨k _ (by simp) _ h1,k _ (by simp) _ h2,⟨x,y,k _ (by simp) _ h3⟩,nu h4 λo q=>k _ (by simp) o q,nu h5 λo q=>k _ (by simp) o q⟩
 item:=by
  intro X hP hw hK hc i pins s σ H E I hf st hg;subst hP hw hK;obtain⟨h1,h2,⟨a0,b0,h3⟩,h4,h5⟩:=st;obtain⟨xs,ys,x,y,hx,hy,ex,ey⟩:=hg;obtain⟨its,rv,p,hz⟩:=I.sq hx;obtain⟨its2,rv2,p2,hz2⟩:=I.sq hy;obtain⟨a,ha,ra⟩:=rv.get ex;obtain⟨b1,hb,rb⟩:=rv2.get ey;have D0:=rK (N:=N) (t:=t) (u:=u) (λc hc e=>by rw[e,(hf c hc).1]at hx;cases hx) (λc hc e=>by rw[e,(hf c hc).1]at hy;cases hy);have hA:X.A.in1.handled=none:=I.ok.hd hc;have tn:t≠N:=λe=>by rw[e,(hf N (by simp)).1]at hx;cases hx
  have un:u≠N+1:=λe=>by rw[e,(hf (N+1) (by simp)).1]at hy;cases hy
  have la:i<its.toArray.size:=by
   have:=(IJ.mp ha).1;simpa using this
  have lb:i<its2.toArray.size:=by
   have:=(IJ.mp hb).1;simpa using this
  refine qy D0 (jT b hA N t tn its.toArray) (jT c hA (N+1) u un its2.toArray) h1 (.inl rfl) h2 h3 ⟨h4,p⟩ ⟨h5,p2⟩ la lb λx' y' g1 tk px py z1 z2 z3 z4 z5 z6 z7 k1=>?_;obtain rfl:x'=a:=by
   have e:its.toArray[i]?=some x':=px;rw[Ks,ha]at e;exact(Jj e).symm
  obtain rfl:y'=b1:=by
   have e:its2.toArray[i]?=some y':=py;rw[Ks,hb]at e;exact(Jj e).symm
  refine⟨_,rfl,wpAny_letOwnedTupleGo_zip (s:={ s with heap:=g1,toks:=tk }) z1 λg2 y1 e2=>?_⟩
  replace e2:Jg (N+4) g1 g2:=e2
  have hl4:N+4<s.heap.objs.size:=ID h1;have d:∀i j:Nat,i≠j->(N+i:Nat)≠N+j:=λi j h e=>h (O2 e);have ht2:IsPair g2 s.heap.objs.size x' y':=e2.extBut _ _ (Ku hl4) z6;have k2:∀c o,c∉[N+4,N+2,N+3,N,N+1]->s.heap.get? c=some o->g2.get? c=some o:=λc o hc q=>by
   have c4:c≠N+4:=λz=>hc (by simp[z]);have c3:c≠N+3:=λz=>hc (by simp[z]);have c0:c≠N:=λz=>hc (by simp[z]);have c1:c≠N+1:=λz=>hc (by simp[z]);exact e2.extBut c o c4 (k1 c o c4 c3 c0 c1 q)
  have I2:Inv X pins σ (upd H s.heap.objs.size (.tup [x,y])) { s with heap:=g2,toks:=tk }:=by
   refine I.mU (fp:=[N+4,N+2,N+3,N,N+1]) (IB _) k2 hf ?_;exact⟨by show 2<=sizeLine;decide,[x',y'],.cons ra (.cons rb .nil),⟨_,ht2,rfl,_,rfl⟩⟩
  refine⟨.ref s.heap.objs.size,_,I2,rfl,⟨s.heap.objs.size,x,y,I.hok.fresh (IB _),rfl,rfl,λzs hy0=>?_,λzs hy'=>?_⟩,⟨y1,e2.extBut _ _ (d 2 4 (by decide)) z2,⟨_,_,e2.extBut _ _ (d 3 4 (by decide)) z3⟩,nu z4.1 λo q=>e2.extBut _ _ (d 0 4 (by decide)) q,nu z5.1 λo q=>e2.extBut _ _ (d 1 4 (by decide)) q⟩,λb hb=>?_⟩
  ·rw[hx]at hy0;cases b<;>(cases hy0;exact ex)
  ·rw[hy]at hy';cases c<;>(cases hy';exact ey)
  ·have hlt:b<s.heap.objs.size:=by
    simp only[IL,Jt,Ky]at hb;rcases hb with z |z |z |z |z
    ·rw[z];exact hl4
    ·rw[z];exact ID h2
    ·rw[z];exact ID h3
    ·obtain⟨o,q,_⟩:=l9 h4;rw[z];exact ID q
    ·obtain⟨o,q,_⟩:=l9 h5;rw[z];exact ID q
   rw[aP (IZ hlt)];exact(hf b hb).1
 done:=by
  intro X hP hw hK hc i pins s σ H E I hf st hg;subst hP hw hK;obtain⟨h1,h2,⟨a0,b0,h3⟩,h4,h5⟩:=st;obtain⟨xs,ys,hx,hy,lx,ly,hend⟩:=hg;obtain⟨its,rv,p,hz⟩:=I.sq hx;obtain⟨its2,rv2,p2,hz2⟩:=I.sq hy;have D0:=rK (N:=N) (t:=t) (u:=u) (λc hc e=>by rw[e,(hf c hc).1]at hx;cases hx) (λc hc e=>by rw[e,(hf c hc).1]at hy;cases hy);have hA:X.A.in1.handled=none:=I.ok.hd hc;have tn:t≠N:=λe=>by rw[e,(hf N (by simp)).1]at hx;cases hx
  have un:u≠N+1:=λe=>by rw[e,(hf (N+1) (by simp)).1]at hy;cases hy
  have l1:=rv.length;have l2:=rv2.length;refine rH D0 (jT b hA N t tn its.toArray) (jT c hA (N+1) u un its2.toArray) h1 (.inl rfl) h2 h3 ⟨h4,p⟩ ⟨h5,p2⟩ ?_ λh' tk hk=>⟨rfl,?_⟩
  ·simp only[IE];omega
  ·refine I.C5 (fp:=[N+4,N+2,N+3,N,N+1]) (λc o hc q=>?_) hf;exact hk c o (λz=>hc (by simp[z])) (λz=>hc (by simp[z])) (λz=>hc (by simp[z])) (λz=>hc (by simp[z])) q
 self:=λ_ _ _ _ _ st h=>NY st.1 h
end L2
namespace ZS
open PySem
def Ri(l:List Nat):Prop:=l.Pairwise (· <·)
theorem wz(xs:Array Nat)(j p:Nat)(h1:∀i,i<p->xs.getD i j<j)(h2:∀i,p<=i->i<xs.size->¬xs.getD i j<j):∀(fuel lo hi:Nat),lo<=p->p<=hi->hi<=xs.size->hi-lo<=fuel->NK xs j fuel lo hi=p
 |0,lo,hi,a,b,c,d=>by rw[NK];omega
 |fuel+1,lo,hi,a,b,c,d=>by
  rw[NK];by_cases hl:lo<hi
  ·rw[Iw hl];dsimp only;have m1:lo<=(lo+hi) / 2:=by omega
   have m2:(lo+hi) / 2<hi:=by omega
   by_cases hm:xs.getD ((lo+hi) / 2) j<j
   ·rw[Iw hm];have:(lo+hi) / 2<p:=by
     refine NZ λz=>?_;exact h2 _ z (by omega) hm
    exact wz xs j p h1 h2 fuel _ _ (by omega) b c (by omega)
   ·rw[IF hm];have:p<=(lo+hi) / 2:=by
     refine NU λz=>?_;exact hm (h1 _ z)
    exact wz xs j p h1 h2 fuel _ _ a this (by omega) (by omega)
  ·rw[IF hl];omega
theorem getD_list{l:List Nat}(h:i<l.length):l.toArray.getD i j=l[i]:=by simp[Mm,h]
theorem below_at{l:List Nat}(hp:p<=l.length)(h1:∀i(h:i<l.length),i<p->l[i]<j)(h2:∀i(h:i<l.length),p<=i->j<=l[i]):Kz l.toArray j=p:=by
 unfold Kz;refine wz l.toArray j p (λi hi=>?_) (λi hi hs=>?_) _ _ _ (KN _) (by simpa using hp) (IB _) (by omega)
 ·rw[getD_list (by omega)];exact h1 i (by omega) hi
 ·rw[getD_list (by simpa using hs)];have:=h2 i (by simpa using hs) hi;omega
theorem qW(h:Ri l)(hk:k<l.length)(hi:i<k):l[i]<l[k]:=Kn.mp h i k (by omega) hk hi
theorem yE{l:List Nat}(h:Ri l)(j:Nat):∃p,p<=l.length/\Kz l.toArray j=p/\(∀x∈l.take p,x<j)/\(∀x∈l.drop p,j<=x):=by
 induction l with
 |nil=>exact⟨0,IB _,below_at (IB _) (λi h=>by simp at h) (λi h=>by simp at h),by simp,by simp⟩
 |cons a l ih=>
  obtain⟨h1,h2⟩:=JQ.mp h;obtain⟨p,hp,_,ha,hb⟩:=ih h2;by_cases hj:a<j
  ·have q1:∀x∈(a::l).take (p+1),x<j:=by
    intro x hx;rw[List.take_succ_cons]at hx;rcases IL.mp hx with e |e
    ·omega
    ·exact ha x e
   have q2:∀x∈(a::l).drop (p+1),j<=x:=by
    intro x hx;rw[List.drop_succ_cons]at hx;exact hb x hx
   refine⟨p+1,by simp;omega,below_at (by simp;omega) (λi hi hip=>?_) (λi hi hip=>?_),q1,q2⟩
   ·refine q1 _ ?_;rw[JC];exact⟨i,by rw[IY];simp at hi ⊢;omega,by rw[LM]⟩
   ·refine q2 _ ?_;rw[JC];exact⟨i-(p+1),by simp at hi ⊢;omega,by rw[LN];congr 1;omega⟩
  ·have q2:∀x∈a::l,j<=x:=by
    intro x hx;rcases IL.mp hx with e |e
    ·omega
    ·have:=h1 x e;omega
   refine⟨0,KN _,below_at (KN _) (λi hi hip=>by omega) (λi hi _=>q2 _ (JE hi)),by simp,by simpa using q2⟩
theorem qr{l:List Nat}(h:Ri l)(hi:i<l.length):Kz l.toArray (l[i]+1)=i+1/\Kz l.toArray l[i]=i:=by
 constructor
 ·refine below_at (by omega) (λk hk hki=>?_) (λk hk hki=>?_)
  ·by_cases e:k=i
   ·subst e;omega
   ·have:=qW h hi (show k<i by omega);omega
  ·have:=qW h hk (show i<k by omega);omega
 ·refine below_at (by omega) (λk hk hki=>qW h hi hki) (λk hk hki=>?_);by_cases e:k=i
  ·subst e;omega
  ·have:=qW h hk (show i<k by omega);omega
theorem wc{l:List Nat}:Kz l.toArray 0=0:=below_at (KN _) (λi hi h=>by omega) (λi hi _=>KN _)
theorem yJ(h:Ri l)(hj:j∉l)(ha:∀x∈l.take p,x<j)(hb:∀x∈l.drop p,j<=x):Ri (l.take p++j::l.drop p):=by
 have hs:Ri (l.take p++l.drop p):=by rw[Jm];exact h
 obtain⟨s1,s2,s3⟩:=LZ.mp hs;refine LZ.mpr ⟨s1,JQ.mpr ⟨λx hx=>?_,s2⟩,λx hx y hy=>?_⟩
 ·have:=hb x hx;have:x≠j:=λe=>hj (by rw[<-e];exact JP hx);omega
 ·rcases IL.mp hy with e |e
  ·rw[e];exact ha x hx
  ·exact s3 x hx y e
theorem slot_of{t:SetTable}{l:List Nat}(hp:t.place=l.toArray)(hr:Ri l)(hd:t.dummies=#[])(j:Nat):(j∉l->t.slot j=.empty)/\(j∈l->∃i,t.slot j=.live i):=by
 have hh:RD #[] j=false:=by simp[RD]
 constructor
 ·intro hj;unfold QT;dsimp only;rw[hp,hd,hh];have:(l.toArray[Kz l.toArray j]?==some j)=false:=by
   rw[K3];intro e;rw[Ks]at e;exact hj (JG e)
  rw[this];rfl
 ·intro hj;obtain⟨i,hi,rfl⟩:=JC.mp hj;refine⟨i,?_⟩;unfold QT;dsimp only;rw[hp,(qr hr hi).2,Ks,H0 hi];simp
noncomputable def nxt(m i:Nat):Nat:=(i*5+1) % (m+1)
noncomputable def orb(m:Nat):Nat->Nat->Nat
 |0,i=>i
 |n+1,i=>orb m n (nxt m i)
noncomputable def marks(m:Nat):Nat->Nat->Nat->Nat
 |0,_,acc=>acc
 |n+1,i,acc=>marks m n (nxt m i) (acc|||(1 <<< i))
noncomputable def full(m:Nat):Bool:=marks m (m+1) 0 0==2 ^ (m+1)-1&&orb m (m+1) 0==0
theorem GO:full 7=true:=by decide+kernel
theorem E2:full 31=true:=by decide+kernel
theorem Cv:full 127=true:=by decide+kernel
theorem CZ:full 511=true:=by decide+kernel
theorem qB:∀(n i acc e:Nat),(marks m n i acc).testBit e=true->acc.testBit e=true\/∃k,k<n/\orb m k i=e
 |0,i,acc,e,h=>.inl h
 |n+1,i,acc,e,h=>by
  rw[marks]at h;rcases qB n _ _ e h with q |⟨k,hk,q⟩
  ·rw[Nat.testBit_or,L_]at q;rcases q with q |q
   ·exact .inl q
   ·refine .inr ⟨0,by omega,?_⟩;rw[Nat.one_shiftLeft,Nat.testBit_two_pow]at q;simpa[orb]using q
  ·exact .inr ⟨k+1,by omega,q⟩
theorem l5:∀(a b i:Nat),orb m (a+b) i=orb m b (orb m a i)
 |0,b,i=>by simp[orb]
 |a+1,b,i=>by
  rw[show a+1+b=(a+b)+1 by omega,orb,l5 a b,orb]
theorem BL(hf:full m=true)(he:e<=m):∃k,k<=m/\orb m k 0=e:=by
 unfold full at hf;rw[JR,L1,L1]at hf;have q:(marks m (m+1) 0 0).testBit e=true:=by
  rw[hf.1,Nat.testBit_two_pow_sub_one];simp;omega
 rcases qB _ _ _ _ q with z |⟨k,hk,z⟩
 ·simp at z
 ·exact⟨k,by omega,z⟩
theorem reach(hf:full m=true)(he:e<=m)(hi:i<=m):∃k,k<=m/\orb m k i=e:=by
 obtain⟨a,ha,ea⟩:=BL hf hi;obtain⟨b,hb,eb⟩:=BL hf he;have h0:orb m (m+1) 0=0:=by
  unfold full at hf;rw[JR,L1,L1]at hf;exact hf.2
 by_cases hab:a<=b
 ·refine⟨b-a,by omega,?_⟩;rw[<-ea,<-l5,show a+(b-a)=b by omega,eb]
 ·refine⟨m+1-a+b,by omega,?_⟩;rw[<-ea,<-l5,show a+(m+1-a+b)=(m+1)+b by omega,l5,h0,eb]
noncomputable def lp(m:Nat):Nat->Nat×Nat->Nat×Nat
 |0,x=>x
 |n+1,x=>lp m n (Ll m x.1 x.2)
theorem zw:∀(a b:Nat)(x:Nat×Nat),lp m (a+b) x=lp m b (lp m a x)
 |0,b,x=>by simp[lp]
 |a+1,b,x=>by
  rw[show a+1+b=(a+b)+1 by omega,lp,zw a b,lp]
theorem vt:∀(n:Nat)(x:Nat×Nat),(lp m n x).2=x.2 / 32 ^ n
 |0,x=>by simp[lp]
 |n+1,x=>by
  rw[lp,vt n];show x.2 / 32 / 32 ^ n=_;rw[Nat.div_div_eq_div_mul,RF,Nat.mul_comm]
theorem xg:∀(n i:Nat),lp m n (i,0)=(orb m n i,0)
 |0,i=>rfl
 |n+1,i=>by
  rw[lp,orb];have:Ll m i 0=(nxt m i,0):=by simp[Ll,nxt]
  rw[this,xg n]
theorem G6(x:Nat×Nat)(h:x.1<=m):∀n,(lp m n x).1<=m:=by
 intro n
 induction n generalizing x with
 |zero=>exact h
 |succ n ih=>
  rw[lp];exact ih _ (by show _ % (m+1)<=m;have:=OQ (x.1*5+1+x.2 / 32) (show m+1>0 by omega);omega)
theorem vo(hf:full m=true)(he:e<=m)(hi:i<=m)(hp:p<2 ^ 64):∃k,k<Ls m/\(lp m k (i,p)).1=e:=by
 have h13:(lp m 13 (i,p)).2=0:=by
  rw[vt];exact Nat.div_eq_of_lt (I_ hp (by decide))
 obtain⟨k,hk,ek⟩:=reach hf he (G6 (i,p) hi 13);refine⟨13+k,by unfold Ls;omega,?_⟩;rw[zw];have z:lp m 13 (i,p)=((lp m 13 (i,p)).1,0):=by rw[<-h13]
 rw[z,xg];exact ek
theorem uK(h:Int):JA h<2 ^ 64:=by
 unfold JA;have:=Lb h (show(0:Int)<2 ^ 64 by decide);omega
theorem room{l:List Nat}(hn:l.length<=m):∃e,e<=m/\e∉l:=by
 refine Ma λh=>?_;have hall:∀e∈IP (m+1),e∈l:=λe he=>Ma λz=>h ⟨e,by have:=JO.mp he;omega,z⟩;have:=Qg (N0 (n:=m+1)) hall;rw[KD]at this;omega
theorem AQ{t:SetTable}{l:List Nat}(hp:t.place=l.toArray)(hr:Ri l)(hd:t.dummies=#[])(h:Int) :
  ∀(k:Nat)(fuel:Nat)(q:SetTable.Probe),q.dummy=none->q.more<=9->10*k+q.more+1<=fuel->(lp t.mask k (q.i,q.perturb)).1∉l->(k=0->q.j=q.i\/q.j∉l)->(q.more<=9) ->
   (k=0->q.j∉l)->∃j,KZ t (λ_=>h+1) h fuel q=some (.empty j none)/\j∉l:=by
 intro k
 induction k with
 |zero=>
  intro fuel q h1 h2 h3 h4 h5 h6 h7;obtain⟨f,rfl⟩:∃f,fuel=f+1:=⟨fuel-1,by omega⟩;refine⟨q.j,?_,h7 rfl⟩;rw[KZ,(slot_of hp hr hd q.j).1 (h7 rfl)];dsimp only;rw[h1]
 |succ k ih=>
  intro fuel q h1 h2 h3 h4 h5 h6 h7;have run:∀(r fuel:Nat)(q:SetTable.Probe),q.more=r->q.dummy=none->10*(k+1)+r+1<=fuel->(lp t.mask (k+1) (q.i,q.perturb)).1∉l->∃j,KZ t (λ_=>h+1) h fuel q=some (.empty j none)/\j∉l:=by
   intro r
   induction r with
   |zero=>
    intro fuel q hm hdm hfu hl;obtain⟨f,rfl⟩:∃f,fuel=f+1:=⟨fuel-1,by omega⟩;by_cases hj:q.j∈l
    ·obtain⟨i,ei⟩:=(slot_of hp hr hd q.j).2 hj;rw[KZ,ei];dsimp only;have hne:(h+1==h)=false:=by rw[K3];omega
     rw[hne];have ha:t.advance q={ q with j:=(Ll t.mask q.i q.perturb).1,more:=LC t.mask (Ll t.mask q.i q.perturb).1-(Ll t.mask q.i q.perturb).1,i:=(Ll t.mask q.i q.perturb).1,perturb:=(Ll t.mask q.i q.perturb).2 }:=by
      unfold P0;rw[IF (by omega)]
     have hmore:(t.advance q).more<=9:=by
      rw[ha];dsimp only;unfold LC;split<;>omega
     have hl':(lp t.mask k ((t.advance q).i,(t.advance q).perturb)).1∉l:=by rw[ha];exact hl
     refine ih f (t.advance q) (by rw[ha];exact hdm) hmore (by omega) hl' (λ_=>.inl (by rw[ha])) hmore λhk=>?_;rw[ha];dsimp only;subst hk;exact hl
    ·refine⟨q.j,?_,hj⟩;rw[KZ,(slot_of hp hr hd q.j).1 hj];dsimp only;rw[hdm]
   |succ r ihr=>
    intro fuel q hm hdm hfu hl;obtain⟨f,rfl⟩:∃f,fuel=f+1:=⟨fuel-1,by omega⟩;by_cases hj:q.j∈l
    ·obtain⟨i,ei⟩:=(slot_of hp hr hd q.j).2 hj;rw[KZ,ei];dsimp only;have hne:(h+1==h)=false:=by rw[K3];omega
     rw[hne];have ha:t.advance q={ q with j:=q.j+1,more:=q.more-1 }:=by
      unfold P0;rw[Iw (by omega)]
     refine ihr f (t.advance q) (by rw[ha];dsimp only;omega) (by rw[ha];exact hdm) (by omega) (by rw[ha];exact hl)
    ·refine⟨q.j,?_,hj⟩;rw[KZ,(slot_of hp hr hd q.j).1 hj];dsimp only;rw[hdm]
  exact run q.more fuel q rfl h1 h3 h4
theorem yP{t:SetTable}{l:List Nat}(hp:t.place=l.toArray)(hr:Ri l)(hd:t.dummies=#[])(hf:full t.mask=true)(hn:l.length<=t.mask)(h:Int):∃j,t.freeSlot h=some (j,false)/\j∉l:=by
 obtain⟨e,he,hel⟩:=room hn;have hi:JA h % (t.mask+1)<=t.mask:=by have:=OQ (JA h) (show t.mask+1>0 by omega);omega
 obtain⟨k,hk,ek⟩:=vo hf he hi (uK h);have hmore:(t.probeStart h).more<=9:=by
  unfold SetTable.probeStart LC;dsimp only;split<;>omega
 have q:=AQ hp hr hd h k (10*Ls t.mask) (t.probeStart h) rfl hmore (by omega) (by
  show(lp t.mask k (JA h % (t.mask+1),JA h)).1∉l;rw[ek];exact hel) (λ_=>.inl rfl) hmore (λhk0=>by
   subst hk0;show JA h % (t.mask+1)∉l;rw[show JA h % (t.mask+1)=e from ek];exact hel)
 obtain⟨j,ej,hj⟩:=q;refine⟨j,?_,hj⟩;unfold SetTable.freeSlot SetTable.probe;rw[ej];rfl
end ZS
namespace ZS
open PySem
theorem vv{m e:Nat}{owner:Array (Option Nat)}(he:owner.getD e (some 0)=none):∀(k fuel i p:Nat),(lp m k (i,p)).1=e->k<fuel->∃j,K7 m owner fuel i p=some j/\owner.getD j (some 0)=none
 |k,0,i,p,_,h=>by omega
 |k,fuel+1,i,p,hk,h=>by
  rw[K7];cases hf:(IP (LC m i+1-i)).find? λk=>(owner.getD (i+k) (some 0)).isNone with
  |some x=>
   refine⟨i+x,rfl,?_⟩;have:=List.find?_some hf;simpa using this
  |none=>
   have hno:=List.find?_eq_none.mp hf;cases k with
   |zero=>
    have hi:i=e:=hk;have:=hno 0 (JO.mpr (by unfold LC;split<;>omega));rw[RH,hi,he]at this;simp at this
   |succ k=>
    dsimp only;exact vv he k fuel _ _ hk (by omega)
theorem tf{α β:Type}{f g:α->Option β}:∀{l:List α},(∀x∈l,f x=g x)->l.filterMap f=l.filterMap g
 | [],_=>rfl
 |a::l,h=>by
  rw[JF,JF,h a (JK ..),tf λx hx=>h x (Jp _ hx)]
noncomputable def vals(m:Nat)(owner:Array (Option Nat)):List Nat:=(IP (m+1)).filterMap λj=>owner.getD j none
theorem zN(m:Nat):vals m (Qh (m+1) none)=[]:=by
 unfold vals;rw[List.filterMap_eq_nil_iff];intro j hj;simp[Mm]
theorem Bo{m j k:Nat}{owner:Array (Option Nat)}(hs:owner.size=m+1)(hj:owner.getD j (some 0)=none):(vals m (owner.setIfInBounds j (some k))).Perm (k::vals m owner):=by
 have hjs:j<owner.size:=by
  refine NZ λz=>?_;simp[Mm,Nat.not_lt.mpr z]at hj
 have hjv:owner.getD j none=none:=by
  simp[Mm,hjs]at hj ⊢;exact hj
 have hmem:j∈IP (m+1):=JO.mpr (by omega);have pe:=List.perm_cons_erase hmem;have nd:(IP (m+1)).Nodup:=N0;unfold vals;refine(pe.filterMap _).trans ?_;refine List.Perm.trans ?_ ((pe.filterMap (λj=>owner.getD j none)).cons k).symm;rw[JF,JF];have e1:(owner.setIfInBounds j (some k)).getD j none=some k:=by simp[Mm,hjs]
 rw[e1,hjv];dsimp only;refine List.Perm.cons k (Qi ?_);refine tf λx hx=>?_;have hne:x≠j:=λe=>by
  rw[e]at hx;exact(RJ nd).mp hx |>.1 rfl
 simp only[Mm,Mh];split
 ·rw[Nb,Nb,Array.getElem_setIfInBounds_ne (by assumption) (λe=>hne e.symm)]
 ·rfl
theorem Ak{m:Nat}{owner:Array (Option Nat)}(hs:owner.size=m+1)(h:(vals m owner).length<=m):∃e,e<=m/\owner.getD e (some 0)=none:=by
 refine Ma λhno=>?_;have all:∀j∈IP (m+1),(owner.getD j none).isSome=true:=λj hj=>by
  have hj':=JO.mp hj;cases e:owner.getD j none with
  |some x=>rfl
  |none=>
   refine absurd ⟨j,by omega,?_⟩ hno;simp[Mm,show j<owner.size by omega]at e ⊢;exact e
 have len:∀l:List Nat,(∀j∈l,(owner.getD j none).isSome=true)->(l.filterMap λj=>owner.getD j none).length=l.length:=by
  intro l
  induction l with
  |nil=>intro _;rfl
  |cons a l ih=>
   intro hl;obtain⟨x,hx⟩:=Md.mp (hl a (JK ..));rw[JF,hx];dsimp only;rw[Js,Js,ih λj hj=>hl j (Jp _ hj)]
 have:=len _ all;rw[KD]at this;unfold vals at h;omega
noncomputable def md(m:Nat)(acc:Option (Array (Option Nat)×Nat))(h:Int):Option (Array (Option Nat)×Nat):=do
  let(owner,k)<-acc
  let j<-K7 m owner (Ls m) (JA h % (m+1)) (JA h)
  pure (owner.setIfInBounds j (some k),k+1)
theorem rG{m:Nat}(hf:full m=true):∀(hs:List Int)(owner:Array (Option Nat))(k:Nat),owner.size=m+1->(vals m owner).Perm (IP k)->k+hs.length<=m ->
  ∃owner',hs.foldl (md m) (some (owner,k))=some (owner',k+hs.length)/\owner'.size=m+1/\(vals m owner').Perm (IP (k+hs.length))
 | [],owner,k,h1,h2,h3=>⟨owner,rfl,h1,by simpa using h2⟩
 |h::hs,owner,k,h1,h2,h3=>by
  have hlen:(vals m owner).length=k:=by rw[h2.length_eq,KD]
  obtain⟨e,he,hen⟩:=Ak h1 (by simp at h3;omega);have hi:JA h % (m+1)<=m:=by have:=OQ (JA h) (show m+1>0 by omega);omega
  obtain⟨q,hq,eq⟩:=vo hf he hi (uK h);obtain⟨j,ej,hj⟩:=vv (m:=m) hen q (Ls m) _ _ eq hq;have st:md m (some (owner,k)) h=some (owner.setIfInBounds j (some k),k+1):=by
   unfold md;show(K7 m owner (Ls m) (JA h % (m+1)) (JA h)).bind _=_;rw[ej];rfl
  have p2:(vals m (owner.setIfInBounds j (some k))).Perm (IP (k+1)):=by
   refine(Bo h1 hj).trans ((h2.cons k).trans ?_);rw[Oh];exact(List.perm_append_singleton k _).symm
  obtain⟨o',a1,a2,a3⟩:=rG hf hs _ (k+1) (by rw[Mh];exact h1) p2 (by simp at h3;omega);refine⟨o',?_,a2,by simp only[Js];rw[show k+(hs.length+1)=k+1+hs.length by omega];exact a3⟩;rw[Qj,st,a1];simp only[Js];rw[show k+(hs.length+1)=k+1+hs.length by omega]
theorem uq{m:Nat}(hf:full m=true)(hs:Array Int)(hn:hs.size<=m):∃owner,PC m hs=some owner/\owner.size=m+1/\(vals m owner).Perm (IP hs.size):=by
 obtain⟨o,a1,a2,a3⟩:=rG hf hs.toList (Qh (m+1) none) 0 (by simp) (by rw[zN];simp) (by simpa using hn);refine⟨o,?_,a2,by simpa using a3⟩;unfold PC;rw[<-Array.foldl_toList];have:(λ(acc:Option (Array (Option Nat)×Nat))(h:Int)=>(do
  let(owner,k)<-acc
  let j<-K7 m owner (Ls m) (JA h % (m+1)) (JA h)
  pure (owner.setIfInBounds j (some k),k+1):Option (Array (Option Nat)×Nat)))=md m:=rfl
 rw[this,a1];rfl
theorem j5(f:Nat->Option Nat):∀l:List Nat,((l.filterMap λj=>(f j).map (j,·)).map (·.1))=l.filter λj=>(f j).isSome
 | []=>rfl
 |a::l=>by
  rw[JF,MN];cases f a with
  |none=>simpa using j5 f l
  |some x=>simp[j5 f l]
theorem j9(f:Nat->Option Nat):∀l:List Nat,((l.filterMap λj=>(f j).map (j,·)).map (·.2))=l.filterMap f
 | []=>rfl
 |a::l=>by
  rw[JF,JF];cases f a with
  |none=>simpa using j9 f l
  |some x=>simp[j9 f l]
theorem vj{α:Type}:∀(xs:List α),(IP xs.length).filterMap (λi=>xs[i]?)=xs
 | []=>rfl
 |x::xs=>by
  rw[Js,Ot,JF];simp only[N6];rw[Pa];have:((λi=>(x::xs)[i]?)∘Nat.succ)=λi=>xs[i]?:=by funext i;simp
  rw[this,vj xs]
theorem AU{t:SetTable}{es:Array (Int×Value)}{wanted:Nat}(hf:full (Lc wanted-1)=true)(hn:es.size<=Lc wanted-1) :
  ∃es' t' l,relayAll t es wanted=(es',t',false)/\es'.toList.Perm es.toList/\t'.place=l.toArray/\Ri l/\l.length=es.size/\t'.dummies=#[]/\t'.mask=Lc wanted-1/\t'.plain=t.plain/\t'.led=t.led:=by
 obtain⟨owner,e1,e2,e3⟩:=uq hf (es.map (·.1)) (by simpa using hn);rw[OC]at e3;generalize hm:Lc wanted-1=m at *
 let f:Nat->Option Nat:=λj=>owner.getD j none
 have r1:t.relaid (es.map (·.1)) wanted=some ({ mask:=m,place:=((IP (m+1)).filter λj=>(f j).isSome).toArray,dummies:=#[],finger:=t.finger,led:=t.led,moves:=t.movedTo m,plain:=t.plain },(vals m owner).toArray):=by
  unfold SetTable.relaid SetTable.laid;rw[hm,e1];show some _=some _;rw[<-j5 f,show vals m owner=(IP (m+1)).filterMap f from rfl,<-j9 f]
 have po:((vals m owner).toArray.filterMap λ(i:Nat)=>es[i]?).toList.Perm es.toList:=by
  rw[Array.toList_filterMap];refine(e3.filterMap _).trans (Qi ?_);have:(λ(i:Nat)=>es[i]?)=λ(i:Nat)=>es.toList[i]?:=by funext i;rw[Kr]
  rw[this,<-IC,vj]
 have lpl:((IP (m+1)).filter λj=>(f j).isSome).length=es.size:=by
  rw[<-j5 f,IA,<-IA (f:=(·.2)),j9 f];show(vals m owner).length=es.size;rw[e3.length_eq,KD]
 have so:((vals m owner).toArray.filterMap λ(i:Nat)=>es[i]?).size=es.size:=by
  rw[<-IC,po.length_eq,IC]
 refine⟨_,{ mask:=m,place:=((IP (m+1)).filter λj=>(f j).isSome).toArray,dummies:=#[],finger:=t.finger,led:=t.led,moves:=t.movedTo m,plain:=t.plain },(IP (m+1)).filter λj=>(f j).isSome,?_,po,rfl,?_,lpl,rfl,rfl,rfl,rfl⟩
 ·unfold relayAll;rw[r1];dsimp only;have c1:coversAll (vals m owner).toArray es.size=true:=by
   unfold coversAll;rw[List.isPerm_iff];exact e3
  have c2:OY { mask:=m,place:=((IP (m+1)).filter λj=>(f j).isSome).toArray,dummies:=#[],finger:=t.finger,led:=t.led,moves:=t.movedTo m,plain:=t.plain } ((vals m owner).toArray.filterMap λ(i:Nat)=>es[i]?).size=true:=by
   unfold OY OZ;rw[so];simp only[IE,lpl];simpa using hn
  rw[c1,c2];rfl
 ·exact Sk _ List.pairwise_lt_range
end ZS
namespace ZS
open PySem
end ZS
namespace ZS
open PySem
end ZS
namespace ZS
open PySem
noncomputable def start(m:Nat)(h:Int):SetTable.Probe:={ j:=JA h % (m+1),more:=LC m (JA h % (m+1))-JA h % (m+1),i:=JA h % (m+1),perturb:=JA h,dummy:=none }
end ZS
namespace L2
open PySem PySem.Spec PyProof.Rows ZS
noncomputable def fm(m:Nat):Bool:=m==7||m==31||m==127||m==511
theorem uL(h:fm m=true):full m=true:=by
 simp only[fm,L_,L1]at h;rcases h with((h |h) |h) |h<;>subst h
 ·exact GO
 ·exact E2
 ·exact Cv
 ·exact CZ
def i7(w:World)(h:Heap)(a:Addr)(ks:List Int):Prop:=
 ∃(o:Obj)(es:Array (Int×Value))(ep:Nat)(t:SetTable)(pl:List Nat),h.get? a=some o/\o.ExactSet/\o.data=.set es ep t/\fm t.mask=true/\t.dummies=#[]/\t.plain=true/\t.led=!(w.params.followText "set-order") /\
  t.place=pl.toArray/\(Ri pl/\pl.length=ks.length/\ks.length*5<t.mask*3)/\IntsAre (es.toList.map N1) ks/\(∀e∈es.toList,∃k,KL k e.2=true/\e.1=hashInt k)/\ks.Nodup/\ks.length<=300
theorem cT:∀{vs:List Value}{ns:List Int},IntsAre vs ns->vs.length=ns.length
 |_,_,.nil=>rfl
 |_,_,.cons n t r=>by simp[cT r]
theorem fits_of{t:SetTable}(h2:t.dummies=#[])(h3:t.place.size=n)(hn:n<=t.mask):t.fits n=true:=by
 unfold OY OZ;rw[h2,h3];simp;omega
theorem iB:KL k (.int k t)=true:=by simp[KL]
theorem isInt_iff:KL k (.int j t)=true↔k=j:=by
 constructor
 ·intro h;obtain⟨t',e⟩:=NH h;cases e;rfl
 ·rintro rfl;exact iB
theorem lD:∀{es:List (Int×Value)}{ks:List Int}{k:Int},IntsAre (es.map N1) ks->(k∈ks↔(es.findIdx? λe=>KL k e.2).isSome=true)
 | [],_,k,r=>by cases r;simp
 |e::es,_,k,r=>by
  obtain⟨h,v⟩:=e;cases r with
  |cons n t r=>
   have ih:=lD (k:=k) r;rw[List.findIdx?_cons];by_cases hk:k=n
   ·subst hk;simp[iB]
   ·have:KL k (.int n t)=false:=by rw[<-Bool.not_eq_true,isInt_iff];exact hk
    simp only[this,IL,hk,false_or];rw[ih];simp
theorem ke(xs:Array α)(p:Nat)(x:α)(hp:p<=xs.size):(K0 xs p x).toList=xs.toList.take p++x::xs.toList.drop p:=by
 unfold K0;simp;rw[Jf (by simp)]
section
variable{prog:Program}{w:World}{A:Around}{E:Value->Shared->Prop}{s:Shared}
theorem IntsAre.app:∀{vs us:List Value}{ns ms:List Int},IntsAre vs ns->IntsAre us ms->IntsAre (vs++us) (ns++ms)
 |_,_,_,_,.nil,r=>r
 |_,_,_,_,.cons n t q,r=>.cons n t (IntsAre.app q r)
theorem IntsAre.B3:∀{vs:List Value}{ns:List Int}(p:Nat),IntsAre vs ns->IntsAre (vs.take p) (ns.take p)
 |_,_,0,_=>.nil
 |_,_,_+1,.nil=>.nil
 |_,_,p+1,.cons n t q=>.cons n t (IntsAre.B3 p q)
theorem IntsAre.BG:∀{vs:List Value}{ns:List Int}(p:Nat),IntsAre vs ns->IntsAre (vs.drop p) (ns.drop p)
 |_,_,0,r=>r
 |_,_,_+1,.nil=>.nil
 |_,_,p+1,.cons _ _ q=>IntsAre.BG p q
theorem qL:∀{vs us:List Value},List.Perm vs us->∀{ns:List Int},IntsAre us ns->∃ms,IntsAre vs ms/\List.Perm ms ns:=by
 intro vs us hp
 induction hp with
 |nil=>intro ns r;exact⟨ns,r,.refl _⟩
 |cons x _ ih=>
  intro ns r;cases r with
  |cons n t r=>
   obtain⟨ms,a,b⟩:=ih r;exact⟨n::ms,.cons n t a,b.cons n⟩
 |swap x y l=>
  intro ns r;cases r with
  |cons n t r=>cases r with
   |cons n' t' r=>exact⟨n'::n::_,.cons n' t' (.cons n t r),.swap ..⟩
 |trans _ _ ih1 ih2=>
  intro ns r;obtain⟨ms,a,b⟩:=ih2 r;obtain⟨ms',a',b'⟩:=ih1 a;exact⟨ms',a',b'.trans b⟩
theorem Av{t':SetTable}{es':Array (Int×Value)}(hm:fm t'.mask=true)(hn:es'.size=n)(h1:¬n*5<t'.mask*3)(h2:n*5<t'.mask*3+5)(h3:n<=300) :
  fm (Lc (OD n)-1)=true/\n*5<(Lc (OD n)-1)*3:=by
 simp only[fm,L_,L1]at hm;rcases hm with((hm |hm) |hm) |hm<;>rw[hm]at h1 h2
 ·have:n=5:=by omega
  subst this;decide+kernel
 ·have:n=19:=by omega
  subst this;decide+kernel
 ·have:n=77:=by omega
  subst this;decide+kernel
 ·omega
theorem Ba{ks:List Int}(hS:i7 w s.heap a ks)(hl:k∉ks->ks.length<300)
  (h:∀(h':Heap)(ks':List Int)(b:Bool),Jg a s.heap h'->i7 w h' a ks'->(∀x,x∈ks'↔x∈ks\/x=k)->(k∈ks->ks'.length=ks.length)->(k∉ks->ks'.length=ks.length+1)->Q b { s with heap:=h',toks:=s.toks+1 }) :
  wpAny (model prog w) A (setAdd a (.int k tk)) Q E s:=by
 obtain⟨o,es,ep,t,pl,g1,g2,g3,g4,g5,g6,g7,g8,g9,g10,g11,g12,g13⟩:=hS;obtain⟨g9,lpl,g14⟩:=g9;have hmask:=uL g4;have lks:es.size=ks.length:=by
  have:=cT g10;rw[IA,IC]at this;exact this
 have hmk:7<=t.mask:=by
  have q:=g4;simp only[fm,L_,L1]at q;omega
 have hfit:t.fits es.size=true:=fits_of g5 (by rw[g8,lks];simpa using lpl) (by omega);have hel:ElemsOf (intKind prog w) es.toList:=λe he=>by
  obtain⟨k',e1,e2⟩:=g11 e he;refine⟨⟨k',e1,e2⟩,?_⟩;obtain⟨t',e'⟩:=NH e1;rw[e'];rfl
 have hint:(intKind prog w).is k (.int k tk)=true:=iB (k:=k) (t:=tk);unfold setAdd;refine Jl (ar ((intKind prog w).pyHash (k:=k) (v:=.int k tk) hint ?_));unfold setAddHashed;refine Jl ?_;show wpAny _ _ (setAddHashedIn a (.int k tk) _ (99999+1)) _ _ _;rw[setAddHashedIn.eq_2];refine ar (J_ g1 g3 hfit ?_);show wpAny _ _ (if byScan (.int k tk) es=true then _ else _) _ _ _;rw[Iw (byScan_of (knd:=intKind prog w) rfl (by unfold scanBound;omega) hel)];refine ar ?_;unfold setAddByScan;refine ar (KU (ar (wpAny_setScan_of (knd:=intKind prog w) (k:=k) hint g1 g3 hfit hel ?_)));have hfi:=lD (k:=k) g10;by_cases hm:k∈ks
 ·have hs:=hfi.mp hm;cases hf:ME (λe=>(intKind prog w).is k e.snd) es.toList with
  |none=>
   have hf':ME (λe:Int×Value=>KL k e.2) es.toList=none:=hf;rw[hf']at hs;cases hs
  |some j=>
   refine C0 (C0 ?_);exact h s.heap ks false (SH ..) ⟨o,es,ep,t,pl,g1,g2,g3,g4,g5,g6,g7,g8,⟨g9,lpl,g14⟩,g10,g11,g12,g13⟩ (λx=>⟨.inl,λz=>z.elim id λe=>e▸hm⟩) (λ_=>rfl) (λz=>absurd hm z)
 ·have hl3:=hl hm;have hnone:ME (λe=>(intKind prog w).is k e.snd) es.toList=none:=by
   have hf':ME (λe:Int×Value=>KL k e.2) es.toList=none:=by
    cases hf:ME (λe:Int×Value=>KL k e.2) es.toList with
    |none=>rfl
    |some j=>exact absurd (hfi.mpr (by rw[hf];rfl)) hm
   exact hf'
  rw[hnone];obtain⟨j,hfree,hjl⟩:=yP g8 g9 g5 hmask (show pl.length<=t.mask by omega) (hashInt k);obtain⟨p,hple,hpb,hpa,hpc⟩:=yE g9 j;have hp:Kz pl.toArray j=p:=hpb;have les0:es.size=pl.length:=by omega
  have riN:Ri (pl.take p++j::pl.drop p):=yJ g9 hjl hpa hpc;have liN:(K0 pl.toArray p j).toList=pl.take p++j::pl.drop p:=by
   have:=ke pl.toArray p j (by simpa using hple);simpa using this
  refine show _ from ?_
  ·have hput:t.put j=({ mask:=t.mask,place:=K0 t.place p j,dummies:=#[],finger:=t.finger,led:=t.led,moves:=t.moves,plain:=t.plain },p):=by
    unfold SetTable.put;rw[g8,hp,g5];rfl
   generalize ht':({ mask:=t.mask,place:=K0 t.place p j,dummies:=#[],finger:=t.finger,led:=t.led,moves:=t.moves,plain:=t.plain }:SetTable)=t' at hput;have m1:t'.mask=t.mask:=by rw[<-ht']
   have m2:t'.dummies=#[]:=by rw[<-ht']
   have m3:t'.plain=true:=by rw[<-ht'];exact g6
   have m4:t'.led=!(w.params.followText "set-order"):=by rw[<-ht'];exact g7
   have m5:t'.place=(pl.take p++j::pl.drop p).toArray:=by rw[<-ht',g8,<-liN]
   have lpl':(pl.take p++j::pl.drop p).length=ks.length+1:=by simp;omega
   have les:(K0 es p (hashInt k,Value.int k tk)).toList=es.toList.take p++(hashInt k,Value.int k tk)::es.toList.drop p:=ke _ _ _ (by omega);generalize hes:K0 es p (hashInt k,Value.int k tk)=es' at les;have lsz:es'.size=ks.length+1:=by
    rw[<-IC,les];simp;omega
   have hfit':t'.fits es'.size=true:=fits_of m2 (by rw[m5,lsz];simpa using lpl') (by omega);have hlay:layNew t es (hashInt k) (.int k tk)=(es',t',false,false):=by
    unfold layNew;rw[hfree];simp only[hput,hes];unfold SetTable.orStandIn;rw[Iw hfit',hfit'];rfl
   have hlay2:layNew t es ((intKind prog w).hash k) (.int k tk)=(es',t',false,false):=hlay;rw[hlay2];dsimp only;refine ar (C0 ?_);rw[Iw m3,hashByValue_scannable 8 (x:=.int k tk) rfl];refine ar (C0 ?_);have hpk:plainKind (Value.int k tk)=true:=rfl;rw[Iw hpk];have h1000:(1000:Nat)<=sizeLine:=Ka (dF (IB 1000));have hsz:¬es'.size>sizeLine:=by rw[lsz];omega
   have i1:IntsAre (es'.toList.map N1) (ks.take p++k::ks.drop p):=by
    rw[les,JN,IM,MF,MG];exact IntsAre.app (IntsAre.B3 p g10) (.cons k tk (IntsAre.BG p g10))
   have i2:∀e∈es'.toList,∃k,KL k e.2=true/\e.1=hashInt k:=by
    intro e he;rw[les]at he;rcases Jk.mp he with z |z
    ·exact g11 e (JD z)
    ·rcases IL.mp z with z |z
     ·rw[z];exact⟨k,iB,rfl⟩
     ·exact g11 e (JP z)
   have hperm:List.Perm (ks.take p++k::ks.drop p) (k::ks):=by
    have:=List.perm_middle (a:=k) (l₁:=ks.take p) (l₂:=ks.drop p);rw[Jm]at this;exact this
   have kl:(ks.take p++k::ks.drop p).length=ks.length+1:=by rw[hperm.length_eq];rfl
   have i3:(ks.take p++k::ks.drop p).Nodup:=by
    rw[hperm.nodup_iff,KG];exact⟨hm,g12⟩
   have i4:∀x,x∈ks.take p++k::ks.drop p↔x∈ks\/x=k:=by
    intro x;rw[hperm.mem_iff,IL];exact or_comm
   generalize hks:ks.take p++k::ks.drop p=ks' at i1 kl i3 i4;have hfill:t'.fill=ks.length+1:=by
    unfold OZ;rw[m2,m5];simp only[IE,lpl'];rfl
   have putS:∀(e2:Array (Int×Value))(t2:SetTable)(o2:Obj)(e1:Array (Int×Value))(n1:Nat)(t1:SetTable),o2.data=.set e1 n1 t1->NR e2 t2 o2={ o2 with data:=.set e2 (n1+1) t2 }:=by
    intro e2 t2 o2 e1 n1 t1 hd;obtain⟨oc,od,oda,osl⟩:=o2;have hd':oda=.set e1 n1 t1:=hd;subst hd';rfl
   refine ar ?_;unfold storeSet;refine ar (wpAny_load' g1 ?_);rw[g3];dsimp only;rw[IF hsz];refine QU g1 ?_;have hupd:=putS es' t' o es ep t g3;have gN:(s.heap.update a (NR es' t')).get? a=some { o with data:=.set es' (ep+1) t' }:=by
    rw[<-hupd];exact LR _ g1 (by rw[hupd];rfl)
   have sbN:Jg a s.heap (s.heap.update a (NR es' t')):=Ly ..;by_cases hfull:(ks.length+1)*5<t.mask*3
   ·have hf0:(!false&&t'.tooFull)=false:=by
     unfold P4;rw[hfill,m1];simp;omega
    rw[hf0];rw[IF (by simp)];refine C0 (C0 ?_);exact h _ ks' true sbN ⟨_,es',ep+1,t',_,gN,g2,rfl,by rw[m1];exact g4,m2,m3,m4,m5,⟨riN,by rw[lpl',kl],by rw[kl,m1];exact hfull⟩,i1,i2,i3,by omega⟩ i4 (λz=>absurd z hm) (λ_=>kl)
   ·have hf1:(!false&&t'.tooFull)=true:=by
     unfold P4;rw[hfill,m1];simp;omega
    rw[hf1];rw[Iw rfl];obtain⟨w1,w2⟩:=Av (t':=t') (es':=es') (n:=ks.length+1) (by rw[m1];exact g4) lsz (by rw[m1];exact hfull) (by rw[m1];omega) (by omega);rw[lsz];obtain⟨e2,t2,l2,r1,r2,r3,r4,r5,r6,r7,r8,r9⟩:=AU (t:=t') (es:=es') (wanted:=OD (ks.length+1)) (uL w1) (by rw[lsz];omega);rw[r1];dsimp only;have lsz2:e2.size=ks.length+1:=by rw[<-IC,r2.length_eq,IC,lsz]
    obtain⟨ks2,j1,j2⟩:=qL (r2.map N1) i1;refine ar (C0 ?_);refine ar ?_;refine ar (wpAny_load' gN ?_);dsimp only;rw[IF (by rw[lsz2];omega)];refine QU gN ?_;refine C0 (C0 ?_);have gM:((s.heap.update a (NR es' t')).update a (NR e2 t2)).get? a=some { o with data:=.set e2 (ep+1+1) t2 }:=by
     have hq:=putS e2 t2 { o with data:=.set es' (ep+1) t' } es' (ep+1) t' rfl;rw[<-hq];exact LR _ gN (by rw[hq];rfl)
    refine h _ ks2 true (sbN.trans (Ly ..)) ⟨_,e2,ep+1+1,t2,l2,gM,g2,rfl,by rw[r7];exact w1,r6,by rw[r8];exact m3,by rw[r9];exact m4,r3,⟨r4,by rw[r5,lsz,j2.length_eq,kl],by rw[r7,j2.length_eq,kl];exact w2⟩,j1,λe he=>i2 e (r2.mem_iff.mp he),j2.nodup_iff.mpr i3,by rw[j2.length_eq,kl];omega⟩ (λx=>by rw[j2.mem_iff];exact i4 x) (λz=>absurd z hm) (λ_=>by rw[j2.length_eq,kl])
end
section
variable{prog:Program}{w:World}{A:Around}{E:Value->Shared->Prop}{s:Shared}
theorem i7.at(H:i7 w h S ks)(k:∀o,h.get? S=some o->h'.get? S=some o):i7 w h' S ks:=by
 obtain⟨o,es,ep,t,pl,g1,r⟩:=H;exact⟨o,es,ep,t,pl,k o g1,r⟩
theorem qc{R:Result->Shared->Prop}{I:Addr}{fp wr:List Addr}{n:Nat}{P:Nat->Value->Prop}{St:Nat->Heap->Prop}(W:Walks prog w A.in1 I fp wr n P St)(S:Addr)(hSf:S∉fp)(val:Nat->Int)(hval:∀i v,P i v->∃t,v=Value.int (val i) t)(hn:n<=300) :
  ∀(k i:Nat)(s:Shared)(ks:List Int),n-i=k->i<=n->St i s.heap->i7 w s.heap S ks->(∀x,x∈ks↔∃j,j<i/\val j=x)->ks.length<=i ->
   (∀(h':Heap)(tk:Nat)(ks':List Int),(∀b o,b≠S->b∉wr->s.heap.get? b=some o->h'.get? b=some o)->i7 w h' S ks'->(∀x,x∈ks'↔∃j,j<n/\val j=x)->R (.ok (.ret .none)) { s with heap:=h',toks:=tk }) ->
   codeAny (model prog w) A (Code.builtin "set.update.loop" ⟨[.ref S,.ref I],[]⟩) R s:=by
 have hSw:S∉wr:=λh=>hSf (W.sub S h);intro k
 induction k with
 |zero=>
  intro i s ks hk hi hst hS hks hlen hR;have hin:i=n:=by omega
  subst hin;refine Ko N7 ?_;rw[KA Mp];refine(show wpAny _ _ (pyNext (.ref I)>>=_) _ _ _ from ar (W.done s _ _ hst λh' tk hk'=>?_));exact C0 (hR h' tk ks (λb o _ hw e=>hk' b o hw e) (hS.at λo e=>hk' S o hSw e) hks)
 |succ k ih=>
  intro i s ks hk hi hst hS hks hlen hR;refine Ko N7 ?_;rw[KA Mp];refine(show wpAny _ _ (pyNext (.ref I)>>=_) _ _ _ from ar (W.item i s _ _ (by omega) hst λv h' tk hP hst' hk'=>?_));obtain⟨t,rfl⟩:=hval i v hP;refine(show wpAny _ _ (holding [Value.int (val i) t] (setAdd S (.int (val i) t))>>=_) _ _ _ from ar (Jl ?_));refine Ba (s:={ s with heap:=h',toks:=tk }) (hS.at λo e=>hk' S o hSw e) (λ_=>by omega) λh2 ks2 b sb hS2 hm l1 l2=>?_;refine C0 ⟨MI Mp _,ih (i+1) _ ks2 (by omega) (by omega) ?_ hS2 ?_ ?_ λh3 tk3 ks3 q1 q2 q3=>?_⟩
  ·exact W.frame _ _ _ hst' λb hb' o e=>sb.extBut b o (λz=>hSf (z▸hb')) e
  ·intro x;rw[hm,hks];constructor
   ·rintro(⟨j,h1,h2⟩ |rfl)
    ·exact⟨j,by omega,h2⟩
    ·exact⟨i,by omega,rfl⟩
   ·rintro⟨j,h1,h2⟩;by_cases e:j=i
    ·subst e;exact .inr h2.symm
    ·exact .inl ⟨j,by omega,h2⟩
  ·by_cases hin:val i∈ks
   ·have:=l1 hin;omega
   ·have:=l2 hin;omega
  ·exact hR h3 tk3 ks3 (λb o hb1 hb2 e=>q1 b o hb1 hb2 (sb.extBut b o hb1 (hk' b o hb2 e))) q2 q3
theorem qD(a:Value)
  (h:Q₁ (.ref s.heap.objs.size) { s with heap:=s.heap.push { cls:=.type "set",data:=.set #[] 0 (Mn 0 0 (!(w.params.followText "set-order"))) } }) :
  codeAny (model prog w) A (Code.call (.builtin "set.__new__") ⟨[.type "set",a],[]⟩) (wants Q₁ E) s:=by
 refine Qk ?_;refine(show wpAny _ _ (checkBuiltinCall "set.__new__" ⟨[.type "set",a],[]⟩>>=_) _ _ _ from ar (LH (F.newCall_set_1 a) (C0 ⟨MI Ql _,Ko F.entry_set_new ?_⟩)));rw[KA Ql];have hsub:=sub_set_self;refine(show wpAny _ _ (Nz "set" _>>=_) _ _ _ from ar ?_);unfold Nz;refine ar (C0 ?_);refine IK rfl (ar (LH hsub (IK rfl (C0 ?_))));refine(show wpAny _ _ (newSet (.type "set")>>=_) _ _ _ from ar ?_);unfold newSet;refine ar ?_;unfold setsByText;refine ar (L3 (C0 ?_));exact(show wpAny _ _ (newObj (.type "set") (Data.set #[] 0 (Mn 0 0 (!(w.params.followText "set-order"))))) _ _ _ from Jr (C0 h) (by first |size_fits |(intro _;decide)))
theorem iZ:∀{vs:List Value}{ns:List Int}{i:Nat}{v:Value},IntsAre vs ns->vs[i]?=some v->∃t,v=Value.int (ns.getD i 0) t
 |_,_,_,_,.nil,e=>by simp at e
 |_,_,0,_,.cons n t _,e=>⟨t,by simpa using e.symm⟩
 |_,_,i+1,v,.cons n t r,e=>by
  obtain⟨t',e'⟩:=iZ (i:=i) (v:=v) r (by simpa using e);exact⟨t',by simpa using e'⟩
def tT(h:Heap)(l:Addr)(items:Array Value)(k:Bool):Prop:=if k=true then h.IsList l items else h.IsTuple l items
theorem xQ{S l:Addr}{items:Array Value}{ns:List Int}{F:PySem.Fin->Shared->Prop}{hp:Heap}{g:Array GenState}{d:Drawn}{tk:Nat}{os:OsState}(hh:A.handled=none)(hS:hp.get? S=some { cls:=.type "set",data:=.set #[] 0 (Mn 0 0 (!(w.params.followText "set-order"))) })(k:Bool)(hl:tT hp l items k)(hi:IntsAre items.toList ns)(hn:ns.length<=300)
    (h:∀(h':Heap)(tk':Nat)(ks:List Int),i7 w h' S ks->(∀x,x∈ks↔x∈ns)->(∀b o,b≠S->hp.get? b=some o->h'.get? b=some o)->F (.done (.ret .none)) ⟨h',g,d,tk',os⟩) :
    wpAny (model prog w) A (Builtin.«set.__init__» ⟨[.ref S,.ref l],[]⟩) F E ⟨hp,g,d,tk,os⟩:=by
  cases k with
  |false=>
    replace hl:hp.IsTuple l items:=hl
    have hT:L6 ⟨hp,g,d,tk,os⟩ (.ref S) "set":=⟨_,hS,rfl⟩;have hTt:L6 ⟨hp,g,d,tk,os⟩ (.ref l) "tuple":=hl.typeIs;unfold Builtin.«set.__init__»;refine ar ?_;unfold noKeywords;refine KP rfl (C0 ?_);dsimp only;refine ar ?_;unfold typeNameOfCut;refine ar ?_;unfold shownTypeOf;refine ar (J0 hT ?_)
    first
    |refine IK rfl (C0 ?_)
    |refine C0 ?_
    refine(show wpAny _ _ (pure _) _ _ _ from C0 ?_);refine ar ?_;unfold checkCount;refine IK rfl (IK rfl (IK rfl (C0 ?_)));refine ar (C0 ?_);refine ar ?_;unfold setUsed;refine ar (J_ hS rfl (by rfl) (C0 ?_));refine IK rfl ?_;refine ar ?_;unfold Nc;refine ar ?_;unfold NA;refine(show wpAny _ _ (isInstance (.ref l) (.type "set")>>=_) _ _ _ from ar (Kw hTt PySem.F.sub_tuple_set ?_));refine(show wpAny _ _ (isInstance (.ref l) (.type "frozenset")) _ _ _ from Kw hTt PySem.F.sub_tuple_frozenset ?_);refine IK rfl (ar (J0 hTt (IK rfl (ar (Kx hl ?_)))));refine ar (Nd ?_);have hlt:S<hp.objs.size:=ID hS;obtain⟨o,ho,hor⟩:=hl;have hlt2:l<hp.objs.size:=ID ho;have hne:l≠hp.objs.size:=IZ hlt2;have W:=Walks.tuple (prog:=prog) (w:=w) (A:=A.in1) hh hp.objs.size l hne items;have lit:items.size=ns.length:=by rw[<-IC];exact cT hi
    have hSl:S≠l:=λe=>by
      rw[e,ho]at hS;cases hS;exact absurd (Qy hor.1) (by decide)
    refine qc W S (by simp only[IL,Jt,Ky,not_or];exact⟨IZ hlt,hSl⟩) (λi=>ns.getD i 0) ?_ (by omega) items.size 0 _ [] (by omega) (KN _) ?_ ?_ ?_ (IB 0) ?_
    · intro i v hv
      exact iZ hi (by simpa using hv)
    · exact⟨⟨_,IG _ rfl,rfl,rfl⟩,⟨o,gV _ ho,hor⟩⟩
    · refine⟨_,#[],0,_,[],gV _ hS,⟨rfl,rfl,rfl⟩,rfl,(show fm 7=true by decide),rfl,rfl,rfl,rfl,⟨List.Pairwise.nil,rfl,(show 0*5<7*3 by decide)⟩,.nil,by simp,Nf,by simp⟩
    · intro x
      simp
    · intro h' tk' ks' q1 q2 q3
      refine C0 (C0 (h h' tk' ks' q2 ?_ ?_))
      · intro x
        rw[q3];constructor
        · rintro⟨j,hj,rfl⟩
          show ns.getD j 0∈ns;rw[Iz,H0 (show j<ns.length by omega)];exact JE _
        · intro hx
          obtain⟨j,hj,e⟩:=JC.mp hx;refine⟨j,by omega,?_⟩;show ns.getD j 0=x;rw[Iz,H0 hj];exact e
      · intro b o' hbS e
        refine q1 b o' hbS ?_ (gV _ e);simp only[IQ];exact IZ (ID e)
  |true=>
    replace hl:hp.IsList l items:=hl
    have hT:L6 ⟨hp,g,d,tk,os⟩ (.ref S) "set":=⟨_,hS,rfl⟩;have hTt:L6 ⟨hp,g,d,tk,os⟩ (.ref l) "list":=hl.typeIs;unfold Builtin.«set.__init__»;refine ar ?_;unfold noKeywords;refine KP rfl (C0 ?_);dsimp only;refine ar ?_;unfold typeNameOfCut;refine ar ?_;unfold shownTypeOf;refine ar (J0 hT ?_)
    first
    |refine IK rfl (C0 ?_)
    |refine C0 ?_
    refine(show wpAny _ _ (pure _) _ _ _ from C0 ?_);refine ar ?_;unfold checkCount;refine IK rfl (IK rfl (IK rfl (C0 ?_)));refine ar (C0 ?_);refine ar ?_;unfold setUsed;refine ar (J_ hS rfl (by rfl) (C0 ?_));refine IK rfl ?_;refine ar ?_;unfold Nc;refine ar ?_;unfold NA;refine(show wpAny _ _ (isInstance (.ref l) (.type "set")>>=_) _ _ _ from ar (Kw hTt PySem.F.sub_list_set ?_));refine(show wpAny _ _ (isInstance (.ref l) (.type "frozenset")) _ _ _ from Kw hTt PySem.F.sub_list_frozenset ?_);refine IK rfl (ar (J0 hTt (IK rfl (ar (LL hl ?_)))));refine ar (Nd ?_);have hlt:S<hp.objs.size:=ID hS;obtain⟨o,ho,hor⟩:=hl;have hlt2:l<hp.objs.size:=ID ho;have hne:l≠hp.objs.size:=IZ hlt2;have W:=Qf (prog:=prog) (w:=w) (A:=A.in1) hh hp.objs.size l hne items;have lit:items.size=ns.length:=by rw[<-IC];exact cT hi
    have hSl:S≠l:=λe=>by
      rw[e,ho]at hS;cases hS;exact absurd (Qy hor.1) (by decide)
    refine qc W S (by simp only[IL,Jt,Ky,not_or];exact⟨IZ hlt,hSl⟩) (λi=>ns.getD i 0) ?_ (by omega) items.size 0 _ [] (by omega) (KN _) ?_ ?_ ?_ (IB 0) ?_
    · intro i v hv
      exact iZ hi (by simpa using hv)
    · exact⟨⟨_,IG _ rfl,rfl,rfl⟩,⟨o,gV _ ho,hor⟩⟩
    · refine⟨_,#[],0,_,[],gV _ hS,⟨rfl,rfl,rfl⟩,rfl,(show fm 7=true by decide),rfl,rfl,rfl,rfl,⟨List.Pairwise.nil,rfl,(show 0*5<7*3 by decide)⟩,.nil,by simp,Nf,by simp⟩
    · intro x
      simp
    · intro h' tk' ks' q1 q2 q3
      refine C0 (C0 (h h' tk' ks' q2 ?_ ?_))
      · intro x
        rw[q3];constructor
        · rintro⟨j,hj,rfl⟩
          show ns.getD j 0∈ns;rw[Iz,H0 (show j<ns.length by omega)];exact JE _
        · intro hx
          obtain⟨j,hj,e⟩:=JC.mp hx;refine⟨j,by omega,?_⟩;show ns.getD j 0=x;rw[Iz,H0 hj];exact e
      · intro b o' hbS e
        refine q1 b o' hbS ?_ (gV _ e);simp only[IQ];exact IZ (ID e)
theorem pT(hh:A.handled=none)(k:Bool)(hl:tT s.heap l items k)(hi:IntsAre items.toList ns)(hn:ns.length<=300)
  (h:∀(h':Heap)(tk:Nat)(ks:List Int),i7 w h' s.heap.objs.size ks->(∀x,x∈ks↔x∈ns)->(∀b o,s.heap.get? b=some o->h'.get? b=some o)->Q (.ref s.heap.objs.size) { s with heap:=h',toks:=tk }):wpAny (model prog w) A (call (.type "set") [.ref l]) Q E s:=by
 obtain⟨c,tl,hmro⟩:=Lw.mro;have hmade:=Lw.made;have hsub:=Lw.sub;have h1:=Lw.notType;have h2:=Lw.canCreate;have hct:=F.typeCall_set_1 (Value.ref l);refine OK (Qk ?_);refine(show wpAny _ _ (pure (Fin.again (Code.builtin "type.__call__" ⟨[.type "set",.ref l],[]⟩))) _ _ _ from C0 ⟨Pl _ (by decide+kernel),Ko F.entry_type_call ?_⟩);rw[Around.under_plain (weight_type_call_type "set" [Value.ref l] []) rfl];unfold Builtin.«type.__call__»;dsimp only;refine IK rfl (IK (by rw[h2];rfl) (ar (LH hct (ar (LH hmro (IK rfl (ar (LH hmade ?_))))))));dsimp only;refine ar (C0 (ar (Jl (OK (MV (qD (E:=λ_ _=>False) (Q₁:=λobj s₁=>obj=.ref s.heap.objs.size/\s₁={ s with heap:=s.heap.push { cls:=.type "set",data:=.set #[] 0 (Mn 0 0 (!(w.params.followText "set-order"))) } }) (.ref l) ⟨rfl,rfl⟩) λr s₁ hr=>?_)))));generalize hs1:({ s with heap:=s.heap.push { cls:=.type "set",data:=.set #[] 0 (Mn 0 0 (!(w.params.followText "set-order"))) } }:Shared)=sN at hr;cases r with
 |error e=>exact KR hr
 |ok f=>
  cases f with
  |ret v=>
   obtain⟨e1,e2⟩:=hr;subst e1 e2;have hT:L6 s₁ (.ref s.heap.objs.size) "set":=by
    rw[<-hs1];exact⟨_,IG _ rfl,rfl⟩
   show wpAny _ _ _ _ _ _;refine ar (Kw (T:="set") (b:=true) hT hsub ?_);refine IK rfl (ar (Jl ?_));refine Jz (name:=Jo "__init__") hT Lw.init (OK (codeAny_call_builtin Lw.init.plain F.entry_set_init (check_set_init_1 hT ?_)));subst hs1;obtain⟨hp,g,d,tk,os⟩:=s;refine xQ (hp:=hp.push _) hh (IG _ rfl) k (by
    cases k with
    |false=>
     obtain⟨o,e,r⟩:=(show MY _ l items from hl);exact(show MY _ l items from⟨o,gV _ e,r⟩)
    |true=>
     obtain⟨o,e,r⟩:=(show RX _ l items from hl);exact(show RX _ l items from⟨o,gV _ e,r⟩)) hi hn λh' tk' ks q1 q2 q3=>?_
   refine IK rfl (C0 (h h' tk' ks q1 q2 λb o e=>q3 b o (IZ (ID e)) (gV _ e)))
  |_=>exact KR hr
end
theorem bA:Slot "set_iterator" (Jo "__next__") "set_iterator.__next__":=
 Slot.of (owner:="set_iterator") (n:="__next__") (by rw[MZ,LU];rfl) (by decide+kernel) (by decide+kernel) (by decide+kernel) (Or.inl (by decide+kernel)) (by rw[Qz];rfl) (by decide+kernel)
theorem dU:entryFor table "set_iterator.__next__"=some Builtin.«set_iterator.__next__»:=P5 (by rfl)
theorem oX:entryFor table "set.__iter__"=some Builtin.«frozenset.__iter__»:=OE (id':="frozenset.__iter__") (by rfl) (by decide+kernel) (by decide+kernel) (by rfl)
theorem fR:PN (O0 "set_iterator".toList) Manifest.owners=some Mb:=by rfl
theorem d9(a:Value):argsOk "set_iterator.__next__" ⟨[a],[]⟩:=by
 have h:O3 "set_iterator.__next__"=PN (O0 (['_','_','t','x','e','n','_','_']:List Char).reverse) Mb:=QV (o:=['r','o','t','a','r','e','t','i','_','t','e','s']) (by decide+kernel) fR;unfold argsOk;rw[h];rfl
theorem Ac(hT:s.TypeIs (.ref r) "set")(h:Q false s):wpAny (model prog w) A (Np (.ref r)) Q E s:=by
 unfold Np;refine ar (Qm hT F.slot_set_len.lookup ?_);dsimp only;rw[show splitId "set.__len__"=some ("set","__len__") by decide+kernel];dsimp only;refine ar (Kw hT Lw.sub (IK rfl ?_));refine KP rfl (ar (J0 hT ?_));exact C0 h
theorem jN:∀(l:List α)(k:Nat)(h:k<l.length),List.Perm (l[k]::l.eraseIdx k) l
 |x::l,0,_=>by simp
 |x::l,k+1,h=>by
  have hk:k<l.length:=by simpa using h
  have ih:=jN l k hk;simp only[List.getElem_cons_succ,Mq];exact(List.Perm.swap ..).trans (List.Perm.cons x ih)
theorem vy(next:Nat->Nat):∀(fuel a:Nat)(l:List α)(acc:Array α),fuel=l.length->List.Perm (Pm next fuel a l acc).toList (acc.toList++l)
 |0,a,l,acc,h=>by
  have:l=[]:=LK h.symm;subst this;rw[pickOrder.go.eq_1,KS]
 |fuel+1,a,l,acc,h=>by
  rw[pickOrder.go.eq_2];have hlt:next a % l.length<l.length:=OQ _ (by omega)
  rw[H0 hlt];refine(vy next fuel (a+1) (l.eraseIdx (next a % l.length)) (acc.push l[next a % l.length]) (by rw[NB hlt];omega)).trans ?_;rw[Ln,Ja];refine JM _ ?_;rw[List.singleton_append];exact jN l _ hlt
theorem yc(next:Nat->Nat)(xs:Array α):List.Perm (pickOrder next xs).toList xs.toList:=by
 unfold pickOrder;have:=vy next xs.size 0 xs.toList #[] (by simp)
 simpa using this
section
variable{prog:Program}{w:World}{A:Around}{E:Value->Shared->Prop}{s:Shared}
noncomputable abbrev eg(w:World):Bool:=w.params.followText "set-order"
noncomputable def orderOf(w:World)(S:Addr)(ep:Nat)(es:Array (Int×Value)):Array (Int×Value):=if eg w=true then pickOrder (w.params.setOrder S ep) es else es
theorem nY(w:World)(S:Addr)(ep:Nat)(es:Array (Int×Value)):List.Perm (orderOf w S ep es).toList es.toList:=by
 unfold orderOf;split
 ·exact yc _ _
 ·exact List.Perm.refl _
noncomputable def slotAt(w:World)(pl:List Nat):Nat->Nat
 |0=>0
 |i+1=>if eg w=true then 0 else pl.getD i 0+1
structure hV(w:World)(o:Obj)(es:Array (Int×Value))(ep:Nat)(t:SetTable)(pl:List Nat):Prop where
 dat:o.data=.set es ep t
 cls:o.cls=.type "set"
 dum:t.dummies=#[]
 plain:t.plain=true
 led:t.led=!eg w
 place:t.place=pl.toArray
 ri:ZS.Ri pl
 lpl:pl.length=es.size
 room:es.size<=t.mask
 few:es.size<=300
noncomputable def jt(w:World)(S:Addr)(es:Array (Int×Value))(ep:Nat)(pl:List Nat)(i:Nat):Obj:={ cls:=.type "set_iterator",data:=.fields #[rawInt (slotAt w pl i:Nat),rawInt (i:Nat),.ref S,rawInt (es.size:Nat),rawInt (ep:Nat)] }
theorem hV.fits(H:hV w o es ep t pl):t.fits es.size=true:=
 fits_of H.dum (by rw[H.place];simpa using H.lpl) H.room
theorem wd(h:ZS.Ri pl)(hi:i<=pl.length)(hw:eg w=false):Kz pl.toArray (slotAt w pl i)=i:=by
 cases i with
 |zero=>exact ZS.wc
 |succ i=>
  show Kz pl.toArray (if eg w=true then 0 else pl.getD i 0+1)=i+1;rw[hw,IF (by simp),Iz,H0 (show i<pl.length by omega)];exact(ZS.qr h (by omega)).1
theorem sT(H:hV w o es ep t pl)(hS:s.heap.get? S=some o)(hi:i<=es.size)
  (h:Q (((orderOf w S ep es)[i]?).map λe=>(e.2,slotAt w pl (i+1))) s):wpAny (model prog w) A (setNext S (slotAt w pl i) i ep) Q E s:=by
 unfold setNext;refine ar (J_ hS H.dat H.fits ?_);dsimp only;unfold setsByText;refine ar (ar (L3 (C0 ?_)));show wpAny _ _ (if eg w=true then _ else _) _ _ _;by_cases hb:eg w=true
 ·rw[Iw hb];refine IK (by simp) ?_;refine ar ?_;unfold setWalk;refine ar (J_ hS H.dat H.fits ?_);dsimp only;unfold setsByText;refine ar (ar (L3 (C0 ?_)));show wpAny _ _ (if eg w=true then _ else _) _ _ _;rw[Iw hb];refine ar (L3 (C0 (C0 ?_)));have e1:orderOf w S ep es=pickOrder (w.params.setOrder S ep) es:=by unfold orderOf;rw[Iw hb]
  rw[e1]at h;have e2:slotAt w pl (i+1)=slotAt w pl i:=by
   cases i with
   |zero=>simp[slotAt,hb]
   |succ j=>simp[slotAt,hb]
  rw[e2]at h;exact h
 ·rw[IF hb];have hbf:eg w=false:=by simpa using hb
  refine IK (by
   show decide ((!t.plain&&decide (es.size>1))=true)=false;rw[H.plain];rfl) ?_
  refine ar ?_;refine IK (by
   rw[H.led,hbf];rfl) (C0 (C0 ?_))
  have e1:orderOf w S ep es=es:=by unfold orderOf;rw[IF hb]
  rw[e1]at h;have lpl:=H.lpl;rw[H.place,wd H.ri (by omega) hbf];by_cases hlt:i<es.size
  ·have a1:es[i]?=some es[i]:=by simp[hlt]
   have a2:pl.toArray[i]?=some (pl.getD i 0):=by
    rw[Ks,Iz,H0 (show i<pl.length by omega)];rfl
   rw[a1]at h;rw[a1,a2];have e3:slotAt w pl (i+1)=pl.getD i 0+1:=by simp[slotAt,hb]
   rw[e3]at h;exact h
  ·have a1:es[i]?=none:=by simp;omega
   rw[a1]at h;rw[a1];exact h
theorem hV.typeIs(H:hV w o es ep t pl)(hS:s.heap.get? S=some o):s.TypeIs (.ref S) "set":=⟨o,hS,H.cls⟩
theorem vG(H:hV w o es ep t pl)(hS:s.heap.get? S=some o)
  (h:Q (.ref s.heap.objs.size) { s with heap:=s.heap.push (jt w S es ep pl 0) }):wpAny (model prog w) A (pyIter (.ref S)) Q E s:=by
 refine PD (H.typeIs hS) Qn (JB Qn (H.typeIs hS) oX ?_ (F.args_set_iter_1 _));unfold Builtin.«frozenset.__iter__»;refine ar ?_;unfold RU slotArgs;refine ar (IK rfl (IK rfl (C0 ?_)));refine C0 ?_;refine ar ?_;unfold RK setEntries;refine ar (ar (J_ hS H.dat H.fits (C0 (C0 ?_))));refine ar ?_;unfold setDrawn;refine ar (J_ hS H.dat H.fits ?_);dsimp only;unfold setsByText;refine ar (ar (L3 (C0 (C0 ?_))));refine IK (by
  show decide ((!eg w&&(!t.plain&&decide (es.size>1)))=true)=false;rw[H.plain];simp) ?_
 refine ar (C0 ?_);refine ar ?_;unfold setEpoch;refine ar (J_ hS H.dat H.fits (C0 ?_));refine ar ?_;unfold newFields;exact Jr (C0 ⟨_,rfl,"set_iterator",_,⟨_,IG _ rfl,rfl⟩,bA.lookup,h⟩) (by first |size_fits |(intro _;decide) |decide)
end
section
variable{prog:Program}{w:World}{A:Around}{E:Value->Shared->Prop}{s:Shared}
theorem yL{S I:Addr}{o:Obj}{es:Array (Int×Value)}{ep:Nat}{t:SetTable}{pl:List Nat}{i:Nat}{x:Int×Value}{Q:Value->Shared->Prop}(H:hV w o es ep t pl)(hI:s.heap.get? I=some (jt w S es ep pl i))(hS:s.heap.get? S=some o)(hx:(orderOf w S ep es)[i]?=some x)(hi:i<=es.size)
  (hQ:∀h',h'.get? I=some (jt w S es ep pl (i+1))->Jg I s.heap h'->Q x.2 { s with heap:=h' }) :
  wpAny (model prog w) A (Builtin.«set_iterator.__next__» ⟨[.ref I],[]⟩) (λfin s'=>∃v,fin=.done (.ret v)/\Q v s') E s:=by
 unfold Builtin.«set_iterator.__next__»;refine ar ?_;unfold slotArgs;refine IK rfl (IK rfl (C0 ?_));dsimp only;refine ar (QA hI rfl ?_);refine(show wpAny _ _ (setEntries S>>=_) _ _ _ from ar ?_);unfold setEntries;refine ar (J_ hS H.dat H.fits (C0 ?_));refine IK (by simp) ?_;refine(show wpAny _ _ (setNext S ((slotAt w pl i:Nat):Int).toNat ((i:Nat):Int).toNat ((ep:Nat):Int).toNat>>=_) _ _ _ from ar ?_);rw[Jh,Jh,Jh];refine sT H hS hi ?_;rw[hx];dsimp only[Qo];refine ar (J2 hI (by simp) λh1 g1 e1=>?_);refine ar (J2 g1 (by simp) λh2 g2 e2=>?_);refine C0 ⟨_,rfl,hQ h2 ?_ (e1.trans e2)⟩;rw[g2];rfl
theorem Ar(hh:A.handled=none)(H:hV w o es ep t pl)(hI:s.heap.get? I=some (jt w S es ep pl i))(hS:s.heap.get? S=some o)(hx:(orderOf w S ep es)[i]?=none)(hi:i<=es.size)
  (hE:∀h' e,LG I s.heap h'->(∃o,h'.get? e=some o/\o.cls=.type "StopIteration")->E (.ref e) { s with heap:=h' }) :
  wpAny (model prog w) A (Builtin.«set_iterator.__next__» ⟨[.ref I],[]⟩) Q E s:=by
 unfold Builtin.«set_iterator.__next__»;refine ar ?_;unfold slotArgs;refine IK rfl (IK rfl (C0 ?_));dsimp only;refine ar (QA hI rfl ?_);refine(show wpAny _ _ (setEntries S>>=_) _ _ _ from ar ?_);unfold setEntries;refine ar (J_ hS H.dat H.fits (C0 ?_));refine IK (by simp) ?_;refine(show wpAny _ _ (setNext S ((slotAt w pl i:Nat):Int).toNat ((i:Nat):Int).toNat ((ep:Nat):Int).toNat>>=_) _ _ _ from ar ?_);rw[Jh,Jh,Jh];refine sT H hS hi ?_;rw[hx];dsimp only[Qo];refine ar (OA hI rfl (by simp) ?_);refine(show wpAny _ _ (newExc (.type "StopIteration") []>>=_) _ _ _ from ar ?_);simp only[newExc,newTuple];refine ar (Jr (ar (m:=firstArgMember _ _) (LH (a:=Value.none) (by first |rfl |(simp only[firstArgMember];rfl)) (Jr ?_ (by size_fits)))) (by size_fits));simp only[raiseNew];refine ar (QQ ?_)
 first |rw[show A.in1.handled=none from hh] |rw[hh]
 exact ar (C0 (wpAny_throw (hE _ _ (((Ly ..).extBut.push _).push _) ⟨_,IG _ rfl,rfl⟩)))
theorem dW:Slot "set_iterator" (Jo "__iter__") "set_iterator.__iter__":=Slot.of (owner:="set_iterator") (n:="__iter__") (by rw[MZ,LU];rfl) (by decide+kernel) (by decide+kernel) (by decide+kernel) (Or.inl (by decide+kernel)) (by rw[Qz];rfl) (by decide+kernel)
theorem iy:entryFor table "set_iterator.__iter__"=some Builtin.«dict_keyiterator.__iter__»:=OE (id':="dict_keyiterator.__iter__") (by rfl) (by decide+kernel) (by decide+kernel) (by rfl)
theorem iU(a:Value):argsOk "set_iterator.__iter__" ⟨[a],[]⟩:=by
 have h:O3 "set_iterator.__iter__"=PN (O0 (['_','_','r','e','t','i','_','_']:List Char).reverse) Mb:=QV (o:=['r','o','t','a','r','e','t','i','_','t','e','s']) (by decide+kernel) fR;unfold argsOk;rw[h];rfl
theorem jQ(w:World)(S:Addr)(ep:Nat)(es:Array (Int×Value)):(orderOf w S ep es).size=es.size:=by
 have:=(nY w S ep es).length_eq;simpa using this
theorem zG(hh:A.handled=none)(hne:S≠I)(H:hV w o es ep t pl) :
  Walks prog w A I [I,S] [I] es.size (λi v=>∃x,(orderOf w S ep es)[i]?=some x/\v=x.2) (λi h=>h.get? I=some (jt w S es ep pl i)/\h.get? S=some o)where
 sub:=λb hb=>by rw[IQ.mp hb];simp
 frame:=λi h h' st hk=>⟨hk I (by simp) _ st.1,hk S (by simp) _ st.2⟩
 item:=λi s Q E hi st hQ=>by
  have hx:(orderOf w S ep es)[i]?=some ((orderOf w S ep es)[i]'(by rw[jQ];exact hi)):=by rw[Array.getElem?_eq_getElem]
  have hT:s.TypeIs (.ref I) "set_iterator":=⟨_,st.1,rfl⟩;unfold pyNext;refine ar (LB (Jz (name:=Jo "__next__") hT bA (JB bA hT dU ?_ (d9 _))));refine yL H st.1 st.2 hx (by omega) λh' g1 e1=>C0 ?_;exact hQ _ h' s.toks ⟨_,hx,rfl⟩ ⟨g1,e1.extBut _ _ hne st.2⟩ λb o hb q=>e1.extBut b o (λz=>hb (by simp[z])) q
 done:=λs Q E st hQ=>by
  have hx:(orderOf w S ep es)[es.size]?=none:=by rw[Array.getElem?_eq_none_iff,jQ];exact IB _
  have hT:s.TypeIs (.ref I) "set_iterator":=⟨_,st.1,rfl⟩;unfold pyNext;refine ar (LB (Jz (name:=Jo "__next__") hT bA (JB bA hT dU ?_ (d9 _))));refine Ar hh H st.1 st.2 hx (IB _) λh' e ext he=>?_;obtain⟨o',ho',hc'⟩:=he;exact ar (Kw (T:="StopIteration") (b:=true) ⟨o',ho',hc'⟩ OB (C0 (hQ _ s.toks λb o hb q=>ext b o (λz=>hb (by simp[z])) q)))
 self:=λi s Q E st h=>by
  have hT:s.TypeIs (.ref I) "set_iterator":=⟨_,st.1,rfl⟩;exact PD hT dW (JB dW hT iy (C0 ⟨_,rfl,"set_iterator",_,hT,bA.lookup,h⟩) (iU _))
theorem Cd(H:hV w o es ep t pl) :
  PySem.W.KdlSrc prog w "set" S S es.size (λi v=>∃x,(orderOf w S ep es)[i]?=some x/\v=x.2) (λh=>h.get? S=some o)where
 type:=λs hs=>H.typeIs hs
 there:=λh hs=>⟨ID hs,ID hs⟩
 keep:=λh h' hs hk=>hk S (.inl rfl) o hs
 notList:=by decide
 notTuple:=by decide
 hint:=λA E s Q hs h=>Ac (H.typeIs hs) h
 iter:=λA s hh hs=>⟨jt w S es ep pl 0,λi h=>h.get? s.heap.objs.size=some (jt w S es ep pl i)/\h.get? S=some o,λE Q hq=>vG H hs hq,
  zG hh (IZ (ID hs)) H,IG _ rfl,gV _ hs⟩
end
noncomputable def v5:Value->Int
 | .int k _=>k
 |_=>0
theorem intsAre_map:∀{vs:List Value}{ns:List Int},IntsAre vs ns->(∀v∈vs,∃k t,v=Value.int k t)/\ns=vs.map v5
 |_,_,.nil=>⟨by simp,rfl⟩
 |_,_,.cons n t r=>by
  obtain⟨h1,h2⟩:=intsAre_map r;refine⟨λv hv=>?_,by rw[IM,<-h2];rfl⟩;rcases IL.mp hv with z |z
  ·exact⟨n,t,z⟩
  ·exact h1 v z
theorem nh:∀(vs:List Value),(∀v∈vs,∃k t,v=Value.int k t)->IntsAre vs (vs.map v5)
 | [],_=>.nil
 |v::vs,h=>by
  obtain⟨k,t,rfl⟩:=h v (by simp);exact .cons k t (nh vs λu hu=>h u (by simp[hu]))
theorem tD(hp:List.Perm vs us)(r:IntsAre us ns):∃ms,IntsAre vs ms/\List.Perm ms ns:=by
 obtain⟨h1,h2⟩:=intsAre_map r;refine⟨vs.map v5,nh vs λv hv=>h1 v (hp.mem_iff.mp hv),?_⟩;rw[h2];exact hp.map v5
def lA(N:Nat):Prop:=∀{prog:Program}{w:World}{A:Around}{E:Value->Shared->Prop}{s:Shared}{a:Addr}{vs:List Value}{ns:List Int}{n:Nat}{P:PySem.Fin->Shared->Prop},s.heap.get? a=some (seqObj "list" vs.toArray n)->IntsAre vs ns->vs.length<N->(∀(out:Array Value)(ns':List Int),IntsAre out.toList ns'->ns'.Perm ns->ns'.Pairwise (·<=·)->P (.done (.ret .none)) { s with heap:=sortedHeap s.heap a vs out })->wpAny (model prog w) A (Builtin.«list.sort» ⟨[.ref a],[]⟩) P E s
section
variable{prog:Program}{w:World}{A:Around}{E:Value->Shared->Prop}{s:Shared}
theorem vE(T:lA N)(hN:N<=301)(hh:A.handled=none)(hS:i7 w s.heap S ks)(h64:ks.length<N)
  (h:∀(h':Heap)(tk:Nat)(out:Array Value)(ms:List Int)(l:Addr)(c:Nat),(∀b o,s.heap.get? b=some o->h'.get? b=some o)->S<l->h'.get? l=some (seqObj "list" out c)->IntsAre out.toList ms->ms.Pairwise (· <·)->(∀x,x∈ms↔x∈ks)->ms.length<=300->Q (.ref l) { s with heap:=h',toks:=tk }) :
  wpAny (model prog w) A (call (.builtin "sorted") [.ref S]) Q E s:=by
 obtain⟨o,es,ep,t,pl,g1,g2,g3,g4,g5,g6,g7,g8,g9,g10,g11,g12,g13⟩:=hS;obtain⟨g9,lpl,g14⟩:=g9;have lks:es.size=ks.length:=by
  have:=cT g10;rw[IA,IC]at this;exact this
 have H:hV w o es ep t pl:=⟨g3,g2.1,g5,g6,g7,g8,g9,by omega,by omega,by omega⟩;refine Mc PQ Pn Po (Pp _) ?_;unfold QB;refine ar ?_;unfold checkCount;refine IK rfl (IK rfl (IK rfl (C0 ?_)));refine ar (O4 (Cd H) hh g1 (JS H.few (Ka (dF (by decide)))) λh1 tk acc hk hacc=>?_);have hacc1:acc.toList=(orderOf w S ep es).toList.map N1:=by
  refine Mx λi=>?_;by_cases hi:i<acc.size
  ·have e1:acc.toList[i]?=some acc[i]:=by simp[hi]
   obtain⟨x,hx,hv⟩:=hacc.2 i acc[i] (by simp[hi]);rw[e1,IU];rw[show(orderOf w S ep es).toList[i]?=some x by simpa using hx];rw[hv];rfl
  ·rw[Jq (by simp;omega),Jq];rw[IA,IC,jQ];have:=hacc.1;omega
 obtain⟨ns0,i1,i2⟩:=tD (vs:=acc.toList) (by rw[hacc1];exact(nY w S ep es).map N1) g10;have l0:acc.toList.length=ks.length:=by rw[cT i1];exact i2.length_eq
 refine ar (MJ ?_ (by rw[l0];exact Ka (dF (by omega))));refine ar (Jl ?_);have hat:(h1.push (seqObj "list" acc.toList.toArray 0)).get? h1.objs.size=some (seqObj "list" acc.toList.toArray 0):=IG _ rfl;refine JB OF ⟨_,hat,rfl⟩ Oi ?_ (OG _);refine T hat i1 (by omega) λout ms r1 r2 r3=>⟨_,rfl,C0 ⟨_,rfl,?_⟩⟩;obtain⟨c,hc⟩:=QW (out:=out) hat;have hnd:ms.Nodup:=r2.nodup_iff.mpr (i2.nodup_iff.mpr g12);refine h _ tk out ms h1.objs.size c ?_ ?_ hc r1 ?_ ?_ ?_
 ·intro b o' e;have e1:=hk b o' e;have hb:b<h1.objs.size:=ID e1;rw[QC (IZ hb) (by rw[JY];exact Lm hb)];exact gV _ e1
 ·exact ID (hk S o g1)
 ·exact(SI r3 hnd).imp λz=>by have:=z.1;have:=z.2;omega
 ·intro x;rw[r2.mem_iff,i2.mem_iff]
 ·have:=r2.length_eq;have:=i2.length_eq;omega
end
end L2
namespace L2
open PySem PySem.Spec PyProof.Rows ZS
noncomputable def hT(ks:List Int):Int:=reduceHash (Rc (ks.map hashInt))
section
variable{κ:Type}[DecidableEq κ]
noncomputable def f7(kvs:List (κ×V))(k:κ):Option V:=(kvs.find? λkv=>decide (kv.1=k)).map (·.2)
noncomputable def putK(kvs:List (κ×V))(k:κ)(v:V):List (κ×V):=
 if(kvs.any λkv=>decide (kv.1=k))=true then kvs.map (λkv=>if kv.1=k then(kv.1,v)else kv)else kvs++[(k,v)]
theorem jJ{p:κ×V}{r:List (κ×V)}{k:κ}(e:p.1=k):f7 (p::r) k=some p.2:=by simp[f7,Kp,e]
theorem ij{p:κ×V}{r:List (κ×V)}{k:κ}(e:¬p.1=k):f7 (p::r) k=f7 r k:=by simp[f7,Kp,e]
theorem rE(k:κ):∀kvs:List (κ×V),(kvs.any λkv=>decide (kv.1=k))=(f7 kvs k).isSome
 | []=>rfl
 |p::r=>by
  rw[K1];by_cases e:p.1=k
  ·simp only[jJ e,IV e,Bool.true_or,Option.isSome_some]
  ·rw[ij e,IW e,Bool.false_or];exact rE k r
theorem i6(kvs:List (κ×V))(k:κ)(v:V):(putK kvs k v).length<=kvs.length+1:=by
 unfold putK;split
 ·rw[IA];omega
 ·rw[IH,Js,KI];omega
theorem fC.yu{o:Option V}{u:Option Value}(r:fC o u):o.isSome=u.isSome:=by
 cases o with
 |none=>cases u with
  |none=>rfl
  |some _=>exact(show False from r).elim
 |some _=>cases u with
  |none=>exact(show False from r).elim
  |some _=>rfl
theorem fC.getD{o:Option V}{u:Option Value}{d:V}{d':Value}(r:fC o u)(rd:RelV d d'):RelV (o.getD d) (u.getD d'):=by
 cases o with
 |none=>cases u with
  |none=>exact rd
  |some _=>exact(show False from r).elim
 |some _=>cases u with
  |none=>exact(show False from r).elim
  |some _=>exact r
theorem KV.val{kvs:List (κ×V)}{vs:List (κ×Value)}(r:KV kvs vs)(k:κ):fC (f7 kvs k) (valueAt vs k):=by
 unfold KV at r
 induction r with
 |nil=>exact True.intro
 | @cons p q ps qs h t ih=>
  obtain⟨h1,h2⟩:=h;by_cases e:p.1=k
  ·have e':q.1=k:=h1.symm.trans e;have b:valueAt (q::qs) k=some q.2:=by simp[valueAt,Kp,e']
   rw[jJ e,b];exact h2
  ·have e':¬q.1=k:=λz=>e (h1.trans z);have b:valueAt (q::qs) k=valueAt qs k:=by simp[valueAt,Kp,e']
   rw[ij e,b];exact ih
theorem KV.any{kvs:List (κ×V)}{vs:List (κ×Value)}(r:KV kvs vs)(k:κ):(kvs.any λkv=>decide (kv.1=k))=vs.any λkv=>decide (kv.1=k):=by
 unfold KV at r
 induction r with
 |nil=>rfl
 |cons h t ih=>rw[K1,K1,ih,h.1]
theorem KV.Aj{kvs:List (κ×V)}{vs:List (κ×Value)}(r:KV kvs vs)(k:κ){y:V}{u:Value}(ry:RelV y u) :
  KV (kvs.map λkv=>if kv.1=k then(kv.1,y)else kv) (vs.map λkv=>if kv.1=k then(kv.1,u)else kv):=by
 unfold KV at r ⊢
 induction r with
 |nil=>exact .nil
 | @cons p q ps qs h t ih=>
  rw[IM,IM];refine .cons ?_ ih;obtain⟨h1,h2⟩:=h;by_cases e:p.1=k
  ·rw[Iw e,Iw (h1.symm.trans e)];exact⟨h1,ry⟩
  ·rw[IF e,IF (λz=>e (h1.trans z))];exact⟨h1,h2⟩
theorem KV.put{kvs:List (κ×V)}{vs:List (κ×Value)}(r:KV kvs vs)(k:κ){y:V}{u:Value}(ry:RelV y u):KV (putK kvs k y) (stored vs k u):=by
 unfold putK stored;rw[r.any k];by_cases e:(vs.any λkv=>decide (kv.1=k))=true
 ·rw[Iw e,Iw e];exact r.Aj k ry
 ·rw[IF e,IF e];exact RY r ⟨rfl,ry⟩
theorem KV.length{kvs:List (κ×V)}{vs:List (κ×Value)}(r:KV kvs vs):kvs.length=vs.length:=Nt r
end
theorem lQ{P:Program}{w:World}{k:Key}{u:Value}(r:RelV (kV k) u):(aV P w).is k u=true:=by
 cases k with
 |inl i=>obtain⟨t,e⟩:=(show∃t,u=Value.int i t from r);subst e;exact uh P w i t
 |inr x=>obtain⟨t,e⟩:=(show∃t,u=Value.str x t from r);subst e;exact uE P w x t
theorem qz{P:Program}{w:World}:∀{ks:List Key}{us:List Value},Vals (ks.map kV) us->ItemsAre (aV P w) ks us
 | [],_,r=>by rw[Mf]at r;cases r;exact .nil
 |k::ks,_,r=>by
  rw[IM]at r;cases r with
  |cons h t=>exact .cons (lQ h) (qz t)
abbrev KT(H:Hp):List (List Key×V)->List (List Key×Addr×Value)->Prop:=Paired λp q=>p.1=q.1/\H q.2.1=some (.tup (p.1.map kV))/\RelV p.2 q.2.2
theorem KT.val{H:Hp}{kvs:List (List Key×V)}{xs:List (List Key×Addr×Value)}(r:KT H kvs xs)(k:List Key):fC (f7 kvs k) ((atKey xs k).map (·.2)):=by
 induction r with
 |nil=>exact True.intro
 | @cons p q ps qs h t ih=>
  obtain⟨h1,_,h2⟩:=h;by_cases e:p.1=k
  ·have e':q.1=k:=h1.symm.trans e;have b:atKey (q::qs) k=some q.2:=by simp[atKey,Kp,e']
   rw[jJ e,b];exact h2
  ·have e':¬q.1=k:=λz=>e (h1.trans z);have b:atKey (q::qs) k=atKey qs k:=by simp[atKey,Kp,e']
   rw[ij e,b];exact ih
theorem KT.Aj{H:Hp}{kvs:List (List Key×V)}{xs:List (List Key×Addr×Value)}(r:KT H kvs xs)(k:List Key){y:V}{u:Value}(ry:RelV y u) :
  KT H (kvs.map λkv=>if kv.1=k then(kv.1,y)else kv) (xs.map (putAt k u)):=by
 induction r with
 |nil=>exact .nil
 | @cons p q ps qs h t ih=>
  rw[IM,IM];refine .cons ?_ ih;obtain⟨h1,h2,h3⟩:=h;unfold putAt;by_cases e:p.1=k
  ·rw[Iw e,Iw (h1.symm.trans e)];exact⟨h1,h2,ry⟩
  ·rw[IF e,IF (λz=>e (h1.trans z))];exact⟨h1,h2,h3⟩
theorem KT.put{H:Hp}{kvs:List (List Key×V)}{xs:List (List Key×Addr×Value)}(r:KT H kvs xs)(k:List Key){b:Addr}{y:V}{u:Value}(hb:H b=some (.tup (k.map kV)))(ry:RelV y u) :
  KT H (putK kvs k y) (storedH xs k b u):=by
 have e:(kvs.any λkv=>decide (kv.1=k))=(atKey xs k).isSome:=by
  rw[rE,(r.val k).yu,Option.isSome_map]
 unfold putK storedH;rw[e];by_cases q:(atKey xs k).isSome=true
 ·rw[Iw q,Iw q];exact r.Aj k ry
 ·rw[IF q,IF q];exact RY r ⟨rfl,hb,ry⟩
theorem KT.keeps{H H':Hp}{kvs:List (List Key×V)}{xs:List (List Key×Addr×Value)}(r:KT H kvs xs)(ht:∀b ys,H b=some (.tup ys)->H' b=some (.tup ys)):KT H' kvs xs:=
 Paired.Bs r λ_ _ z=>⟨z.1,ht _ _ z.2.1,z.2.2⟩
section
variable{P:Program}{w:World}{H:Hp}{h:Heap}{a:Addr}
theorem BM{u:HO}(ok:HOk P w H h)(e:Rd H a u):bz P w H h a u:=e.ok ok
theorem n4{kvs:List (Key×V)}(ok:HOk P w H h)(e:Rd H a (.dK kvs)):kvs.length<=sizeLine/\(a==sysModules)=false/\∃vs,KV kvs vs/\h.DictOf (aV P w) a vs:=
 show bz P w H h a (.dK kvs)from BM ok e
theorem BK{kvs:List (Key×V)}(ok:HOk P w H h)(e:H a=some (.dK kvs)):kvs.length<=sizeLine/\(a==sysModules)=false/\∃vs,KV kvs vs/\h.DictOf (aV P w) a vs:=n4 ok (.inl e)
theorem oy{ks:List Key}(ok:HOk P w H h)(e:H a=some (.tup (ks.map kV))):(tupleKind (aV P w)).is h ks a:=by
 obtain⟨_,its,r,o,h1,h2,n,h3⟩:=(show bz P w H h a (.tup (ks.map kV))from ok a _ e);exact⟨o,its.toArray,n,h1,h2,h3,by simpa using qz r⟩
theorem nA{kvs:List (List Key×V)}(ok:HOk P w H h)(e:Rd H a (.dT kvs)):kvs.length<=sizeLine/\(a==sysModules)=false /\
  ∃xs,KT H kvs xs/\h.DictOfH (tupleKind (aV P w)) a xs:=by
 obtain⟨z,y,xs,r,o,es,ep,h1,h2,h3,h4,h5⟩:=(show bz P w H h a (.dT kvs)from BM ok e);refine⟨z,y,xs,r,o,es,ep,h1,h2,h3,h4,λx hx=>?_,h5⟩;have all:∀{l:List (List Key×V)}{m:List (List Key×Addr×Value)},KT H l m->∀x∈m,(tupleKind (aV P w)).is h x.1 x.2.1:=by
  intro l m q
  induction q with
  |nil=>intro x hx;exact nomatch hx
  | @cons p q ps qs hq t ih=>
   intro x hx;rcases IL.mp hx with e |hx
   ·subst e;exact oy ok (by rw[<-hq.1];exact hq.2.1)
   ·exact ih x hx
 exact all r x hx
theorem GN{kvs:List (List Key×V)}(ok:HOk P w H h)(e:H a=some (.dT kvs)):kvs.length<=sizeLine/\(a==sysModules)=false /\
  ∃xs,KT H kvs xs/\h.DictOfH (tupleKind (aV P w)) a xs:=nA ok (.inl e)
end
def pB(H:Hp)(a:Addr)(y:V)(r:Option V):Prop:=
 (∃kvs k,Rd H a (.dK kvs)/\y=kV k/\r=f7 kvs k)\/∃kvs k b,Rd H a (.dT kvs)/\y=.ref b/\H b=some (.tup (k.map kV))/\r=f7 kvs k
def tL(H:Hp)(a:Addr)(y v:V)(H':Hp):Prop:=
 (∃kvs k,H a=some (.dK kvs)/\y=kV k/\kvs.length<sizeLine/\H'=upd H a (.dK (putK kvs k v))) \/
 ∃kvs k b,H a=some (.dT kvs)/\y=.ref b/\H b=some (.tup (k.map kV))/\kvs.length<sizeLine/\H'=upd H a (.dT (putK kvs k v))
theorem tL.k{H:Hp}{a:Addr}{kvs:List (Key×V)}{k:Key}{v:V}(e:H a=some (.dK kvs))(hl:kvs.length<sizeLine):tL H a (kV k) v (upd H a (.dK (putK kvs k v))):=.inl ⟨kvs,k,e,rfl,hl,rfl⟩
section
variable{X:Cx}{pins:List (Addr×Obj)}{σ:St}{H:Hp}{s:Shared}{a:Addr}{y v:V}{u r:Value}{o:Option V}{A:Around}{E:Value->Shared->Prop}
theorem Inv.big(I:Inv X pins σ H s):sysModules<s.heap.objs.size:=by
 have h:mainGlobals<s.heap.objs.size:=(I.mod.glob.keeps I.bk).lt;exact Nat.lt_trans (by decide) h
theorem zi{Q:Value->Shared->Prop}(hu:A.units+1<cLine)(I:Inv X pins σ H s)(g:pB H a y (some v))(ry:RelV y u)(h:∀w' s',Inv X pins σ H s'->RelV v w'->Q w' s') :
  wpAny (model X.prog X.w) A (getItem (.ref a) u) Q E s:=by
 rcases g with⟨kvs,k,e,ey,l⟩ |⟨kvs,k,b,e,ey,eb,l⟩
 ·subst ey;obtain⟨z,hd,vs,rel,dd⟩:=n4 I.hok e;obtain⟨w',hw,rw'⟩:=fC.some_of (v:=v) (o:=valueAt vs k) (by rw[l];exact rel.val k);exact wpAny_getItem_of (lQ ry) dd.mapOf hw (h w' _ (I.tok _) rw')
 ·subst ey;cases(show u=Value.ref b from ry);obtain⟨z,hd,xs,rel,dd⟩:=nA I.hok e;obtain⟨w',hw,rw'⟩:=fC.some_of (v:=v) (o:=(atKey xs k).map (·.2)) (by rw[l];exact rel.val k);obtain⟨p,hp,hp2⟩:=K8.mp hw;refine wpAny_getItem_heap (Nq hu) (oy I.hok eb) dd hp ?_;rw[hp2];exact h w' _ (I.tok _) rw'
theorem pI{h':Heap}{t':Nat}{ob:HO}(I:Inv X pins σ H s)(mu:Mut (H a))(hs:Jg a s.heap h')(he:∃q,h'.get? a=some q)(new:bz X.prog X.w (upd H a ob) h' a ob) :
  Inv X pins σ (upd H a ob) { s with heap:=h',toks:=t' }:=
 I.write (x:=a) (e:=a) mu (.inl rfl) (λb q hb z=>(hs.2 b hb).trans z) he new
theorem sk{P:Program}{w:World}{H':Hp}{h':Heap}{kvs:List (Key×V)}{vs:List (Key×Value)}(z:kvs.length<=sizeLine)(hd:(a==sysModules)=false)(rel:KV kvs vs)(dd:h'.DictOf (aV P w) a vs) :
  bz P w H' h' a (.dK kvs):=⟨z,hd,vs,rel,dd⟩
theorem yt{H':Hp}{Q:Unit->Shared->Prop}(hu:A.units+1<cLine)(I:Inv X pins σ H s)(g:tL H a y v H')(ry:RelV y u)(rv:RelV v r)(h:∀s',Inv X pins σ H' s'->Q () s') :
  wpAny (model X.prog X.w) A (setItem (.ref a) u r) Q E s:=by
 rcases g with⟨kvs,k,e,ey,l,eH⟩ |⟨kvs,k,b,e,ey,eb,l,eH⟩
 ·subst ey eH;obtain⟨z,hd,vs,rel,dd⟩:=BK I.hok e;have hz:vs.length<=sizeLine:=by rw[<-rel.length];exact z
  have hl:(putK kvs k v).length<=sizeLine:=by have:=i6 kvs k v;omega
  refine wpAny_setItem_pairs (hsz:=hz) (lQ ry) dd λh' dd' hs=>h _ ?_;have he:∃q,h'.get? a=some q:=let⟨q,_,_,hq,_⟩:=dd';⟨q,hq⟩;exact pI I (by rw[e];exact True.intro) hs he (sk hl hd (rel.put k rv) dd')
 ·subst ey eH;cases(show u=Value.ref b from ry);obtain⟨z,hd,xs,rel,dd⟩:=GN I.hok e;have hz:xs.length<=sizeLine:=by rw[<-Nt rel];exact z
  have hl:(putK kvs k v).length<=sizeLine:=by have:=i6 kvs k v;omega
  refine wpAny_setItem_heap (hsz:=hz) (Nq hu) (oy I.hok eb) dd λh' dd' hs=>h _ ?_;obtain⟨q,es,ep,hq,h2,h3,h4,_,h5⟩:=dd';refine pI I (by rw[e];exact True.intro) hs ⟨q,hq⟩ ⟨hl,hd,_,(rel.put k eb rv).keeps λc ys ec=>?_,q,es,ep,hq,h2,h3,h4,h5⟩;rw[aP (Hk ec e (λz=>nomatch z))];exact ec
end
def Bh(i:Expr):Prop:=∀ov iv,subscripted i false ov iv=operate [ov,iv] (getItem ov iv)
theorem CN{prog:Program}{w:World}{A:Around}{E:Value->Shared->Prop}{s:Shared}{env:Env}{value slice:Expr}{pos:Pos}{T id:String}{Q:Value->Shared->Prop}
    (hl:typeLookup (.type T) "__getitem__"=pure (some (.builtin id))) (hs:Bh slice)
    (h:wpAny (model prog w) A (eval value env) (λo s₁=>wpAny (model prog w) A (eval slice env) (λi s₂=>s₂.TypeIs o T/\wpAny (model prog w) A (getItem o i) Q E s₂) E s₁) E s) :
    wpAny (model prog w) A (eval (.Subscript value slice pos) env) Q E s:=by
  refine OL (JZ h (λo s₁ h₁=>JZ h₁ (λi s₂ h₂=>?_) λ_ _ x=>x) λ_ _ x=>x);obtain⟨hT,h₂⟩:=h₂;unfold subscriptTail;refine ar ?_;rw[getitemInPython_of_ne hT.not_modules];refine ar (Qm hT hl ?_);have fin:wpAny (model prog w) A (subscripted slice false o i) (λr s₃=>wpAny (model prog w) A (letTemporaryGo value o r>>=λ_=>pure r) Q E s₃) E s₂:=by
    rw[hs o i];exact wpAny_operating (JZ h₂ (λr s₃ h₃=>ar (wpAny_letTemporaryGo (C0 h₃))) λ_ _ x=>x)
  first
    |exact C0 (ar fin)
    |exact ar (C0 (ar fin))
    |exact ar fin
theorem uk{X:Cx}{pins:List (Addr×Obj)}{σ:St}{H:Hp}{s:Shared}{a:Addr}{y:V}{o:Option V}(I:Inv X pins σ H s)(g:pB H a y o):s.TypeIs (.ref a) "dict":=by
 rcases g with⟨kvs,k,e,_,_⟩ |⟨kvs,k,b,e,_,_,_⟩
 ·obtain⟨_,_,vs,_,dd⟩:=n4 I.hok e;exact dd.typeIs
 ·obtain⟨_,_,xs,_,dd⟩:=nA I.hok e;exact dd.typeIs
noncomputable def Ge(td ty:TE):TE:=λσ H Q=>td σ H λx H1=>ty σ H1 λy H2=>∃a v,x=.ref a/\pB H2 a y (some v)/\Q v H2
noncomputable def Hi(td ty tv:TE):TS:=λD σ H=>tv σ H λv H1=>td σ H1 λx H2=>ty σ H2 λy H3=>∃a H4,x=.ref a/\tL H3 a y v H4/\D.nx σ H4
section
variable{X:Cx}{o i e value:Expr}{pos pos' tpos:Pos}{td ty tv:TE}
theorem Cu(hu:X.A.units+1<cLine)(ho:PE X o td)(hi:PE X i ty)(hs:Bh i):PE X (.Subscript o i pos) (Ge td ty):=by
 intro pins s σ H Q I h;refine CN PySem.F.slot_dict_getitem.lookup hs (thn (ho pins s σ H _ I h) λu s1 ⟨x,H1,I1,rx,q1⟩=>thn (hi pins s1 σ H1 _ I1 q1) λiv s2 ⟨y,H2,I2,ry,a,v,ex,g,q2⟩=>?_);subst ex;obtain rfl:u=Value.ref a:=rx;exact⟨uk I2 g,zi hu I2 g ry λw' s3 I3 rw'=>⟨v,H2,I3,rw',q2⟩⟩
theorem CM(hu:X.A.units+1<cLine)(ho:PE X o td)(hi:PE X i ty)(hv:PE X value tv)(hs:swapsWith value (some (.Subscript o i pos')) pos.line X.env=pure false) :
  PS X (.Assign [.Subscript o i pos'] value pos) (Hi td ty tv):=by
 intro pins s σ H D I h;refine wpAny_Assign_Subscript (thn (hv pins s σ H _ I h) λr s1 ⟨v,H1,I1,rv,q1⟩=>thn (ho pins s1 σ H1 _ I1 q1) λu s2 ⟨x,H2,I2,rx,q2⟩=>thn (hi pins s2 σ H2 _ I2 q2) λiv s3 ⟨y,H3,I3,ry,a,H4,ex,g,q3⟩=>?_) hs;subst ex;obtain rfl:u=Value.ref a:=rx;exact yt hu I3 g ry rv λs4 I4=>⟨σ,H4,I4,q3⟩
end
theorem sm{P:Program}{w:World}{H:Hp}(h:Heap)(hb:sysModules<h.objs.size):bz P w H (h.push { cls:=.type "dict",data:=.dict #[] }) h.objs.size (.dK []):=
 ⟨KN _,K3.mpr (KJ (IZ hb)),[],.nil,Qp h⟩
noncomputable def FI:TE:=λ_ H Q=>∀p,H p=none->Q (.ref p) (upd H p (.dK []))
section
variable{X:Cx}{pos:Pos}
theorem A9:PE X (.Dict [] [] pos) FI:=λpins s σ H Q I h=>
 wpAny_Dict_empty ⟨.ref s.heap.objs.size,_,I.laid (a:=s.heap.objs.size) (o:=.dK []) (t':=s.toks) (λ_ _ q=>gV _ q) (IB _) (sm s.heap I.big),rfl,h _ (I.hok.fresh (IB _))⟩
end
def nV:List (TE×TE)->St->Hp->(List (V×V)->Hp->Prop)->Prop
 | [],_,H,Q=>Q [] H
 |(tk,tv)::r,σ,H,Q=>tk σ H λx H1=>tv σ H1 λy H2=>nV r σ H2 λps H3=>Q ((x,y)::ps) H3
abbrev VV:List (V×V)->List (Value×Value)->Prop:=Paired λp q=>RelV p.1 q.1/\RelV p.2 q.2
def PPs(X:Cx)(pos:Pos)(keys:List (Option Expr))(values:List Expr)(trs:List (TE×TE)):Prop:=
 ∀(pins:List (Addr×Obj))(s:Shared)(σ:St)(H:Hp)(Q:List (V×V)->Hp->Prop),Inv X pins σ H s->nV trs σ H Q ->
  wpAny (model X.prog X.w) X.A (evalPairs (pairTrees keys values X.env pos)) (λvs s'=>∃ps H',Inv X pins σ H' s'/\VV ps vs/\Q ps H') X.xe s
theorem C8{X:Cx}{pos:Pos}:PPs X pos [] [] []:=λpins s σ H Q I h=>pairTrees_nil_walk ⟨[],H,I,.nil,h⟩
theorem A7{X:Cx}{pos:Pos}{k v:Expr}{ks:List (Option Expr)}{vs:List Expr}{tk tv:TE}{trs:List (TE×TE)}(hk:PE X k tk)(hv:PE X v tv)(hr:PPs X pos ks vs trs) :
  PPs X pos (some k::ks) (v::vs) ((tk,tv)::trs):=λpins s σ H Q I h=>
 pairTrees_cons_walk (thn (hk pins s σ H _ I h) λu s1 ⟨x,H1,I1,rx,q1⟩=>thn (hv pins s1 σ H1 _ I1 q1) λw2 s2 ⟨y,H2,I2,ry,q2⟩=>
  thn (hr pins s2 σ H2 _ I2 q2) λws s3 ⟨ps,H3,I3,rel,q3⟩=>⟨(x,y)::ps,H3,I3,.cons ⟨rx,ry⟩ rel,q3⟩)
noncomputable def cj(kvs more:List (Key×V)):List (Key×V):=more.foldl (λacc kv=>putK acc kv.1 kv.2) kvs
theorem KV.merge:∀{more:List (Key×V)}{rs:List (Key×Value)}{kvs:List (Key×V)}{vs:List (Key×Value)},KV more rs->KV kvs vs->KV (cj kvs more) (merged vs rs):=by
 intro more rs kvs vs r;unfold KV at r
 induction r generalizing kvs vs with
 |nil=>intro q;exact q
 | @cons p q ps qs h t ih=>
  intro r0;have e:KV (putK kvs p.1 p.2) (stored vs q.1 q.2):=by
   have:=r0.put p.1 h.2;rw[<-h.1];exact this
  exact ih e
theorem eB:∀(more kvs:List (Key×V)),(cj kvs more).length<=kvs.length+more.length
 | [],kvs=>by show kvs.length<=kvs.length+0;omega
 |p::r,kvs=>by
  have h1:=eB r (putK kvs p.1 p.2);have h2:=i6 kvs p.1 p.2;show(cj (putK kvs p.1 p.2) r).length<=_;rw[Js];omega
theorem nj{P:Program}{w:World}:∀{kvs:List (Key×V)}{ws:List (Value×Value)},VV (kvs.map λkv=>(kV kv.1,kv.2)) ws->∃rs,Carries (aV P w) ws rs/\KV kvs rs
 | [],_,r=>by rw[Mf]at r;cases r;exact⟨[],True.intro,.nil⟩
 |p::kvs,_,r=>by
  rw[IM]at r;cases r with
  | @cons a b as bs h t=>
   obtain⟨rs,c,q⟩:=nj (P:=P) (w:=w) t;obtain⟨b1,b2⟩:=b;exact⟨(p.1,b2)::rs,⟨lQ h.1,rfl,c⟩,.cons ⟨rfl,h.2⟩ q⟩
noncomputable def G8(trs:List (TE×TE)):TE:=λσ H Q=>∀p,H p=none->nV trs σ (upd H p (.dK [])) λps H2=>H2 p=some (.dK [])/\∃kvs:List (Key×V),ps=kvs.map (λkv=>(kV kv.1,kv.2))/\kvs.length<=15/\Q (.ref p) (upd H2 p (.dK (cj [] kvs)))
theorem Dd{X:Cx}{pos:Pos}{keys:List (Option Expr)}{values:List Expr}{trs:List (TE×TE)}(h:PPs X pos keys values trs)(hall:keys.all (·.isSome)=true)(hl:keys.length=values.length)(h0:keys≠[])
  (h15:keys.length<=15):PE X (.Dict keys values pos) (G8 trs):=by
 intro pins s σ H Q I q;have hn:=I.hok.fresh (IB s.heap.objs.size);have I1:=I.laid (a:=s.heap.objs.size) (o:=.dK []) (h':=s.heap.push { cls:=.type "dict",data:=.dict #[] }) (t':=s.toks) (λ_ _ q=>gV _ q) (IB _) (sm s.heap I.big);refine wpAny_Dict_walk (knd:=aV X.prog X.w) hall hl h0 h15 (thn (h pins _ σ _ _ I1 (q _ hn)) λws s2 ⟨ps,H2,I2,rel,e,kvs,ep,lk,q2⟩=>?_);subst ep;obtain⟨rs,c,rk⟩:=nj (P:=X.prog) (w:=X.w) rel;obtain⟨z,hd,vs0,r0,dd⟩:=BK I2.hok e;cases r0;refine⟨rs,c,dd,λh' dd' hs=>⟨.ref s.heap.objs.size,_,?_,rfl,q2⟩⟩;have hz:(cj [] kvs).length<=sizeLine:=by
  have h1:=eB kvs [];rw[KI]at h1;rw[Kd];omega
 have he:∃q,h'.get? s.heap.objs.size=some q:=let⟨q,_,_,hq,_⟩:=dd';⟨q,hq⟩;exact pI I2 (by rw[e];exact True.intro) hs he (sk hz hd (rk.merge .nil) dd')
structure M2(X:Cx)(o:Expr)(m:Str)(apos:Pos)(e f:Expr)(cpos:Pos):Prop where
 base:attributeBase o m X.env (eval o X.env)=eval o X.env
 few:((backTo cpos (starEach [e,f] X.env)).all (λx=>!x.1)&&(backToKw cpos (keywordEach [] X.env)).all (λx=>x.1.isSome)
  && decide (([e,f]:List Expr).length+([]:List Keyword).length+(if([]:List Keyword).isEmpty then 0 else 1)<30))=true
 line:(apos.endLine==cpos.line)=true
 trees:backTo cpos (starEach [e,f] X.env)=[(false,eval e X.env),(false,eval f X.env)]
def IsD(H:Hp)(a:Addr):Prop:=(∃kvs,Rd H a (.dK kvs))\/∃kvs,Rd H a (.dT kvs)
theorem EF{X:Cx}{pins:List (Addr×Obj)}{σ:St}{H:Hp}{s:Shared}{a:Addr}(I:Inv X pins σ H s)(d:IsD H a) :
  s.TypeIs (.ref a) "dict"/\(∀b,Value.ref a=.ref b->∃ob,s.heap.get? b=some ob/\ob.dict=none)/\(a==sysModules)=false:=by
 rcases d with⟨kvs,e⟩ |⟨kvs,e⟩
 ·obtain⟨_,hd,vs,_,dd⟩:=n4 I.hok e;refine⟨dd.typeIs,λb q=>?_,hd⟩;cases q;obtain⟨ob,_,_,h1,h2,_⟩:=dd;exact⟨ob,h1,h2.2.1⟩
 ·obtain⟨_,hd,xs,_,dd⟩:=nA I.hok e;refine⟨dd.typeIs,λb q=>?_,hd⟩;cases q;obtain⟨ob,_,_,h1,h2,_⟩:=dd;exact⟨ob,h1,h2.2.1⟩
section
variable{X:Cx}{pins:List (Addr×Obj)}{σ:St}{H:Hp}{s:Shared}{a:Addr}{y d:V}{u r:Value}{o:Option V}{A:Around}{E:Value->Shared->Prop}
theorem DZ{Q:Value->Shared->Prop}(hu:A.units+1<cLine)(I:Inv X pins σ H s)(g:pB H a y o)(ry:RelV y u)(rd:RelV d r)(h:∀w' s',Inv X pins σ H s'->RelV (o.getD d) w'->Q w' s') :
  wpAny (model X.prog X.w) A (call (.builtin "dict.get") [.ref a,u,r]) Q E s:=by
 rcases g with⟨kvs,k,e,ey,l⟩ |⟨kvs,k,b,e,ey,eb,l⟩
 ·subst ey;obtain⟨z,hd,vs,rel,dd⟩:=n4 I.hok e;refine call_meetsIn MR dd.typeIs Ov (N8 _ _ _) (meets_dict_get_default (aV X.prog X.w) a (lQ ry) hd r) ⟨_,dd.mapOf,h _ _ (I.tok _) ?_⟩;rw[l];exact(rel.val k).getD rd
 ·subst ey;cases(show u=Value.ref b from ry);obtain⟨z,hd,xs,rel,dd⟩:=nA I.hok e;refine call_meetsIn MR dd.typeIs Ov (N8 _ _ _) (meetsH_dict_get_default (tupleKind (aV X.prog X.w)) a b hd r) ⟨Nq hu,k,xs,oy I.hok eb,dd,h _ _ (I.tok _) ?_⟩;rw[l];exact(rel.val k).getD rd
end
noncomputable def FE(td ty tx:TE):TE:=λσ H Q=>td σ H λx H1=>∃a,x=.ref a/\IsD H1 a/\ty σ H1 λy H2=>tx σ H2 λz H3=>∃o,pB H3 a y o/\Q (o.getD z) H3
section
variable{X:Cx}{o e f:Expr}{apos cpos:Pos}{td ty tx:TE}
theorem A5(hu:X.A.units+1<cLine)(ho:PE X o td)(he:PE X e ty)(hf:PE X f tx)(m:M2 X o "get" apos e f cpos):PE X (.Call (.Attribute o "get" apos) [e,f] [] cpos) (FE td ty tx):=by
 intro pins s σ H Q I h;refine wpAny_Call_method m.base m.few m.line PySem.F.plainAttrs_dict MR PySem.F.type_dict_get (thn (ho pins s σ H _ I h) λu s1 ⟨x,H1,I1,rx,a,ex,d,q1⟩=>?_);subst ex;obtain rfl:u=Value.ref a:=rx;obtain⟨t1,t2,_⟩:=EF I1 d;refine⟨t1,t2,?_⟩;rw[m.trees];refine K6 rfl (Lo (Kv (thn (he pins s1 σ H1 _ I1 q1) λiv s2 ⟨y,H2,I2,ry,q2⟩=>
  Kv (thn (hf pins s2 σ H2 _ I2 q2) λfv s3 ⟨z,H3,I3,rz,ov,g,q3⟩=>Pz ?_))))
 exact DZ hu I3 g ry rz λw' s4 I4 rw'=>⟨_,H3,I4,rw',q3⟩
end
inductive Vl where
 |d (x:D) |r (n:Nat) |fd (kvs:List (Key×D)) |fn (x:Str) |sc (ns:List Int) |pr (x:D) (n:Nat) |xc (c:Str) (xs:List (Str×D)) |kt (ws:List Str) |xl (es:List (Str×List (Str×D)))
inductive Ob where
 |lst (xs:List D) |dct (kvs:List (Key×D)) |dead
noncomputable abbrev Sto:=List Ob
inductive R(α:Type)where
 |ok (a:α) (S:Sto) |ex (c:Str) (xs:List (Str×D)) (S:Sto) |bad
noncomputable def R.bind{α β:Type}(x:R α)(f:α->Sto->R β):R β:=match x with
 | .ok a S=>f a S
 | .ex c xs S=>.ex c xs S
 | .bad=>.bad
noncomputable abbrev Nv:=List (Option Vl)
noncomputable abbrev XE:=Nv->Sto->R Vl
noncomputable abbrev XT:=Nv->Sto->R Bool
noncomputable abbrev XA:=Nv->Sto->R (List Vl)
noncomputable abbrev XO:=Nv->Sto->R (Option Int)
inductive Fl where
 |nx |bk |ct |rt (v:Vl)
noncomputable abbrev XS:=Nv->Sto->R (Fl×Nv)
noncomputable abbrev XG:=Vl->Nv->Sto->R Nv
noncomputable abbrev XGs:=List Vl->Nv->Sto->R Nv
noncomputable abbrev XF:=List Vl->Sto->R Vl
structure Its where
 items:List Vl
 gd:Option (Nat×Ob)
def Its.ok(I:Its)(S:Sto):Prop:=match I.gd with
 |none=>True
 |some (n,o)=>S[n]?=some o
noncomputable abbrev XI:=Nv->Sto->R Its
def Al(μ:Nat->Addr)(S:Sto)(b:Addr):Prop:=∃n o,S[n]?=some o/\o≠.dead/\μ n=b
open Classical in
noncomputable def vh (μ:Nat->Addr) (S:Sto) (H:Hp):Hp:=λb=>if Al μ S b then none else H b
section
variable{μ μ' μ1 μ2:Nat->Addr}{S S' S1 S2:Sto}{H H' H1 H2:Hp}{b:Addr}{o:HO}
theorem bM(h:H b=some o)(n:¬Al μ S b):vh μ S H b=some o:=by unfold vh;rw[IF n];exact h
theorem aM(h:vh μ S H b=some o):¬Al μ S b/\H b=some o:=by
 unfold vh at h;split at h
 ·cases h
 ·exact⟨‹_›,h⟩
theorem gD:dw (vh μ S H) H:=λ_ _ h=>(aM h).2
def ObR(μ:Nat->Addr)(S:Sto)(H:Hp)(a:Addr):Ob->Prop
 | .lst ds=>∃vs,H a=some (.lst vs)/\aw (vh μ S H) vs ds
 | .dct kvs=>∃vs:List V,vs.length=kvs.length/\H a=some (.dK ((kvs.map (·.1)).zip vs))/\aw (vh μ S H) vs (kvs.map (·.2))
 | .dead=>True
structure HR(μ:Nat->Addr)(S:Sto)(H:Hp):Prop where
 ob:∀n o,S[n]?=some o->ObR μ S H (μ n) o
 inj:∀n m o o',S[n]?=some o->S[m]?=some o'->o≠.dead->o'≠.dead->μ n=μ m->n=m
theorem ObR.some(h:ObR μ S H a ob)(n:ob≠.dead):∃o,H a=Option.some o:=by
 cases ob with
 |lst ds=>obtain⟨vs,e,_⟩:=h;exact⟨_,e⟩
 |dct kvs=>obtain⟨vs,_,e,_⟩:=h;exact⟨_,e⟩
 |dead=>exact absurd rfl n
theorem HR.al(h:HR μ S H)(a:Al μ S b):∃o,H b=some o:=by
 obtain⟨n,ob,e,nd,rfl⟩:=a;exact(h.ob n ob e).some nd
theorem HR.nal(h:HR μ S H)(e:H b=none):¬Al μ S b:=λa=>by
 obtain⟨o,q⟩:=h.al a;rw[e]at q;cases q
theorem ObR.mono(h:ObR μ S H a ob)(e:ob≠.dead->H' a=H a)(k:dw (vh μ S H) (vh μ' S' H')):ObR μ' S' H' a ob:=by
 cases ob with
 |lst ds=>obtain⟨vs,q,r⟩:=h;exact⟨vs,by rw[e (by simp)];exact q,r.mono k⟩
 |dct kvs=>obtain⟨vs,l,q,r⟩:=h;exact⟨vs,l,by rw[e (by simp)];exact q,r.mono k⟩
 |dead=>exact True.intro
structure Step(μ:Nat->Addr)(S:Sto)(H:Hp)(μ':Nat->Addr)(S':Sto)(H':Hp):Prop where
 ag:∀n,n<S.length->μ' n=μ n
 le:S.length<=S'.length
 hr:HR μ' S' H'
 dd:∀n:Nat,S[n]?=some Ob.dead->S'[n]?=some Ob.dead
 nw:∀n o,S.length<=n->S'[n]?=some o->o≠.dead->H (μ' n)=none
 ko:∀b o,H b=some o->¬Al μ S b->H' b=some o
 dm:∀b o,H b=some o->∃o',H' b=some o'
theorem Step.refl(h:HR μ S H):Step μ S H μ S H:=
 ⟨λ_ _=>rfl,IB _,h,λ_ e=>e,λn o l e _=>(by rw[Jq l]at e;cases e),λ_ _ e _=>e,λ_ o e=>⟨o,e⟩⟩
theorem Step.nal(a:Step μ S H μ' S' H')(h:H b=some o)(n:¬Al μ S b):¬Al μ' S' b:=by
 rintro⟨k,ob,e,nd,rfl⟩;by_cases hk:k<S.length
 ·have e0:S[k]?=some S[k]:=H0 hk;by_cases hd:S[k]=.dead
  ·rw[hd]at e0;rw[a.dd k e0]at e;cases e;exact nd rfl
  ·exact n ⟨k,_,e0,hd,(a.ag k hk).symm⟩
 ·rw[a.nw k ob (by omega) e nd]at h;cases h
theorem Step.vis(a:Step μ S H μ' S' H'):dw (vh μ S H) (vh μ' S' H'):=λb o h=>by
 obtain⟨n,h⟩:=aM h;exact bM (a.ko b o h n) (a.nal h n)
theorem Step.trans(a:Step μ S H μ1 S1 H1)(b:Step μ1 S1 H1 μ2 S2 H2):Step μ S H μ2 S2 H2 where
 ag:=λn h=>(b.ag n (I_ h a.le)).trans (a.ag n h)
 le:=JS a.le b.le
 hr:=b.hr
 dd:=λn e=>b.dd n (a.dd n e)
 nw:=λn o l e nd=>by
  by_cases hn:n<S1.length
  ·rw[b.ag n hn];refine a.nw n S1[n] l (H0 hn) λz=>?_;have e0:S1[n]?=some S1[n]:=H0 hn;rw[z]at e0;rw[b.dd n e0]at e;cases e;exact nd rfl
  ·have q:=b.nw n o (by omega) e nd;cases e2:H (μ2 n)with
   |none=>rfl
   |some u=>
    obtain⟨u',e3⟩:=a.dm _ _ e2;rw[q]at e3;cases e3
 ko:=λc o h n=>b.ko c o (a.ko c o h n) (a.nal h n)
 dm:=λc o h=>by
  obtain⟨o1,e1⟩:=a.dm c o h;exact b.dm c o1 e1
theorem Step.new(h:HR μ S H)(hp:H p=none)(o:HO):Step μ S H μ S (upd H p o):=by
 have k:dw (vh μ S H) (vh μ S (upd H p o)):=λb u q=>by
  obtain⟨n,q⟩:=aM q;exact bM (by rw[aP (bo q hp)];exact q) n
 refine⟨λ_ _=>rfl,IB _,⟨λn ob e=>?_,h.inj⟩,λ_ e=>e,λn ob l e _=>(by rw[Jq l]at e;cases e),λb u q _=>by rw[aP (bo q hp)];exact q,λb u q=>⟨u,by rw[aP (bo q hp)];exact q⟩⟩;refine(h.ob n ob e).mono (λnd=>?_) k;obtain⟨u,q⟩:=(h.ob n ob e).some nd;exact aP (bo q hp)
noncomputable def ext(μ:Nat->Addr)(k:Nat)(p:Addr):Nat->Addr:=λn=>if n=k then p else μ n
theorem cC:ext μ k p k=p:=by unfold ext;rw[Iw rfl]
theorem k9(h:n≠k):ext μ k p n=μ n:=by unfold ext;rw[IF h]
def ObL(G:Hp):Ob->HO->Prop
 | .lst ds,o=>∃vs,o=.lst vs/\aw G vs ds
 | .dct kvs,o=>∃vs:List V,vs.length=kvs.length/\o=.dK ((kvs.map (·.1)).zip vs)/\aw G vs (kvs.map (·.2))
 | .dead,_=>False
theorem ObL.ne(h:ObL G ob o):ob≠.dead:=by
 rintro rfl;exact h
theorem ObL.at(h:ObL G ob o)(e:H a=some o)(k:dw G (vh μ S H)):ObR μ S H a ob:=by
 cases ob with
 |lst ds=>obtain⟨vs,rfl,r⟩:=h;exact⟨vs,e,r.mono k⟩
 |dct kvs=>obtain⟨vs,l,rfl,r⟩:=h;exact⟨vs,l,e,r.mono k⟩
 |dead=>exact h.elim
theorem Step.alloc(h:HR μ S H)(hp:H p=none)(hl:ObL (vh μ S H) ob o):Step μ S H (ext μ S.length p) (S++[ob]) (upd H p o):=by
 have nd:=hl.ne;have old:∀n u,n<S.length->(S++[ob])[n]?=some u->S[n]?=some u/\ext μ S.length p n=μ n:=λn u hn e=>by
  rw[Jb hn]at e;exact⟨e,k9 (IZ hn)⟩
 have new:∀n u,S.length<=n->(S++[ob])[n]?=some u->n=S.length/\u=ob:=λn u hn e=>by
  rw[Jd hn]at e;have hz:n-S.length=0:=by
   refine Ow λz=>?_;rw[Jq (by simp;omega)]at e;cases e
  rw[hz]at e;exact⟨by omega,by simpa using e.symm⟩
 have nal:∀{b u},H b=some u->¬Al μ S b->¬Al (ext μ S.length p) (S++[ob]) b:=by
  rintro b u q n ⟨k,v,e,d,rfl⟩;by_cases hk:k<S.length
  ·obtain⟨e1,e2⟩:=old k v hk e;exact n ⟨k,v,e1,d,e2.symm⟩
  ·obtain⟨rfl,rfl⟩:=new k v (by omega) e;rw[cC,hp]at q;cases q
 have k:dw (vh μ S H) (vh (ext μ S.length p) (S++[ob]) (upd H p o)):=λb u q=>by
  obtain⟨n,q⟩:=aM q;exact bM (by rw[aP (bo q hp)];exact q) (nal q n)
 refine⟨λn hn=>k9 (IZ hn),by simp,⟨λn u e=>?_,λn m u v e1 e2 d1 d2 q=>?_⟩,λn e=>?_,λn u l e _=>?_,λb u q _=>by rw[aP (bo q hp)];exact q,λb u q=>⟨u,by rw[aP (bo q hp)];exact q⟩⟩
 ·by_cases hn:n<S.length
  ·obtain⟨e1,e2⟩:=old n u hn e;rw[e2];refine(h.ob n u e1).mono (λnd=>?_) k;obtain⟨x,q⟩:=(h.ob n u e1).some nd;exact aP (bo q hp)
  ·obtain⟨rfl,rfl⟩:=new n u (by omega) e;rw[cC];exact hl.at bY k
 ·by_cases hn:n<S.length
  ·obtain⟨a1,a2⟩:=old n u hn e1;obtain⟨x,qx⟩:=(h.ob n u a1).some d1;by_cases hm:m<S.length
   ·obtain⟨b1,b2⟩:=old m v hm e2;rw[a2,b2]at q;exact h.inj n m u v a1 b1 d1 d2 q
   ·obtain⟨rfl,rfl⟩:=new m v (by omega) e2;rw[a2,cC]at q;rw[q,hp]at qx;cases qx
  ·obtain⟨rfl,rfl⟩:=new n u (by omega) e1;by_cases hm:m<S.length
   ·obtain⟨b1,b2⟩:=old m v hm e2;obtain⟨x,qx⟩:=(h.ob m v b1).some d2;rw[b2,cC]at q;rw[<-q,hp]at qx;cases qx
   ·exact(new m v (by omega) e2).1.symm
 ·have hn:n<S.length:=by
   refine NZ λz=>?_;rw[Jq z]at e;cases e
  rw[Jb hn];exact e
 ·obtain⟨rfl,rfl⟩:=new n u l e;rw[cC];exact hp
theorem fF(hn:n<S.length)(e:(S.set n ob)[m]?=some u):(m=n/\u=ob)\/(m≠n/\S[m]?=some u):=by
 rw[MA]at e;by_cases q:n=m
 ·subst q;rw[Iw rfl,Iw hn]at e;exact .inl ⟨rfl,(Jj e).symm⟩
 ·rw[IF q]at e;exact .inr ⟨λz=>q z.symm,e⟩
theorem Step.put(h:HR μ S H)(e0:S[n]?=some ob0)(d0:ob0≠.dead)(hl:ObL (vh μ S H) ob o):Step μ S H μ (S.set n ob) (upd H (μ n) o):=by
 have nd:=hl.ne;have hn:n<S.length:=(IJ.mp e0).1;have al0:Al μ S (μ n):=⟨n,ob0,e0,d0,rfl⟩;have al:∀{b},Al μ (S.set n ob) b->Al μ S b:=by
  rintro b ⟨m,u,e,d,rfl⟩;rcases fF hn e with⟨rfl,rfl⟩ |⟨z,q⟩
  ·exact al0
  ·exact⟨m,u,q,d,rfl⟩
 have k:dw (vh μ S H) (vh μ (S.set n ob) (upd H (μ n) o)):=λb u q=>by
  obtain⟨z,q⟩:=aM q;exact bM (by rw[aP (λc=>z (by rw[c];exact al0))];exact q) λc=>z (al c)
 refine⟨λ_ _=>rfl,by rw[KH];exact IB _,⟨λm u e=>?_,λm m' u v e1 e2 d1 d2 q=>?_⟩,λm e=>?_,λm u l e _=>?_,λb u q z=>by rw[aP (λc=>z (by rw[c];exact al0))];exact q,λb u q=>?_⟩
 ·rcases fF hn e with⟨rfl,rfl⟩ |⟨z,q⟩
  ·exact hl.at bY k
  ·refine(h.ob m u q).mono (λd=>aP λc=>z (h.inj m n u ob0 q e0 d d0 c)) k
 ·have a1:∃w,S[m]?=some w/\w≠.dead:=by
   rcases fF hn e1 with⟨rfl,rfl⟩ |⟨z,q⟩
   ·exact⟨ob0,e0,d0⟩
   ·exact⟨u,q,d1⟩
  have a2:∃w,S[m']?=some w/\w≠.dead:=by
   rcases fF hn e2 with⟨rfl,rfl⟩ |⟨z,q⟩
   ·exact⟨ob0,e0,d0⟩
   ·exact⟨v,q,d2⟩
  obtain⟨w1,x1,y1⟩:=a1;obtain⟨w2,x2,y2⟩:=a2;exact h.inj m m' w1 w2 x1 x2 y1 y2 q
 ·rw[LY]
  ·exact e
  ·rintro rfl;rw[e0]at e;cases e;exact d0 rfl
 ·rw[Jq (by rw[KH];exact l)]at e;cases e
 ·by_cases z:b=μ n
  ·subst z;exact⟨o,bY⟩
  ·exact⟨u,by rw[aP z];exact q⟩
theorem Step.freeze(h:HR μ S H)(e0:S[n]?=some ob)(d0:ob≠.dead):Step μ S H μ (S.set n .dead) H/\¬Al μ (S.set n .dead) (μ n):=by
 have hn:n<S.length:=(IJ.mp e0).1;have al:∀{b},Al μ (S.set n .dead) b->Al μ S b:=by
  rintro b ⟨m,u,e,d,rfl⟩;rcases fF hn e with⟨rfl,rfl⟩ |⟨z,q⟩
  ·exact absurd rfl d
  ·exact⟨m,u,q,d,rfl⟩
 have k:dw (vh μ S H) (vh μ (S.set n .dead) H):=λb u q=>by
  obtain⟨z,q⟩:=aM q;exact bM q λc=>z (al c)
 have inn:∀m u,(S.set n .dead)[m]?=some u->u≠.dead->S[m]?=some u/\m≠n:=λm u e d=>by
  rcases fF hn e with⟨rfl,rfl⟩ |⟨z,q⟩
  ·exact absurd rfl d
  ·exact⟨q,z⟩
 refine⟨⟨λ_ _=>rfl,by rw[KH];exact IB _,⟨λm u e=>?_,λm m' u v e1 e2 d1 d2 q=>h.inj m m' u v (inn m u e1 d1).1 (inn m' v e2 d2).1 d1 d2 q⟩,λm e=>?_,λm u l e _=>?_,λb u q z=>q,λb u q=>⟨u,q⟩⟩,?_⟩
 ·by_cases d:u=.dead
  ·subst d;exact True.intro
  ·exact(h.ob m u (inn m u e d).1).mono (λ_=>rfl) k
 ·by_cases z:m=n
  ·subst z;rw[MA,Iw rfl,Iw hn]
  ·rw[LY (λc=>z c.symm)];exact e
 ·rw[Jq (by rw[KH];exact l)]at e;cases e
 ·rintro⟨m,u,e,d,q⟩;obtain⟨e1,z⟩:=inn m u e d;exact z (h.inj m n u ob e1 e0 d d0 q)
theorem Step.Bn(h:HR μ S H)(o':HO)(e0:S[n]?=some ob)(d0:ob≠.dead):Step μ S H μ (S.set n .dead) (upd H (μ n) o')/\¬Al μ (S.set n .dead) (μ n):=by
 have hn:n<S.length:=(IJ.mp e0).1;have al0:Al μ S (μ n):=⟨n,ob,e0,d0,rfl⟩;obtain⟨st,na⟩:=Step.freeze h e0 d0;have k:dw (vh μ S H) (vh μ (S.set n .dead) (upd H (μ n) o')):=λb u q=>by
  obtain⟨z,q'⟩:=aM q;exact bM (by rw[aP (λc=>z (by rw[c];exact al0))];exact q') (aM (st.vis b u q)).1
 refine⟨⟨st.ag,st.le,⟨λm u e=>?_,st.hr.inj⟩,st.dd,λm u l e d=>st.nw m u l e d,λb u q z=>by rw[aP (λc=>z (by rw[c];exact al0))];exact q,λb u q=>?_⟩,na⟩
 ·rcases fF hn e with⟨rfl,rfl⟩ |⟨z,q⟩
  ·exact True.intro
  ·by_cases d:u=.dead
   ·subst d;exact True.intro
   ·exact(h.ob m u q).mono (λ_=>aP λc=>z (h.inj m n u ob q e0 d d0 c)) k
 ·by_cases z:b=μ n
  ·subst z;exact⟨o',bY⟩
  ·exact⟨u,by rw[aP z];exact q⟩
theorem de(e:(S.take k)[n]?=some u):n<k/\S[n]?=some u:=by
 rw[Mi]at e;split at e
 ·exact⟨‹_›,e⟩
 ·cases e
theorem Step.take(a:Step μ S H μ' S' H'):Step μ S H μ' (S'.take S.length) H':=by
 have al:∀{b},Al μ' (S'.take S.length) b->Al μ' S' b:=by
  rintro b ⟨m,u,e,d,rfl⟩;exact⟨m,u,(de e).2,d,rfl⟩
 have k:dw (vh μ' S' H') (vh μ' (S'.take S.length) H'):=λb u q=>by
  obtain⟨z,q⟩:=aM q;exact bM q λc=>z (al c)
 refine⟨a.ag,by rw[IY];have:=a.le;omega,⟨λm u e=>(a.hr.ob m u (de e).2).mono (λ_=>rfl) k,λm m' u v e1 e2=>a.hr.inj m m' u v (de e1).2 (de e2).2⟩,λn e=>?_,λn u l e _=>?_,a.ko,a.dm⟩
 ·have hn:n<S.length:=(IJ.mp e).1;rw[Mi,Iw hn];exact a.dd n e
 ·have:=(de e).1;omega
theorem Step.move(a:Step μ S H μ' S' H')(hn:S.length<=n)(e0:S'[n]?=some ob)(d0:ob≠.dead):Step μ S H (ext μ' S.length (μ' n)) (S'.take S.length++[ob]) H':=by
 have lt:(S'.take S.length).length=S.length:=by rw[IY];have:=a.le;omega
 have get:∀m u,(S'.take S.length++[ob])[m]?=some u->∃j,S'[j]?=some u/\ext μ' S.length (μ' n) m=μ' j/\((m<S.length/\j=m)\/(m=S.length/\j=n)):=λm u e=>by
  by_cases hm:m<S.length
  ·rw[Jb (by omega)]at e;exact⟨m,(de e).2,k9 (IZ hm),.inl ⟨hm,rfl⟩⟩
  ·rw[Jd (by omega)]at e;have hz:m-(S'.take S.length).length=0:=by
    refine Ow λz=>?_;rw[Jq (by simp;omega)]at e;cases e
   rw[hz]at e;have hm':m=S.length:=by omega
   subst hm';obtain rfl:ob=u:=by simpa using e
   exact⟨n,e0,cC,.inr ⟨rfl,rfl⟩⟩
 have al:∀{b},Al (ext μ' S.length (μ' n)) (S'.take S.length++[ob]) b->Al μ' S' b:=by
  rintro b ⟨m,u,e,d,rfl⟩;obtain⟨j,q,z,_⟩:=get m u e;exact⟨j,u,q,d,z.symm⟩
 have k:dw (vh μ' S' H') (vh (ext μ' S.length (μ' n)) (S'.take S.length++[ob]) H'):=λb u q=>by
  obtain⟨z,q⟩:=aM q;exact bM q λc=>z (al c)
 refine⟨λm hm=>(k9 (IZ hm)).trans (a.ag m hm),by rw[IH,lt];simp,⟨λm u e=>?_,λm m' u v e1 e2 d1 d2 q=>?_⟩,λm e=>?_,λm u l e d=>?_,a.ko,a.dm⟩
 ·obtain⟨j,q,z,_⟩:=get m u e;rw[z];exact(a.hr.ob j u q).mono (λ_=>rfl) k
 ·obtain⟨j,q1,z1,w1⟩:=get m u e1;obtain⟨j',q2,z2,w2⟩:=get m' v e2;rw[z1,z2]at q;have:=a.hr.inj j j' u v q1 q2 d1 d2 q;omega
 ·have hm:m<S.length:=(IJ.mp e).1;rw[Jb (by omega),Mi,Iw hm];exact a.dd m e
 ·obtain⟨j,q,z,w⟩:=get m u e;rw[z];have hj:S.length<=j:=by omega
  exact a.nw j u hj q d
end
section
variable(K:Iy)(mg:Str->Option Value)
def HE(K:Iy)(a:Addr)(ws:List Str):Prop:=∃(o:Obj)(its:Array Value)(n:Nat),K.lookup a=some o/\o.cls=.type "tuple"/\o.data=.seq its n/\its.size<=sizeLine/\Vals (ws.map V.str) its.toList
def excAt(a C:Addr)(od:Option Addr)(h:Heap):Prop:=∃o,h.get? a=some o/\o.cls=.ref C/\(∀d,od=some d->o.dict=some d)/\∃vs,o.data=.fields vs
def sL(G:Hp)(a C:Addr)(xs:List (Str×D)):Prop:=∃od,G a=some (.ext (excAt a C od))/\(xs≠[]->∃(dx:Addr)(vs:List V),od=some dx/\vs.length=xs.length/\G dx=some (.xd ((xs.map (·.1)).zip vs))/\aw G vs (xs.map (·.2)))
theorem sL.mono(k:dw G G')(h:sL G a C xs):sL G' a C xs:=by
 obtain⟨od,e,h⟩:=h;refine⟨od,k _ _ e,λn=>?_⟩;obtain⟨dx,vs,q1,q2,q3,q4⟩:=h n;exact⟨dx,vs,q1,q2,k _ _ q3,q4.mono k⟩
inductive k_(G:Hp):List V->List (Str×List (Str×D))->Prop
 |nil:k_ G [] []
 |cons {a C:Addr} {c:Str} {xs:List (Str×D)} {vs:List V} {es:List (Str×List (Str×D))}:mg c=some (.ref C)->sL G a C xs->k_ G vs es->k_ G (.ref a::vs) ((c,xs)::es)
def aS(μ:Nat->Addr)(S:Sto)(H:Hp)(v:V):Vl->Prop
 | .d x=>Rep (vh μ S H) v x
 | .r n=>v=.ref (μ n)/\n<S.length
 | .fd kvs=>∃(a:Addr)(vs:List V)(o:Obj),v=.ref a/\vs.length=kvs.length/\vh μ S H a=some (.frz o (.dK ((kvs.map (·.1)).zip vs)))/\aw (vh μ S H) vs (kvs.map (·.2))
 | .fn x=>∃f:Addr,mg x=some (.ref f)/\v=.ref f
 | .sc ns=>∃l:Addr,v=.ref l/\SqL K (vh μ S H) l (ns.map V.int)
 | .pr x n=>∃(a:Addr)(u:V),v=.ref a/\vh μ S H a=some (.tup [u,.ref (μ n)])/\Rep (vh μ S H) u x/\n<S.length
 | .xc c xs=>∃(a C:Addr),v=.ref a/\mg c=some (.ref C)/\sL (vh μ S H) a C xs
 | .kt ws=>∃a:Addr,v=.ref a/\HE K a ws
 | .xl es=>∃(l:Addr)(vs:List V),v=.ref l/\vh μ S H l=some (.lst vs)/\k_ mg (vh μ S H) vs es
inductive bx(μ:Nat->Addr)(S:Sto)(H:Hp):List V->List Vl->Prop
 |nil:bx μ S H [] []
 |cons {v:V} {x:Vl} {vs:List V} {xs:List Vl}:aS K mg μ S H v x->bx μ S H vs xs->bx μ S H (v::vs) (x::xs)
structure b5(μ:Nat->Addr)(S:Sto)(H:Hp)(σ:St)(τ:Nv):Prop where
 len:σ.length=τ.length
 get:∀(i:Nat)(x:Vl),τ[i]?=some (some x)->∃v,σ[i]?=some (some v)/\aS K mg μ S H v x
end
section
variable{K:Iy}{mg:Str->Option Value}{μ μ':Nat->Addr}{S S':Sto}{H H':Hp}
theorem SqL.mono(k:dw H H')(h:SqL K H l xs):SqL K H' l xs:=by
 rcases h with(h |⟨o,h⟩) |h
 ·exact .inl (.inl (k _ _ h))
 ·exact .inl (.inr ⟨o,k _ _ h⟩)
 ·exact .inr h
theorem k_.mono(k:dw H H'):∀{vs es},k_ mg H vs es->k_ mg H' vs es
 |_,_,.nil=>.nil
 |_,_,.cons a b c=>.cons a (b.mono k) (k_.mono k c)
theorem aS.step(a:Step μ S H μ' S' H')(h:aS K mg μ S H v x):aS K mg μ' S' H' v x:=by
 cases x with
 |d x=>exact Rep.mono a.vis h
 |r n=>obtain⟨rfl,hn⟩:=h;exact⟨by rw[a.ag n hn],I_ hn a.le⟩
 |fd kvs=>obtain⟨p,vs,o,e,l,q,r⟩:=h;exact⟨p,vs,o,e,l,a.vis _ _ q,r.mono a.vis⟩
 |pr x n=>obtain⟨p,u,e,q,r,hn⟩:=h;exact⟨p,u,e,by rw[a.ag n hn];exact a.vis _ _ q,Rep.mono a.vis r,I_ hn a.le⟩
 |fn x=>exact h
 |sc ns=>obtain⟨l,e,q⟩:=h;exact⟨l,e,q.mono a.vis⟩
 |xc c xs=>obtain⟨p,C,e,m,q⟩:=h;exact⟨p,C,e,m,q.mono a.vis⟩
 |kt ws=>exact h
 |xl es=>obtain⟨l,vs,e,q,r⟩:=h;exact⟨l,vs,e,a.vis _ _ q,r.mono a.vis⟩
theorem bx.step(a:Step μ S H μ' S' H'):∀{vs:List V}{xs:List Vl},bx K mg μ S H vs xs->bx K mg μ' S' H' vs xs
 |_,_,.nil=>.nil
 |_,_,.cons r t=>.cons (r.step a) (bx.step a t)
theorem bx.length:∀{vs:List V}{xs:List Vl},bx K mg μ S H vs xs->vs.length=xs.length
 |_,_,.nil=>rfl
 |_,_,.cons _ t=>by simp[bx.length t]
theorem bx.get:∀{vs:List V}{xs:List Vl}{i:Nat}{x:Vl},bx K mg μ S H vs xs->xs[i]?=some x->∃v,vs[i]?=some v/\aS K mg μ S H v x
 |_,_,_,_,.nil,e=>by simp at e
 |_,_,0,_,.cons r _,e=>by simp at e;subst e;exact⟨_,rfl,r⟩
 |_,_,i+1,x,.cons _ t,e=>by
  obtain⟨d,h1,h2⟩:=bx.get (i:=i) (x:=x) t (by simpa using e);exact⟨d,by simpa using h1,h2⟩
theorem bx.oQ:∀{vs:List V}{ds:List D},aw (vh μ S H) vs ds->bx K mg μ S H vs (ds.map Vl.d)
 |_,_,.nil=>.nil
 |_,_,.cons r t=>.cons (show aS K mg μ S H _ (.d _)from r) (bx.oQ t)
theorem b5.step(a:Step μ S H μ' S' H')(h:b5 K mg μ S H σ τ):b5 K mg μ' S' H' σ τ:=
 ⟨h.len,λi x e=>by obtain⟨v,e1,r⟩:=h.get i x e;exact⟨v,e1,r.step a⟩⟩
theorem b5.set(i:Nat)(h:b5 K mg μ S H σ τ)(r:aS K mg μ S H v x):b5 K mg μ S H (σ.set i (some v)) (τ.set i (some x)):=by
 refine⟨by rw[KH,KH];exact h.len,λj y e=>?_⟩;rw[MA]at e ⊢;by_cases q:i=j
 ·subst q;rw[Iw rfl]at e ⊢;by_cases hl:i<τ.length
  ·rw[Iw hl]at e;cases e;exact⟨v,by rw[Iw (by rw[h.len];exact hl)],r⟩
  ·rw[IF hl]at e;cases e
 ·rw[IF q]at e ⊢;exact h.get j y e
theorem b5.pre(k:Nat)(h:b5 K mg μ S H σ τ):b5 K mg μ S H (Jw k none++σ) (Jw k none++τ):=by
 refine⟨by simp[h.len],λi x e=>?_⟩;by_cases hi:i<k
 ·rw[Jb (by simpa using hi),Lz,Iw hi]at e;cases e
 ·rw[Jd (by simpa using hi)]at e ⊢;simpa using h.get (i-k) x (by simpa using e)
theorem b5.beg(h:bx K mg μ S H vs us):b5 K mg μ S H (L2.start N vs) (us.map some++Jw (N.length-us.length) none):=by
 have l:=h.length;refine⟨by simp[L2.start,l],λi x e=>?_⟩;unfold L2.start;by_cases hi:i<us.length
 ·rw[Jb (by simpa using hi),IU]at e;cases q:us[i]? with
  |none=>rw[q]at e;cases e
  |some y=>
   rw[q]at e;cases e;obtain⟨v,e1,r⟩:=h.get q;exact⟨v,by rw[Jb (by simp;omega),IU,e1];rfl,r⟩
 ·rw[Jd (by simpa using hi),Lz]at e;split at e<;>cases e
end
noncomputable abbrev WX:=Str->List (Str×D)->Sto->(Nat->Addr)->Hp->Prop
noncomputable abbrev W0:WX:=λ_ _ _ _ _=>False
def aL{α β:Type}(Rl:(Nat->Addr)->Sto->Hp->β->α->Prop)(WE:WX)(μ:Nat->Addr)(S:Sto)(H:Hp)(res:R α)(Q:β->Hp->Prop):Prop:=match res with
 | .ok a S'=>∀b μ' H',Step μ S H μ' S' H'->Rl μ' S' H' b a->Q b H'
 | .ex c xs S'=>∀μ' H',Step μ S H μ' S' H'->WE c xs S' μ' H'
 | .bad=>False
section
variable{α β γ δ:Type}{Rl:(Nat->Addr)->Sto->Hp->β->α->Prop}{Rl2:(Nat->Addr)->Sto->Hp->δ->γ->Prop}{WE:WX}{μ μ1:Nat->Addr}{S S1:Sto}{H H1:Hp}{res:R α}{Q:β->Hp->Prop}{Q2:δ->Hp->Prop}
theorem aL.shift(h:aL Rl WE μ S H res Q)(a:Step μ S H μ1 S1 H1):aL Rl WE μ1 S1 H1 res Q:=by
 cases res with
 |ok x S'=>exactλb μ' H' st r=>h b μ' H' (a.trans st) r
 |ex c xs S'=>exactλμ' H' st=>h μ' H' (a.trans st)
 |bad=>exact h
theorem aL.bind(h:aL Rl2 WE μ S H (res.bind f) Q2)(k:∀b a S1 μ1 H1,Step μ S H μ1 S1 H1->Rl μ1 S1 H1 b a->aL Rl2 WE μ1 S1 H1 (f a S1) Q2->Q b H1):aL Rl WE μ S H res Q:=by
 cases res with
 |ok x S'=>exactλb μ' H' st r=>k b x S' μ' H' st r (aL.shift (show aL Rl2 WE μ S H (f x S') Q2 from h) st)
 |ex c xs S'=>exact h
 |bad=>exact h
theorem aL.here(hr:HR μ S H)(h:aL Rl WE μ S H (.ok a S) Q)(r:Rl μ S H b a):Q b H:=h b μ H (Step.refl hr) r
theorem aL.imp(h:aL Rl WE μ S H res Q)(k:∀b H',Q b H'->Q' b H'):aL Rl WE μ S H res Q':=by
 cases res with
 |ok x S'=>exactλb μ' H' st r=>k _ _ (h b μ' H' st r)
 |ex c xs S'=>exact h
 |bad=>exact h
end
inductive FlV where
 |nx |bk |ct |rt (v:V)
def Ends.at(D:Ends)(p:FlV×St)(H:Hp):Prop:=match p.1 with
 | .nx=>D.nx p.2 H
 | .bk=>D.bk p.2 H
 | .ct=>D.ct p.2 H
 | .rt v=>D.rt v H
section
variable(K:Iy)(mg:Str->Option Value)
def FlR(μ:Nat->Addr)(S:Sto)(H:Hp):FlV->Fl->Prop
 | .nx,.nx=>True
 | .bk,.bk=>True
 | .ct,.ct=>True
 | .rt v,.rt z=>aS K mg μ S H v z
 |_,_=>False
def RlS(μ:Nat->Addr)(S:Sto)(H:Hp)(p:FlV×St)(q:Fl×Nv):Prop:=b5 K mg μ S H p.2 q.2/\FlR K mg μ S H p.1 q.1
abbrev RlQ{α:Type}(_:Nat->Addr)(_:Sto)(_:Hp)(b a:α):Prop:=b=a
structure fJ(μ:Nat->Addr)(S:Sto)(H:Hp)(J:It)(I:Its):Prop where
 ok:I.ok S
 len:I.items.length<=sizeLine
 go:∀i z μ' S' H',Step μ S H μ' S' H'->I.ok S'->I.items[i]?=some z->J.go i H'
 yld:∀i z μ' S' H' x H2,Step μ S H μ' S' H'->I.ok S'->I.items[i]?=some z->J.yld i H' x H2->Step μ' S' H' μ' S' H2/\aS K mg μ' S' H2 x z
 stop:∀i μ' S' H',Step μ S H μ' S' H'->I.ok S'->I.items.length=i->J.stop i H'
noncomputable def trE(WE:WX)(m:XE):TE:=λσ H Q=>∃μ S τ,HR μ S H/\b5 K mg μ S H σ τ/\aL (aS K mg) WE μ S H (m τ S) Q
noncomputable def trT(WE:WX)(m:XT):TT:=λσ H Q=>∃μ S τ,HR μ S H/\b5 K mg μ S H σ τ/\aL RlQ WE μ S H (m τ S) Q
noncomputable def trA(WE:WX)(m:XA):TA:=λσ H Q=>∃μ S τ,HR μ S H/\b5 K mg μ S H σ τ/\aL (bx K mg) WE μ S H (m τ S) Q
noncomputable def trO(WE:WX)(m:XO):TO:=λσ H Q=>∃μ S τ,HR μ S H/\b5 K mg μ S H σ τ/\aL RlQ WE μ S H (m τ S) Q
noncomputable def trS(WE:WX)(m:XS):TS:=λD σ H=>∃μ S τ,HR μ S H/\b5 K mg μ S H σ τ/\aL (RlS K mg) WE μ S H (m τ S) D.at
noncomputable def trG(WE:WX)(g:XG):TG:=λv σ H Q=>∃μ S τ z,HR μ S H/\b5 K mg μ S H σ τ/\aS K mg μ S H v z/\aL (b5 K mg) WE μ S H (g z τ S) Q
noncomputable def H_(WE:WX)(g:XGs):TGs:=λvs σ H Q=>∃μ S τ zs,HR μ S H/\b5 K mg μ S H σ τ/\bx K mg μ S H vs zs/\aL (b5 K mg) WE μ S H (g zs τ S) Q
noncomputable def trI(WE:WX)(it:XI):TI:=λσ H Rr=>∃μ S τ,HR μ S H/\b5 K mg μ S H σ τ/\aL (fJ K mg) WE μ S H (it τ S) Rr
end
structure RE(X:Cx)(WE:WX)(e:Expr)(m:XE):Prop where
 h:PE X e (trE X.K X.mg WE m)
structure RT(X:Cx)(WE:WX)(e:Expr)(m:XT):Prop where
 h:PT X e (trT X.K X.mg WE m)
structure RW(X:Cx)(WE:WX)(e:Expr)(m:XT):Prop where
 h:PW X e (trT X.K X.mg WE m)
structure RA(X:Cx)(WE:WX)(es:List Expr)(m:XA):Prop where
 h:PA X es (trA X.K X.mg WE m)
structure RO(X:Cx)(WE:WX)(e:Option Expr)(m:XO):Prop where
 h:PO X e (trO X.K X.mg WE m)
structure RS(X:Cx)(WE:WX)(s:Stmt)(m:XS):Prop where
 h:PS X s (trS X.K X.mg WE m)
structure RB(X:Cx)(WE:WX)(s:List Stmt)(m:XS):Prop where
 h:PSs X s (trS X.K X.mg WE m)
structure RG(X:Cx)(WE:WX)(t:Expr)(g:XG):Prop where
 h:PG X t (trG X.K X.mg WE g)
structure RGs(X:Cx)(WE:WX)(ts:List Expr)(g:XGs):Prop where
 h:PGs X ts (H_ X.K X.mg WE g)
structure RI(X:Cx)(WE:WX)(tg iter:Expr)(it:XI):Prop where
 h:PI X tg iter (trI X.K X.mg WE it)
structure RTs(X:Cx)(WE:WX)(ifs:List Expr)(m:XT):Prop where
 h:PTs X ifs (trT X.K X.mg WE m)
section
variable{X:Cx}
theorem PE.weak(h:PE X e t)(k:∀σ H Q,t' σ H Q->t σ H Q):PE X e t':=λpins s σ H Q I q=>h pins s σ H Q I (k σ H Q q)
theorem PT.weak(h:PT X e t)(k:∀σ H Q,t' σ H Q->t σ H Q):PT X e t':=λpins s σ H Q I q=>h pins s σ H Q I (k σ H Q q)
theorem PW.weak(h:PW X e t)(k:∀σ H Q,t' σ H Q->t σ H Q):PW X e t':=λwh pins s σ H Q I q=>h wh pins s σ H Q I (k σ H Q q)
theorem PA.weak(h:PA X e t)(k:∀σ H Q,t' σ H Q->t σ H Q):PA X e t':=λpo pins s σ H Q I q=>h po pins s σ H Q I (k σ H Q q)
theorem PS.weak(h:PS X e t)(k:∀D σ H,t' D σ H->t D σ H):PS X e t':=λpins s σ H D I q=>h pins s σ H D I (k D σ H q)
theorem PSs.weak(h:PSs X e t)(k:∀D σ H,t' D σ H->t D σ H):PSs X e t':=λpins s σ H D I q=>h pins s σ H D I (k D σ H q)
theorem PG.weak(h:PG X e t)(k:∀v σ H Q,t' v σ H Q->t v σ H Q):PG X e t':=λpins s σ H v u Q I r q=>h pins s σ H v u Q I r (k v σ H Q q)
theorem PGs.weak(h:PGs X e t)(k:∀v σ H Q,t' v σ H Q->t v σ H Q):PGs X e t':=λpins s σ H v u Q I r q=>h pins s σ H v u Q I r (k v σ H Q q)
theorem PI.weak(h:PI X tg e t)(k:∀σ H Q,t' σ H Q->t σ H Q):PI X tg e t':=λpins s σ H Q I q=>h pins s σ H Q I (k σ H Q q)
end
def c9(K:Iy)(mg:Str->Option Value)(r:R2)(f:Vl->Vl->Sto->R Vl):Prop:=∀(WE:WX)(μ:Nat->Addr)(S:Sto)(H:Hp)(v w:V)(x y:Vl)(Q:VK),HR μ S H->aS K mg μ S H v x->aS K mg μ S H w y->aL (aS K mg) WE μ S H (f x y S) Q->r v w H Q
def DR(K:Iy)(mg:Str->Option Value)(r:V->Hp->VK->Prop)(f:Vl->Sto->R Vl):Prop:=∀(WE:WX)(μ:Nat->Addr)(S:Sto)(H:Hp)(v:V)(x:Vl)(Q:VK),HR μ S H->aS K mg μ S H v x->aL (aS K mg) WE μ S H (f x S) Q->r v H Q
def f6(K:Iy)(mg:Str->Option Value)(r:List V->Hp->VK->Prop)(f:List Vl->Sto->R Vl):Prop:=∀(WE:WX)(μ:Nat->Addr)(S:Sto)(H:Hp)(vs:List V)(xs:List Vl)(Q:VK),HR μ S H->bx K mg μ S H vs xs->aL (aS K mg) WE μ S H (f xs S) Q->r vs H Q
noncomputable def aa(i:Nat):XE:=λτ S=>match τ[i]? with
 |some (some v)=>.ok v S
 |_=>.bad
noncomputable def xC(d:D):XE:=λ_ S=>.ok (.d d) S
noncomputable def xFn(x:Str):XE:=λ_ S=>.ok (.fn x) S
noncomputable def xOp(f:Vl->Vl->Sto->R Vl)(a b:XE):XE:=λτ S=>(a τ S).bind λx S1=>(b τ S1).bind λy S2=>f x y S2
noncomputable def xUn(f:Vl->Sto->R Vl)(a:XE):XE:=λτ S=>(a τ S).bind λx S1=>f x S1
noncomputable def eh(f f':Vl->Vl->Sto->R Vl)(a b c:XE):XE:=λτ S=>(a τ S).bind λx S1=>(b τ S1).bind λy S2=>(f x y S2).bind λz S3=>match z with
 | .d (.bl k)=>if k=true then(c τ S3).bind λw S4=>f' y w S4 else .ok (.d (.bl false)) S3
 |_=>.bad
noncomputable def asB(z:Vl)(S:Sto):R Bool:=match z with
 | .d (.bl b)=>.ok b S
 |_=>.bad
noncomputable def ba(a:XE):XT:=λτ S=>(a τ S).bind asB
noncomputable def tru(z:Vl)(S:Sto):R Bool:=match z with
 | .d .non=>.ok false S
 | .d (.bl b)=>.ok b S
 | .d (.int i)=>.ok (i != 0) S
 | .d (.tup xs)=>.ok (!xs.isEmpty) S
 | .d (.lst xs)=>.ok (!xs.isEmpty) S
 | .r n=>match S[n]? with
  |some (.lst xs)=>.ok (!xs.isEmpty) S
  |some (.dct kvs)=>.ok (!kvs.isEmpty) S
  |_=>.bad
 |_=>.bad
noncomputable def eE(a:XE):XT:=λτ S=>(a τ S).bind tru
noncomputable def xOr(a b:XT):XT:=λτ S=>(a τ S).bind λc S1=>if c=true then .ok true S1 else b τ S1
noncomputable def eK(a:XT):XT:=λτ S=>(a τ S).bind λc S1=>.ok (!c) S1
noncomputable def dA(a b:XE):XE:=λτ S=>(a τ S).bind λx S1=>(asB x S1).bind λc S2=>if c=true then b τ S2 else .ok (.d (.bl false)) S2
noncomputable def qR(a:XE):XE:=λτ S=>(a τ S).bind λx S1=>(asB x S1).bind λc S2=>.ok (.d (.bl (!c))) S2
noncomputable def aj:XA:=λ_ S=>.ok [] S
noncomputable def ab(a:XE)(r:XA):XA:=λτ S=>(a τ S).bind λx S1=>(r τ S1).bind λxs S2=>.ok (x::xs) S2
noncomputable def iK:List Vl->Option (List D)
 | []=>some []
 | .d x::r=>(iK r).map (x::·)
 |_=>none
noncomputable def mkT(xs:List Vl)(S:Sto):R Vl:=match iK xs with
 |some ds=>if ds.length<=100000 then .ok (.d (.tup ds)) S else .bad
 |none=>.bad
noncomputable def mkL(xs:List Vl)(S:Sto):R Vl:=match iK xs with
 |some ds=>if ds.length<=100000 then .ok (.d (.lst ds)) S else .bad
 |none=>.bad
noncomputable def mkM(xs:List Vl)(S:Sto):R Vl:=match iK xs with
 |some ds=>if ds.length<=100000 then .ok (.r S.length) (S++[.lst ds])else .bad
 |none=>.bad
noncomputable def xN(f:List Vl->Sto->R Vl)(as:XA):XE:=λτ S=>(as τ S).bind f
noncomputable def frz(z:Vl)(S:Sto):R Vl:=match z with
 | .r n=>match S[n]? with
  |some (.lst xs)=>.ok (.d (.lst xs)) (S.set n .dead)
  |some (.dct kvs)=>.ok (.fd kvs) (S.set n .dead)
  |_=>.bad
 |z=>.ok z S
noncomputable def xFz(a:XE):XE:=λτ S=>(a τ S).bind frz
noncomputable def bK:XO:=λ_ S=>.ok none S
noncomputable def bR(a:XE):XO:=λτ S=>(a τ S).bind λx S1=>match x with
 | .d (.int i)=>.ok (some i) S1
 |_=>.bad
noncomputable def xSl(f:Vl->Option Int->Option Int->Sto->R Vl)(a:XE)(l h:XO):XE:=λτ S=>(a τ S).bind λx S1=>(l τ S1).bind λi S2=>(h τ S2).bind λj S3=>f x i j S3
section
variable{X:Cx}{WE:WX}{a b c e:Expr}{xa xb xc xe:XE}{pos:Pos}{es:List Expr}{t u:XT}
theorem rv(i:Nat)(hN:X.N[i]?=some x:=by rfl)(hv:Vis X.env.scope x:=by first |exact Or.inl rfl |exact Or.inr (Or.inl rfl) |exact Or.inr (Or.inr rfl))(hd:(x==("__debug__":Str))=false:=by decide)
  (hcd:(x==("__classdict__":Str))=false:=by decide):RE X WE (.Name x pos) (aa i):=⟨(xO hN hv hd hcd).weak λσ H Q ⟨μ,S,τ,hr,sr,p⟩=>by
 unfold aa at p;split at p
 ·obtain⟨v,e1,r⟩:=sr.get _ _ ‹_›;exact⟨v,e1,p.here hr r⟩
 ·exact p.elim⟩
theorem ah{i j}:RE X WE (.Constant (.int i) j pos) (xC (.int i)):=⟨DS.weak λ_ _ _ ⟨_,_,_,hr,_,p⟩=>p.here hr (Rep.int i)⟩
theorem dR{i j}:RE X WE (.Constant (.bool i) j pos) (xC (.bl i)):=⟨Hw.weak λ_ _ _ ⟨_,_,_,hr,_,p⟩=>p.here hr (Rep.bl i)⟩
theorem cB{x j}:RE X WE (.Constant (.str x) j pos) (xC (.str x)):=⟨EI.weak λ_ _ _ ⟨_,_,_,hr,_,p⟩=>p.here hr (Rep.str x)⟩
theorem GK(hg:Gl X x)(hm:X.mg x=some (.ref f))(hd:(x==("__debug__":Str))=false:=by decide):RE X WE (.Name x pos) (xFn x):=
 ⟨(CL (v:=.ref f) hg hm rfl hd).weak λ_ _ _ ⟨_,_,_,hr,_,p⟩=>p.here hr ⟨f,hm,rfl⟩⟩
theorem two(hf:c9 X.K X.mg r f)(h:trE X.K X.mg WE (xOp f xa xb) σ H Q):tOp r (trE X.K X.mg WE xa) (trE X.K X.mg WE xb) σ H Q:=by
 obtain⟨μ,S,τ,hr,sr,p⟩:=h;refine⟨μ,S,τ,hr,sr,p.bind λv x S1 μ1 H1 st1 r1 p1=>?_⟩;refine⟨μ1,S1,τ,st1.hr,sr.step st1,p1.bind λw y S2 μ2 H2 st2 r2 p2=>?_⟩;exact hf WE μ2 S2 H2 v w x y Q st2.hr (r1.step st2) r2 p2
theorem az(ho:OpR X (binaryOp op) r)(hf:c9 X.K X.mg r f)(ha:RE X WE a xa)(hb:RE X WE b xb):RE X WE (.BinOp a op b pos) (xOp f xa xb):=
 ⟨(Gm ho ha.h hb.h).weak λ_ _ _ h=>two hf h⟩
theorem c_(ho:UnR X (unaryOp op) r)(hf:DR X.K X.mg r f)(ha:RE X WE a xa):RE X WE (.UnaryOp op a pos) (xUn f xa):=
 ⟨(GA ho ha.h).weak λσ H Q ⟨μ,S,τ,hr,sr,p⟩=>⟨μ,S,τ,hr,sr,p.bind λv x S1 μ1 H1 st1 r1 p1=>hf WE μ1 S1 H1 v x Q st1.hr r1 p1⟩⟩
theorem eZ(ho:OpR X (compareOp op) r)(hf:c9 X.K X.mg r f)(ha:RE X WE a xa)(hb:RE X WE b xb)(hm:behindInMarks op b=false:=by first |exact zH _ |with_unfolding_all rfl):RE X WE (.Compare a [op] [b] pos) (xOp f xa xb):=
 ⟨(Cc ho ha.h hb.h hm).weak λ_ _ _ h=>two hf h⟩
theorem vz(h:trT X.K X.mg WE (ba xa) σ H Q):trE X.K X.mg WE xa σ H λv H'=>∃k,v=.bl k/\Q k H':=by
 obtain⟨μ,S,τ,hr,sr,p⟩:=h;refine⟨μ,S,τ,hr,sr,p.bind λv x S1 μ1 H1 st1 r1 p1=>?_⟩;unfold asB at p1;split at p1
 ·cases(show Rep (vh μ1 S1 H1) v (.bl _)from r1);exact⟨_,rfl,p1.here st1.hr rfl⟩
 ·exact p1.elim
theorem bf(ho:OpR X (compareOp op) r)(hf:c9 X.K X.mg r f)(ha:RE X WE a xa)(hb:RE X WE b xb)(hm:behindInMarks op b=false:=by first |exact zH _ |with_unfolding_all rfl):RT X WE (.Compare a [op] [b] pos) (ba (xOp f xa xb)):=
 ⟨(DC ho ha.h hb.h hm).weak λ_ _ _ h=>two hf (vz h)⟩
theorem sh(hf:c9 X.K X.mg r f)(hf':c9 X.K X.mg r' f')(h:trE X.K X.mg WE (eh f f' xa xb xc) σ H Q):sj r r' (trE X.K X.mg WE xa) (trE X.K X.mg WE xb) (trE X.K X.mg WE xc) σ H Q:=by
 obtain⟨μ,S,τ,hr,sr,p⟩:=h;refine⟨μ,S,τ,hr,sr,p.bind λv x S1 μ1 H1 st1 r1 p1=>?_⟩;refine⟨μ1,S1,τ,st1.hr,sr.step st1,p1.bind λw y S2 μ2 H2 st2 r2 p2=>?_⟩;refine hf WE μ2 S2 H2 v w x y _ st2.hr (r1.step st2) r2 (p2.bind λz zz S3 μ3 H3 st3 r3 p3=>?_)
 try dsimp only at p3
 split at p3
 ·cases(show Rep (vh μ3 S3 H3) z (.bl _)from r3);refine⟨_,rfl,?_⟩;split at p3
  ·rename_i k hk;rw[Iw hk];refine⟨μ3,S3,τ,st3.hr,sr.step (st1.trans (st2.trans st3)),p3.bind λq qq S4 μ4 H4 st4 r4 p4=>?_⟩;exact hf' WE μ4 S4 H4 w q y qq Q st4.hr (r2.step (st3.trans st4)) r4 p4
  ·rename_i k hk;rw[IF hk];exact p3.here st3.hr (Rep.bl false)
 ·exact p3.elim
theorem j6(ho:OpR X (compareOp op) r)(hf:c9 X.K X.mg r f)(ho':OpR X (compareOp op') r')(hf':c9 X.K X.mg r' f')(ha:RE X WE a xa)(hb:RE X WE b xb)(hc:RE X WE c xc)
  (hm:lastMarks [op,op'] [b,c]=false:=by with_unfolding_all rfl):RE X WE (.Compare a [op,op'] [b,c] pos) (eh f f' xa xb xc):=⟨(As ho ho' ha.h hb.h hc.h hm).weak λ_ _ _ h=>sh hf hf' h⟩
theorem rq(ho:OpR X (compareOp op) r)(hf:c9 X.K X.mg r f)(ho':OpR X (compareOp op') r')(hf':c9 X.K X.mg r' f')(ha:RE X WE a xa)(hb:RE X WE b xb)(hc:RE X WE c xc)
  (hm:lastMarks [op,op'] [b,c]=false:=by with_unfolding_all rfl):RT X WE (.Compare a [op,op'] [b,c] pos) (ba (eh f f' xa xb xc)):=⟨(zX ho ho' ha.h hb.h hc.h hm).weak λ_ _ _ h=>sh hf hf' (vz h)⟩
theorem isE{α β:Type}{xs:List α}{ys:List β}(h:xs.length=ys.length):(!xs.isEmpty)=!ys.isEmpty:=by
  cases xs<;>cases ys<;>first |rfl |simp at h
theorem EO{K:Iy}{mg:Str->Option Value}{WE:WX}{μ:Nat->Addr}{S:Sto}{H:Hp}{v:V}{x:Vl}{Q:Bool->Hp->Prop}(hr:HR μ S H)(r:aS K mg μ S H v x)(p:aL RlQ WE μ S H (tru x S) Q):∃k,Bq K v H k/\Q k H:=by
 unfold tru at p;split at p
 ·cases(show Rep (vh μ S H) v .non from r);exact⟨false,rfl,p.here hr rfl⟩
 ·cases(show Rep (vh μ S H) v (.bl _)from r);exact⟨_,rfl,p.here hr rfl⟩
 ·cases(show Rep (vh μ S H) v (.int _)from r);exact⟨_,rfl,p.here hr rfl⟩
 ·cases(show Rep (vh μ S H) v (.tup _)from r)with
  |tup h rs=>exact⟨_,.inr (.inl ⟨_,SqT.of (aM h).2,rfl⟩),by rw[isE rs.length];exact p.here hr rfl⟩
 ·cases(show Rep (vh μ S H) v (.lst _)from r)with
  |lst h rs=>exact⟨_,.inl ⟨_,SqL.of (aM h).2,rfl⟩,by rw[isE rs.length];exact p.here hr rfl⟩
 ·obtain⟨rfl,hn⟩:=r;split at p
  ·rename_i xs e;obtain⟨vs,h,rs⟩:=hr.ob _ _ e;exact⟨_,.inl ⟨_,SqL.of h,rfl⟩,by rw[isE rs.length];exact p.here hr rfl⟩
  ·rename_i kvs e;obtain⟨vs,l,h,rs⟩:=hr.ob _ _ e;exact⟨_,.inr (.inr ⟨_,h,rfl⟩),by rw[isE (ys:=kvs) (by simp[l])];exact p.here hr rfl⟩
  ·exact p.elim
 ·exact p.elim
theorem c6(ha:RE X WE a xa)(he:∀whole,isTrue a X.env whole=(do let v<-whole;standAt a.pos;holding [v] (truthy v)):=by intro _;rfl):RT X WE a (eE xa):=
 ⟨(AG ha.h he).weak λσ H Q ⟨μ,S,τ,hr,sr,p⟩=>⟨μ,S,τ,hr,sr,p.bind λv x S1 μ1 H1 st1 r1 p1=>EO st1.hr r1 p1⟩⟩
theorem hU(ha:RT X WE a t):RW X WE (.BoolOp .Or [a] pos) t:=⟨ER ha.h⟩
theorem iE(ha:RT X WE a t)(hb:RW X WE (.BoolOp .Or (b::es) pos) u):RW X WE (.BoolOp .Or (a::b::es) pos) (xOr t u):=
 ⟨(GD ha.h hb.h).weak λσ H Q ⟨μ,S,τ,hr,sr,p⟩=>⟨μ,S,τ,hr,sr,p.bind λk k' S1 μ1 H1 st1 r1 p1=>by
  cases(show k=k' from r1)
  try dsimp only at p1
  split at p1
  ·rename_i hk;rw[Iw hk];exact p1.here st1.hr rfl
  ·rename_i hk;rw[IF hk];exact⟨μ1,S1,τ,st1.hr,sr.step st1,p1⟩⟩⟩
theorem RW.rt(h:RW X WE a t):RT X WE a t:=⟨h.h.pt⟩
theorem c5(ha:RT X WE a t):RT X WE (.UnaryOp .Not a pos) (eK t):=
 ⟨(Fm ha.h).weak λσ H Q ⟨μ,S,τ,hr,sr,p⟩=>⟨μ,S,τ,hr,sr,p.bind λk k' S1 μ1 H1 st1 r1 p1=>by
  cases(show k=k' from r1);exact p1.here st1.hr rfl⟩⟩
theorem yl{K:Iy}{mg:Str->Option Value}{α β:Type}{Rl:(Nat->Addr)->Sto->Hp->β->α->Prop}{μ:Nat->Addr}{S:Sto}{H:Hp}{v:V}{x:Vl}{Q:β->Hp->Prop}{f:Bool->Sto->R α}(r:aS K mg μ S H v x)(p:aL Rl WE μ S H ((asB x S).bind f) Q):∃k,v=.bl k/\aL Rl WE μ S H (f k S) Q:=by
 unfold asB at p;split at p
 ·cases(show Rep (vh μ S H) v (.bl _)from r);exact⟨_,rfl,p⟩
 ·exact p.elim
theorem eW{op}(ha:RE X WE a xa):RE X WE (.BoolOp op [a] pos) xa:=⟨Ez ha.h⟩
theorem dg(ha:RE X WE a xa)(hb:RE X WE (.BoolOp .And (b::es) pos) xb):RE X WE (.BoolOp .And (a::b::es) pos) (dA xa xb):=
 ⟨(FQ ha.h hb.h).weak λσ H Q ⟨μ,S,τ,hr,sr,p⟩=>⟨μ,S,τ,hr,sr,p.bind λv x S1 μ1 H1 st1 r1 p1=>by
  obtain⟨k,rfl,p1⟩:=yl r1 p1;refine⟨k,rfl,?_⟩;split at p1
  ·rename_i hk;rw[Iw hk];exact⟨μ1,S1,τ,st1.hr,sr.step st1,p1⟩
  ·rename_i hk;rw[IF hk];exact p1.here st1.hr (Rep.bl false)⟩⟩
theorem zk(ha:RE X WE a xa):RE X WE (.UnaryOp .Not a pos) (qR xa):=
 ⟨(EZ ha.h).weak λσ H Q ⟨μ,S,τ,hr,sr,p⟩=>⟨μ,S,τ,hr,sr,p.bind λv x S1 μ1 H1 st1 r1 p1=>by
  obtain⟨k,rfl,p1⟩:=yl r1 p1;exact⟨k,rfl,p1.here st1.hr (Rep.bl _)⟩⟩⟩
theorem ai:RA X WE [] aj:=⟨fY.weak λσ H Q ⟨μ,S,τ,hr,sr,p⟩=>p.here hr .nil⟩
theorem ae[n:NS e](ha:RE X WE e xe)(hr:RA X WE es ts):RA X WE (e::es) (ab xe ts):=
 ⟨(dN ha.h hr.h (n.eq es X.env)).weak λσ H Q ⟨μ,S,τ,hr,sr,p⟩=>⟨μ,S,τ,hr,sr,p.bind λv x S1 μ1 H1 st1 r1 p1=>⟨μ1,S1,τ,st1.hr,sr.step st1,p1.bind λvs xs S2 μ2 H2 st2 r2 p2=>
  p2.here st2.hr (.cons (r1.step st2) r2)⟩⟩⟩
theorem eU{K:Iy}{mg:Str->Option Value}{μ:Nat->Addr}{S:Sto}{H:Hp}:∀{vs:List V}{xs:List Vl}{ds:List D},bx K mg μ S H vs xs->iK xs=some ds->aw (vh μ S H) vs ds
 |_,_,_,.nil,e=>by simp[iK]at e;subst e;exact .nil
 |_,_,ds,@bx.cons _ _ _ _ _ v x vs xs r t,e=>by
  cases x with
  |d x=>
   simp only[iK,K8]at e;obtain⟨es,e1,rfl⟩:=e;exact .cons r (eU t e1)
  |_=>simp[iK]at e
theorem iT(h:n<=100000):n<=sizeLine:=by rw[Kd];omega
theorem aL.mL{K:Iy}{mg:Str->Option Value}{μ:Nat->Addr}{S:Sto}{H:Hp}{Q:VK}{vs:List V}{ds:List D}(hr:HR μ S H)(rs:aw (vh μ S H) vs ds)(p:aL (aS K mg) WE μ S H (.ok (.d (.tup ds)) S) Q)(q:Addr)(hq:H q=none):Q (.ref q) (upd H q (.tup vs)):=by
 have st:=Step.new hr hq (.tup vs);exact p _ μ _ st (Rep.tup (bM bY (hr.nal hq)) (rs.mono st.vis))
theorem di{ts:XA}{k:Nat}(h:RA X WE es ts):RE X WE (.Tuple es k pos) (xN mkT ts):=
 ⟨(yb h.h).weak λσ H Q ⟨μ,S,τ,hr,sr,p⟩=>⟨μ,S,τ,hr,sr,p.bind λvs xs S1 μ1 H1 st1 r1 p1=>by
  unfold mkT at p1;split at p1
  ·rename_i ds e;split at p1
   ·have rs:=eU r1 e;refine⟨iT (by rw[rs.length];assumption),λq hq=>p1.mL st1.hr rs q hq⟩
   ·exact p1.elim
  ·exact p1.elim⟩⟩
end
section
variable{X:Cx}{WE:WX}{a b c e:Expr}{xa xb xc xe:XE}{pos:Pos}{es:List Expr}{t u:XT}{K:Iy}{mg:Str->Option Value}{μ:Nat->Addr}{S:Sto}{H:Hp}{Q:VK}{vs:List V}{ds:List D}
theorem aL.jB(hr:HR μ S H)(rs:aw (vh μ S H) vs ds)(p:aL (aS K mg) WE μ S H (.ok (.d (.lst ds)) S) Q)(q:Addr)(hq:H q=none):Q (.ref q) (upd H q (.lst vs)):=by
 have st:=Step.new hr hq (.lst vs);exact p _ μ _ st (Rep.lst (bM bY (hr.nal hq)) (rs.mono st.vis))
theorem aL.AI(hr:HR μ S H)(rs:aw (vh μ S H) vs ds)(p:aL (aS K mg) WE μ S H (.ok (.r S.length) (S++[.lst ds])) Q)(q:Addr)(hq:H q=none):Q (.ref q) (upd H q (.lst vs)):=
 p _ _ _ (Step.alloc hr hq (ob:=.lst ds) ⟨vs,rfl,rs⟩) ⟨by rw[cC],by simp⟩
theorem cE{ts:XA}(h:RA X WE es ts):RE X WE (.List es pos) (xN mkL ts):=
 ⟨(zb h.h).weak λσ H Q ⟨μ,S,τ,hr,sr,p⟩=>⟨μ,S,τ,hr,sr,p.bind λvs xs S1 μ1 H1 st1 r1 p1=>by
  unfold mkL at p1;split at p1
  ·rename_i ds e;split at p1
   ·have rs:=eU r1 e;refine⟨iT (by rw[rs.length];assumption),λq hq=>p1.jB st1.hr rs q hq⟩
   ·exact p1.elim
  ·exact p1.elim⟩⟩
theorem gO{ts:XA}(h:RA X WE es ts):RE X WE (.List es pos) (xN mkM ts):=
 ⟨(zb h.h).weak λσ H Q ⟨μ,S,τ,hr,sr,p⟩=>⟨μ,S,τ,hr,sr,p.bind λvs xs S1 μ1 H1 st1 r1 p1=>by
  unfold mkM at p1;split at p1
  ·rename_i ds e;split at p1
   ·have rs:=eU r1 e;refine⟨iT (by rw[rs.length];assumption),λq hq=>p1.AI st1.hr rs q hq⟩
   ·exact p1.elim
  ·exact p1.elim⟩⟩
theorem ow(ha:RE X WE a xa):RE X WE a (xFz xa):=
 ⟨λpins s σ H Q I ⟨μ,S,τ,hr,sr,p⟩=>by
  refine thn (ha.h pins s σ H (λv H1=>∃μ1 S1 x,HR μ1 S1 H1/\aS X.K X.mg μ1 S1 H1 v x/\aL (aS X.K X.mg) WE μ1 S1 H1 (frz x S1) Q) I ⟨μ,S,τ,hr,sr,p.bind λv x S1 μ1 H1 st1 r1 p1=>⟨μ1,S1,x,st1.hr,r1,p1⟩⟩) λu s1 ⟨v,H1,I1,ru,μ1,S1,x,hr1,r1,p1⟩=>?_;unfold frz at p1;split at p1
  ·obtain⟨rfl,hn⟩:=r1;split at p1
   ·rename_i n xs e;obtain⟨vs,h,rs⟩:=hr1.ob _ _ e;obtain⟨st2,na⟩:=Step.freeze hr1 e (by simp);exact⟨_,H1,I1,ru,p1 _ _ _ st2 (Rep.lst (bM h na) (rs.mono st2.vis))⟩
   ·rename_i n _ kvs e;obtain⟨vs,l,h,rs⟩:=hr1.ob _ _ e;have ok:bz X.prog X.w H1 s1.heap (μ1 n) (.dK ((kvs.map (·.1)).zip vs)):=I1.hok _ _ h;obtain⟨z1,z2,ws,rel,o,es,ep,ho,r⟩:=ok;obtain⟨st2,na⟩:=Step.Bn hr1 (.frz o (.dK ((kvs.map (·.1)).zip vs))) e (by simp);exact⟨_,_,I1.write (o:=.frz o (.dK ((kvs.map (·.1)).zip vs))) (h':=s1.heap) (x:=μ1 n) (e:=μ1 n) (t':=s1.toks) (by rw[h];exact True.intro) (.inl rfl) (λb q _ hq=>hq) ⟨o,ho⟩ (show _/\_ from⟨ho,z1,z2,ws,rel,o,es,ep,ho,r⟩),ru,p1 _ _ _ st2 ⟨_,vs,o,rfl,l,bM bY na,rs.mono st2.vis⟩⟩
   ·exact p1.elim
  ·exact⟨_,H1,I1,ru,p1.here hr1 r1⟩⟩
theorem aB{x:Str}{p:Pos}{id:String}{r:List V->Hp->VK->Prop}{f:List Vl->Sto->R Vl}{ts:XA}[n:NS e](hc:bJ X (.builtin id) r)(hf:f6 X.K X.mg r f)(hm:X.mg x=none)(hv:bootBuiltins x=some (.builtin id))(ha:RA X WE (e::es) ts)(hg:Gl X x:=by exact rfl)(hn:x≠"__name__":=by decide)(hdb:(x==("__debug__":Str))=false:=by decide)
  (hpl:(backTo pos (starEach es X.env)).any (·.1)=false:=by rfl):RE X WE (.Call (.Name x p) (e::es) [] pos) (xN f ts):=
 ⟨(Aw hc hg hm hv ha.h hn hdb (n.eq es X.env) hpl).weak λσ H Q ⟨μ,S,τ,hr,sr,p⟩=>⟨μ,S,τ,hr,sr,p.bind λvs xs S1 μ1 H1 st1 r1 p1=>hf WE μ1 S1 H1 vs xs Q st1.hr r1 p1⟩⟩
theorem bP{x:Str}{p:Pos}{T:String}{r:List V->Hp->VK->Prop}{f:List Vl->Sto->R Vl}{ts:XA}[n:NS e](hc:bJ X (.type T) r)(hf:f6 X.K X.mg r f)(hm:X.mg x=none)(hv:bootBuiltins x=some (.type T))(ha:RA X WE (e::es) ts)(hg:Gl X x:=by exact rfl)(hn:x≠"__name__":=by decide)(hdb:(x==("__debug__":Str))=false:=by decide)
  (hpl:(backTo pos (starEach es X.env)).any (·.1)=false:=by rfl):RE X WE (.Call (.Name x p) (e::es) [] pos) (xN f ts):=
 ⟨(yG hc hg hm hv ha.h hn hdb (n.eq es X.env) hpl).weak λσ H Q ⟨μ,S,τ,hr,sr,p⟩=>⟨μ,S,τ,hr,sr,p.bind λvs xs S1 μ1 H1 st1 r1 p1=>hf WE μ1 S1 H1 vs xs Q st1.hr r1 p1⟩⟩
noncomputable def spM(K:Iy)(mg:Str->Option Value)(F:XF):Sp:=λvs H Q _=>∃μ S us,HR μ S H/\bx K mg μ S H vs us/\aL (aS K mg) W0 μ S H (F us S) Q
noncomputable def noX{α:Type}(r:R α):R α:=match r with
 | .ex _ _ _=>.bad
 |r=>r
noncomputable def aA(F:XF)(as:XA):XE:=λτ S=>(as τ S).bind λus S1=>noX (F us S1)
theorem aL.noX{α β:Type}{Rl:(Nat->Addr)->Sto->Hp->β->α->Prop}{res:R α}{Q:β->Hp->Prop}(h:aL Rl WE μ S H (noX res) Q):aL Rl W0 μ S H res Q:=by
 cases res with
 |ok a S'=>exact h
 |ex c xs S'=>exact h.elim
 |bad=>exact h.elim
end
section
variable{X:Cx}{WE:WX}{e:Expr}{es:List Expr}{pos p:Pos}{lev j:Nat}{ps:List Str}{F:XF}{x:Str}{ts:XA}
def OkE(P:Program)(w:World)(K:Iy)(mg:Str->Option Value)(lev:Nat)(x:Str)(ps:List Str)(M:XF):Prop:=∃(f:Addr)(fd:FuncData),mg x=some (.ref f)/\LO K (.ref f)=true/\(∀us:List Value,us.length=ps.length->bindArgs fd ⟨us,[]⟩=pure (ps.zip us))/\∀base,dG P w K mg base CX0 lev f fd ps (spM K mg M)
theorem av[n:NS e](G:OkE X.prog X.w X.K X.mg lev x ps F)(hr:cL j X.A)(ha:RA X WE (e::es) ts)(hj:lev<=j:=by decide)(hg:Gl X x:=by exact rfl)
  (hdb:(x==("__debug__":Str))=false:=by decide) (hpl:(backTo pos (starEach es X.env)).any (·.1)=false:=by rfl):RE X WE (.Call (.Name x p) (e::es) [] pos) (aA F ts):=by
 obtain⟨f,fd,hm,hk,hb,G⟩:=G;exact⟨(Dz (G X.base) (hr.mono hj) hg hm hk (.all hb) .nil BH ha.h hdb (n.eq es X.env) hpl).weak λσ H Q ⟨μ,S,τ,hr,sr,p⟩=>⟨μ,S,τ,hr,sr,p.bind λvs xs S1 μ1 H1 st1 r1 p1=>by
  rw[KS];exact⟨μ1,S1,xs,st1.hr,r1,p1.noX⟩⟩⟩
end
noncomputable def out(S:Sto)(z:Vl)(S':Sto):R Vl:=match z with
 | .r n=>if n<S.length then .ok (.r n) (S'.take S.length)else match S'[n]? with
  |some (.lst xs)=>.ok (.r S.length) (S'.take S.length++[.lst xs])
  |some (.dct kvs)=>.ok (.r S.length) (S'.take S.length++[.dct kvs])
  |_=>.bad
 | .pr x n=>if n<S.length then .ok (.pr x n) (S'.take S.length)else match S'[n]? with
  |some (.lst xs)=>.ok (.pr x S.length) (S'.take S.length++[.lst xs])
  |_=>.bad
 |z=>.ok z (S'.take S.length)
noncomputable def leave(S:Sto)(r:R (Fl×Nv)):R Vl:=match r with
 | .ok q S'=>(match q.1 with
  | .nx=>out S (.d .non) S'
  | .rt z=>out S z S'
  |_=>.bad)
 | .ex c xs S'=>.ex c xs (S'.take S.length)
 | .bad=>.bad
noncomputable def aW(k n:Nat)(b:XS):XF:=λus S=>if us.length=k then leave S (b (us.map some++Jw (n-k) none) S)else .bad
section
variable{K:Iy}{mg:Str->Option Value}{μ μ':Nat->Addr}{S S':Sto}{H H':Hp}{Q:VK}
theorem dv{k:Nat}:dw (vh μ S H) (vh μ (S.take k) H):=λb u q=>by
 obtain⟨z,q⟩:=aM q;refine bM q ?_;rintro⟨m,u,e,d,rfl⟩;exact z ⟨m,u,(de e).2,d,rfl⟩
theorem Di{k n:Nat}{ob:Ob}(hk:k<=S.length)(e0:S[n]?=some ob)(d0:ob≠.dead):dw (vh μ S H) (vh (ext μ k (μ n)) (S.take k++[ob]) H):=λb u q=>by
 obtain⟨z,q⟩:=aM q;refine bM q ?_;rintro⟨m,u,e,d,rfl⟩;have lt:(S.take k).length=k:=by rw[IY];omega
 by_cases hm:m<k
 ·rw[Jb (by omega)]at e;exact z ⟨m,u,(de e).2,d,by rw[k9 (IZ hm)]⟩
 ·have hm':m=k:=by
   have:=(IJ.mp e).1;simp only[IH,lt,Ji]at this;omega
  subst hm';exact z ⟨n,ob,e0,d0,by rw[cC]⟩
theorem zp{WE:WX}{v:V}{z:Vl}(st:Step μ S H μ' S' H')(r:aS K mg μ' S' H' v z)(p:aL (aS K mg) WE μ S H (out S z S') Q):Q v H':=by
 have st':=st.take;cases z with
 |d x=>exact p v μ' H' st' (Rep.mono dv r)
 |fd kvs=>obtain⟨a,vs,o,e,l,h,rs⟩:=r;exact p v μ' H' st' ⟨a,vs,o,e,l,dv _ _ h,rs.mono dv⟩
 |fn x=>exact p v μ' H' st' r
 |sc ns=>obtain⟨l,e,h⟩:=r;exact p v μ' H' st' ⟨l,e,h.mono dv⟩
 |xc c xs=>obtain⟨a,C,e,m,h⟩:=r;exact p v μ' H' st' ⟨a,C,e,m,h.mono dv⟩
 |kt ws=>exact p v μ' H' st' r
 |xl es=>obtain⟨l,vs,e,q,h⟩:=r;exact p v μ' H' st' ⟨l,vs,e,dv _ _ q,h.mono dv⟩
 |pr x n=>
  obtain⟨a,u,rfl,h,ru,hn⟩:=r;unfold out at p
  try dsimp only at p
  split at p
  ·exact p _ μ' H' st' ⟨a,u,rfl,dv _ _ h,Rep.mono dv ru,by rw[IY];omega⟩
  ·have lt:(S'.take S.length).length=S.length:=by rw[IY];have:=st.le;omega
   split at p
   ·rename_i xs e;have k:=Di (μ:=μ') (H:=H') (k:=S.length) st.le e (by simp);exact p _ _ H' (st.move (by omega) e (by simp)) ⟨a,u,rfl,by rw[cC];exact k _ _ h,Rep.mono k ru,by simp[lt]⟩
   ·exact p.elim
 |r n=>
  obtain⟨rfl,hn⟩:=r;unfold out at p
  try dsimp only at p
  split at p
  ·exact p _ μ' H' st' ⟨rfl,by rw[IY];omega⟩
  ·have lt:(S'.take S.length).length=S.length:=by rw[IY];have:=st.le;omega
   split at p
   ·rename_i xs e;exact p _ _ H' (st.move (by omega) e (by simp)) ⟨by rw[cC],by simp[lt]⟩
   ·rename_i xs e;exact p _ _ H' (st.move (by omega) e (by simp)) ⟨by rw[cC],by simp[lt]⟩
   ·exact p.elim
theorem HS{P:Program}{w:World}{base:Heap}{x qual:Str}{st:Stmt}{f:Addr}{fd:FuncData}{N ps:List Str}{lev:Nat}{m:XS}(F:Fun K x qual st f fd)(Sc:jr N ps (bN st))
  (hb:∀(cdv:Value)(A:Around)(outer:List Env)(s:Shared)(H:Hp)(E:XK),cL lev (A.deeper (envOfC qual (bN st) s.heap.objs.size f cdv))->RB (kS CX0 P w K mg base N qual (bN st) f cdv A outer s H E).nox W0 (eQ st) m) :
  dG P w K mg base CX0 (lev+1) f fd ps (spM K mg (aW ps.length N.length m)):=by
 refine F.ok Sc (λvs H Q E h=>?_) (λcdv A outer s H vs Q E hr h=>?_)
 ·obtain⟨μ,S,us,hr,rs,p⟩:=h;unfold aW at p;split at p
  ·rw[rs.length];assumption
  ·exact p.elim
 ·refine⟨_,(hb cdv A outer s H E hr).h,?_⟩;obtain⟨μ,S,us,hr,rs,p⟩:=h;unfold aW at p;split at p
  ·rename_i hl;have sr:b5 K mg μ S H (start N vs) (us.map some++Jw (N.length-ps.length) none):=by
    rw[<-hl];exact b5.beg rs
   refine⟨μ,S,_,hr,sr,?_⟩;generalize m (us.map some++Jw (N.length-ps.length) none) S=res at p;cases res with
   |bad=>exact p.elim
   |ex c xs S'=>exactλμ' H' st=>p μ' H' st.take
   |ok q S'=>
    obtain⟨fl,τ'⟩:=q;rintro⟨fv,σ'⟩ μ' H' st ⟨sr',fr⟩;cases fl with
    |nx=>
     cases fv with
     |nx=>exact zp (K:=K) (mg:=mg) (v:=.non) (z:=.d .non) st Rep.non p
     |_=>exact(show False from fr).elim
    |rt z=>
     cases fv with
     |rt v=>exact zp st fr p
     |_=>exact(show False from fr).elim
    |bk=>exact(show False from p).elim
    |ct=>exact(show False from p).elim
  ·exact p.elim
end
noncomputable def aX:XS:=λτ S=>.ok (.nx,τ) S
noncomputable def ay(a b:XS):XS:=λτ S=>(a τ S).bind λq S1=>match q.1 with
 | .nx=>b q.2 S1
 |_=>.ok q S1
noncomputable def cK(e:XE):XS:=λτ S=>(e τ S).bind λ_ S1=>.ok (.nx,τ) S1
noncomputable def aR(e:XE):XS:=λτ S=>(e τ S).bind λz S1=>.ok (.rt z,τ) S1
noncomputable def xIf(c:XT)(a b:XS):XS:=λτ S=>(c τ S).bind λk S1=>if k=true then a τ S1 else b τ S1
noncomputable def ck:XS:=λ_ _=>.bad
noncomputable def aK(e:XE)(g:XG):XS:=λτ S=>(e τ S).bind λz S1=>(g z τ S1).bind λτ1 S2=>.ok (.nx,τ1) S2
noncomputable def gNm(i:Nat):XG:=λz τ S=>.ok (τ.set i (some z)) S
noncomputable def gTu(n:Nat)(g:XGs):XG:=λz τ S=>match z with
 | .d (.tup xs)=>if xs.length=n then g (xs.map Vl.d) τ S else .bad
 |_=>.bad
noncomputable def gN0:XGs:=λzs τ S=>match zs with
 | []=>.ok τ S
 |_=>.bad
noncomputable def gCo(g:XG)(gs:XGs):XGs:=λzs τ S=>match zs with
 |z::r=>(g z τ S).bind λτ1 S1=>gs r τ1 S1
 | []=>.bad
noncomputable def gSb(o i:XE)(f:Vl->Vl->Vl->Sto->R Unit):XG:=λz τ S=>(o τ S).bind λx S1=>(i τ S1).bind λy S2=>(f x y z S2).bind λ_ S3=>.ok τ S3
def gok(gd:Option (Nat×Ob))(S:Sto):Prop:=match gd with
 |none=>True
 |some (n,o)=>S[n]?=some o
open Classical in
noncomputable def cc (g:XG) (b:XS) (gd:Option (Nat×Ob)):List Vl->Nv->Sto->R (Fl×Nv)
 | [],τ,S=>.ok (.nx,τ) S
 |z::zs,τ,S=>(g z τ S).bind λτ1 S1=>(b τ1 S1).bind λq S2=>match q.1 with
  | .bk=>.ok (.nx,q.2) S2
  | .rt v=>.ok (.rt v,q.2) S2
  |_=>if gok gd S2 then cc g b gd zs q.2 S2 else .bad
noncomputable def cy(it:XI)(g:XG)(b:XS):XS:=λτ S=>(it τ S).bind λI S1=>cc g b I.gd I.items τ S1
section
variable{X:Cx}{WE:WX}{e c tg iter:Expr}{xe:XE}{t:XT}{pos:Pos}{st:Stmt}{sts sts':List Stmt}{m m':XS}{g:XG}{gs:XGs}{it:XI}
theorem aT:RB X WE [] aX:=⟨CP.weak λD σ H ⟨μ,S,τ,hr,sr,p⟩=>p.here (b:=(FlV.nx,σ)) hr ⟨sr,True.intro⟩⟩
theorem au(h:RS X WE st m):RB X WE [st] m:=⟨C1 h.h⟩
theorem aq(h:RS X WE st m)(h':RB X WE sts m'):RB X WE (st::sts) (ay m m'):=
 ⟨(A3 h.h h'.h).weak λD σ H ⟨μ,S,τ,hr,sr,p⟩=>⟨μ,S,τ,hr,sr,p.bind λb q S1 μ1 H1 st1 r1 p1=>by
  obtain⟨fv,σ1⟩:=b;obtain⟨fl,τ1⟩:=q;obtain⟨sr1,fr⟩:=r1;cases fl with
  |nx=>cases fv with
   |nx=>exact⟨μ1,S1,τ1,st1.hr,sr1,p1⟩
   |_=>exact(show False from fr).elim
  |bk=>cases fv with
   |bk=>exact(show D.at (FlV.bk,σ1) H1 from aL.here (b:=(FlV.bk,σ1)) st1.hr p1 ⟨sr1,True.intro⟩)
   |_=>exact(show False from fr).elim
  |ct=>cases fv with
   |ct=>exact(show D.at (FlV.ct,σ1) H1 from aL.here (b:=(FlV.ct,σ1)) st1.hr p1 ⟨sr1,True.intro⟩)
   |_=>exact(show False from fr).elim
  |rt z=>cases fv with
   |rt v=>exact(show D.at (FlV.rt v,σ1) H1 from aL.here (b:=(FlV.rt v,σ1)) st1.hr p1 ⟨sr1,fr⟩)
   |_=>exact(show False from fr).elim⟩⟩
theorem cz(he:RE X WE e xe)(hs:swapsWith e none pos.line X.env=pure false:=by rfl):RS X WE (.Expr e pos) (cK xe):=
 ⟨(C7 he.h hs).weak λD σ H ⟨μ,S,τ,hr,sr,p⟩=>⟨μ,S,τ,hr,sr,p.bind λv x S1 μ1 H1 st1 r1 p1=>p1.here (b:=(FlV.nx,σ)) st1.hr ⟨sr.step st1,True.intro⟩⟩⟩
theorem aG(he:RE X WE e xe):RS X WE (.Return (some e) pos) (aR xe):=
 ⟨(D_ he.h).weak λD σ H ⟨μ,S,τ,hr,sr,p⟩=>⟨μ,S,τ,hr,sr,p.bind λv x S1 μ1 H1 st1 r1 p1=>p1.here (b:=(FlV.rt v,σ)) st1.hr ⟨sr.step st1,r1⟩⟩⟩
theorem mT:RS X WE st ck:=⟨λ_ _ _ _ _ _ ⟨_,_,_,_,_,p⟩=>p.elim⟩
theorem bg(hc:RT X WE c t)(ha:RB X WE sts m)(hb:RB X WE sts' m'):RS X WE (.If c sts sts' pos) (xIf t m m'):=
 ⟨(He hc.h ha.h hb.h).weak λD σ H ⟨μ,S,τ,hr,sr,p⟩=>⟨μ,S,τ,hr,sr,p.bind λk k' S1 μ1 H1 st1 r1 p1=>by
  cases(show k=k' from r1)
  try dsimp only at p1
  split at p1
  ·rename_i hk;rw[Iw hk];exact⟨μ1,S1,τ,st1.hr,sr.step st1,p1⟩
  ·rename_i hk;rw[IF hk];exact⟨μ1,S1,τ,st1.hr,sr.step st1,p1⟩⟩⟩
structure LQ(sc:Scope)(N:List Str):Prop where
 nd:N.Nodup
theorem aF{i:Nat}{x:Str}{sc:Scope}(q:LQ sc X.N)(hi:X.N[i]?=some x:=by exact rfl)(hx:Loc X.env.scope x:=by first |exact .inl rfl |exact .inr rfl)(hf:X.fn x=true\/X.env.scope.names.lookup x=some .local:=by first |exact .inl rfl |exact .inr rfl |assumption):RG X WE (.Name x pos) (gNm i):=
 ⟨(Dc q.nd hi hx hf).weak λv σ H Q ⟨μ,S,τ,z,hr,sr,r,p⟩=>p.here hr (sr.set i r)⟩
theorem gJ:RGs X WE [] gN0:=⟨Dt.weak λvs σ H Q ⟨μ,S,τ,zs,hr,sr,r,p⟩=>by
 unfold gN0 at p;split at p
 ·cases r;exact⟨rfl,p.here hr sr⟩
 ·exact p.elim⟩
theorem bO{es:List Expr}(h:RG X WE e g)(h':RGs X WE es gs)(hs:(assignEach (e::es) X.env).map (·.2)=assign e X.env::(assignEach es X.env).map (·.2):=by rfl):RGs X WE (e::es) (gCo g gs):=
 ⟨(zM h.h h'.h hs).weak λvs σ H Q ⟨μ,S,τ,zs,hr,sr,r,p⟩=>by
  unfold gCo at p;split at p
  ·cases r with
   |cons r1 rr=>exact⟨_,_,rfl,μ,S,τ,_,hr,sr,r1,p.bind λσ1 τ1 S1 μ1 H1 st1 sr1 p1=>⟨μ1,S1,τ1,_,st1.hr,sr1,rr.step st1,p1⟩⟩
  ·exact p.elim⟩
theorem lE{n:Nat}{es:List Expr}{k:Nat}(h:RGs X WE es gs)(hc:X.calm=true:=by exact rfl)(hn:(assignEach es X.env).length=n:=by rfl)(hst:(assignEach es X.env).findIdx? (·.1)=none:=by rfl):RG X WE (.Tuple es k pos) (gTu n gs):=
 ⟨(xJ hc h.h hn hst).weak λv σ H Q ⟨μ,S,τ,z,hr,sr,r,p⟩=>by
  unfold gTu at p;split at p
  ·split at p
   ·rename_i xs hl;cases(show Rep (vh μ S H) v (.tup xs)from r)with
    |tup h rs=>exact⟨_,_,rfl,SqT.of (aM h).2,by rw[rs.length];exact hl,μ,S,τ,_,hr,sr,bx.oQ rs,p⟩
   ·exact p.elim
  ·exact p.elim⟩
def yp(K:Iy)(mg:Str->Option Value)(ts:tJ)(f:Vl->Vl->Vl->Sto->R Unit):Prop:=∀(WE:WX)(μ:Nat->Addr)(S:Sto)(H:Hp)(o i v:V)(x y z:Vl)(Q:Unit->Hp->Prop),HR μ S H->aS K mg μ S H o x->aS K mg μ S H i y->aS K mg μ S H v z->aL (λ_ _ _(_ _:Unit)=>True) WE μ S H (f x y z S) Q->ts o i v H (Q ())
theorem lF{o i:Expr}{xo xi:XE}{ts:tJ}{f:Vl->Vl->Vl->Sto->R Unit}(ho:RE X WE o xo)(hi:RE X WE i xi)(hs:wj X ts)(hf:yp X.K X.mg ts f)
  (ha:∀v,assign (.Subscript o i pos) X.env v=(do
   let ov<-holding [v] (eval o X.env)
   let iv<-holding [v,ov] (eval i X.env)
   standAt pos
   holding [v,ov,iv] (setItem ov iv v)
   release [v,ov,iv] []):=by intro _;rfl):RG X WE (.Subscript o i pos) (gSb xo xi f):=
 ⟨(DX ho.h hi.h hs ha).weak λv σ H Q ⟨μ,S,τ,z,hr,sr,r,p⟩=>⟨μ,S,τ,hr,sr,p.bind λov x S1 μ1 H1 st1 r1 p1=>⟨μ1,S1,τ,st1.hr,sr.step st1,p1.bind λiv y S2 μ2 H2 st2 r2 p2=>
  hf WE μ2 S2 H2 ov iv v x y z (λ_ H3=>Q σ H3) st2.hr (r1.step st2) r2 (r.step (st1.trans st2)) (p2.bind λ_ _ S3 μ3 H3 st3 _ p3=>p3.here st3.hr (sr.step (st1.trans (st2.trans st3))))⟩⟩⟩
theorem h9(he:RE X WE e xe)(hg:RG X WE tg g)(hs:swapsWithSole [tg] e pos.line X.env=pure false:=by rfl)(hw:swappedStores [tg] e X.env=pure none:=by rfl)
  (h1:(assignEach [tg] X.env).map (·.2)=[assign tg X.env]:=by rfl):RS X WE (.Assign [tg] e pos) (aK xe g):=
 ⟨(DK he.h hg.h hs hw h1).weak λD σ H ⟨μ,S,τ,hr,sr,p⟩=>⟨μ,S,τ,hr,sr,p.bind λv x S1 μ1 H1 st1 r1 p1=>⟨μ1,S1,τ,x,st1.hr,sr.step st1,r1,p1.bind λσ2 τ2 S2 μ2 H2 st2 sr2 p2=>p2.here (b:=(FlV.nx,σ2)) st2.hr ⟨sr2,True.intro⟩⟩⟩⟩
theorem aH{i:Nat}{x:Str}{pos':Pos}{sc:Scope}(q:LQ sc X.N)(he:RE X WE e xe)(hi:X.N[i]?=some x:=by exact rfl)(hx:Loc X.env.scope x:=by first |exact .inl rfl |exact .inr rfl)(hs:swapsWith e (some (.Name x pos')) pos.line X.env=pure false:=by rfl)(hf:X.fn x=true\/X.env.scope.names.lookup x=some .local:=by first |exact .inl rfl |exact .inr rfl |assumption) :
  RS X WE (.Assign [.Name x pos'] e pos) (aK xe (gNm i)):=
 ⟨(D8 q.nd hi hx he.h hs hf).weak λD σ H ⟨μ,S,τ,hr,sr,p⟩=>⟨μ,S,τ,hr,sr,p.bind λv x S1 μ1 H1 st1 r1 p1=>p1.here (b:=(FlV.nx,σ.set i (some v))) st1.hr ⟨(sr.step st1).set i r1,True.intro⟩⟩⟩
theorem DI{I:Its}{S:Sto}(h:gok I.gd S):I.ok S:=h
open Classical in
theorem bV (hi:RI X WE tg iter it) (hg:RG X WE tg g) (hb:RB X WE sts m) (hp:PassesOwn (model X.prog X.w) X.A X.env X.xe:=by first |exact PassesOwn.never |exact PassesOwn.leaving) (hc:X.calm=true:=by exact rfl) (hs:∀x,foldedSetIterable iter X.env x=pure x:=by intro _;rfl):RS X WE (.For tg iter sts [] pos) (cy it g m):=
 ⟨(Fp hp hc hi.h hg.h hb.h hs).weak λD σ H ⟨μ,S,τ,hr,sr,p⟩=>⟨μ,S,τ,hr,sr,p.bind λJ I S1 μ1 H1 st1 io p1=>by
  refine⟨λi k σ' H'=>∃μ' S' τ',Step μ1 S1 H1 μ' S' H'/\b5 X.K X.mg μ' S' H' σ' τ'/\I.ok S'/\k+i=I.items.length/\aL (RlS X.K X.mg) WE μ' S' H' (cc g m I.gd (I.items.drop i) τ' S') D.at,
   ⟨I.items.length,μ1,S1,τ,Step.refl st1.hr,sr.step st1,io.ok,by simp,p1⟩,?_⟩
  rintro i k σ' H' ⟨μ',S',τ',st',sr',ok',hk,p'⟩
  by_cases hlt:i<I.items.length
  ·have hz:I.items[i]?=some I.items[i]:=H0 hlt
   rw[KQ hlt,cc]at p'
   refine .inr ⟨io.go i _ μ' S' H' st' ok' hz,_,λσ2 H2 n=>⟨I.items.length-(i+1),by omega,n⟩,λx H2 y=>?_⟩
   obtain⟨st2,rx⟩:=io.yld i _ μ' S' H' x H2 st' ok' hz y
   refine⟨μ',S',τ',_,st2.hr,sr'.step st2,rx,(p'.shift st2).bind λσ3 τ3 S3 μ3 H3 st3 sr3 p3=>⟨μ3,S3,τ3,st3.hr,sr3,p3.bind λq qq S4 μ4 H4 st4 r4 p4=>?_⟩⟩
   obtain⟨fv,σ4⟩:=q
   obtain⟨fl,τ4⟩:=qq
   obtain⟨sr4,fr⟩:=r4
   have go:∀{b},aL (RlS X.K X.mg) WE μ4 S4 H4 (if gok I.gd S4 then cc g m I.gd (I.items.drop (i+1)) τ4 S4 else .bad) D.at->b=σ4->∃μ' S' τ',Step μ1 S1 H1 μ' S' H4/\b5 X.K X.mg μ' S' H4 b τ'/\I.ok S'/\I.items.length-(i+1)+(i+1)=I.items.length/\aL (RlS X.K X.mg) WE μ' S' H4 (cc g m I.gd (I.items.drop (i+1)) τ' S') D.at:=by
    rintro b p5 rfl
    split at p5
    ·exact⟨μ4,S4,τ4,st'.trans (st2.trans (st3.trans st4)),sr4,DI ‹_›,by omega,p5⟩
    ·exact p5.elim
   cases fl with
   |nx=>cases fv with
    |nx=>exact go p4 rfl
    |_=>exact(show False from fr).elim
   |ct=>cases fv with
    |ct=>exact go p4 rfl
    |_=>exact(show False from fr).elim
   |bk=>cases fv with
    |bk=>exact(show D.at (FlV.nx,σ4) H4 from aL.here (b:=(FlV.nx,σ4)) st4.hr p4 ⟨sr4,True.intro⟩)
    |_=>exact(show False from fr).elim
   |rt z=>cases fv with
    |rt v=>exact(show D.at (FlV.rt v,σ4) H4 from aL.here (b:=(FlV.rt v,σ4)) st4.hr p4 ⟨sr4,fr⟩)
    |_=>exact(show False from fr).elim
  ·rw[J6 (by omega),cc]at p'
   exact .inl ⟨io.stop i μ' S' H' st' ok' (by omega),p'.here (b:=(FlV.nx,σ')) st'.hr ⟨sr',True.intro⟩⟩⟩⟩
end
open Classical in
noncomputable def eG (g:XG) (t:XT) (e:XE) (n:Nat) (gd:Option (Nat×Ob)):List Vl->List D->Nv->Sto->R (List D)
 | [],acc,_,S=>if S[n]?=some (.lst acc)then .ok acc S else .bad
 |z::zs,acc,τ,S=>(g z τ S).bind λτ1 S1=>(t τ1 S1).bind λb S2=>if b=true then(e τ1 S2).bind λv S3=>(match v with
   | .d x=>if S3[n]?=some (.lst acc)/\gok gd (S3.set n (.lst (acc++[x])))then eG g t e n gd zs (acc++[x]) τ1 (S3.set n (.lst (acc++[x])))else .bad
   |_=>.bad)
  else if gok gd S2 then eG g t e n gd zs acc τ1 S2 else .bad
noncomputable def lP(n:Nat)(acc:List D)(S:Sto):R Vl:=.ok (.d (.lst acc)) (if S.length=n+1 then S.take n else S.set n .dead)
noncomputable def tQ(fin:Nat->List D->Sto->R Vl)(it:XI)(k:Nat)(g:XG)(t:XT)(e:XE):XE:=λτ S=>(it τ S).bind λI S1=>(eG g t e S1.length I.gd I.items [] (Jw k none++τ) (S1++[.lst []])).bind λacc S2=>fin S1.length acc S2
noncomputable abbrev xLC:XI->Nat->XG->XT->XE->XE:=tQ lP
def qV(fin:Nat->List D->Sto->R Vl):Prop:=∀(K:Iy)(mg:Str->Option Value)(WE:WX)(μ μ':Nat->Addr)(S S':Sto)(H H':Hp)(acc:List D)(D:Addr)(Q:VK),Step μ S H μ' S' H'->S'[S.length]?=some (.lst acc)->μ' S.length=D->aL (aS K mg) WE μ S H (fin S.length acc S') Q->Q (.ref D) H'
theorem b_:qV lP:=by
 intro K mg WE μ μ' S S' H H' acc D Q st e hD p;obtain⟨vs,h,rs⟩:=st.hr.ob _ _ e;have hn:S.length<S'.length:=(IJ.mp e).1;unfold lP at p;by_cases hl:S'.length=S.length+1
 ·rw[Iw hl]at p;refine p _ _ _ st.take (Rep.lst (vs:=vs) (bM (by rw[<-hD];exact h) ?_) (rs.mono dv));rintro⟨m,u,e2,d2,q⟩;obtain⟨hm,e3⟩:=de e2;have:=st.hr.inj m S.length u _ e3 e d2 (by simp) (by rw[q,hD]);omega
 ·rw[IF hl]at p;obtain⟨st2,na⟩:=Step.freeze st.hr e (by simp);refine p _ _ _ (st.trans st2) (Rep.lst (vs:=vs) (bM (by rw[<-hD];exact h) (by rw[<-hD];exact na)) (rs.mono st2.vis))
section
variable{X:Cx}{WE:WX}{tg elt iter:Expr}{ifs:List Expr}{scope:Scope}{pos:Pos}{it:XI}{g:XG}{t:XT}{e:XE}{N:List Str}{k:Nat}{fin:Nat->List D->Sto->R Vl}
theorem Cg:RTs X WE [] (λ_ S=>.ok true S):=⟨λpins s σ H Q I ⟨μ,S,τ,hr,sr,p⟩=>Cm pins s σ H Q I (p.here hr rfl)⟩
theorem CB{c:Expr}(h:RT X WE c t):RTs X WE [c] t:=⟨CW h.h⟩
theorem aL.v7{α β γ δ:Type}{Rl:(Nat->Addr)->Sto->Hp->β->α->Prop}{Rl2:(Nat->Addr)->Sto->Hp->δ->γ->Prop}{μ μ1:Nat->Addr}{S S1:Sto}{H H1:Hp}{res:R α}{Q:β->Hp->Prop}{Q2:δ->Hp->Prop}{f:α->Sto->R γ}
  (h:aL Rl2 WE μ S H (res.bind f) Q2) (a:Step μ S H μ1 S1 H1) (kk:∀b x S2 μ2 H2,Step μ1 S1 H1 μ2 S2 H2->Rl μ2 S2 H2 b x->aL Rl2 WE μ S H (f x S2) Q2->Q b H2):aL Rl WE μ1 S1 H1 res Q:=by
 cases res with
 |ok x S'=>exactλb μ' H' st r=>kk b x S' μ' H' st r h
 |ex c xs S'=>exactλμ' H' st=>h μ' H' (a.trans st)
 |bad=>exact h
noncomputable def WEd(WE:WX)(H3:Hp):WX:=λc xs S μ H'=>(∀b o,H3 b=some o->∃o',H' b=some o')/\WE c xs S μ H'
theorem aL.exd{α β:Type}{Rl:(Nat->Addr)->Sto->Hp->β->α->Prop}{μ:Nat->Addr}{S:Sto}{H H3:Hp}{res:R α}{Q:β->Hp->Prop}(h:aL Rl WE μ S H res Q)(k:∀μ' S' H',Step μ S H μ' S' H'->∀b o,H3 b=some o->∃o',H' b=some o'):aL Rl (WEd WE H3) μ S H res Q:=by
 cases res with
 |ok x S'=>exact h
 |ex c xs S'=>exactλμ' H' st=>⟨k _ _ _ st,h μ' H' st⟩
 |bad=>exact h
theorem EC{K:Iy}{mg:Str->Option Value}{H3:Hp}{σ:St}{H:Hp}{Q:VK}(h:trE K mg (WEd WE H3) e σ H Q):trE K mg WE e σ H Q:=by
 obtain⟨μ,S,τ,hr,sr,p⟩:=h;refine⟨μ,S,τ,hr,sr,?_⟩;generalize e τ S=res at p;cases res with
 |ok x S'=>exact p
 |ex c xs S'=>exactλμ' H' st=>(p μ' H' st).2
 |bad=>exact p
theorem LCW.weak{J:It}{g:TG}{tt:TT}{te te':TE}{D:Addr}{σ:St}{H1:Hp}{Q:Hp->Prop}(h:LCW J g tt te k D σ H1 Q)(gm:∀{x σ H Q Q'},g x σ H Q->(∀σ H,Q σ H->Q' σ H)->g x σ H Q')(tm:∀{σ H Q Q'},tt σ H Q->(∀b H,Q b H->Q' b H)->tt σ H Q')(em:∀{σ H Q},te σ H Q->te' σ H Q):LCW J g tt te' k D σ H1 Q:=by
 obtain⟨W,w0,st⟩:=h;refine⟨W,w0,λi m σ' H' w=>(st i m σ' H' w).imp id λ⟨go,N,hN,q⟩=>⟨go,N,hN,λx H2 y=>gm (q x H2 y) λσ3 H3 z=>tm z λb H4 z=>?_⟩⟩;cases b
 ·exact z
 ·exact em z
open Classical in
theorem DU (hfin:qV fin) {σ:St} {H:Hp} {Q:VK} (h:trE X.K X.mg WE (tQ fin it k g t e) σ H Q):Fv (trI X.K X.mg WE it) (trG X.K X.mg WE g) (trT X.K X.mg WE t) (λH3=>trE X.K X.mg (WEd WE H3) e) k σ H Q:=by
 obtain⟨μ,S,τ,hr,sr,p⟩:=h
 refine⟨μ,S,τ,hr,sr,p.bind λJ I S1 μ1 H1 st1 io p1=>λD hD=>?_⟩
 have st0:Step μ1 S1 H1 (ext μ1 S1.length D) (S1++[.lst []]) (upd H1 D (.lst [])):=Step.alloc st1.hr hD (ob:=.lst []) ⟨[],rfl,.nil⟩
 have hlen:(S1++[Ob.lst []]).length=S1.length+1:=by simp
 refine⟨λi j σ' H'=>∃μ' S' τ' acc,Step (ext μ1 S1.length D) (S1++[.lst []]) (upd H1 D (.lst [])) μ' S' H'/\b5 X.K X.mg μ' S' H' σ' τ'/\I.ok S'/\j+i=I.items.length/\acc.length<=i /\
   aL (aS X.K X.mg) WE μ1 S1 H1 ((eG g t e S1.length I.gd (I.items.drop i) acc τ' S').bind λacc S2=>fin S1.length acc S2) Q,
  ⟨I.items.length,_,_,_,[],Step.refl st0.hr,((sr.step st1).step st0).pre k,?_,by simp,IB _,p1⟩,?_⟩
 ·have ok:=io.ok
  unfold Its.ok at ok ⊢
  split
  ·trivial
  ·rename_i n o hg
   rw[hg]at ok
   have hn:n<S1.length:=(IJ.mp ok).1
   rw[Jb hn];exact ok
 rintro i j σ' H' ⟨μ',S',τ',acc,st',sr',ok',hj,hacc,p'⟩
 have stA:=st0.trans st'
 have hn:S1.length<S'.length:=by have:=st'.le;omega
 have hμ:μ' S1.length=D:=by rw[st'.ag S1.length (by omega),cC]
 by_cases hlt:i<I.items.length
 ·have hz:I.items[i]?=some I.items[i]:=H0 hlt
  rw[KQ hlt,eG]at p'
  refine .inr ⟨io.go i _ μ' S' H' stA ok' hz,_,λσ2 H2 n=>⟨I.items.length-(i+1),by omega,n⟩,λx H2 y=>?_⟩
  obtain⟨st2,rx⟩:=io.yld i _ μ' S' H' x H2 stA ok' hz y
  have bb:∀{α β γ:Type}(r:R α)(f:α->Sto->R β)(f':β->Sto->R γ),(r.bind f).bind f'=r.bind λa S=>(f a S).bind f':=λr f f'=>by cases r<;>rfl
  simp only[bb]at p'
  refine⟨μ',S',τ',_,st2.hr,sr'.step st2,rx,p'.v7 (stA.trans st2) λσ3 τ3 S3 μ3 H3 st3 sr3 p3=>?_⟩
  refine⟨μ3,S3,τ3,st3.hr,sr3,p3.v7 (stA.trans (st2.trans st3)) λb b' S4 μ4 H4 st4 r4 p4=>?_⟩
  cases(show b=b' from r4)
  have st24:=st2.trans (st3.trans st4)
  by_cases hb:b=true
  ·rw[Iw hb]at p4 ⊢
   rw[bb]at p4
   refine⟨μ4,S4,τ3,st4.hr,sr3.step st4,(p4.v7 (Rl:=aS X.K X.mg) (stA.trans st24) λv z S5 μ5 H5 st5 r5 p5=>?_).exd λ_ _ _ st=>(st'.trans (st24.trans st)).dm⟩
   have st25:=st24.trans st5
   cases z with
   |d x=>
    try dsimp only at p5
    by_cases hif:S5[S1.length]?=some (.lst acc)/\gok I.gd (S5.set S1.length (.lst (acc++[x])))
    ·rw[Iw hif]at p5
     obtain⟨vs,h5,rs⟩:=st5.hr.ob _ _ hif.1
     have hμ5:μ5 S1.length=D:=by rw[st25.ag S1.length (by omega)];exact hμ
     rw[hμ5]at h5
     have sp:Step μ5 S5 H5 μ5 (S5.set S1.length (.lst (acc++[x]))) (upd H5 (μ5 S1.length) (.lst (vs++[v]))):=Step.put st5.hr hif.1 (by simp) (ob:=.lst (acc++[x])) ⟨_,rfl,rs.append (.cons r5 .nil)⟩
     rw[hμ5]at sp
     have lz:=io.len
     have lv:=rs.length
     refine⟨vs,h5,by omega,μ5,_,τ3,acc++[x],st'.trans (st25.trans sp),(sr3.step (st4.trans st5)).step sp,hif.2,by omega,by simp;omega,p5⟩
    ·rw[IF hif]at p5
     exact p5.elim
   |_=>exact p5.elim
  ·rw[IF hb]at p4 ⊢
   by_cases hif:gok I.gd S4
   ·rw[Iw hif]at p4
    exact⟨μ4,S4,τ3,acc,st'.trans st24,sr3.step st4,hif,by omega,by omega,p4⟩
   ·rw[IF hif]at p4
    exact p4.elim
 ·rw[J6 (by omega),eG]at p'
  refine .inl ⟨io.stop i μ' S' H' stA ok' (by omega),?_⟩
  by_cases hif:S'[S1.length]?=some (.lst acc)
  ·rw[Iw hif]at p'
   exact hfin X.K X.mg WE μ1 μ' S1 S' H1 H' acc D Q stA hif hμ p'
  ·rw[IF hif]at p'
   exact p'.elim
theorem Gn(hfin:qV fin){σ:St}{H:Hp}{Q:VK}(h:trE X.K X.mg WE (tQ fin it k g t e) σ H Q):tLC (trI X.K X.mg WE it) (trG X.K X.mg WE g) (trT X.K X.mg WE t) (trE X.K X.mg WE e) k σ H Q:=by
 obtain⟨μ,S,τ,hr,sr,p⟩:=DU hfin h;exact⟨μ,S,τ,hr,sr,p.imp λJ H1 q D hD=>(q D hD).weak (λ⟨μ,S,τ,z,a,b,c,p⟩ k=>⟨μ,S,τ,z,a,b,c,p.imp k⟩) (λ⟨μ,S,τ,a,b,p⟩ k=>⟨μ,S,τ,a,b,p.imp k⟩) EC⟩
theorem rt0:∀C s H fp,RTs (cx X scope N C s H fp) WE [] (λ_ S=>.ok true S):=λ_ _ _ _=>Cg
theorem cI{esc:Scope}{EN:List Str}(hfin:qV fin)(N:List Str)(q:LQ esc EN)(hi:RI X WE tg iter it)(hg:∀C s H fp,LQ scope N->RG (cx X scope N C s H fp) WE tg g)(ht:∀C s H fp,RTs (cx X scope N C s H fp) WE ifs t)(he:∀C s H fp,RE (cx X scope N C s H fp) WE elt e)(hd:N.Nodup:=by decide+kernel)
  (Sc:fE esc scope EN N k:=by exact⟨rfl,by decide+kernel,by decide+kernel,by decide+kernel,by decide+kernel,by decide+kernel⟩) (h1:X.env.scope=esc:=by exact rfl) (h2:X.N=EN:=by exact rfl) (hc:X.calm=true:=by exact rfl) (hs:∀x,foldedSetIterable iter X.env x=pure x:=by intro _;rfl):RE X WE (.ListComp elt [⟨tg,iter,ifs,0⟩] scope pos) (tQ fin it k g t e):=
 ⟨(G7 hc Sc h1 h2 hi.h (λC s H fp=>(hg C s H fp ⟨hd⟩).h) (λC s H fp=>(ht C s H fp).h) (λC s H fp=>(he C s H fp).h) hs).weak λσ H Q h=>Gn (X:=X) hfin h⟩
end
noncomputable def cU(x:Vl)(S:Sto):Option (List D):=match x with
 | .d (.lst xs)=>some xs
 | .r n=>(match S[n]? with
  |some (.lst xs)=>some xs
  |_=>none)
 |_=>none
noncomputable def bX(x:Vl)(S:Sto):Option (List D):=match x with
 | .d (.tup xs)=>some xs
 |x=>cU x S
section
variable{K:Iy}{mg:Str->Option Value}{μ:Nat->Addr}{S:Sto}{H:Hp}{v:V}{x:Vl}{ds:List D}{WE:WX}{Q:VK}
theorem d_(hr:HR μ S H)(r:aS K mg μ S H v x)(e:cU x S=some ds):∃a vs,v=.ref a/\H a=some (.lst vs)/\aw (vh μ S H) vs ds:=by
 unfold cU at e;split at e
 ·cases e;cases(show Rep (vh μ S H) v (.lst _)from r)with
  |lst h rs=>exact⟨_,_,rfl,(aM h).2,rs⟩
 ·split at e
  ·rename_i q;cases e;obtain⟨rfl,hn⟩:=r;obtain⟨vs,h,rs⟩:=hr.ob _ _ q;exact⟨_,vs,rfl,h,rs⟩
  ·cases e
 ·cases e
theorem gU(hr:HR μ S H)(r:aS K mg μ S H v x)(e:bX x S=some ds):∃a vs,v=.ref a/\(H a=some (.lst vs)\/H a=some (.tup vs))/\aw (vh μ S H) vs ds:=by
 unfold bX at e;split at e
 ·cases e;cases(show Rep (vh μ S H) v (.tup _)from r)with
  |tup h rs=>exact⟨_,_,rfl,.inr (aM h).2,rs⟩
 ·obtain⟨a,vs,e1,e2,e3⟩:=d_ hr r e;exact⟨a,vs,e1,.inl e2,e3⟩
theorem jb(h:H a=some (.lst vs)\/H a=some (.tup vs)):g_ H a=some vs:=h.elim D9 ES
theorem aY(r:aS K mg μ S H v (.d (.int i))):v=.int i:=by cases(show Rep (vh μ S H) v (.int i)from r);rfl
theorem xR(r:aS K mg μ S H v (.d (.bl i))):v=.bl i:=by cases(show Rep (vh μ S H) v (.bl i)from r);rfl
theorem fV(r:aS K mg μ S H v (.d (.str i))):v=.str i:=by cases(show Rep (vh μ S H) v (.str i)from r);rfl
theorem gH(r:aS K mg μ S H v (.d .non)):v=.non:=by cases(show Rep (vh μ S H) v .non from r);rfl
theorem fe(r:aS K mg μ S H v (.d (.tup ds))):∃a vs,v=.ref a/\H a=some (.tup vs)/\vh μ S H a=some (.tup vs)/\aw (vh μ S H) vs ds:=by
 cases(show Rep (vh μ S H) v (.tup _)from r)with
 |tup h rs=>exact⟨_,_,rfl,(aM h).2,h,rs⟩
end
noncomputable def oI(C:Int->Int->Prop)[∀i j,Decidable (C i j)](f:Int->Int->D)(x y:Vl)(S:Sto):R Vl:=match x,y with
 | .d (.int i),.d (.int j)=>if C i j then .ok (.d (f i j)) S else .bad
 |_,_=>.bad
noncomputable def oI0(f:Int->Int->D)(x y:Vl)(S:Sto):R Vl:=match x,y with
 | .d (.int i),.d (.int j)=>.ok (.d (f i j)) S
 |_,_=>.bad
section
variable{K:Iy}{mg:Str->Option Value}
theorem bE[∀i j,Decidable (C i j)](f:Int->Int->Int):c9 K mg (rI C λi j=>V.int (f i j)) (oI C λi j=>D.int (f i j)):=by
 intro WE μ S H v w x y Q hr rx ry p;unfold oI at p;split at p
 ·split at p
  ·exact⟨_,_,aY rx,aY ry,‹_›,p.here hr (Rep.int _)⟩
  ·exact p.elim
 ·exact p.elim
theorem fu(f:Int->Int->Int):c9 K mg (rI0 λi j=>V.int (f i j)) (oI0 λi j=>D.int (f i j)):=by
 intro WE μ S H v w x y Q hr rx ry p;unfold oI0 at p;split at p
 ·exact⟨_,_,aY rx,aY ry,p.here hr (Rep.int _)⟩
 ·exact p.elim
theorem bL(f:Int->Int->Bool):c9 K mg (rI0 λi j=>V.bl (f i j)) (oI0 λi j=>D.bl (f i j)):=by
 intro WE μ S H v w x y Q hr rx ry p;unfold oI0 at p;split at p
 ·exact⟨_,_,aY rx,aY ry,p.here hr (Rep.bl _)⟩
 ·exact p.elim
end
noncomputable instance(i j:Int):Decidable (jW i j):=by unfold jW;infer_instance
noncomputable instance(i j:Int):Decidable (pq i j):=by unfold pq;infer_instance
noncomputable instance(i j:Int):Decidable (oO i j):=by unfold oO;infer_instance
noncomputable abbrev jM:=oI0 λi j=>D.int (i-j)
noncomputable abbrev fg:=oI jW λi j=>D.int (i*j)
noncomputable abbrev oMod:=oI (λ_ j=>0<j) λi j=>D.int (i % j)
noncomputable abbrev oDiv:=oI pq λi j=>D.int (i / j)
noncomputable abbrev pL:=oI oO λi j=>D.int (i ^ j.toNat)
noncomputable abbrev oLt:=oI0 λi j=>D.bl (decide (i<j))
noncomputable abbrev oLe:=oI0 λi j=>D.bl (decide (i<=j))
noncomputable abbrev oGt:=oI0 λi j=>D.bl (decide (j<i))
noncomputable abbrev oGe:=oI0 λi j=>D.bl (decide (j<=i))
noncomputable def cX(x:Vl)(S:Sto):R Vl:=match x with
 | .d (.int i)=>.ok (.d (.int (-i))) S
 |_=>.bad
noncomputable def aI(x y:Vl)(S:Sto):R Vl:=match x,y with
 | .d (.int i),.d (.int j)=>.ok (.d (.int (i+j))) S
 | .d (.tup a),.d (.tup b)=>if a.length+b.length<=100000 then .ok (.d (.tup (a++b))) S else .bad
 | .d (.str a),.d (.str b)=>if a.length+b.length<=100000 then .ok (.d (.str (a++b))) S else .bad
 |x,y=>(match cU x S,cU y S with
  |some a,some b=>if a.length+b.length<=100000 then .ok (.d (.lst (a++b))) S else .bad
  |_,_=>.bad)
noncomputable def eqD(x y:Vl)(S:Sto):Option Bool:=match x,y with
 | .d .non,.d .non=>some true
 | .d .non,.d (.int _)=>some false
 | .d .non,.d (.str _)=>some false
 | .d (.int _),.d .non=>some false
 | .d (.str _),.d .non=>some false
 | .d (.int i),.d (.int j)=>some (decide (i=j))
 | .d (.bl i),.d (.bl j)=>some (decide (i=j))
 | .d (.str i),.d (.str j)=>some (decide (i=j))
 | .d (.int _),.d (.str _)=>some false
 | .d (.str _),.d (.int _)=>some false
 | .d (.tup a),.d (.tup b)=>if D.depth (.tup a)<=50 then some (D.bS a b)else none
 |x,y=>(match cU x S,cU y S with
  |some a,some b=>if D.depth (.lst a)<=50 then some (D.bS a b)else none
  |_,_=>none)
noncomputable def oEq(x y:Vl)(S:Sto):R Vl:=match eqD x y S with
 |some b=>.ok (.d (.bl b)) S
 |none=>.bad
noncomputable def oNe(x y:Vl)(S:Sto):R Vl:=match eqD x y S with
 |some b=>.ok (.d (.bl (!b))) S
 |none=>.bad
section
variable{K:Iy}{mg:Str->Option Value}
theorem cb:DR K mg (rU λi=>.int (-i)) cX:=by
 intro WE μ S H v x Q hr rx p;unfold cX at p;split at p
 ·exact⟨_,aY rx,p.here hr (Rep.int _)⟩
 ·exact p.elim
noncomputable def B0:R2:=λx y H Q=>BC x y H Q\/∃i j,x=.str i/\y=.str j/\i.length+j.length<=sizeLine/\Q (.str (i++j)) H
theorem aD:OpR X (binaryOp .Add) B0:=CU.or vT
theorem aC:c9 K mg B0 aI:=by
 intro WE μ S H v w x y Q hr rx ry p;unfold aI at p;split at p
 ·exact .inl (.inl ⟨_,_,aY rx,aY ry,p.here hr (Rep.int _)⟩)
 ·split at p
  ·rename_i a b hl;obtain⟨p1,us,rfl,h1,g1,r1⟩:=fe rx;obtain⟨p2,ws,rfl,h2,g2,r2⟩:=fe ry;have l1:=r1.length;have l2:=r2.length;refine .inl (.inr ⟨p1,p2,rfl,rfl,.inl ⟨us,ws,h1,h2,iT (by omega),λe=>?_,λ_ e=>?_,λ_ _ q hq=>p.mL hr (r1.append r2) q hq⟩⟩)
   ·subst e;have:a=[]:=LK l1.symm;subst this;exact p.here hr (Rep.tup g2 r2)
   ·subst e;have:b=[]:=LK l2.symm;subst this;rw[KS]at p;exact p.here hr (Rep.tup g1 r1)
  ·exact p.elim
 ·split at p
  ·exact .inr ⟨_,_,fV rx,fV ry,iT ‹_›,p.here hr (Rep.str _)⟩
  ·exact p.elim
 ·split at p
  ·rename_i a b e1 e2;split at p
   ·obtain⟨p1,us,rfl,h1,r1⟩:=d_ hr rx e1;obtain⟨p2,ws,rfl,h2,r2⟩:=d_ hr ry e2;have l1:=r1.length;have l2:=r2.length;exact .inl (.inr ⟨p1,p2,rfl,rfl,.inr ⟨us,ws,h1,h2,iT (by omega),λq hq=>p.jB hr (r1.append r2) q hq⟩⟩)
   ·exact p.elim
  ·exact p.elim
theorem B5(hr:HR μ S H)(rx:aS K mg μ S H v x)(ry:aS K mg μ S H w y)(e:eqD x y S=some b) :
  (A4 v w=true/\decide (v=w)=b)\/∃d e,Rep H v d/\Rep H w e/\D.depth d<=50/\((∃ds es,d=.tup ds/\e=.tup es)\/∃ds es,d=.lst ds/\e=.lst es)/\D.eqv d e=b:=by
 unfold eqD at e;split at e
 ·cases e;rw[gH rx,gH ry];exact .inl ⟨rfl,by decide⟩
 ·cases e;rw[gH rx,aY ry];exact .inl ⟨rfl,by simp⟩
 ·cases e;rw[gH rx,fV ry];exact .inl ⟨rfl,by simp⟩
 ·cases e;rw[aY rx,gH ry];exact .inl ⟨rfl,by simp⟩
 ·cases e;rw[fV rx,gH ry];exact .inl ⟨rfl,by simp⟩
 ·cases e;rw[aY rx,aY ry];exact .inl ⟨rfl,by simp only[V.int.injEq]⟩
 ·cases e;rw[xR rx,xR ry];exact .inl ⟨rfl,by simp only[V.bl.injEq]⟩
 ·cases e;rw[fV rx,fV ry];exact .inl ⟨rfl,by simp only[V.str.injEq]⟩
 ·cases e;rw[aY rx,fV ry];exact .inl ⟨rfl,by simp⟩
 ·cases e;rw[fV rx,aY ry];exact .inl ⟨rfl,by simp⟩
 ·split at e
  ·cases e;refine .inr ⟨_,_,Rep.mono gD rx,Rep.mono gD ry,‹_›,.inl ⟨_,_,rfl,rfl⟩,?_⟩;simp only[D.eqv]
  ·cases e
 ·split at e
  ·rename_i a b e1 e2;split at e
   ·cases e;obtain⟨p1,us,rfl,h1,r1⟩:=d_ hr rx e1;obtain⟨p2,ws,rfl,h2,r2⟩:=d_ hr ry e2;refine .inr ⟨.lst a,.lst b,.lst h1 (r1.mono gD),.lst h2 (r2.mono gD),‹_›,.inr ⟨_,_,rfl,rfl⟩,?_⟩;simp only[D.eqv]
   ·cases e
  ·cases e
theorem bG:c9 K mg Es oEq:=by
 intro WE μ S H v w x y Q hr rx ry p;unfold oEq at p;split at p
 ·rename_i b e;have q:=p.here hr (Rep.bl b);rcases B5 hr rx ry e with⟨h1,h2⟩ |⟨d,d',h1,h2,h3,h4,h5⟩
  ·exact .inl ⟨h1,by rw[h2];exact q⟩
  ·exact .inr ⟨d,d',h1,h2,h3,h4,by rw[h5];exact q⟩
 ·exact p.elim
theorem i9:c9 K mg Fi oNe:=by
 intro WE μ S H v w x y Q hr rx ry p;unfold oNe at p;split at p
 ·rename_i b e;have q:=p.here hr (Rep.bl (!b));rcases B5 hr rx ry e with⟨h1,h2⟩ |⟨d,d',h1,h2,h3,h4,h5⟩
  ·exact .inl ⟨h1,by rw[h2];exact q⟩
  ·exact .inr ⟨d,d',h1,h2,h3,h4,by rw[h5];exact q⟩
 ·exact p.elim
end
noncomputable def D.flat:D->Bool
 | .tup _=>false
 | .lst _=>false
 |_=>true
noncomputable def inD(x:D)(ds:List D):Bool:=ds.any λe=>D.eqv e x
noncomputable def inX(x y:Vl)(S:Sto):Option Bool:=match x with
 | .d x=>(match bX y S with
  |some ds=>if(D.flat x&&ds.all D.flat)=true then some (inD x ds)else(match cU y S with
   |some ds=>if D.cq ds<=50 then some (inD x ds)else none
   |none=>none)
  |none=>none)
 |_=>none
noncomputable def oIn(x y:Vl)(S:Sto):R Vl:=match inX x y S with
 |some b=>.ok (.d (.bl b)) S
 |none=>.bad
noncomputable def ip(x y:Vl)(S:Sto):R Vl:=match inX x y S with
 |some b=>.ok (.d (.bl (!b))) S
 |none=>.bad
noncomputable def oIx(x y:Vl)(S:Sto):R Vl:=match y with
 | .d (.int i)=>(match bX x S with
  |some ds=>(match atI ds i with
   |some z=>.ok (.d z) S
   |none=>.bad)
  |none=>.bad)
 |_=>.bad
noncomputable def cF(xs:List D)(lo hi:Option Int):List D:=(xs.drop (HT.sIx xs.length 0 lo)).take (HT.sIx xs.length xs.length hi-HT.sIx xs.length 0 lo)
noncomputable def oSl(x:Vl)(lo hi:Option Int)(S:Sto):R Vl:=match x with
 | .d (.tup xs)=>.ok (.d (.tup (cF xs lo hi))) S
 |x=>(match cU x S with
  |some xs=>.ok (.d (.lst (cF xs lo hi))) S
  |none=>.bad)
noncomputable def pv(x y:Vl)(S:Sto):R Vl:=match x,y with
 | .d (.tup xs),.d (.int i)=>if i=-1 then .ok (.d (.tup xs.reverse)) S else .bad
 |_,_=>.bad
section
variable{K:Iy}{mg:Str->Option Value}
theorem tO(r:Rep H v d)(h:D.flat d=true):ez v=true:=by cases r<;>first |rfl |cases h
theorem D3(r:Rep H v d)(q:Rep H w e)(h:D.flat d=true)(h':D.flat e=true):eqV v w=D.eqv d e:=by
  cases r<;>cases q<;>first |rfl |cases h |cases h' |simp[eqV,D.eqv]
theorem qa:∀{vs:List V}{ds:List D},aw H vs ds->ds.all D.flat=true->vs.all ez=true
 |_,_,.nil,_=>rfl
 |_,_,.cons r t,h=>by
  rw[Lj,JR]at h ⊢;exact⟨tO r h.1,qa t h.2⟩
theorem xx(r:Rep H v d)(h:D.flat d=true):∀{vs:List V}{ds:List D},aw H vs ds->ds.all D.flat=true->inV v vs=inD d ds
 |_,_,.nil,_=>rfl
 |_,_,.cons q t,h'=>by
  rw[Lj,JR]at h';have ih:=xx r h t h'.2;unfold inV inD at ih ⊢;rw[K1,K1,D3 q r h'.1 h,ih]
noncomputable def sI(neg:Bool):R2:=λx y H Q=>Af neg x y H Q\/Bc neg x y H Q
theorem in_of(hr:HR μ S H)(rx:aS K mg μ S H v x)(ry:aS K mg μ S H w y)(e:inX x y S=some b)(q:Q (.bl (if neg then !b else b)) H):sI neg v w H Q:=by
 unfold inX at e;split at e
 ·rename_i x;split at e
  ·rename_i ds e1;obtain⟨a,vs,rfl,ha,rs⟩:=gU hr ry e1;split at e
   ·rename_i hf;rw[JR]at hf;cases e;refine .inl ⟨a,vs,rfl,jb ha,tO rx hf.1,qa rs hf.2,?_⟩;rw[xx rx hf.1 rs hf.2];exact q
   ·split at e
    ·rename_i ds e2;split at e
     ·cases e;obtain⟨a',vs',e3,ha',rs'⟩:=d_ hr ry e2;cases e3;exact .inr ⟨_,vs',x,_,rfl,ha',rs'.mono gD,Rep.mono gD rx,‹_›,q⟩
     ·cases e
    ·cases e
  ·cases e
 ·cases e
theorem yT(hu:X.A.units+64<cLine):OpR X (compareOp .In) (sI false):=D7.or (DN hu)
theorem oY(hu:X.A.units+64<cLine):OpR X (compareOp .NotIn) (sI true):=xE.or (za hu)
theorem yI:c9 K mg (sI false) oIn:=by
 intro WE μ S H v w x y Q hr rx ry p;unfold oIn at p;split at p
 ·rename_i b e;exact in_of hr rx ry e (p.here hr (Rep.bl b))
 ·exact p.elim
theorem oW:c9 K mg (sI true) ip:=by
 intro WE μ S H v w x y Q hr rx ry p;unfold ip at p;split at p
 ·rename_i b e;exact in_of hr rx ry e (p.here hr (Rep.bl (!b)))
 ·exact p.elim
theorem AF(rs:aw H vs ds)(e:atI ds i=some z):∃v,atI vs i=some v/\Rep H v z:=by
 unfold atI at e ⊢;rw[rs.length];cases q:ixN ds.length i with
 |none=>rw[q]at e;cases e
 |some j=>
  rw[q]at e;obtain⟨v,e1,r⟩:=rs.get' (show ds[j]?=some z from e);exact⟨v,e1,r⟩
theorem FO:c9 K mg EL oIx:=by
 intro WE μ S H v w x y Q hr rx ry p;unfold oIx at p;split at p
 ·split at p
  ·rename_i ds e1;obtain⟨a,vs,rfl,ha,rs⟩:=gU hr rx e1;split at p
   ·rename_i z e2;obtain⟨u,e3,ru⟩:=AF rs e2;rw[aY ry];exact⟨a,_,vs,u,rfl,rfl,jb ha,e3,p.here hr ru⟩
   ·exact p.elim
  ·exact p.elim
 ·exact p.elim
theorem mP(rs:aw H vs ds)(lo hi:Option Int):aw H (gQ vs lo hi) (cF ds lo hi):=by
 unfold gQ cF;rw[rs.length];exact(rs.drop _).take _
theorem w4{α:Type}{xs:List D}{lo hi:Option Int}(h:ik xs.length lo hi):cF xs lo hi=xs:=by
 unfold cF;rw[h.1,h.2];simp
theorem cm{X:Cx}{WE:WX}{e:Expr}{lo hi:Option Expr}{xa:XE}{xl xh:XO}{p2 pos:Pos}(he:RE X WE e xa)(hl:RO X WE lo xl)(hh:RO X WE hi xh):RE X WE (.Subscript e (.Slice lo hi none p2) pos) (xSl oSl xa xl xh):=
 ⟨(tS Iq he.h hl.h hh.h).weak λσ H Q ⟨μ,S,τ,hr,sr,p⟩=>⟨μ,S,τ,hr,sr,p.bind λv x S1 μ1 H1 st1 r1 p1=>⟨μ1,S1,τ,st1.hr,sr.step st1,p1.bind λi i' S2 μ2 H2 st2 r2 p2=>⟨μ2,S2,τ,st2.hr,sr.step (st1.trans st2),p2.bind λj j' S3 μ3 H3 st3 r3 p3=>by
  cases(show i=i' from r2);cases(show j=j' from r3);have rv:=r1.step (st2.trans st3);unfold oSl at p3;split at p3
  ·rename_i xs;obtain⟨a,vs,rfl,h,g,rs⟩:=fe rv;refine⟨a,rfl,.inl ⟨vs,h,λhw=>?_,λhw q hq=>p3.mL st3.hr (mP rs i j) q hq⟩⟩;rw[rs.length]at hw;rw[w4 (α:=Unit) hw]at p3;exact p3.here st3.hr (Rep.tup g rs)
  ·split at p3
   ·rename_i xs e1;obtain⟨a,vs,rfl,h,rs⟩:=d_ st3.hr rv e1;exact⟨a,rfl,.inr ⟨vs,h,λq hq=>p3.jB st3.hr (mP rs i j) q hq⟩⟩
   ·exact p3.elim⟩⟩⟩⟩
theorem b4:RO X WE none bK:=⟨λpins s σ H Q I ⟨μ,S,τ,hr,sr,p⟩=>C6 pins s σ H Q I (p.here hr rfl)⟩
theorem bw(he:RE X WE e xa):RO X WE (some e) (bR xa):=⟨λpins s σ H Q I ⟨μ,S,τ,hr,sr,p⟩=>Dy he.h pins s σ H Q I ⟨μ,S,τ,hr,sr,p.bind λv x S1 μ1 H1 st1 r1 p1=>by
 try dsimp only at p1
 split at p1
 ·exact⟨_,aY r1,p1.here st1.hr rfl⟩
 ·exact p1.elim⟩⟩
theorem aE(ha:RE X WE a xa)(hb:RE X WE b xb)(hs:vx b:=by exactλ_ _=>rfl):RE X WE (.Subscript a b pos) (xOp oIx xa xb):=⟨(FZ HM ha.h hb.h hs).weak λ_ _ _ h=>two (X:=X) FO h⟩
theorem yX{X:Cx}{WE:WX}{e st:Expr}{xa xb:XE}{p2 pos:Pos}(he:RE X WE e xa)(hs:RE X WE st xb):RE X WE (.Subscript e (.Slice none none (some st) p2) pos) (xOp pv xa xb):=
 ⟨(CT he.h hs.h).weak λσ H Q ⟨μ,S,τ,hr,sr,p⟩=>⟨μ,S,τ,hr,sr,p.bind λv x S1 μ1 H1 st1 r1 p1=>⟨μ1,S1,τ,st1.hr,sr.step st1,p1.bind λw y S2 μ2 H2 st2 r2 p2=>by
  have rv:=r1.step st2;unfold pv at p2;split at p2
  ·split at p2
   ·rename_i hi;obtain⟨a,vs,rfl,h,g,rs⟩:=fe rv;exact⟨a,vs,rfl,by rw[aY r2,hi],h,λq hq=>p2.mL st2.hr rs.reverse q hq⟩
   ·exact p2.elim
  ·exact p2.elim⟩⟩⟩
end
noncomputable def fo:List D->Option (List Bool)
 | []=>some []
 | .bl b::r=>(fo r).map (b::·)
 |_=>none
noncomputable def intsOf:List D->Option (List Int)
 | []=>some []
 | .int b::r=>(intsOf r).map (b::·)
 |_=>none
theorem mY:∀{ds:List D}{bs:List Bool},fo ds=some bs->ds=bs.map D.bl
 | [],_,e=>by simp[fo]at e;subst e;rfl
 |d::ds,bs,e=>by
  cases d with
  |bl b=>
   simp only[fo,K8]at e;obtain⟨cs,e1,rfl⟩:=e;rw[mY e1];rfl
  |_=>simp[fo]at e
theorem kG:∀{ds:List D}{bs:List Int},intsOf ds=some bs->ds=bs.map D.int
 | [],_,e=>by simp[intsOf]at e;subst e;rfl
 |d::ds,bs,e=>by
  cases d with
  |int b=>
   simp only[intsOf,K8]at e;obtain⟨cs,e1,rfl⟩:=e;rw[kG e1];rfl
  |_=>simp[intsOf]at e
theorem j7:∀bs:List Int,intsOf (bs.map D.int)=some bs
 | []=>rfl
 |b::bs=>by simp[intsOf,j7 bs]
theorem aw.sR:∀{vs:List V}{ns:List Bool},aw H vs (ns.map D.bl)->vs=ns.map V.bl
 | [],[],.nil=>rfl
 |v::vs,n::ns,.cons r t=>by
  cases r;rw[IM,aw.sR t]
noncomputable def insI(x:Int):List Int->List Int
 | []=>[x]
 |y::ys=>if x<=y then x::y::ys else y::insI x ys
noncomputable def sortI:List Int->List Int
 | []=>[]
 |x::xs=>insI x (sortI xs)
theorem insI_perm(x:Int):∀ys,(insI x ys).Perm (x::ys)
 | []=>.refl _
 |y::ys=>by
  unfold insI;split
  ·exact .refl _
  ·exact((insI_perm x ys).cons y).trans (.swap x y ys)
theorem sortI_perm:∀xs,(sortI xs).Perm xs
 | []=>.refl _
 |x::xs=>(insI_perm x _).trans ((sortI_perm xs).cons x)
theorem p9(x:Int):∀ys:List Int,ys.Pairwise (·<=·)->(insI x ys).Pairwise (·<=·)
 | [],_=>by simp[insI]
 |y::ys,h=>by
  unfold insI;split
  ·rename_i hxy;refine JQ.mpr ⟨λz hz=>?_,h⟩;rcases IL.mp hz with e |e
   ·omega
   ·have:=(JQ.mp h).1 z e;omega
  ·rename_i hxy;obtain⟨h1,h2⟩:=JQ.mp h;refine JQ.mpr ⟨λz hz=>?_,p9 x ys h2⟩;rcases IL.mp ((insI_perm x ys).mem_iff.mp hz)with e |e
   ·omega
   ·exact h1 z e
theorem jU:∀xs,(sortI xs).Pairwise (·<=·)
 | []=>.nil
 |x::xs=>p9 x _ (jU xs)
theorem oR:∀{xs ys:List Int},xs.Perm ys->xs.Pairwise (·<=·)->ys.Pairwise (·<=·)->xs=ys
 | [],ys,h,_,_=>by rw[List.nil_perm.mp h]
 |x::xs,[],h,_,_=>by simpa using h.length_eq
 |x::xs,y::ys,h,h1,h2=>by
  obtain⟨a1,a2⟩:=JQ.mp h1;obtain⟨b1,b2⟩:=JQ.mp h2;have hx:x∈y::ys:=h.mem_iff.mp (JK ..);have hy:y∈x::xs:=h.mem_iff.mpr (JK ..);have e:x=y:=by
   rcases IL.mp hx with e |e
   ·exact e
   ·rcases IL.mp hy with e' |e'
    ·exact e'.symm
    ·have:=a1 y e';have:=b1 x e;omega
  subst e;rw[oR (List.Perm.cons_inv h) a2 b2]
theorem nc(h:ys.Perm xs)(h1:ys.Pairwise (·<=·)):ys=sortI xs:=oR (h.trans (sortI_perm xs).symm) h1 (jU xs)
noncomputable def bD(xs:List Vl)(S:Sto):R Vl:=match xs with
 | [x]=>(match bX x S with
  |some ds=>.ok (.d (.int ds.length)) S
  |none=>.bad)
 |_=>.bad
noncomputable def cY(xs:List Vl)(S:Sto):R Vl:=match xs with
 | [x]=>(match bX x S with
  |some ds=>.ok (.d (.tup ds)) S
  |none=>.bad)
 |_=>.bad
noncomputable def jS(xs:List Vl)(S:Sto):R Vl:=match xs with
 | [x]=>(match bX x S with
  |some ds=>.ok (.d (.lst ds)) S
  |none=>.bad)
 |_=>.bad
noncomputable def nr(xs:List Vl)(S:Sto):R Vl:=match xs with
 | [x]=>(match bX x S with
  |some ds=>.ok (.r S.length) (S++[.lst ds])
  |none=>.bad)
 |_=>.bad
noncomputable def dX(xs:List Vl)(S:Sto):R Vl:=match xs with
 | [x]=>(match(cU x S).bind fo with
  |some bs=>.ok (.d (.bl (bs.all id))) S
  |none=>.bad)
 |_=>.bad
noncomputable def pN(xs:List Vl)(S:Sto):R Vl:=match xs with
 | [x]=>(match(cU x S).bind fo with
  |some bs=>.ok (.d (.bl (bs.any id))) S
  |none=>.bad)
 |_=>.bad
noncomputable def rP(xs:List Vl)(S:Sto):R Vl:=match xs with
 | [.d (.int i),.d (.int j)]=>.ok (.d (.int (if j>i then j else i))) S
 |_=>.bad
noncomputable def oS(xs:List Vl)(S:Sto):R Vl:=match xs with
 | [.d (.int i),.d (.int j)]=>.ok (.d (.int (if j<i then j else i))) S
 |_=>.bad
section
variable{K:Iy}{mg:Str->Option Value}
theorem bx.one(r:bx K mg μ S H vs [x]):∃v,vs=[v]/\aS K mg μ S H v x:=by
 cases r with |cons r t=>cases t;exact⟨_,rfl,r⟩
theorem bx.two(r:bx K mg μ S H vs [x,y]):∃v w,vs=[v,w]/\aS K mg μ S H v x/\aS K mg μ S H w y:=by
 cases r with |cons r t=>cases t with |cons r' t'=>cases t';exact⟨_,_,rfl,r,r'⟩
theorem aU:f6 K mg B8 bD:=by
 intro WE μ S H vs xs Q hr rs p;unfold bD at p;split at p
 ·obtain⟨v,rfl,r⟩:=rs.one;split at p
  ·obtain⟨a,us,rfl,ha,rr⟩:=gU hr r ‹_›;exact⟨a,us,rfl,jb ha,by rw[rr.length];exact p.here hr (Rep.int _)⟩
  ·exact p.elim
 ·exact p.elim
theorem cf:f6 K mg uP cY:=by
 intro WE μ S H vs xs Q hr rs p;unfold cY at p;split at p
 ·rename_i x;obtain⟨v,rfl,r⟩:=rs.one;split at p
  ·rename_i ds e;unfold bX at e;split at e
   ·cases e;obtain⟨a,us,rfl,h,g,rr⟩:=fe r;exact⟨a,rfl,.inr ⟨us,h,p.here hr (Rep.tup g rr)⟩⟩
   ·obtain⟨a,us,rfl,h,rr⟩:=d_ hr r e;exact⟨a,rfl,.inl ⟨us,h,λq hq=>p.mL hr rr q hq⟩⟩
  ·exact p.elim
 ·exact p.elim
theorem pQ:f6 K mg rN jS:=by
 intro WE μ S H vs xs Q hr rs p;unfold jS at p;split at p
 ·obtain⟨v,rfl,r⟩:=rs.one;split at p
  ·obtain⟨a,us,rfl,ha,rr⟩:=gU hr r ‹_›;exact⟨a,us,rfl,jb ha,λq hq=>p.jB hr rr q hq⟩
  ·exact p.elim
 ·exact p.elim
theorem we:f6 K mg rN nr:=by
 intro WE μ S H vs xs Q hr rs p;unfold nr at p;split at p
 ·obtain⟨v,rfl,r⟩:=rs.one;split at p
  ·obtain⟨a,us,rfl,ha,rr⟩:=gU hr r ‹_›;exact⟨a,us,rfl,jb ha,λq hq=>p.AI hr rr q hq⟩
  ·exact p.elim
 ·exact p.elim
theorem c8:f6 K mg BQ dX:=by
 intro WE μ S H vs xs Q hr rs p;unfold dX at p;split at p
 ·obtain⟨v,rfl,r⟩:=rs.one;split at p
  ·rename_i bs e;obtain⟨ds,e1,e2⟩:=LA.mp e;obtain⟨a,us,rfl,ha,rr⟩:=d_ hr r e1;rw[mY e2]at rr;rw[aw.sR rr]at ha;exact⟨a,bs,rfl,ha,p.here hr (Rep.bl _)⟩
  ·exact p.elim
 ·exact p.elim
theorem Ah:f6 K mg BR pN:=by
 intro WE μ S H vs xs Q hr rs p;unfold pN at p;split at p
 ·obtain⟨v,rfl,r⟩:=rs.one;split at p
  ·rename_i bs e;obtain⟨ds,e1,e2⟩:=LA.mp e;obtain⟨a,us,rfl,ha,rr⟩:=d_ hr r e1;rw[mY e2]at rr;rw[aw.sR rr]at ha;exact⟨a,bs,rfl,ha,p.here hr (Rep.bl _)⟩
  ·exact p.elim
 ·exact p.elim
theorem rC:f6 K mg Em rP:=by
 intro WE μ S H vs xs Q hr rs p;unfold rP at p;split at p
 ·obtain⟨v,w,rfl,r1,r2⟩:=rs.two;exact⟨_,_,by rw[aY r1,aY r2],p.here hr (Rep.int _)⟩
 ·exact p.elim
theorem mN:f6 K mg DT oS:=by
 intro WE μ S H vs xs Q hr rs p;unfold oS at p;split at p
 ·obtain⟨v,w,rfl,r1,r2⟩:=rs.two;exact⟨_,_,by rw[aY r1,aY r2],p.here hr (Rep.int _)⟩
 ·exact p.elim
end
noncomputable def iV(T:String)(x:Vl)(S:Sto):R Vl:=match x with
 | .d d=>.ok (.d (.bl (isT T d))) S
 | .r n=>(match S[n]? with
  |some (.lst xs)=>.ok (.d (.bl (isT T (.lst xs)))) S
  |_=>.bad)
 |_=>.bad
section
variable{X:Cx}{WE:WX}
theorem dE[n:NS e](hm:X.mg "isinstance"=none)(hm2:X.mg nm=none)(hv:bootBuiltins nm=some (.type T))(ha:RE X WE e xa)(hg:Gl X "isinstance":=by exact rfl)(hg2:Gl X nm:=by exact rfl)(ho:okT T=true:=by exact rfl)
  (hn:nm≠"__name__":=by decide) (hd:(nm==("__debug__":Str))=false:=by decide) (hb:bootBuiltins "isinstance"=some (.builtin "isinstance"):=by decide+kernel)
  (hs2:starEach [.Name nm p2] X.env=(false,eval (.Name nm p2) X.env)::starEach [] X.env:=by rfl) (hpl:(backTo pos (starEach [.Name nm p2] X.env)).any (·.1)=false:=by rfl) :
  RE X WE (.Call (.Name "isinstance" p) [e,.Name nm p2] [] pos) (xUn (iV T) xa):=
 ⟨(xt hg hm hg2 hm2 hv ho ha.h hn hd hb (n.eq _ X.env) hs2 hpl).weak λσ H Q ⟨μ,S,τ,hr,sr,p⟩=>⟨μ,S,τ,hr,sr,p.bind λv x S1 μ1 H1 st1 r1 p1=>by
  unfold iV at p1;split at p1
  ·exact⟨_,Rep.mono gD r1,p1.here st1.hr (Rep.bl _)⟩
  ·split at p1
   ·rename_i e;obtain⟨rfl,hn⟩:=r1;obtain⟨vs,h,rs⟩:=st1.hr.ob _ _ e;exact⟨_,Rep.lst h (rs.mono gD),p1.here st1.hr (Rep.bl _)⟩
   ·exact p1.elim
  ·exact p1.elim⟩⟩
noncomputable def xLm(f:Nat->List D->D->Sto->R Vl)(o e:XE):XE:=λτ S=>(o τ S).bind λx S1=>match x with
 | .r n=>(match S1[n]? with
  |some (.lst _)=>(e τ S1).bind λy S2=>(match y with
   | .d z=>(match S2[n]? with
    |some (.lst xs)=>f n xs z S2
    |_=>.bad)
   |_=>.bad)
  |_=>.bad)
 |_=>.bad
noncomputable def fi(n:Nat)(xs:List D)(z:D)(S:Sto):R Vl:=if xs.length<100000 then .ok (.d .non) (S.set n (.lst (xs++[z])))else .bad
theorem je(ho:RE X WE o xo)(he:RE X WE e xe)
  (hbase:attributeBase o "append" X.env (eval o X.env)=eval o X.env:=by rfl)
  (hfew:((backTo cpos (starEach [e] X.env)).all (λx=>!x.1)&&(backToKw cpos (keywordEach [] X.env)).all (λx=>x.1.isSome)&&decide ([e].length+([]:List Keyword).length+(if([]:List Keyword).isEmpty then 0 else 1)<30))=true:=by rfl)
  (hline:(apos.endLine==cpos.line)=true:=by rfl) (hs:starEach [e] X.env=(false,eval e X.env)::starEach [] X.env:=by rfl):RE X WE (.Call (.Attribute o "append" apos) [e] [] cpos) (xLm fi xo xe):=
 ⟨(En ho.h he.h hbase hfew hline hs).weak λσ H Q ⟨μ,S,τ,hr,sr,p⟩=>⟨μ,S,τ,hr,sr,p.bind λv x S1 μ1 H1 st1 r1 p1=>by
  try dsimp only at p1
  split at p1
  ·rename_i n;obtain⟨rfl,hn⟩:=r1;split at p1
   ·rename_i xs0 e0;obtain⟨vs0,h0,_⟩:=st1.hr.ob _ _ e0;refine⟨_,vs0,rfl,h0,μ1,S1,τ,st1.hr,sr.step st1,p1.bind λw y S2 μ2 H2 st2 r2 p2=>?_⟩
    try dsimp only at p2
    split at p2
    ·split at p2
     ·rename_i z _ xs e2;obtain⟨vs,h2,rs⟩:=st2.hr.ob _ _ e2;rw[st2.ag n hn]at h2;unfold fi at p2;split at p2
      ·have lv:=rs.length;have sp:=Step.put st2.hr e2 (by simp) (ob:=.lst (xs++[z])) ⟨_,rfl,rs.append (.cons r2 .nil)⟩;rw[st2.ag n hn]at sp;refine⟨vs,h2,by rw[Kd];omega,p2 _ _ _ sp Rep.non⟩
      ·exact p2.elim
     ·exact p2.elim
    ·exact p2.elim
   ·exact p1.elim
  ·exact p1.elim⟩⟩
def Br(r:V->List V->Hp->VK->Prop)(f:Nat->List D->D->Sto->R Vl):Prop:=∀(K:Iy)(mg:Str->Option Value)(WE:WX)(μ:Nat->Addr)(S:Sto)(H:Hp)(n:Nat)(xs:List D)(vs:List V)(w:V)(z:D)(Q:VK),HR μ S H->S[n]?=some (.lst xs)->H (μ n)=some (.lst vs)->aw (vh μ S H) vs xs->Rep (vh μ S H) w z->aL (aS K mg) WE μ S H (f n xs z S) Q->r (.ref (μ n)) [w] H Q
theorem BD{r:V->List V->Hp->VK->Prop}{f:Nat->List D->D->Sto->R Vl}{name:Str}{id:String}{o e:Expr}{xo xe:XE}{apos cpos:Pos}(slot:Slot "list" name id)(hty:typeOf (.builtin id)=pure (.type "method_descriptor"))(hm:MtM X id r)(hf:Br r f)(ho:RE X WE o xo)(he:RE X WE e xe)
  (hbase:attributeBase o name X.env (eval o X.env)=eval o X.env:=by rfl)
  (hfew:((backTo cpos (starEach [e] X.env)).all (λx=>!x.1)&&(backToKw cpos (keywordEach [] X.env)).all (λx=>x.1.isSome)&&decide ([e].length+([]:List Keyword).length+(if([]:List Keyword).isEmpty then 0 else 1)<30))=true:=by rfl)
  (hline:(apos.endLine==cpos.line)=true:=by rfl) (hs:starEach [e] X.env=(false,eval e X.env)::starEach [] X.env:=by rfl):RE X WE (.Call (.Attribute o name apos) [e] [] cpos) (xLm f xo xe):=
 ⟨(GF slot hty hm ho.h he.h hbase hfew hline hs).weak λσ H Q ⟨μ,S,τ,hr,sr,p⟩=>⟨μ,S,τ,hr,sr,p.bind λv x S1 μ1 H1 st1 r1 p1=>by
  try dsimp only at p1
  split at p1
  ·rename_i n;obtain⟨rfl,hn⟩:=r1;split at p1
   ·rename_i xs0 e0;obtain⟨vs0,h0,_⟩:=st1.hr.ob _ _ e0;refine⟨_,vs0,rfl,h0,μ1,S1,τ,st1.hr,sr.step st1,p1.bind λw y S2 μ2 H2 st2 r2 p2=>?_⟩
    try dsimp only at p2
    split at p2
    ·split at p2
     ·rename_i z _ xs e2;obtain⟨vs,h2,rs⟩:=st2.hr.ob _ _ e2;rw[<-st2.ag n hn];exact hf X.K X.mg WE μ2 S2 H2 n xs vs w z Q st2.hr e2 h2 rs r2 p2
     ·exact p2.elim
    ·exact p2.elim
   ·exact p1.elim
  ·exact p1.elim⟩⟩
noncomputable def tH(n:Nat)(xs:List D)(z:D)(S:Sto):R Vl:=match z with
 | .int i=>if 0<=i/\i<2 ^ 63 then(match xs[i.toNat]? with
  |some y=>.ok (.d y) (S.set n (.lst (xs.eraseIdx i.toNat)))
  |none=>.bad)else .bad
 |_=>.bad
theorem aw.erase:∀{vs:List V}{ds:List D}(i:Nat),aw H vs ds->aw H (vs.eraseIdx i) (ds.eraseIdx i)
 |_,_,_,.nil=>.nil
 |_,_,0,.cons _ t=>t
 |_,_,i+1,.cons r t=>.cons r (aw.erase i t)
theorem AZ:Br zE tH:=by
 intro K mg WE μ S H n xs vs w z Q hr e h rs rw' p;unfold tH at p;split at p
 ·rename_i i;split at p
  ·rename_i hi;split at p
   ·rename_i y ey;obtain⟨u,eu,ru⟩:=rs.get' ey;have hl:i.toNat<vs.length:=(IJ.mp eu).1;cases rw';refine⟨_,vs,i,i.toNat,u,rfl,rfl,h,by omega,hi.2,Qs hi.1 (by omega),eu,?_⟩;have sp:=Step.put hr e (by simp) (ob:=.lst (xs.eraseIdx i.toNat)) ⟨_,rfl,rs.erase i.toNat⟩;exact p _ _ _ sp (Rep.mono sp.vis ru)
   ·exact p.elim
  ·exact p.elim
 ·exact p.elim
end
noncomputable def b6(e:XE):XI:=λτ S=>(e τ S).bind λz S1=>match z with
 | .d (.tup xs)=>.ok ⟨xs.map Vl.d,none⟩ S1
 | .d (.lst xs)=>.ok ⟨xs.map Vl.d,none⟩ S1
 | .r n=>(match S1[n]? with
  |some (.lst xs)=>.ok ⟨xs.map Vl.d,some (n,.lst xs)⟩ S1
  |_=>.bad)
 |_=>.bad
noncomputable def gW(as:XA):XI:=λτ S=>(as τ S).bind λzs S1=>match zs with
 | [.d (.int j)]=>if -100000<=j/\j<=100000 then .ok ⟨(IP j.toNat).map λi=>Vl.d (.int (i:Nat)),none⟩ S1 else .bad
 |_=>.bad
noncomputable def Bj(as:XA):XI:=λτ S=>(as τ S).bind λzs S1=>match zs with
 | [.d (.int i),.d (.int j)]=>if(-100000<=i/\i<=100000)/\-100000<=j/\j<=100000 then .ok ⟨(IP (j-i).toNat).map λk=>Vl.d (.int (i+(k:Nat))),none⟩ S1 else .bad
 |_=>.bad
section
variable{X:Cx}{WE:WX}{K:Iy}{mg:Str->Option Value}{μ:Nat->Addr}{S:Sto}{H:Hp}
theorem gF{xs:List D}{i:Nat}{z:Vl}(e:(xs.map Vl.d)[i]?=some z):∃x,xs[i]?=some x/\z=.d x:=by
 rw[IU]at e;cases q:xs[i]? with
 |none=>rw[q]at e;cases e
 |some x=>rw[q]at e;cases e;exact⟨x,rfl,rfl⟩
theorem Fc{a:Addr}{vs:List V}{xs:List D}(g:vh μ S H a=some (.tup vs))(rs:aw (vh μ S H) vs xs)(hz:vs.length<=sizeLine):fJ K mg μ S H (Itt K a) ⟨xs.map Vl.d,none⟩where
 ok:=True.intro
 len:=by simp only[IA];rw[<-rs.length];exact hz
 go:=λi z μ' S' H' st _ e=>by
  obtain⟨x,e1,rfl⟩:=gF e;obtain⟨u,e2,_⟩:=rs.get' e1;exact⟨vs,u,SqT.of (aM (st.vis _ _ g)).2,e2⟩
 yld:=λi z μ' S' H' u H2 st _ e y=>by
  obtain⟨rfl,y⟩:=y;obtain⟨x,e1,rfl⟩:=gF e;have e2:=y vs (SqT.of (aM (st.vis _ _ g)).2);obtain⟨x',e3,r⟩:=rs.get e2;rw[e1]at e3;cases e3;exact⟨Step.refl st.hr,Rep.mono st.vis r⟩
 stop:=λi μ' S' H' st _ hi=>⟨vs,SqT.of (aM (st.vis _ _ g)).2,by rw[rs.length];simpa using K_ hi⟩
theorem Fu{a:Addr}{vs:List V}{xs:List D}(g:vh μ S H a=some (.lst vs))(rs:aw (vh μ S H) vs xs)(hz:vs.length<=sizeLine):fJ K mg μ S H (Itl K a) ⟨xs.map Vl.d,none⟩where
 ok:=True.intro
 len:=by simp only[IA];rw[<-rs.length];exact hz
 go:=λi z μ' S' H' st _ e=>by
  obtain⟨x,e1,rfl⟩:=gF e;obtain⟨u,e2,_⟩:=rs.get' e1;exact⟨vs,u,SqL.of (aM (st.vis _ _ g)).2,e2⟩
 yld:=λi z μ' S' H' u H2 st _ e y=>by
  obtain⟨rfl,y⟩:=y;obtain⟨x,e1,rfl⟩:=gF e;have e2:=y vs (SqL.of (aM (st.vis _ _ g)).2);obtain⟨x',e3,r⟩:=rs.get e2;rw[e1]at e3;cases e3;exact⟨Step.refl st.hr,Rep.mono st.vis r⟩
 stop:=λi μ' S' H' st _ hi=>⟨vs,SqL.of (aM (st.vis _ _ g)).2,by rw[rs.length];simpa using K_ hi⟩
theorem Eo{n:Nat}{vs:List V}{xs:List D}(hn:n<S.length)(e0:S[n]?=some (.lst xs))(rs:aw (vh μ S H) vs xs)(hz:vs.length<=sizeLine):fJ K mg μ S H (Itl K (μ n)) ⟨xs.map Vl.d,some (n,.lst xs)⟩where
 ok:=e0
 len:=by simp only[IA];rw[<-rs.length];exact hz
 go:=λi z μ' S' H' st ok e=>by
  obtain⟨us,h,rs'⟩:=st.hr.ob n _ ok;rw[st.ag n hn]at h;obtain⟨x,e1,rfl⟩:=gF e;obtain⟨u,e2,_⟩:=rs'.get' e1;exact⟨us,u,SqL.of h,e2⟩
 yld:=λi z μ' S' H' u H2 st ok e y=>by
  obtain⟨rfl,y⟩:=y;obtain⟨us,h,rs'⟩:=st.hr.ob n _ ok;rw[st.ag n hn]at h;obtain⟨x,e1,rfl⟩:=gF e;have e2:=y us (SqL.of h);obtain⟨x',e3,r⟩:=rs'.get e2;rw[e1]at e3;cases e3;exact⟨Step.refl st.hr,r⟩
 stop:=λi μ' S' H' st ok hi=>by
  replace hi:=K_ hi
  obtain⟨us,h,rs'⟩:=st.hr.ob n _ ok;rw[st.ag n hn]at h;exact⟨us,SqL.of h,by rw[rs'.length];simpa using hi⟩
theorem zc{lo:Int}{m:Nat}(hr:HR μ S H)(hm:m<=sizeLine):fJ K mg μ S H (Itr lo m) ⟨(IP m).map λk=>Vl.d (.int (lo+(k:Nat))),none⟩where
 ok:=True.intro
 len:=by simpa using hm
 go:=λi z μ' S' H' st _ e=>by
  have:=(IJ.mp e).1;exact(show i<m by simpa using this)
 yld:=λi z μ' S' H' u H2 st _ e y=>by
  obtain⟨rfl,rfl⟩:=y;have hi:i<m:=by simpa using(IJ.mp e).1
  rw[IU,M4 hi]at e;cases e;exact⟨Step.refl st.hr,Rep.int _⟩
 stop:=λi μ' S' H' st _ hi=>(show m<=i by simpa using K_ hi)
theorem bH(hl:RE X WE l xl):RI X WE tg l (b6 xl):=⟨by
 intro pins s σ H Rr I h;obtain⟨μ,S,τ,hr,sr,p⟩:=h;refine thn (hl.h pins s σ H _ I ⟨μ,S,τ,hr,sr,p.bind (Q:=λv H1=>∃μ1 S1 z,HR μ1 S1 H1/\aS X.K X.mg μ1 S1 H1 v z/\aL (fJ X.K X.mg) WE μ1 S1 H1 (match z with
   | .d (.tup xs)=>.ok ⟨xs.map Vl.d,none⟩ S1
   | .d (.lst xs)=>.ok ⟨xs.map Vl.d,none⟩ S1
   | .r n=>(match S1[n]? with
    |some (.lst xs)=>.ok ⟨xs.map Vl.d,some (n,.lst xs)⟩ S1
    |_=>.bad)
   |_=>.bad) Rr) λv x S1 μ1 H1 st1 r1 p1=>⟨μ1,S1,x,st1.hr,r1,p1⟩⟩) λv s1 ⟨u,H1,I1,ru,μ1,S1,z,hr1,r1,p1⟩=>?_
 have goT:∀a vs xs,u=.ref a->vh μ1 S1 H1 a=some (.tup vs)->aw (vh μ1 S1 H1) vs xs->Rr (Itt X.K a) H1->wpAny (model X.prog X.w) X.A (pyIter v) (PIE X pins σ tg Rr) X.xe s1:=by
  rintro a vs xs rfl g rs q;cases ru;obtain⟨its,rv,pp,hz⟩:=I1.tuple (SqT.of (aM g).2);refine Kx (show s1.heap.IsTuple a its.toArray from pp) ?_;refine⟨s1.heap.objs.size,[s1.heap.objs.size],_,_,H1,rfl,I1.kept (t':=s1.toks) λb o e=>gV _ e,wI a _,⟨_,IG _ rfl,rfl,rfl⟩,λb hb=>?_,q⟩;rw[IQ.mp hb];exact I1.jz (IB _) (I1.hok.fresh (IB _))
 have goL:∀a vs,u=.ref a->H1 a=some (.lst vs)->Rr (Itl X.K a) H1->wpAny (model X.prog X.w) X.A (pyIter v) (PIE X pins σ tg Rr) X.xe s1:=by
  rintro a vs rfl g q;cases ru;obtain⟨its,rv,pp,hz⟩:=I1.list (SqL.of g);refine LL pp.isList ?_;refine⟨s1.heap.objs.size,[s1.heap.objs.size],_,_,H1,rfl,I1.kept (t':=s1.toks) λb o e=>gV _ e,yh a _,⟨_,IG _ rfl,rfl,rfl⟩,λb hb=>?_,q⟩;rw[IQ.mp hb];exact I1.jz (IB _) (I1.hok.fresh (IB _))
 split at p1
 ·obtain⟨a,vs,rfl,h,g,rs⟩:=fe r1;obtain⟨its,rv,pp,hz⟩:=I1.tuple (SqT.of h);exact goT a vs _ rfl g rs (p1.here hr1 (Fc g rs hz))
 ·cases(show Rep (vh μ1 S1 H1) u (.lst _)from r1)with
  |lst g rs=>
   obtain⟨its,rv,pp,hz⟩:=I1.list (SqL.of (aM g).2);exact goL _ _ rfl (aM g).2 (p1.here hr1 (Fu g rs hz))
 ·split at p1
  ·rename_i e;obtain⟨rfl,hn⟩:=r1;obtain⟨vs,h,rs⟩:=hr1.ob _ _ e;obtain⟨its,rv,pp,hz⟩:=I1.list (SqL.of h);exact goL _ _ rfl h (p1.here hr1 (Eo hn e rs hz))
  ·exact p1.elim
 ·exact p1.elim⟩
theorem cQ{tg a:Expr}{as:XA}{p pos:Pos}(hg:Gl X "range")(hm:X.mg "range"=none)(ha:RA X WE [a] as)(hs:starEach [a] X.env=[(false,eval a X.env)]:=by rfl):RI X WE tg (.Call (.Name "range" p) [a] [] pos) (gW as):=
 ⟨(xS hg hm ha.h hs).weak λσ H Rr ⟨μ,S,τ,hr,sr,p⟩=>⟨μ,S,τ,hr,sr,p.bind λvs xs S1 μ1 H1 st1 r1 p1=>by
  try dsimp only at p1
  split at p1
  ·split at p1
   ·obtain⟨v,rfl,r⟩:=r1.one;rename_i j hj;refine⟨j,by rw[aY r],by omega,by omega,p1.here st1.hr ?_⟩;have q:=zc (K:=X.K) (mg:=X.mg) (lo:=0) (m:=j.toNat) st1.hr (iT (by omega));have z:∀k:Nat,(0:Int)+k=k:=λk=>by omega
    simp only[z]at q;exact q
   ·exact p1.elim
  ·exact p1.elim⟩⟩
theorem yn{tg a b:Expr}{as:XA}{p pos:Pos}(hg:Gl X "range")(hm:X.mg "range"=none)(ha:RA X WE [a,b] as)(hs:starEach [a,b] X.env=[(false,eval a X.env),(false,eval b X.env)]:=by rfl)(hs2:starEach [b] X.env=[(false,eval b X.env)]:=by rfl):RI X WE tg (.Call (.Name "range" p) [a,b] [] pos) (Bj as):=
 ⟨(zD hg hm ha.h hs hs2).weak λσ H Rr ⟨μ,S,τ,hr,sr,p⟩=>⟨μ,S,τ,hr,sr,p.bind λvs xs S1 μ1 H1 st1 r1 p1=>by
  try dsimp only at p1
  split at p1
  ·split at p1
   ·obtain⟨v,w,rfl,r,r'⟩:=r1.two;rename_i i j hj;exact⟨i,j,by rw[aY r,aY r'],⟨by omega,by omega,by omega,by omega⟩,p1.here st1.hr (zc st1.hr (by rw[Kd];omega))⟩
   ·exact p1.elim
  ·exact p1.elim⟩⟩
end
section
variable{prog:Program}{w:World}{A:Around}{E:Value->Shared->Prop}{s:Shared}
theorem t8(hl:IsTup s.heap l vs.toArray)
  (h:Q vs { s with heap:=(s.heap.push (seqObj "list" #[] 0)).update s.heap.objs.size (KO (·++vs.toArray)) }) (hsz:vs.length<=sizeLine:=by size_fits) :
  wpAny (model prog w) A (collect (.ref l)) Q E s:=by
 obtain⟨o,ho,hc,n,hd⟩:=id hl;unfold collect;refine ar (Nd (Ko entry_proto_collect' ?_));show wpAny _ _ (do again (.builtin "list.__iadd__" ⟨[<-newList [],.ref l],[]⟩)) _ _ s;refine ar (MJ (C0 ⟨Pl _ (by decide+kernel),Ko entry_list_iadd' ?_⟩));show wpAny _ _ (Ld (.ref s.heap.objs.size) (.ref l) (.ref s.heap.objs.size)) _ _ { s with heap:=s.heap.push (seqObj "list" #[] 0) };unfold Ld;have ho':(s.heap.push (seqObj "list" #[] 0)).get? l=some o:=gV _ ho;refine ar (J0 (T:="tuple") ⟨o,ho',hc⟩ ?_);have ht:(Value.type "tuple" == Value.type "tuple")=true:=by rfl
 rw[Iw (by rw[ht];simp)];refine ar (M0 ho' hd ?_);refine ar (M0 (xs:=#[]) (n:=0) (IG _ rfl) rfl ?_);rw[IF (by simp)];refine ar (MK (xs:=#[]) (n:=0) (IG _ rfl) rfl ?_ (KN _) (by show(#[]++vs.toArray).size<=sizeLine+1;simp only[PF,IE,KI];omega));refine C0 ?_;show wpAny (model prog w) A (do
   let o<-load s.heap.objs.size
   match o.data with
   | .seq xs _=>pure xs.toList
   |_=>unsupported "internal:collect") Q E { s with heap:=(s.heap.push (seqObj "list" #[] 0)).update s.heap.objs.size (KO (·++vs.toArray)) }
 refine ar (P_ (Qq (IG _ rfl) _) ?_);show wpAny _ _ (pure ((#[]:Array Value)++vs.toArray).toList) Q E _;rw[show((#[]:Array Value)++vs.toArray).toList=vs by simp];exact C0 h
theorem wg(hl:IsTup s.heap l vs.toArray)(hI:IntsAre vs ns)(h64:vs.length<64)
  (h:∀(out:Array Value)(ns':List Int),IntsAre out.toList ns'->ns'.Perm ns->ns'.Pairwise (·<=·)->Q (.ref (s.heap.objs.size+1)) { s with heap:=sortedAll s.heap vs out }) :
  wpAny (model prog w) A (call (.builtin "sorted") [.ref l]) Q E s:=by
 refine Mc PQ Pn Po (Pp _) ?_;unfold Builtin.«sorted»;refine ar (m:=checkCount "sorted" 1 1 _) (C0 ?_);refine ar (t8 hl ?_ (Ka (dF (by omega))));refine ar (MJ ?_);have hsz:((s.heap.push (seqObj "list" #[] 0)).update s.heap.objs.size (KO (·++vs.toArray))).objs.size=s.heap.objs.size+1:=by
  rw[N2,size_push']
 have hoL:(((s.heap.push (seqObj "list" #[] 0)).update s.heap.objs.size (KO (·++vs.toArray))).push (seqObj "list" vs.toArray 0)).get? (s.heap.objs.size+1)=some (seqObj "list" vs.toArray 0):=by
  rw[<-hsz];exact IG _ rfl
 show wpAny _ _ _ _ _ { s with heap:=((s.heap.push (seqObj "list" #[] 0)).update s.heap.objs.size (KO (·++vs.toArray))).push (seqObj "list" vs.toArray 0) };rw[hsz];refine ar (Jl (JB OF ⟨_,hoL,rfl⟩ Oi (list_sort_tree hoL hI h64 λout ns' a1 a2 a3=>⟨_,rfl,?_⟩) (OG _)));exact C0 ⟨_,rfl,h out ns' a1 a2 a3⟩
end
section
variable{X:Cx}
def zh:List V->Hp->VK->Prop:=λvs H Q=>∃(p:Addr)(ns:List Int),vs=[.ref p]/\H p=some (.tup (ns.map V.int))/\ns.length<64/\∀(l:Addr)(ms:List Int),H l=none->List.Perm ms ns->ms.Pairwise (·<=·)->Q (.ref l) (upd H l (.lst (ms.map V.int)))
theorem wa:bJ X (.builtin "sorted") zh:=by
 intro pins s σ H xs us Q I r h;obtain⟨p,ns,rfl,hq,hl,q⟩:=h;obtain⟨u,rfl,rx⟩:=vals1 r;cases rx;obtain⟨its,rv,pl,hz⟩:=I.tuple (SqT.of hq);have hI:IntsAre its ns:=intsAre_of rv;have h64:its.length<64:=by rw[<-rv.length,IA];exact hl
 refine wg pl hI h64 λout ms hout hperm hpair=>?_;obtain⟨e,he⟩:=sortedAll_at s.heap its out;refine⟨.ref (s.heap.objs.size+1),_,I.laid (t':=s.toks) (o:=.lst (ms.map V.int)) (λb ob q=>QS q) (L7 _) ?_,rfl,q _ ms (I.hok.fresh (L7 _)) hperm hpair⟩;have hlm:ms.length=ns.length:=hperm.length_eq;exact⟨by rw[IA];have:(64:Nat)<=sizeLine:=(by decide);omega,out.toList,e,eO hout,by simpa using he⟩
def yf:List V->Hp->VK->Prop:=λvs H Q=>t5 vs H Q\/zh vs H Q
theorem wu:bJ X (.builtin "sorted") yf:=sO.or wa
noncomputable def l4(xs:List Vl)(S:Sto):R Vl:=match xs with
 | [x]=>(match(bX x S).bind intsOf with
  |some ns=>if ns.length<64 then .ok (.d (.lst ((sortI ns).map D.int))) S else .bad
  |none=>.bad)
 |_=>.bad
theorem xy{K:Iy}{mg:Str->Option Value}:f6 K mg yf l4:=by
 intro WE μ S H vs xs Q hr rs p;unfold l4 at p;split at p
 ·obtain⟨v,rfl,r⟩:=rs.one;split at p
  ·rename_i ns e;split at p
   ·rename_i hb;obtain⟨ds,e1,e2⟩:=LA.mp e;obtain⟨a,us,rfl,ha,rr⟩:=gU hr r e1;rw[kG e2]at rr;rw[aw.ph rr]at ha;rcases ha with ha |ha
    ·refine .inl ⟨a,ns,rfl,ha,hb,λl ms hl h1 h2=>?_⟩;rw[nc h1 h2];exact p.jB hr (aw.ints _) l hl
    ·refine .inr ⟨a,ns,rfl,ha,hb,λl ms hl h1 h2=>?_⟩;rw[nc h1 h2];exact p.jB hr (aw.ints _) l hl
   ·exact p.elim
  ·exact p.elim
 ·exact p.elim
def Bu:V->List V->Hp->VK->Prop:=λx vs H Q=>∃l b xs zs,x=.ref l/\vs=[.ref b]/\H l=some (.lst xs)/\H b=some (.tup zs)/\xs.length+zs.length<=sizeLine/\Q .non (upd H l (.lst (xs++zs)))
theorem CV:MtM X "list.extend" Bu:=by
 intro pins s σ H x vs v us Q I rx rv h;obtain⟨l,b,xs,zs,rfl,rfl,hH,hB,hz,q⟩:=h;cases rx;obtain⟨u,rfl,ru⟩:=rv.one;cases ru;obtain⟨z,its,n,r,hl,e⟩:=I.mO hH;obtain⟨its2,r2,p2,hz2⟩:=I.tuple (SqT.of hB);obtain⟨o2,g2,c2,n2,d2⟩:=id p2;have l2:=r2.length;have hsz:its.toArray.size+its2.toArray.size<=sizeLine:=by rw[IE,IE];omega
 have hlong:¬(!its.toArray.isEmpty&&Lu (its.toArray.size+its2.toArray.size))=true:=by
  rw[sS hsz,Qx];exact IS
 refine JB Pf ⟨_,e,rfl⟩ O1 ?_ (ON _ _);unfold Builtin.«list.extend»;refine ar (m:=selfAndOne "list.extend" _) ?_;refine LH (a:=(Value.ref l,Value.ref b)) (by first |rfl |(unfold selfAndOne;rfl)) ?_;dsimp only;unfold Ld;refine ar (J0 (T:="tuple") ⟨o2,g2,c2⟩ ?_);have ht:(Value.type "tuple" == Value.type "tuple")=true:=by rfl
 rw[Iw (by rw[ht];simp)];refine ar (M0 g2 d2 ?_);refine ar (M0 (n:=n) e rfl ?_);rw[IF hlong];refine ar (MK (n:=n) e rfl ?_ (by rw[IE];omega) (by rw[PF];omega));refine C0 ?_;refine⟨_,rfl,.non,_,I.vP (its':=its++its2) hH e (by simp) (r.append r2) ?_,rfl,q⟩;rw[IH];omega
end
section
variable{X:Cx}{WE:WX}
def B1:V->List V->Hp->VK->Prop:=λx vs H Q=>vw x vs H Q\/Bu x vs H Q
theorem C2:MtM X "list.extend" B1:=by
 intro pins s σ H x vs v us Q I rx rv h;rcases h with h |h
 ·exact zC pins s σ H x vs v us Q I rx rv h
 ·exact CV pins s σ H x vs v us Q I rx rv h
noncomputable def nZ(n:Nat)(xs:List D)(z:D)(S:Sto):R Vl:=match z with
 | .lst ys=>if xs.length+ys.length<=100000 then .ok (.d .non) (S.set n (.lst (xs++ys)))else .bad
 | .tup ys=>if xs.length+ys.length<=100000 then .ok (.d .non) (S.set n (.lst (xs++ys)))else .bad
 |_=>.bad
theorem zo:Br B1 nZ:=by
 intro K mg WE μ S H n xs vs w z Q hr e h rs rw' p;unfold nZ at p;split at p
 ·rename_i ys;split at p
  ·cases rw' with
   | @lst a us _ h' rs'=>
    have l1:=rs.length;have l2:=rs'.length;exact .inl ⟨_,a,vs,us,rfl,rfl,h,(aM h').2,iT (by omega),p _ _ _ (Step.put hr e (by simp) (ob:=.lst (xs++ys)) ⟨_,rfl,rs.append rs'⟩) Rep.non⟩
  ·exact p.elim
 ·rename_i ys;split at p
  ·cases rw' with
   | @tup a us _ h' rs'=>
    have l1:=rs.length;have l2:=rs'.length;exact .inr ⟨_,a,vs,us,rfl,rfl,h,(aM h').2,iT (by omega),p _ _ _ (Step.put hr e (by simp) (ob:=.lst (xs++ys)) ⟨_,rfl,rs.append rs'⟩) Rep.non⟩
  ·exact p.elim
 ·exact p.elim
noncomputable def eI(x y z:Vl)(S:Sto):R Unit:=match x,y,z with
 | .r n,.d (.int k),.d w=>(match S[n]? with
  |some (.lst xs)=>(match ixN xs.length k with
   |some j=>.ok () (S.set n (.lst (xs.set j w)))
   |none=>.bad)
  |_=>.bad)
 |_,_,_=>.bad
theorem aw.set(r:Rep H v d):∀{vs:List V}{ds:List D}(i:Nat),aw H vs ds->aw H (vs.set i v) (ds.set i d)
 |_,_,_,.nil=>.nil
 |_,_,0,.cons _ t=>.cons r t
 |_,_,i+1,.cons q t=>.cons q (aw.set r i t)
theorem ja{K:Iy}{mg:Str->Option Value}:yp K mg wK eI:=by
 intro WE μ S H o i v x y z Q hr ro ri rv p;unfold eI at p;split at p
 ·split at p
  ·rename_i n k w _ xs e;obtain⟨rfl,hn⟩:=ro;obtain⟨vs,h,rs⟩:=hr.ob _ _ e;split at p
   ·rename_i j ej;refine⟨_,vs,k,j,rfl,aY ri,h,by rw[rs.length];exact ej,?_⟩;exact p () _ _ (Step.put hr e (by simp) (ob:=.lst (xs.set j w)) ⟨_,rfl,rs.set rv j⟩) True.intro
   ·exact p.elim
  ·exact p.elim
 ·exact p.elim
theorem oN:wj X wK:=set_list
noncomputable def lrg(fin:List D->Sto->R Vl)(zs:List Vl)(S:Sto):R Vl:=match zs with
 | [.d (.int j)]=>if 0<=j/\j<=1000 then fin ((IP j.toNat).map λi=>D.int (i:Nat)) S else .bad
 |_=>.bad
noncomputable def Bb(ds:List D)(S:Sto):R Vl:=.ok (.r S.length) (S++[.lst ds])
theorem oA:∀l:List Nat,aw H (l.map λi=>V.int (i:Nat)) (l.map λi=>D.int (i:Nat))
 | []=>.nil
 |n::l=>.cons (.int _) (oA l)
theorem qI(hc:X.calm=true)(hgl:Gl X "list")(hml:X.mg "list"=none)(hgr:Gl X "range")(hmr:X.mg "range"=none)(hbl:bootBuiltins "list"=some (.type "list"))(ha:RA X WE [a] as)
  (hs:starEach [a] X.env=[(false,eval a X.env)]:=by rfl)
  (hs2:starEach [Expr.Call (.Name "range" p2) [a] [] pos2] X.env=(false,eval (Expr.Call (.Name "range" p2) [a] [] pos2) X.env)::starEach [] X.env:=by rfl) :
  RE X WE (.Call (.Name "list" p1) [.Call (.Name "range" p2) [a] [] pos2] [] pos1) (xN (lrg Bb) as):=
 ⟨(rX hc hgl hml hgr hmr hbl ha.h hs hs2).weak λσ H Q ⟨μ,S,τ,hr,sr,p⟩=>⟨μ,S,τ,hr,sr,p.bind λvs xs S1 μ1 H1 st1 r1 p1=>by
  unfold lrg at p1;split at p1
  ·split at p1
   ·rename_i j hj;obtain⟨v,rfl,r⟩:=r1.one;exact⟨j,by rw[aY r],hj.1,hj.2,λl hl=>p1.AI st1.hr (oA _) l hl⟩
   ·exact p1.elim
  ·exact p1.elim⟩⟩
end
noncomputable def gP(x:Int):List Int->List Int
 | []=>[x]
 |y::ys=>if x<y then x::y::ys else if x=y then y::ys else y::gP x ys
noncomputable def bh:List Int->List Int
 | []=>[]
 |x::xs=>gP x (bh xs)
theorem mQ(x z:Int):∀ys,z∈gP x ys↔z=x\/z∈ys
 | []=>by simp[gP]
 |y::ys=>by
  unfold gP;split
  ·simp
  ·split
   ·rename_i h;subst h;simp
   ·simp only[IL,mQ x z ys];constructor
    ·rintro(h |h |h)
     ·exact .inr (.inl h)
     ·exact .inl h
     ·exact .inr (.inr h)
    ·rintro(h |h |h)
     ·exact .inr (.inl h)
     ·exact .inl h
     ·exact .inr (.inr h)
theorem kT(z:Int):∀xs,z∈bh xs↔z∈xs
 | []=>by simp[bh]
 |x::xs=>by rw[bh,mQ,kT z xs,IL]
theorem p_(x:Int):∀ys:List Int,ys.Pairwise (· <·)->(gP x ys).Pairwise (· <·)
 | [],_=>by simp[gP]
 |y::ys,h=>by
  obtain⟨h1,h2⟩:=JQ.mp h;unfold gP;split
  ·rename_i hxy;refine JQ.mpr ⟨λz hz=>?_,h⟩;rcases IL.mp hz with e |e
   ·omega
   ·have:=h1 z e;omega
  ·split
   ·exact h
   ·refine JQ.mpr ⟨λz hz=>?_,p_ x ys h2⟩;rcases(mQ x z ys).mp hz with e |e
    ·omega
    ·exact h1 z e
theorem gx:∀xs,(bh xs).Pairwise (· <·)
 | []=>.nil
 |x::xs=>p_ x _ (gx xs)
theorem oU{xs:List Int}(h:xs.Pairwise (· <·)):xs.Nodup:=h.imp λz=>by omega
theorem Bp{xs ys:List Int}(h:∀z,z∈xs↔z∈ys)(h1:xs.Pairwise (· <·))(h2:ys.Pairwise (· <·)):xs=ys:=
 oR ((NC (oU h1) (oU h2)).mpr h) (h1.imp λz=>by omega) (h2.imp λz=>by omega)
theorem m_{xs ys:List Int}(h:∀z,z∈ys↔z∈xs)(h1:ys.Pairwise (· <·)):ys=bh xs:=Bp (λz=>by rw[h,kT]) h1 (gx xs)
theorem nS{ks ns:List Int}(h1:ks.Nodup)(h2:∀x,x∈ks↔x∈ns):ks.length=(bh ns).length:=
 ((NC h1 (oU (gx ns))).mpr λz=>by rw[h2,kT]).length_eq
section
variable{X:Cx}{WE:WX}
def SqI(H:Hp)(a:Addr)(ns:List Int):Prop:=H a=some (.lst (ns.map V.int))\/H a=some (.tup (ns.map V.int))
noncomputable def HY(N:Nat)(te:TE):TE:=λσ H Q=>te σ H λx H1=>∃(a:Addr)(ns:List Int),x=.ref a/\SqI H1 a ns/\ns.length<=300/\(bh ns).length<N/\∀l:Addr,H1 l=none->Q (.ref l) (upd H1 l (.lst ((bh ns).map V.int)))
noncomputable def HX(te:TE):TE:=λσ H Q=>te σ H λx H1=>∃(a:Addr)(ns:List Int),x=.ref a/\SqI H1 a ns/\ns.length<=300/\Q (.int (bh ns).length) H1
theorem SqI.at(I:Inv X pins σ H s)(h:SqI H a ns):∃(its:List Value)(k:Bool),IntsAre its ns/\tT s.heap a its.toArray k:=by
 rcases h with h |h
 ·obtain⟨its,rv,pl,hz⟩:=I.list (SqL.of h);exact⟨its,true,intsAre_of rv,pl.isList⟩
 ·obtain⟨its,rv,pl,hz⟩:=I.tuple (SqT.of h);exact⟨its,false,intsAre_of rv,pl⟩
theorem EE{N:Nat}(T:lA N)(hN:N<=301){e:Expr}{te:TE}{p1 p2 pos1 pos2:Pos}(hc:X.calm=true)(hgs:Gl X "sorted")(hms:X.mg "sorted"=none)(hgt:Gl X "set")(hmt:X.mg "set"=none)(hbs:bootBuiltins "sorted"=some (.builtin "sorted"))(hbt:bootBuiltins "set"=some (.type "set"))(he:PE X e te)
  (hs:starEach [e] X.env=(false,eval e X.env)::starEach [] X.env:=by rfl)
  (hs2:starEach [Expr.Call (.Name "set" p2) [e] [] pos2] X.env=(false,eval (Expr.Call (.Name "set" p2) [e] [] pos2) X.env)::starEach [] X.env:=by rfl) :
  PE X (.Call (.Name "sorted" p1) [.Call (.Name "set" p2) [e] [] pos2] [] pos1) (HY N te):=by
 intro pins s σ H Q I h;refine Kg (bW I hgs hms hbs ?_);rw[hs2];refine K6 (by show(false||(backTo pos1 (starEach ([]:List Expr) X.env)).any (·.1))=false;rfl) (Lo ?_);show wpAny _ _ (spliced ((false,eval (Expr.Call (.Name "set" p2) [e] [] pos2) X.env)::backTo pos1 (starEach [] X.env))) _ _ s;refine Kv ?_;have hA:=(dN he fY hs) pos2 pins s σ H (λvs H1=>∃x,vs=[x]/\∃(a:Addr)(ns:List Int),x=.ref a/\SqI H1 a ns/\ns.length<=300/\(bh ns).length<N/\∀l:Addr,H1 l=none->Q (.ref l) (upd H1 l (.lst ((bh ns).map V.int)))) I (by
  refine cast (Jn (te σ H) ?_) h;funext y H2;refine propext ⟨λq=>⟨y,rfl,q⟩,λ⟨y',e',q⟩=>?_⟩;cases e';exact q)
 refine Ni (bW I hgt hmt hbt (Je (thn hA λus s1 ⟨vs,H1,I1,r1,x,e1,a,ns,e2,hx,hn,hb,q⟩=>?_) hs rfl));subst e1 e2;obtain⟨u,rfl,rx⟩:=vals1 r1;cases rx;obtain⟨its,k,hI,pl⟩:=hx.at I1;have hA0:X.A.handled=none:=I.ok.hd hc;refine pT hA0 k pl (by simpa using hI) hn λh' tk ks S1 S2 S3=>?_;refine C0 ?_;have hnd:ks.Nodup:=by obtain⟨_,_,_,_,_,_,_,_,_,_,_,_,_,_,_,_,g,_⟩:=S1;exact g
 have lk:=nS hnd S2;refine vE T hN hA0 S1 (by omega) λh2 tk2 out ms l c k1 k2 k3 k4 k5 k6 k7=>?_;have em:ms=bh ns:=m_ (λx=>by rw[k6,S2]) k5;subst em;refine⟨.ref l,_,I1.laid (t':=tk2) (o:=.lst ((bh ns).map V.int)) (λb o e=>k1 b o (S3 b o e)) (Ka k2) ⟨?_,out.toList,c,eO k4,?_⟩,rfl,q l (I1.hok.fresh (Ka k2))⟩
 ·rw[IA];exact Ka (dF (by omega))
 ·simpa[seqObj]using k3
theorem EU{e:Expr}{te:TE}{p1 p2 pos1 pos2:Pos}(hc:X.calm=true)(hgs:Gl X "len")(hms:X.mg "len"=none)(hgt:Gl X "set")(hmt:X.mg "set"=none)(hbs:bootBuiltins "len"=some (.builtin "len"))(hbt:bootBuiltins "set"=some (.type "set"))(he:PE X e te)
  (hs:starEach [e] X.env=(false,eval e X.env)::starEach [] X.env:=by rfl)
  (hs2:starEach [Expr.Call (.Name "set" p2) [e] [] pos2] X.env=(false,eval (Expr.Call (.Name "set" p2) [e] [] pos2) X.env)::starEach [] X.env:=by rfl) :
  PE X (.Call (.Name "len" p1) [.Call (.Name "set" p2) [e] [] pos2] [] pos1) (HX te):=by
 intro pins s σ H Q I h;refine Kg (bW I hgs hms hbs ?_);rw[hs2];refine K6 (by show(false||(backTo pos1 (starEach ([]:List Expr) X.env)).any (·.1))=false;rfl) (Lo ?_);show wpAny _ _ (spliced ((false,eval (Expr.Call (.Name "set" p2) [e] [] pos2) X.env)::backTo pos1 (starEach [] X.env))) _ _ s;refine Kv ?_;have hA:=(dN he fY hs) pos2 pins s σ H (λvs H1=>∃x,vs=[x]/\∃(a:Addr)(ns:List Int),x=.ref a/\SqI H1 a ns/\ns.length<=300/\Q (.int (bh ns).length) H1) I (by
  refine cast (Jn (te σ H) ?_) h;funext y H2;refine propext ⟨λq=>⟨y,rfl,q⟩,λ⟨y',e',q⟩=>?_⟩;cases e';exact q)
 refine Ni (bW I hgt hmt hbt (Je (thn hA λus s1 ⟨vs,H1,I1,r1,x,e1,a,ns,e2,hx,hn,q⟩=>?_) hs rfl));subst e1 e2;obtain⟨u,rfl,rx⟩:=vals1 r1;cases rx;obtain⟨its,k,hI,pl⟩:=hx.at I1;have hA0:X.A.handled=none:=I.ok.hd hc;refine pT hA0 k pl (by simpa using hI) hn λh' tk ks S1 S2 S3=>?_;refine C0 ?_;obtain⟨o,es,ep,t,pl',g1,g2,g3,g4,g5,g6,g7,g8,⟨g9,g10,g11⟩,g12,g13,g14,g15⟩:=S1;have lks:es.size=ks.length:=by
  have:=cT g12;rw[IA,IC]at this;exact this
 refine call_len_set (s:=⟨h',s1.gens,s1.drawn,tk,s1.os⟩) g1 g2 g3 (fits_of g5 (by rw[g8,lks];simpa using g10) (by omega)) (by omega) ?_;rw[lks,nS g14 S2];exact⟨.int _,H1,I1.kept (t':=tk+1+1) S3,⟨_,rfl⟩,q⟩
noncomputable def iu(N:Nat)(x:Vl)(S:Sto):R Vl:=match(bX x S).bind intsOf with
 |some ns=>if ns.length<=300/\(bh ns).length<N then .ok (.d (.lst ((bh ns).map D.int))) S else .bad
 |none=>.bad
noncomputable def oLS(x:Vl)(S:Sto):R Vl:=match(bX x S).bind intsOf with
 |some ns=>if ns.length<=300 then .ok (.d (.int (bh ns).length)) S else .bad
 |none=>.bad
theorem yr{K:Iy}{mg:Str->Option Value}{μ:Nat->Addr}{S:Sto}{H:Hp}{v:V}{x:Vl}{ns:List Int}(hr:HR μ S H)(r:aS K mg μ S H v x)(e:(bX x S).bind intsOf=some ns):∃a,v=.ref a/\SqI H a ns:=by
 obtain⟨ds,e1,e2⟩:=LA.mp e;obtain⟨a,us,rfl,ha,rr⟩:=gU hr r e1;rw[kG e2]at rr;rw[aw.ph rr]at ha;exact⟨a,rfl,ha⟩
theorem oB{N:Nat}(T:lA N)(hN:N<=301){e:Expr}{xa:XE}{p1 p2 pos1 pos2:Pos}[n:NS e](hc:X.calm=true)(hgs:Gl X "sorted")(hms:X.mg "sorted"=none)(hgt:Gl X "set")(hmt:X.mg "set"=none)(hbs:bootBuiltins "sorted"=some (.builtin "sorted"))(hbt:bootBuiltins "set"=some (.type "set"))(he:RE X WE e xa)
  (hs2:starEach [Expr.Call (.Name "set" p2) [e] [] pos2] X.env=(false,eval (Expr.Call (.Name "set" p2) [e] [] pos2) X.env)::starEach [] X.env:=by rfl) :
  RE X WE (.Call (.Name "sorted" p1) [.Call (.Name "set" p2) [e] [] pos2] [] pos1) (xUn (iu N) xa):=
 ⟨(EE T hN hc hgs hms hgt hmt hbs hbt he.h (n.eq _ X.env) hs2).weak λσ H Q ⟨μ,S,τ,hr,sr,p⟩=>⟨μ,S,τ,hr,sr,p.bind λv x S1 μ1 H1 st1 r1 p1=>by
  unfold iu at p1;split at p1
  ·rename_i ns e1;split at p1
   ·rename_i hb;obtain⟨a,rfl,sq⟩:=yr st1.hr r1 e1;exact⟨a,ns,rfl,sq,hb.1,hb.2,λl hl=>p1.jB st1.hr (aw.ints _) l hl⟩
   ·exact p1.elim
  ·exact p1.elim⟩⟩
theorem F2{e:Expr}{xa:XE}{p1 p2 pos1 pos2:Pos}[n:NS e](hc:X.calm=true)(hgs:Gl X "len")(hms:X.mg "len"=none)(hgt:Gl X "set")(hmt:X.mg "set"=none)(hbs:bootBuiltins "len"=some (.builtin "len"))(hbt:bootBuiltins "set"=some (.type "set"))(he:RE X WE e xa)
  (hs2:starEach [Expr.Call (.Name "set" p2) [e] [] pos2] X.env=(false,eval (Expr.Call (.Name "set" p2) [e] [] pos2) X.env)::starEach [] X.env:=by rfl) :
  RE X WE (.Call (.Name "len" p1) [.Call (.Name "set" p2) [e] [] pos2] [] pos1) (xUn oLS xa):=
 ⟨(EU hc hgs hms hgt hmt hbs hbt he.h (n.eq _ X.env) hs2).weak λσ H Q ⟨μ,S,τ,hr,sr,p⟩=>⟨μ,S,τ,hr,sr,p.bind λv x S1 μ1 H1 st1 r1 p1=>by
  unfold oLS at p1;split at p1
  ·rename_i ns e1;split at p1
   ·obtain⟨a,rfl,sq⟩:=yr st1.hr r1 e1;exact⟨a,ns,rfl,sq,‹_›,p1.here st1.hr (Rep.int _)⟩
   ·exact p1.elim
  ·exact p1.elim⟩⟩
end
noncomputable def cJ(k:Nat):List D->List Vl
 | []=>[]
 |x::xs=>.d (.tup [.int k,x])::cJ (k+1) xs
theorem fU:∀(k:Nat)(xs:List D),(cJ k xs).length=xs.length
 |_,[]=>rfl
 |k,x::xs=>by simp[cJ,fU (k+1) xs]
theorem dH:∀(k:Nat)(xs:List D)(i:Nat),(cJ k xs)[i]?=(xs[i]?).map λx=>Vl.d (.tup [.int ((k+i:Nat):Int),x])
 |_,[],_=>by simp[cJ]
 |k,x::xs,0=>by simp[cJ]
 |k,x::xs,i+1=>by
  simp only[cJ,Mr,dH (k+1) xs i];congr 1;funext z;rw[show k+1+i=k+(i+1) by omega]
noncomputable def A_(e:XE):XI:=λτ S=>(e τ S).bind λz S1=>match z with
 | .d (.lst xs)=>.ok ⟨cJ 0 xs,none⟩ S1
 |_=>.bad
section
variable{X:Cx}{WE:WX}{K:Iy}{mg:Str->Option Value}{μ:Nat->Addr}{S:Sto}{H:Hp}
theorem Au(g:vh μ S H a=some (.lst vs))(rs:aw (vh μ S H) vs xs)(hz:vs.length<=sizeLine):fJ K mg μ S H (Ite K a) ⟨cJ 0 xs,none⟩where
 ok:=True.intro
 len:=by simp only[fU];rw[<-rs.length];exact hz
 go:=λi z μ' S' H' st _ e=>by
  rw[dH]at e;cases q:xs[i]? with
  |none=>rw[q]at e;cases e
  |some x=>
   obtain⟨u,e2,_⟩:=rs.get' q;exact⟨vs,u,SqL.of (aM (st.vis _ _ g)).2,e2⟩
 yld:=λi z μ' S' H' u H2 st _ e y=>by
  obtain⟨p,w,hp,rfl,rfl,y⟩:=y;rw[dH]at e;cases q:xs[i]? with
  |none=>rw[q]at e;cases e
  |some x=>
   rw[q]at e;cases e;have e2:=y vs (SqL.of (aM (st.vis _ _ g)).2);obtain⟨x',e3,r⟩:=rs.get e2;rw[q]at e3;cases e3;have st2:=Step.new st.hr hp (.tup [.int i,w]);refine⟨st2,Rep.tup (bM bY (st.hr.nal hp)) (.cons ?_ (.cons (Rep.mono (st.trans st2).vis r) .nil))⟩;rw[J3];exact .int _
 stop:=λi μ' S' H' st _ hi=>⟨vs,SqL.of (aM (st.vis _ _ g)).2,by rw[rs.length];rw[fU]at hi;exact K_ hi⟩
end
section
variable{X:Cx}{WE:WX}
theorem Bi(hg:Gl X "enumerate")(hm:X.mg "enumerate"=none)(hl:RE X WE l xl)(hb:bootBuiltins "enumerate"=some (.type "enumerate"):=by decide+kernel)
  (hs:starEach [l] X.env=[(false,eval l X.env)]:=by rfl):RI X WE (.Tuple es kk tp) (.Call (.Name "enumerate" p) [l] [] pos) (A_ xl):=⟨by
 intro pins s σ H R I h;obtain⟨μ,S,τ,hr,sr,pp⟩:=h;refine Ni (bW I hg hm hb (Je (thn ((dN hl.h fY hs) pos pins s σ H (λvs H1=>∃x,vs=[x]/\∃μ1 S1 z,HR μ1 S1 H1/\aS X.K X.mg μ1 S1 H1 x z/\aL (fJ X.K X.mg) WE μ1 S1 H1 (match z with
   | .d (.lst xs)=>.ok ⟨cJ 0 xs,none⟩ S1
   |_=>.bad) R) I ?_) λus s1 ⟨vs,H1,I1,r1,q1⟩=>?_) hs rfl))
 ·exact⟨μ,S,τ,hr,sr,pp.bind λv x S1 μ1 H1 st1 r1 p1=>⟨v,rfl,μ1,S1,x,st1.hr,r1,p1⟩⟩
 ·obtain⟨x,e,μ1,S1,z,hr1,rz,p1⟩:=q1;subst e;obtain⟨u,rfl,ru⟩:=vals1 r1;split at p1
  ·cases(show Rep (vh μ1 S1 H1) x (.lst _)from rz)with
   | @lst a us _ g rs=>
    cases ru;have hq:SqL X.K H1 a us:=SqL.of (aM g).2;obtain⟨its,rv,pl,hz⟩:=I1.list hq;have q:=p1.here hr1 (Au g rs hz);refine call_enumerate_list pl.isList λh' he hit hsz hk=>?_;refine Mv (s:={ s1 with heap:=h' }) he ?_;have I2:Inv X pins σ H1 { s1 with heap:=h' }:=I1.kept (t':=s1.toks) hk;refine⟨s1.heap.objs.size+1,[s1.heap.objs.size+1,s1.heap.objs.size],_,_,H1,rfl,I2,yZ a _ _ (P6 _),⟨⟨_,he⟩,hit⟩,λb hb=>?_,q⟩;have hle:s1.heap.objs.size<=b:=by
     rcases IL.mp hb with z |z
     ·rw[z];exact L7 _
     ·rw[IQ.mp z];exact IB _
    exact I1.jz hle (I1.hok.fresh hle)
  ·exact p1.elim⟩
noncomputable def rV(x:Vl)(lo hi:Option Int)(S:Sto):R Vl:=match x with
 | .sc ns=>.ok (.d (.lst (cF (ns.map D.int) lo hi))) S
 |_=>.bad
theorem zK{e:Expr}{lo hi:Option Expr}{xa:XE}{xl xh:XO}{p2 pos:Pos}(he:RE X WE e xa)(hl:RO X WE lo xl)(hh:RO X WE hi xh):RE X WE (.Subscript e (.Slice lo hi none p2) pos) (xSl rV xa xl xh):=
 ⟨(tS uT he.h hl.h hh.h).weak λσ H Q ⟨μ,S,τ,hr,sr,p⟩=>⟨μ,S,τ,hr,sr,p.bind λv x S1 μ1 H1 st1 r1 p1=>⟨μ1,S1,τ,st1.hr,sr.step st1,p1.bind λi i' S2 μ2 H2 st2 r2 p2=>⟨μ2,S2,τ,st2.hr,sr.step (st1.trans st2),p2.bind λj j' S3 μ3 H3 st3 r3 p3=>by
  cases(show i=i' from r2);cases(show j=j' from r3);have rv:=r1.step (st2.trans st3);unfold rV at p3;split at p3
  ·rename_i ns;obtain⟨l,rfl,hq⟩:=rv;exact⟨l,_,rfl,hq.mono gD,λq hq=>p3.jB st3.hr (mP (aw.ints ns) i j) q hq⟩
  ·exact p3.elim⟩⟩⟩⟩
theorem cp:RB X WE sts ck:=⟨λ_ _ _ _ _ _ ⟨_,_,_,_,_,p⟩=>p.elim⟩
end
def Df(K:Iy)(mg:Str->Option Value)(x:Str)(st:Stmt):Prop:=∃(f:Addr)(fd:FuncData),Fun K x x st f fd/\mg x=some (.ref f)
theorem G9{K:Iy}{h:Heap}{mg:Str->Option Value}{x:Str}{st:Stmt}{f:Addr}{oc:Value}{od an:Option Addr}{osl:Array (Option Value)}{kV doc pm cdv ct:Value}(X:K.In h)(G:h.Ns mainGlobals mg)(a:PySem.W.nsIn K mainGlobals x=some (some (.ref f)))
  (l:K.lookup f=some ⟨oc,od,.func (LP x x (ji st) (eQ st) (bN st) .none kV doc pm an cdv ct),osl⟩) (c:M8 K cdv x=true) (k:LO K (.ref f)=true):Df K mg x st:=⟨f,_,Fe l c k,PySem.W.mg_of X G a⟩
theorem ln0{P:List Value->Prop}(h:P [])(us:List Value)(hl:us.length=0):P us:=by
 cases us with
 |nil=>exact h
 |cons a us=>cases hl
theorem lnS{P:List Value->Prop}{n:Nat}(h:∀a us,us.length=n->P (a::us))(us:List Value)(hl:us.length=n+1):P us:=by
 cases us with
 |nil=>cases hl
 |cons a us=>exact h a us (Nat.succ.inj hl)
theorem bt{K:Iy}{mg:Str->Option Value}{P:Program}{w:World}{x:Str}{st:Stmt}{ps:List Str}{lev:Nat}{k n:Nat}{m:XS}{M:XF}(N:List Str)(F:Df K mg x st)
  (hb:∀(base:Heap)(f:Addr)(cdv:Value)(A:Around)(outer:List Env)(s:Shared)(H:Hp)(E:XK),cL lev (A.deeper (envOfC x (bN st) s.heap.objs.size f cdv))->LQ (bN st) N->RB (kS CX0 P w K mg base N x (bN st) f cdv A outer s H E).nox W0 (eQ st) m)
  (hM:M=aW k n m:=by rfl) (hk:ps.length=k:=by rfl) (hn:N.length=n:=by rfl) (Sc:jr N ps (bN st):=by exact⟨rfl,rfl,rfl,by decide+kernel,rfl,by decide+kernel,by decide+kernel⟩)
  (hbd:∀(kV doc pm:Value)(an:Option Addr)(cdv ct:Value)(us:List Value),us.length=ps.length->bindArgs (LP x x (ji st) (eQ st) (bN st) .none kV doc pm an cdv ct) ⟨us,[]⟩=pure (ps.zip us):=by
   intro _ _ _ _ _ _
   repeat refine lnS λ_=>?_
   exact ln0 rfl):OkE P w K mg (lev+1) x ps M:=by
 subst hM hk hn;obtain⟨f,fd,F,hm⟩:=F;refine⟨f,fd,hm,F.kp,?_,λbase=>HS F Sc λcdv A outer s H E hr=>hb base f cdv A outer s H E hr ⟨Sc.nd⟩⟩;obtain⟨oc,od,kV,doc,pm,an,cdv,ct,osl,rfl,lk,hcd⟩:=F.ex;exact hbd kV doc pm an cdv ct
theorem aQ{α β:Type}{a:α}{S:Sto}{f:α->Sto->R β}:(R.ok a S).bind f=f a S:=rfl
theorem GQ{i:Nat}{z:Vl}{τ:Nv}{S:Sto}:gNm i z τ S=.ok (τ.set i (some z)) S:=rfl
theorem mR:leave S (.ok (.rt z,τ) S')=out S z S':=rfl
theorem jy:leave S (.ok (.nx,τ) S')=out S (.d .non) S':=rfl
theorem jq:out S (.d x) S'=.ok (.d x) (S'.take S.length):=rfl
theorem nW(h:us.length=k):aW k n b us S=leave S (b (us.map some++Jw (n-k) none) S):=by unfold aW;rw[Iw h]
open Classical in
theorem rY {g:XG} {b:XS} {gd:Option (Nat×Ob)}:∀{items:List Vl}{τ:Nv}{S:Sto}(I:Nat->Nv->Sto->Prop),I 0 τ S ->
  (∀i z τ S,items[i]?=some z->I i τ S->∃τ1 S1 fl τ2 S2,g z τ S=.ok τ1 S1/\b τ1 S1=.ok (fl,τ2) S2/\(fl=.nx\/fl=.ct)/\gok gd S2/\I (i+1) τ2 S2) ->
  ∃τ' S',cc g b gd items τ S=.ok (.nx,τ') S'/\I items.length τ' S'
 | [],τ,S,I,h0,_=>⟨τ,S,rfl,h0⟩
 |z::zs,τ,S,I,h0,hs=>by
  obtain⟨τ1,S1,fl,τ2,S2,e1,e2,hf,hg,hI⟩:=hs 0 z τ S rfl h0
  obtain⟨τ',S',e3,h3⟩:=rY (items:=zs) (τ:=τ2) (S:=S2) (λi=>I (i+1)) hI λi z' τ S hz hi=>hs (i+1) z' τ S (by simpa using hz) hi
  refine⟨τ',S',?_,h3⟩
  rw[cc,e1,aQ,e2,aQ]
  rcases hf with rfl |rfl
  ·dsimp only
   rw[Iw hg];exact e3
  ·dsimp only
   rw[Iw hg];exact e3
theorem ya{it:XI}{t:XT}{e:XE}{τ:Nv}{S S1:Sto}{items:List Vl}(hit:it τ S=.ok ⟨items,none⟩ S1)(J:Nat->List D->Sto->Prop)(h0:J 0 [] S1)
  (hs:∀i z acc Q,items[i]?=some z->J i acc Q->Q.length=S1.length->∃b Q1,t (some z::τ) (Q++[.lst acc])=.ok b (Q1++[.lst acc])/\Q1.length=S1.length /\
   (b=true->∃x Q2,e (some z::τ) (Q1++[.lst acc])=.ok (.d x) (Q2++[.lst acc])/\Q2.length=S1.length/\J (i+1) (acc++[x]) Q2)/\(b=false->J (i+1) acc Q1)) :
  ∃acc Q,xLC it 1 (gNm 0) t e τ S=.ok (.d (.lst acc)) Q/\Q.length=S1.length/\J items.length acc Q:=by
 have key:∀(zs:List Vl)(i:Nat)(acc:List D)(o:Option Vl)(Q:Sto),(∀j,zs[j]?=items[i+j]?)->J i acc Q->Q.length=S1.length->∃acc' Q',eG (gNm 0) t e S1.length none zs acc (o::τ) (Q++[.lst acc])=.ok acc' (Q'++[.lst acc'])/\Q'.length=S1.length/\J (i+zs.length) acc' Q':=by
  intro zs
  induction zs with
  |nil=>
   intro i acc o Q _ hJ hl;refine⟨acc,Q,?_,hl,hJ⟩;rw[eG,Iw];rw[<-hl,Jd (IB _)];simp
  |cons z zs ih=>
   intro i acc o Q hz hJ hl;have hz0:items[i]?=some z:=by
    have:=hz 0;simpa using this.symm
   have hz1:∀j,zs[j]?=items[i+1+j]?:=λj=>by
    have:=hz (j+1);rw[show i+1+j=i+(j+1) by omega];simpa using this
   obtain⟨b,Q1,e1,l1,ht,hf⟩:=hs i z acc Q hz0 hJ hl;rw[eG,GQ,aQ,show(o::τ).set 0 (some z)=some z::τ from rfl,e1,aQ];cases b with
   |true=>
    obtain⟨x,Q2,e2,l2,hJ2⟩:=ht rfl;rw[Iw rfl,e2,aQ];dsimp only;have hn:(Q2++[Ob.lst acc])[S1.length]?=some (.lst acc):=by
     rw[<-l2,Jd (IB _)];simp
    rw[Iw ⟨hn,True.intro⟩];have hset:(Q2++[Ob.lst acc]).set S1.length (.lst (acc++[x]))=Q2++[.lst (acc++[x])]:=by
     rw[<-l2,MS _ _ (IB _)];simp
    rw[hset];obtain⟨acc',Q',e3,l3,h3⟩:=ih (i+1) (acc++[x]) (some z) Q2 hz1 hJ2 l2;exact⟨acc',Q',e3,l3,by rw[show i+(z::zs).length=i+1+zs.length by simp;omega];exact h3⟩
   |false=>
    rw[IF IS,Iw (show gok none (Q1++[Ob.lst acc])from True.intro)];obtain⟨acc',Q',e3,l3,h3⟩:=ih (i+1) acc (some z) Q1 hz1 (hf rfl) l1;exact⟨acc',Q',e3,l3,by rw[show i+(z::zs).length=i+1+zs.length by simp;omega];exact h3⟩
 obtain⟨acc,Q,e1,l1,h1⟩:=key items 0 [] none S1 (λj=>by rw[J3]) h0 rfl;refine⟨acc,Q,?_,l1,by rw[J3]at h1;exact h1⟩;show(it τ S).bind _=_;rw[hit,aQ];dsimp only;rw[show Jw 1 (none:Option Vl)++τ=none::τ from rfl,e1,aQ];unfold lP;rw[Iw (by simp[l1]),<-l1,OH]
theorem Ce(hit:it τ S=.ok ⟨items,none⟩ S1)(f:Vl->Option D)
  (hs:∀z∈items,∀S:Sto,(∀x,f z=some x->t (some z::τ) S=.ok true S/\e (some z::τ) S=.ok (.d x) S)/\(f z=none->t (some z::τ) S=.ok false S)) :
  xLC it 1 (gNm 0) t e τ S=.ok (.d (.lst (items.filterMap f))) S1:=by
 obtain⟨acc,Q,e1,l1,h1⟩:=ya (t:=t) (e:=e) hit (λi acc Q=>acc=(items.take i).filterMap f/\Q=S1) ⟨rfl,rfl⟩ (by
  rintro i z acc Q hz ⟨rfl,rfl⟩ _;have hm:=JG hz;have ht:items.take (i+1)=items.take i++[z]:=by rw[Mz,hz];rfl
  obtain⟨h1,h2⟩:=hs z hm (Q++[.lst ((items.take i).filterMap f)]);cases q:f z with
  |some x=>
   obtain⟨h3,h4⟩:=h1 x q;refine⟨true,Q,h3,rfl,λ_=>⟨x,Q,h4,rfl,?_,rfl⟩,λz=>(by cases z)⟩;rw[ht,MQ];simp[q]
  |none=>
   refine⟨false,Q,h2 q,rfl,λz=>(by cases z),λ_=>⟨?_,rfl⟩⟩;rw[ht,MQ];simp[q])
 obtain⟨rfl,rfl⟩:=h1;rw[JW]at e1;exact e1
theorem xX(hit:it τ S=.ok ⟨items,none⟩ S1)(f:Vl->D)(hs:∀z∈items,∀S:Sto,e (some z::τ) S=.ok (.d (f z)) S) :
  xLC it 1 (gNm 0) (λ_ S=>.ok true S) e τ S=.ok (.d (.lst (items.map f))) S1:=by
 have:=Ce (t:=λ_ S=>.ok true S) (e:=e) hit (λz=>some (f z)) λz hz S=>⟨λx hx=>⟨rfl,by cases hx;exact hs z hz S⟩,λh=>by cases h⟩;rw[this];congr 4;rw[List.filterMap_eq_map']
end L2
namespace L2
section
variable{n:Nat}{b:XS}{x y z u v:Vl}{S:Sto}
theorem cN:aW 1 n b [x] S=leave S (b ([some x]++Jw (n-1) none) S):=nW rfl
theorem dD:aW 2 n b [x,y] S=leave S (b ([some x,some y]++Jw (n-2) none) S):=nW rfl
theorem d8:aW 3 n b [x,y,z] S=leave S (b ([some x,some y,some z]++Jw (n-3) none) S):=nW rfl
theorem nB:aW 4 n b [x,y,z,u] S=leave S (b ([some x,some y,some z,some u]++Jw (n-4) none) S):=nW rfl
theorem sP:aW 5 n b [x,y,z,u,v] S=leave S (b ([some x,some y,some z,some u,some v]++Jw (n-5) none) S):=nW rfl
end
end L2
theorem L2.ak{α:Sort _}{a b:α}(h:a=b):a=b:=h
namespace L2
open PySem PySem.Spec PyProof.Rows
noncomputable def Fj(f:Vl->Vl->Sto->R Vl)(r:R Vl)(b:XE)(τ:Nv):R Vl:=r.bind λx S1=>(b τ S1).bind λy S2=>f x y S2
noncomputable def AM(f:Vl->Vl->Sto->R Vl)(x:Vl)(r:R Vl):R Vl:=r.bind λy S2=>f x y S2
noncomputable def un1(f:Vl->Sto->R Vl)(r:R Vl):R Vl:=r.bind λx S1=>f x S1
noncomputable def ch3(r:R Vl)(f:Vl->Vl->Sto->R Vl)(y:Vl)(c:XE)(τ:Nv):R Vl:=r.bind λz S3=>match z with
 | .d (.bl k)=>if k=true then(c τ S3).bind λw S4=>f y w S4 else .ok (.d (.bl false)) S3
 |_=>.bad
noncomputable def ch2(f f2:Vl->Vl->Sto->R Vl)(x:Vl)(r:R Vl)(c:XE)(τ:Nv):R Vl:=r.bind λy S2=>ch3 (f x y S2) f2 y c τ
noncomputable def ch1(f f2:Vl->Vl->Sto->R Vl)(r:R Vl)(b c:XE)(τ:Nv):R Vl:=r.bind λx S1=>ch2 f f2 x (b τ S1) c τ
noncomputable def t1(r:R Vl):R Bool:=r.bind asB
noncomputable def tr1(r:R Vl):R Bool:=r.bind tru
noncomputable def or1(r:R Bool)(b:XT)(τ:Nv):R Bool:=r.bind λc S1=>if c=true then .ok true S1 else b τ S1
noncomputable def EH(r:R Bool):R Bool:=r.bind λc S1=>.ok (!c) S1
noncomputable def BN(r:R Vl)(b:XE)(τ:Nv):R Vl:=r.bind λx S1=>(asB x S1).bind λc S2=>if c=true then b τ S2 else .ok (.d (.bl false)) S2
noncomputable def Bt(r:R Vl):R Vl:=r.bind λx S1=>(asB x S1).bind λc S2=>.ok (.d (.bl (!c))) S2
noncomputable def co2(x:Vl)(r:R (List Vl)):R (List Vl):=r.bind λxs S2=>.ok (x::xs) S2
noncomputable def co1(r:R Vl)(t:XA)(τ:Nv):R (List Vl):=r.bind λx S1=>co2 x (t τ S1)
noncomputable def n1(f:List Vl->Sto->R Vl)(r:R (List Vl)):R Vl:=r.bind f
noncomputable def c1(F:XF)(r:R (List Vl)):R Vl:=r.bind λus S1=>noX (F us S1)
noncomputable def fz1(r:R Vl):R Vl:=r.bind frz
noncomputable def p1(r:R Vl):R (Option Int):=r.bind λx S1=>match x with
 | .d (.int i)=>.ok (some i) S1
 |_=>.bad
noncomputable def sl3(f:Vl->Option Int->Option Int->Sto->R Vl)(x:Vl)(i:Option Int)(r:R (Option Int)):R Vl:=r.bind λj S3=>f x i j S3
noncomputable def sl2(f:Vl->Option Int->Option Int->Sto->R Vl)(x:Vl)(r:R (Option Int))(h:XO)(τ:Nv):R Vl:=r.bind λi S2=>sl3 f x i (h τ S2)
noncomputable def sl1(f:Vl->Option Int->Option Int->Sto->R Vl)(r:R Vl)(l h:XO)(τ:Nv):R Vl:=r.bind λx S1=>sl2 f x (l τ S1) h τ
noncomputable def lm4(f:Nat->List D->D->Sto->R Vl)(n:Nat)(o:Option Ob)(z:D)(S:Sto):R Vl:=match o with
 |some (.lst xs)=>f n xs z S
 |_=>.bad
noncomputable def lm3(f:Nat->List D->D->Sto->R Vl)(n:Nat)(r:R Vl):R Vl:=r.bind λy S2=>match y with
 | .d z=>lm4 f n S2[n]? z S2
 |_=>.bad
noncomputable def lm2(f:Nat->List D->D->Sto->R Vl)(n:Nat)(o:Option Ob)(e:XE)(τ:Nv)(S:Sto):R Vl:=match o with
 |some (.lst _)=>lm3 f n (e τ S)
 |_=>.bad
noncomputable def lm1(f:Nat->List D->D->Sto->R Vl)(r:R Vl)(e:XE)(τ:Nv):R Vl:=r.bind λx S1=>match x with
 | .r n=>lm2 f n S1[n]? e τ S1
 |_=>.bad
noncomputable def sq1(r:R (Fl×Nv))(b:XS):R (Fl×Nv):=r.bind λq S1=>match q.1 with
 | .nx=>b q.2 S1
 |_=>.ok q S1
noncomputable def ex1(r:R Vl)(τ:Nv):R (Fl×Nv):=r.bind λ_ S1=>.ok (.nx,τ) S1
noncomputable def rt1(r:R Vl)(τ:Nv):R (Fl×Nv):=r.bind λz S1=>.ok (.rt z,τ) S1
noncomputable def if1(r:R Bool)(a b:XS)(τ:Nv):R (Fl×Nv):=r.bind λk S1=>if k=true then a τ S1 else b τ S1
noncomputable def as2(r:R Nv):R (Fl×Nv):=r.bind λτ1 S2=>.ok (.nx,τ1) S2
noncomputable def as1(r:R Vl)(g:XG)(τ:Nv):R (Fl×Nv):=r.bind λz S1=>as2 (g z τ S1)
noncomputable def gc1(r:R Nv)(gs:XGs)(zs:List Vl):R Nv:=r.bind λτ1 S1=>gs zs τ1 S1
noncomputable def gs3(r:R Unit)(τ:Nv):R Nv:=r.bind λ_ S3=>.ok τ S3
noncomputable def gs2(x:Vl)(r:R Vl)(f:Vl->Vl->Vl->Sto->R Unit)(z:Vl)(τ:Nv):R Nv:=r.bind λy S2=>gs3 (f x y z S2) τ
noncomputable def gs1(r:R Vl)(i:XE)(f:Vl->Vl->Vl->Sto->R Unit)(z:Vl)(τ:Nv):R Nv:=r.bind λx S1=>gs2 x (i τ S1) f z τ
noncomputable def fo1(r:R Its)(g:XG)(b:XS)(τ:Nv):R (Fl×Nv):=r.bind λI S1=>cc g b I.gd I.items τ S1
noncomputable def is2(n:Nat)(o:Option Ob)(S:Sto):R Its:=match o with
 |some (.lst xs)=>.ok ⟨xs.map Vl.d,some (n,.lst xs)⟩ S
 |_=>.bad
noncomputable def is1(r:R Vl):R Its:=r.bind λz S1=>match z with
 | .d (.tup xs)=>.ok ⟨xs.map Vl.d,none⟩ S1
 | .d (.lst xs)=>.ok ⟨xs.map Vl.d,none⟩ S1
 | .r n=>is2 n S1[n]? S1
 |_=>.bad
noncomputable def ir1(r:R (List Vl)):R Its:=r.bind λzs S1=>match zs with
 | [.d (.int j)]=>if -100000<=j/\j<=100000 then .ok ⟨(IP j.toNat).map λi=>Vl.d (.int (i:Nat)),none⟩ S1 else .bad
 |_=>.bad
noncomputable def ir2(r:R (List Vl)):R Its:=r.bind λzs S1=>match zs with
 | [.d (.int i),.d (.int j)]=>if(-100000<=i/\i<=100000)/\-100000<=j/\j<=100000 then .ok ⟨(IP (j-i).toNat).map λk=>Vl.d (.int (i+(k:Nat))),none⟩ S1 else .bad
 |_=>.bad
noncomputable def ie1(r:R Vl):R Its:=r.bind λz S1=>match z with
 | .d (.lst xs)=>.ok ⟨cJ 0 xs,none⟩ S1
 |_=>.bad
theorem BV{v:Vl}{τ:Nv}{S:Sto}:aa 0 (some v::τ) S=.ok v S:=ak rfl
theorem BX{n:Nat}{o:Option Vl}{τ:Nv}{S:Sto}:aa (n+1) (o::τ) S=aa n τ S:=ak rfl
theorem Ek{x:D}{τ:Nv}{S:Sto}:xC x τ S=.ok (.d x) S:=ak rfl
theorem F9{x:Str}{τ:Nv}{S:Sto}:xFn x τ S=.ok (.fn x) S:=ak rfl
theorem Gz{f:Vl->Vl->Sto->R Vl}{a b:XE}{τ:Nv}{S:Sto}:xOp f a b τ S=Fj f (a τ S) b τ:=ak rfl
theorem DP{f:Vl->Vl->Sto->R Vl}{b:XE}{τ:Nv}{S1:Sto}{x:Vl}:Fj f (.ok x S1) b τ=AM f x (b τ S1):=ak rfl
theorem Ed{f:Vl->Vl->Sto->R Vl}{S1:Sto}{x y:Vl}:AM f x (.ok y S1)=f x y S1:=ak rfl
theorem Hr{u:Vl->Sto->R Vl}{a:XE}{τ:Nv}{S:Sto}:xUn u a τ S=un1 u (a τ S):=ak rfl
theorem Gy{u:Vl->Sto->R Vl}{S1:Sto}{x:Vl}:un1 u (.ok x S1)=u x S1:=ak rfl
theorem AR{f f2:Vl->Vl->Sto->R Vl}{a b c:XE}{τ:Nv}{S:Sto}:eh f f2 a b c τ S=ch1 f f2 (a τ S) b c τ:=ak rfl
theorem Hd{f f2:Vl->Vl->Sto->R Vl}{b c:XE}{τ:Nv}{S1:Sto}{x:Vl}:ch1 f f2 (.ok x S1) b c τ=ch2 f f2 x (b τ S1) c τ:=ak rfl
theorem Gs{f f2:Vl->Vl->Sto->R Vl}{c:XE}{τ:Nv}{S1:Sto}{x y:Vl}:ch2 f f2 x (.ok y S1) c τ=ch3 (f x y S1) f2 y c τ:=ak rfl
theorem EJ{f:Vl->Vl->Sto->R Vl}{c:XE}{τ:Nv}{S1:Sto}{y:Vl}:ch3 (.ok (.d (.bl true)) S1) f y c τ=AM f y (c τ S1):=ak rfl
theorem Fb{f:Vl->Vl->Sto->R Vl}{c:XE}{τ:Nv}{S1:Sto}{y:Vl}:ch3 (.ok (.d (.bl false)) S1) f y c τ=.ok (.d (.bl false)) S1:=ak rfl
theorem Co{a:XE}{τ:Nv}{S:Sto}:ba a τ S=t1 (a τ S):=ak rfl
theorem HG{k:Bool}{S:Sto}:t1 (.ok (.d (.bl k)) S)=.ok k S:=ak rfl
theorem FR{a:XE}{τ:Nv}{S:Sto}:eE a τ S=tr1 (a τ S):=ak rfl
theorem Gp{z:Vl}{S:Sto}:tr1 (.ok z S)=tru z S:=ak rfl
theorem GH{k:Bool}{S:Sto}:tru (.d (.bl k)) S=.ok k S:=ak rfl
theorem Gj{a b:XT}{τ:Nv}{S:Sto}:xOr a b τ S=or1 (a τ S) b τ:=ak rfl
theorem Hv{b:XT}{τ:Nv}{S:Sto}:or1 (.ok true S) b τ=.ok true S:=ak rfl
theorem Hh{b:XT}{τ:Nv}{S:Sto}:or1 (.ok false S) b τ=b τ S:=ak rfl
theorem FK{a:XT}{τ:Nv}{S:Sto}:eK a τ S=EH (a τ S):=ak rfl
theorem FH{S:Sto}{k:Bool}:EH (.ok k S)=.ok (!k) S:=ak rfl
theorem CJ{a b:XE}{τ:Nv}{S:Sto}:dA a b τ S=BN (a τ S) b τ:=ak rfl
theorem Dm{b:XE}{τ:Nv}{S:Sto}:BN (.ok (.d (.bl true)) S) b τ=b τ S:=ak rfl
theorem De{a:XE}{τ:Nv}{S:Sto}:qR a τ S=Bt (a τ S):=ak rfl
theorem Dp{k:Bool}{S:Sto}:Bt (.ok (.d (.bl k)) S)=.ok (.d (.bl (!k))) S:=ak rfl
theorem yk{τ:Nv}{S:Sto}:aj τ S=.ok [] S:=ak rfl
theorem vc{a:XE}{r:XA}{τ:Nv}{S:Sto}:ab a r τ S=co1 (a τ S) r τ:=ak rfl
theorem BW{r:XA}{τ:Nv}{S:Sto}{x:Vl}:co1 (.ok x S) r τ=co2 x (r τ S):=ak rfl
theorem Bv{S:Sto}{x:Vl}{xs:List Vl}:co2 x (.ok xs S)=.ok (x::xs) S:=ak rfl
theorem HQ{r:XA}{τ:Nv}{S:Sto}{f:List Vl->Sto->R Vl}:xN f r τ S=n1 f (r τ S):=ak rfl
theorem Im{S:Sto}{xs:List Vl}{f:List Vl->Sto->R Vl}:n1 f (.ok xs S)=f xs S:=ak rfl
theorem vn{r:XA}{τ:Nv}{S:Sto}{F:XF}:aA F r τ S=c1 F (r τ S):=ak rfl
theorem Fy{S:Sto}{xs:List Vl}{F:XF}:c1 F (.ok xs S)=noX (F xs S):=ak rfl
theorem qZ{x:Vl}{S:Sto}:noX (R.ok x S)=.ok x S:=ak rfl
theorem Gb{a:XE}{τ:Nv}{S:Sto}:xFz a τ S=fz1 (a τ S):=ak rfl
theorem Hu{z:Vl}{S:Sto}:fz1 (.ok z S)=frz z S:=ak rfl
theorem yO{τ:Nv}{S:Sto}:bK τ S=.ok none S:=ak rfl
theorem Cb{a:XE}{τ:Nv}{S:Sto}:bR a τ S=p1 (a τ S):=ak rfl
theorem Il{i:Int}{S:Sto}:p1 (.ok (.d (.int i)) S)=.ok (some i) S:=ak rfl
theorem Gh{f:Vl->Option Int->Option Int->Sto->R Vl}{a:XE}{l h:XO}{τ:Nv}{S:Sto}:xSl f a l h τ S=sl1 f (a τ S) l h τ:=ak rfl
theorem F5{f:Vl->Option Int->Option Int->Sto->R Vl}{l h:XO}{τ:Nv}{S:Sto}{x:Vl}:sl1 f (.ok x S) l h τ=sl2 f x (l τ S) h τ:=ak rfl
theorem F7{f:Vl->Option Int->Option Int->Sto->R Vl}{h:XO}{τ:Nv}{S:Sto}{x:Vl}{i:Option Int}:sl2 f x (.ok i S) h τ=sl3 f x i (h τ S):=ak rfl
theorem F6{f:Vl->Option Int->Option Int->Sto->R Vl}{S:Sto}{x:Vl}{i j:Option Int}:sl3 f x i (.ok j S)=f x i j S:=ak rfl
theorem GI{f:Nat->List D->D->Sto->R Vl}{o e:XE}{τ:Nv}{S:Sto}:xLm f o e τ S=lm1 f (o τ S) e τ:=ak rfl
theorem G3{f:Nat->List D->D->Sto->R Vl}{e:XE}{τ:Nv}{S:Sto}{n:Nat}:lm1 f (.ok (.r n) S) e τ=lm2 f n S[n]? e τ S:=ak rfl
theorem G2{f:Nat->List D->D->Sto->R Vl}{e:XE}{τ:Nv}{S:Sto}{n:Nat}{xs:List D}:lm2 f n (some (.lst xs)) e τ S=lm3 f n (e τ S):=ak rfl
theorem BE{f:Nat->List D->D->Sto->R Vl}{S:Sto}{n:Nat}{z:D}:lm3 f n (.ok (.d z) S)=lm4 f n S[n]? z S:=ak rfl
theorem BP{f:Nat->List D->D->Sto->R Vl}{S:Sto}{n:Nat}{xs:List D}{z:D}:lm4 f n (some (.lst xs)) z S=f n xs z S:=ak rfl
theorem pH{τ:Nv}{S:Sto}:aX τ S=.ok (.nx,τ) S:=ak rfl
theorem sg{a b:XS}{τ:Nv}{S:Sto}:ay a b τ S=sq1 (a τ S) b:=ak rfl
theorem jx{b:XS}{τ:Nv}{S:Sto}:sq1 (.ok (.nx,τ) S) b=b τ S:=ak rfl
theorem Hn{b:XS}{τ:Nv}{S:Sto}{v:Vl}:sq1 (.ok (.rt v,τ) S) b=.ok (.rt v,τ) S:=ak rfl
theorem CY{τ:Nv}{S:Sto}{e:XE}:cK e τ S=ex1 (e τ S) τ:=ak rfl
theorem BJ{τ:Nv}{S:Sto}{z:Vl}:ex1 (.ok z S) τ=.ok (.nx,τ) S:=ak rfl
theorem Eg{τ:Nv}{S:Sto}{e:XE}:aR e τ S=rt1 (e τ S) τ:=ak rfl
theorem GC{τ:Nv}{S:Sto}{z:Vl}:rt1 (.ok z S) τ=.ok (.rt z,τ) S:=ak rfl
theorem BZ{a b:XS}{τ:Nv}{S:Sto}{t:XT}:xIf t a b τ S=if1 (t τ S) a b τ:=ak rfl
theorem Ep{a b:XS}{τ:Nv}{S:Sto}:if1 (.ok true S) a b τ=a τ S:=ak rfl
theorem r_{a b:XS}{τ:Nv}{S:Sto}:if1 (.ok false S) a b τ=b τ S:=ak rfl
theorem tM{τ:Nv}{S:Sto}{e:XE}{g:XG}:aK e g τ S=as1 (e τ S) g τ:=ak rfl
theorem lZ{τ:Nv}{S:Sto}{z:Vl}{g:XG}:as1 (.ok z S) g τ=as2 (g z τ S):=ak rfl
theorem oq{τ1:Nv}{S:Sto}:as2 (.ok τ1 S)=.ok (.nx,τ1) S:=ak rfl
theorem eX{τ:Nv}{S:Sto}{z:Vl}{i:Nat}:gNm i z τ S=.ok (τ.set i (some z)) S:=ak rfl
theorem Gq{gs:XGs}{τ:Nv}{S:Sto}{xs:List D}{n:Nat}:gTu n gs (.d (.tup xs)) τ S=if xs.length=n then gs (xs.map Vl.d) τ S else .bad:=ak rfl
theorem G1{τ:Nv}{S:Sto}:gN0 [] τ S=.ok τ S:=ak rfl
theorem G0{g:XG}{gs:XGs}{τ:Nv}{S:Sto}{z:Vl}{zs:List Vl}:gCo g gs (z::zs) τ S=gc1 (g z τ S) gs zs:=ak rfl
theorem Gi{gs:XGs}{τ1:Nv}{S:Sto}{zs:List Vl}:gc1 (.ok τ1 S) gs zs=gs zs τ1 S:=ak rfl
theorem BA{τ:Nv}{S:Sto}{z:Vl}{o e:XE}{f:Vl->Vl->Vl->Sto->R Unit}:gSb o e f z τ S=gs1 (o τ S) e f z τ:=ak rfl
theorem Bz{τ:Nv}{S:Sto}{z x:Vl}{e:XE}{f:Vl->Vl->Vl->Sto->R Unit}:gs1 (.ok x S) e f z τ=gs2 x (e τ S) f z τ:=ak rfl
theorem BF{τ:Nv}{S:Sto}{z x y:Vl}{f:Vl->Vl->Vl->Sto->R Unit}:gs2 x (.ok y S) f z τ=gs3 (f x y z S) τ:=ak rfl
theorem v9{τ:Nv}{S:Sto}:gs3 (.ok () S) τ=.ok τ S:=ak rfl
theorem oK{it:XI}{g:XG}{b:XS}{τ:Nv}{S:Sto}:cy it g b τ S=fo1 (it τ S) g b τ:=ak rfl
theorem qY{g:XG}{b:XS}{τ:Nv}{S:Sto}{I:Its}:fo1 (.ok I S) g b τ=cc g b I.gd I.items τ S:=ak rfl
theorem lq{τ:Nv}{S:Sto}{e:XE}:b6 e τ S=is1 (e τ S):=ak rfl
theorem yH{S:Sto}{xs:List D}:is1 (.ok (.d (.tup xs)) S)=.ok ⟨xs.map Vl.d,none⟩ S:=ak rfl
theorem Ey{S:Sto}{xs:List D}:is1 (.ok (.d (.lst xs)) S)=.ok ⟨xs.map Vl.d,none⟩ S:=ak rfl
theorem Fq{S:Sto}{n:Nat}:is1 (.ok (.r n) S)=is2 n S[n]? S:=ak rfl
theorem Hs{S:Sto}{xs:List D}{n:Nat}:is2 n (some (.lst xs)) S=.ok ⟨xs.map Vl.d,some (n,.lst xs)⟩ S:=ak rfl
theorem DJ{τ:Nv}{S:Sto}{as:XA}:gW as τ S=ir1 (as τ S):=ak rfl
theorem Ei{τ:Nv}{S:Sto}{as:XA}:Bj as τ S=ir2 (as τ S):=ak rfl
theorem E5{τ:Nv}{S:Sto}{e:XE}:A_ e τ S=ie1 (e τ S):=ak rfl
theorem Gu{S:Sto}{xs:List D}:ie1 (.ok (.d (.lst xs)) S)=.ok ⟨cJ 0 xs,none⟩ S:=ak rfl
theorem jH{j:Int}{S:Sto}(h:-100000<=j/\j<=100000):ir1 (.ok [.d (.int j)] S)=.ok ⟨(IP j.toNat).map λi=>Vl.d (.int (i:Nat)),none⟩ S:=by rw[show ir1 (.ok [.d (.int j)] S)=if -100000<=j/\j<=100000 then .ok ⟨(IP j.toNat).map λi=>Vl.d (.int (i:Nat)),none⟩ S else .bad from rfl,Iw h]
theorem B6{i j:Int}{S:Sto}(h:(-100000<=i/\i<=100000)/\-100000<=j/\j<=100000):ir2 (.ok [.d (.int i),.d (.int j)] S)=.ok ⟨(IP (j-i).toNat).map λk=>Vl.d (.int (i+(k:Nat))),none⟩ S:=by rw[show ir2 (.ok [.d (.int i),.d (.int j)] S)=if(-100000<=i/\i<=100000)/\-100000<=j/\j<=100000 then .ok ⟨(IP (j-i).toNat).map λk=>Vl.d (.int (i+(k:Nat))),none⟩ S else .bad from rfl,Iw h]
theorem Ie{i j:Int}{S:Sto}{g:Int->Int->D}:oI0 g (.d (.int i)) (.d (.int j)) S=.ok (.d (g i j)) S:=ak rfl
theorem EA{i j:Int}{S:Sto}:aI (.d (.int i)) (.d (.int j)) S=.ok (.d (.int (i+j))) S:=ak rfl
theorem Hy{i:Int}{S:Sto}:cX (.d (.int i)) S=.ok (.d (.int (-i))) S:=ak rfl
theorem tu{S:Sto}{xs ys:List D}(h:xs.length+ys.length<=100000):aI (.d (.tup xs)) (.d (.tup ys)) S=.ok (.d (.tup (xs++ys))) S:=by rw[show aI (.d (.tup xs)) (.d (.tup ys)) S=if xs.length+ys.length<=100000 then .ok (.d (.tup (xs++ys))) S else .bad from rfl,Iw h]
theorem yB{S:Sto}{xs ys:List D}(h:xs.length+ys.length<=100000):aI (.d (.lst xs)) (.d (.lst ys)) S=.ok (.d (.lst (xs++ys))) S:=by rw[show aI (.d (.lst xs)) (.d (.lst ys)) S=if xs.length+ys.length<=100000 then .ok (.d (.lst (xs++ys))) S else .bad from rfl,Iw h]
theorem GP{i j:Int}{S:Sto}:oEq (.d (.int i)) (.d (.int j)) S=.ok (.d (.bl (decide (i=j)))) S:=ak rfl
theorem Gd{i j:Int}{S:Sto}:oNe (.d (.int i)) (.d (.int j)) S=.ok (.d (.bl (!decide (i=j)))) S:=ak rfl
theorem Hb{S:Sto}{s t:Str}:oEq (.d (.str s)) (.d (.str t)) S=.ok (.d (.bl (decide (s=t)))) S:=ak rfl
theorem Gr{S:Sto}{s t:Str}:oNe (.d (.str s)) (.d (.str t)) S=.ok (.d (.bl (!decide (s=t)))) S:=ak rfl
theorem Hx{S:Sto}{p q:Bool}:oNe (.d (.bl p)) (.d (.bl q)) S=.ok (.d (.bl (!decide (p=q)))) S:=ak rfl
theorem w_{S:Sto}{xs ys:List D}(h:D.depth (.lst xs)<=50):oEq (.d (.lst xs)) (.d (.lst ys)) S=.ok (.d (.bl (D.bS xs ys))) S:=by
 have:eqD (.d (.lst xs)) (.d (.lst ys)) S=some (D.bS xs ys):=by rw[show eqD (.d (.lst xs)) (.d (.lst ys)) S=if D.depth (.lst xs)<=50 then some (D.bS xs ys)else none from rfl,Iw h]
 unfold oEq;rw[this]
theorem Fo{S:Sto}{xs ys:List D}(h:D.depth (.lst xs)<=50):oNe (.d (.lst xs)) (.d (.lst ys)) S=.ok (.d (.bl (!D.bS xs ys))) S:=by
 have:eqD (.d (.lst xs)) (.d (.lst ys)) S=some (D.bS xs ys):=by rw[show eqD (.d (.lst xs)) (.d (.lst ys)) S=if D.depth (.lst xs)<=50 then some (D.bS xs ys)else none from rfl,Iw h]
 unfold oNe;rw[this]
theorem F1{T:String}{x:D}{S:Sto}:iV T (.d x) S=.ok (.d (.bl (isT T x))) S:=ak rfl
theorem sH{S:Sto}{xs:List D}:bD [.d (.tup xs)] S=.ok (.d (.int xs.length)) S:=ak rfl
theorem yD{S:Sto}{xs:List D}:bD [.d (.lst xs)] S=.ok (.d (.int xs.length)) S:=ak rfl
theorem Eh{S:Sto}{xs:List D}:cY [.d (.lst xs)] S=.ok (.d (.tup xs)) S:=ak rfl
theorem E4{S:Sto}{xs:List D}:jS [.d (.tup xs)] S=.ok (.d (.lst xs)) S:=ak rfl
theorem Cn{S:Sto}{xs:List D}:nr [.d (.lst xs)] S=.ok (.r S.length) (S++[.lst xs]):=ak rfl
theorem wy{i j:Int}{S:Sto}:rP [.d (.int i),.d (.int j)] S=.ok (.d (.int (if j>i then j else i))) S:=ak rfl
theorem wL{i j:Int}{S:Sto}:oS [.d (.int i),.d (.int j)] S=.ok (.d (.int (if j<i then j else i))) S:=ak rfl
theorem dz{i:Int}{S:Sto}{xs:List D}{z:D}(h:atI xs i=some z):oIx (.d (.tup xs)) (.d (.int i)) S=.ok (.d z) S:=by rw[show oIx (.d (.tup xs)) (.d (.int i)) S=(match atI xs i with |some z=>.ok (.d z) S |none=>.bad)from rfl,h]
theorem iH{i:Int}{S:Sto}{xs:List D}{z:D}(h:atI xs i=some z):oIx (.d (.lst xs)) (.d (.int i)) S=.ok (.d z) S:=by rw[show oIx (.d (.lst xs)) (.d (.int i)) S=(match atI xs i with |some z=>.ok (.d z) S |none=>.bad)from rfl,h]
theorem lU{i:Int}{S:Sto}{xs:List D}{z:D}{n:Nat}(e:S[n]?=some (.lst xs))(h:atI xs i=some z):oIx (.r n) (.d (.int i)) S=.ok (.d z) S:=by
 have:bX (.r n) S=some xs:=by unfold bX cU;dsimp only;rw[e]
 unfold oIx;dsimp only;rw[this];dsimp only;rw[h]
theorem rL{S:Sto}{xs:List D}{n:Nat}(e:S[n]?=some (.lst xs)):bD [.r n] S=.ok (.d (.int xs.length)) S:=by
 have:bX (.r n) S=some xs:=by unfold bX cU;dsimp only;rw[e]
 unfold bD;dsimp only;rw[this]
theorem l_{xs:List D}{i j:Option Int}{S:Sto}:oSl (.d (.tup xs)) i j S=.ok (.d (.tup (cF xs i j))) S:=ak rfl
theorem GZ{xs:List D}{i j:Option Int}{S:Sto}:oSl (.d (.lst xs)) i j S=.ok (.d (.lst (cF xs i j))) S:=ak rfl
theorem F4{ns:List Int}{i j:Option Int}{S:Sto}:rV (.sc ns) i j S=.ok (.d (.lst (cF (ns.map D.int) i j))) S:=ak rfl
theorem BU{S:Sto}{xs:List D}:pv (.d (.tup xs)) (.d (.int (-1))) S=.ok (.d (.tup xs.reverse)) S:=ak rfl
theorem qT{i j:Int}{S:Sto}(h:jW i j):fg (.d (.int i)) (.d (.int j)) S=.ok (.d (.int (i*j))) S:=by rw[show fg (.d (.int i)) (.d (.int j)) S=if jW i j then .ok (.d (.int (i*j))) S else .bad from rfl,Iw h]
theorem rf{i j:Int}{S:Sto}(h:0<j):oMod (.d (.int i)) (.d (.int j)) S=.ok (.d (.int (i % j))) S:=by rw[show oMod (.d (.int i)) (.d (.int j)) S=if 0<j then .ok (.d (.int (i % j))) S else .bad from rfl,Iw h]
theorem Hj{i j:Int}{S:Sto}(h:pq i j):oDiv (.d (.int i)) (.d (.int j)) S=.ok (.d (.int (i / j))) S:=by rw[show oDiv (.d (.int i)) (.d (.int j)) S=if pq i j then .ok (.d (.int (i / j))) S else .bad from rfl,Iw h]
theorem rg{i j:Int}{S:Sto}(h:oO i j):pL (.d (.int i)) (.d (.int j)) S=.ok (.d (.int (i ^ j.toNat))) S:=by rw[show pL (.d (.int i)) (.d (.int j)) S=if oO i j then .ok (.d (.int (i ^ j.toNat))) S else .bad from rfl,Iw h]
theorem qX{i j:Int}(h1:-(2 ^ 64)<j)(h2:j<2 ^ 64):jW i j:=.inr ⟨h1,h2⟩
theorem FN:mkT [] S=.ok (.d (.tup [])) S:=ak rfl
theorem EY:mkL [] S=.ok (.d (.lst [])) S:=ak rfl
theorem Fx:mkM [] S=.ok (.r S.length) (S++[.lst []]):=ak rfl
theorem EG:mkT [.d a] S=.ok (.d (.tup [a])) S:=ak rfl
theorem EK:mkL [.d a] S=.ok (.d (.lst [a])) S:=ak rfl
theorem E6:mkM [.d a] S=.ok (.r S.length) (S++[.lst [a]]):=ak rfl
theorem DF:mkT [.d a,.d b] S=.ok (.d (.tup [a,b])) S:=ak rfl
theorem Ew:mkL [.d a,.d b] S=.ok (.d (.lst [a,b])) S:=ak rfl
theorem DH:mkL [.d a,.d b,.d c] S=.ok (.d (.lst [a,b,c])) S:=ak rfl
theorem FG:mkM [.d a,.d b,.d c] S=.ok (.r S.length) (S++[.lst [a,b,c]]):=ak rfl
theorem DV:mkT [.d a,.d b,.d c,.d d,.d e] S=.ok (.d (.tup [a,b,c,d,e])) S:=ak rfl
theorem Fh:mkL [.d a,.d b,.d c,.d d,.d e] S=.ok (.d (.lst [a,b,c,d,e])) S:=ak rfl
theorem FW:mkL [.d a,.d b,.d c,.d d,.d e,.d f,.d g,.d h] S=.ok (.d (.lst [a,b,c,d,e,f,g,h])) S:=ak rfl
theorem uY{R:Sto}:(o::(R++[x]))[R.length+1]?=some x:=by simp
theorem Ai{R:Sto}:(o::(R++[x,y]))[R.length+1]?=some x:=by simp
theorem zL{R:Sto}:(o::(R++[x,y])).set (R.length+1) z=o::(R++[z,y]):=by simp
theorem mS{R:Sto}:(R++[x])[R.length]?=some x:=by simp
theorem su{R:Sto}:(R++[x]).set R.length y=R++[y]:=by simp
theorem Aa{R:Sto}:(R++[x,y])[R.length]?=some x:=by simp
theorem Ab{R:Sto}:(R++[x,y]).set R.length z=R++[z,y]:=by simp
theorem zA(ns:List Int):(ns.map D.int).all D.flat=true:=by rw[NV];exact K5.mpr λ_ _=>rfl
theorem CA(w:Int)(ns:List Int):inD (.int w) (ns.map D.int)=decide (w∈ns):=by
 unfold inD;rw[Pq,Kc,Lv,decide_eq_true_eq];constructor
 ·rintro⟨x,hx,e⟩;have e':(x==w)=true:=e;rw[<-(L1.mp e')];exact hx
 ·intro h;exact⟨w,h,by show(w==w)=true;simp⟩
theorem vZ(e:S[n]?=some (.lst xs)):bX (.r n) S=some xs:=by unfold bX cU;dsimp only;rw[e]
theorem mW{ns:List Int}(h:bX y S=some (ns.map D.int)):inX (.d (.int w)) y S=some (decide (w∈ns)):=by
 unfold inX;dsimp only;rw[h];dsimp only;rw[show D.flat (.int w)=true from rfl,zA,Iw (by rfl),CA]
theorem B4{ns:List Int}:oIn (.d (.int w)) (.d (.tup (ns.map D.int))) S=.ok (.d (.bl (decide (w∈ns)))) S:=by unfold oIn;rw[mW (ns:=ns) rfl]
theorem xT{ns:List Int}:ip (.d (.int w)) (.d (.tup (ns.map D.int))) S=.ok (.d (.bl (!decide (w∈ns)))) S:=by unfold ip;rw[mW (ns:=ns) rfl]
theorem E_{ns:List Int}(e:S[n]?=some (.lst (ns.map D.int))):ip (.d (.int w)) (.r n) S=.ok (.d (.bl (!decide (w∈ns)))) S:=by unfold ip;rw[mW (vZ e)]
theorem oE(h:xs.length<100000):fi n xs z S=.ok (.d .non) (S.set n (.lst (xs++[z]))):=by unfold fi;rw[Iw h]
theorem EB(h:xs.length+ys.length<=100000):nZ n xs (.lst ys) S=.ok (.d .non) (S.set n (.lst (xs++ys))):=by unfold nZ;dsimp only;rw[Iw h]
theorem C3(e:bX x S=some (ns.map D.int))(h:ns.length<64):l4 [x] S=.ok (.d (.lst ((sortI ns).map D.int))) S:=by
 unfold l4;dsimp only;rw[e,Lx,j7];dsimp only;rw[Iw h]
theorem Cr(e:S[n]?=some (.lst (ns.map D.int)))(h:ns.length<64):l4 [.r n] S=.ok (.d (.lst ((sortI ns).map D.int))) S:=C3 (vZ e) h
theorem Hg(e:bX x S=some (ns.map D.int))(h:ns.length<=300):oLS x S=.ok (.d (.int (bh ns).length)) S:=by
 unfold oLS;rw[e,Lx,j7];dsimp only;rw[Iw h]
theorem tP(x:Int):∀ys,(gP x ys).length<=ys.length+1
 | []=>by simp[gP]
 |y::ys=>by
  unfold gP;split
  ·simp
  ·split
   ·simp
   ·have:=tP x ys;simp;omega
theorem fX:∀xs,(bh xs).length<=xs.length
 | []=>by simp[bh]
 |x::xs=>by
  have:=tP x (bh xs);have:=fX xs;rw[bh,Js];omega
theorem fW(ns:List Int):(sortI ns).length=ns.length:=(sortI_perm ns).length_eq
theorem lr(ns:List Int)(z:Int):z∈sortI ns↔z∈ns:=(sortI_perm ns).mem_iff
theorem mZ(h:ns.Nodup):(sortI ns).Pairwise (· <·):=((jU ns).and ((sortI_perm ns).nodup_iff.mpr h)).imp λz=>by have:=z.1;have:=z.2;omega
theorem EM(h:fo ds=some bs):dX [.d (.lst ds)] S=.ok (.d (.bl (bs.all id))) S:=by
 unfold dX;dsimp only;rw[show cU (.d (.lst ds)) S=some ds from rfl,Lx,h]
theorem Eb(h:fo ds=some bs):pN [.d (.lst ds)] S=.ok (.d (.bl (bs.any id))) S:=by
 unfold pN;dsimp only;rw[show cU (.d (.lst ds)) S=some ds from rfl,Lx,h]
theorem oP(f:α->Bool):∀l:List α,fo (l.map λx=>D.bl (f x))=some (l.map f)
 | []=>rfl
 |x::l=>by simp[fo,oP f l]
theorem rR(f:α->Int):∀l:List α,intsOf (l.map λx=>D.int (f x))=some (l.map f)
 | []=>rfl
 |x::l=>by simp[intsOf,rR f l]
theorem ix{α:Type}{f:α->Bool}{l:List α}{S:Sto}:dX [.d (.lst (l.map λx=>D.bl (f x)))] S=.ok (.d (.bl (l.all f))) S:=by rw[EM (oP f l),NV];rfl
theorem Fg{α:Type}{f:α->Bool}{l:List α}{S:Sto}:pN [.d (.lst (l.map λx=>D.bl (f x)))] S=.ok (.d (.bl (l.any f))) S:=by rw[Eb (oP f l),Pq];rfl
theorem Ff(h:0<=j/\j<=1000):lrg Bb [.d (.int j)] S=.ok (.r S.length) (S++[.lst ((IP j.toNat).map λi=>D.int (i:Nat))]):=by
 unfold lrg;dsimp only;rw[Iw h];rfl
theorem Hc(h:0<=i/\i<2 ^ 63)(e:xs[i.toNat]?=some y):tH n xs (.int i) S=.ok (.d y) (S.set n (.lst (xs.eraseIdx i.toNat))):=by
 unfold tH;dsimp only;rw[Iw h,e]
theorem B2(hC:xLC it 1 (gNm 0) t e τ S=r)(hit:it τ S=.ok ⟨items,none⟩ S1)(J:Nat->List D->Sto->Prop)(h0:J 0 [] S1)
  (hs:∀i z acc Q,items[i]?=some z->J i acc Q->Q.length=S1.length->∃b Q1,t (some z::τ) (Q++[.lst acc])=.ok b (Q1++[.lst acc])/\Q1.length=S1.length /\
   (b=true->∃x Q2,e (some z::τ) (Q1++[.lst acc])=.ok (.d x) (Q2++[.lst acc])/\Q2.length=S1.length/\J (i+1) (acc++[x]) Q2)/\(b=false->J (i+1) acc Q1)) :
  ∃acc Q,r=.ok (.d (.lst acc)) Q/\Q.length=S1.length/\J items.length acc Q:=by
 obtain⟨acc,Q,e1,h⟩:=ya (t:=t) (e:=e) hit J h0 hs;exact⟨acc,Q,hC.symm.trans e1,h⟩
theorem nH(hC:xLC it 1 (gNm 0) (λ_ S=>.ok true S) e τ S=r)(hit:it τ S=.ok ⟨items,none⟩ S1)(J:Nat->List D->Sto->Prop)(h0:J 0 [] S1)
  (hs:∀i z acc Q,items[i]?=some z->J i acc Q->Q.length=S1.length->∃x Q2,e (some z::τ) (Q++[.lst acc])=.ok (.d x) (Q2++[.lst acc])/\Q2.length=S1.length/\J (i+1) (acc++[x]) Q2) :
  ∃acc Q,r=.ok (.d (.lst acc)) Q/\Q.length=S1.length/\J items.length acc Q:=
 B2 hC hit J h0 λi z acc Q hz hJ hl=>⟨true,Q,rfl,hl,λ_=>hs i z acc Q hz hJ hl,λz=>(by cases z)⟩
theorem pE(hC:xLC (b6 a) 1 (gNm 0) (λ_ S=>.ok true S) e τ S=r)(ha:a τ S=.ok (.d (.tup xs)) S1)(f:D->D)(hs:∀x∈xs,∀S:Sto,e (some (.d x)::τ) S=.ok (.d (f x)) S):r=.ok (.d (.lst (xs.map f))) S1:=by
 rw[<-hC,xX (items:=xs.map Vl.d) (S1:=S1) (by rw[lq,ha,yH]) (λz=>match z with | .d x=>f x |_=>.non) (by
  intro z hz S;obtain⟨x,hx,rfl⟩:=J4.mp hz;exact hs x hx S)]
 rw[JT];rfl
theorem dj(hL:cy it g b τ S=r)(hit:it τ S=.ok ⟨items,gd⟩ S1)(I:Nat->Nv->Sto->Prop)(h0:I 0 τ S1)
  (hs:∀i z τ S,items[i]?=some z->I i τ S->∃τ1 S1 fl τ2 S2,g z τ S=.ok τ1 S1/\b τ1 S1=.ok (fl,τ2) S2/\(fl=.nx\/fl=.ct)/\gok gd S2/\I (i+1) τ2 S2):∃τ' S',r=.ok (.nx,τ') S'/\I items.length τ' S':=by
 obtain⟨τ',S',e,h⟩:=rY (g:=g) (b:=b) (gd:=gd) I h0 hs;refine⟨τ',S',?_,h⟩;rw[<-hL,oK,hit,qY];exact e
theorem sd(Pr:Vl->Sto->Prop):∀{items:List Vl}{τ:Nv}{S:Sto}(I:Nat->Nv->Sto->Prop),I 0 τ S ->
  (∀i z τ S,items[i]?=some z->I i τ S->∃τ1 S1 fl τ2 S2,g z τ S=.ok τ1 S1/\b τ1 S1=.ok (fl,τ2) S2/\(((fl=.nx\/fl=.ct)/\gok gd S2/\I (i+1) τ2 S2)\/∃v,fl=.rt v/\Pr v S2)) ->
  (∃τ' S',cc g b gd items τ S=.ok (.nx,τ') S'/\I items.length τ' S')\/∃v τ' S',cc g b gd items τ S=.ok (.rt v,τ') S'/\Pr v S'
 | [],τ,S,I,h0,_=>.inl ⟨τ,S,rfl,h0⟩
 |z::zs,τ,S,I,h0,hs=>by
  obtain⟨τ1,S1,fl,τ2,S2,e1,e2,h⟩:=hs 0 z τ S rfl h0;rcases h with⟨hf,hg,hI⟩ |⟨v,rfl,hv⟩
  ·have st:cc g b gd (z::zs) τ S=cc g b gd zs τ2 S2:=by
    rw[cc,e1,aQ,e2,aQ];rcases hf with rfl |rfl
    ·dsimp only;rw[Iw hg]
    ·dsimp only;rw[Iw hg]
   rw[st];exact sd Pr (items:=zs) (λi=>I (i+1)) hI λi z' τ S hz hi=>hs (i+1) z' τ S (by simpa using hz) hi
  ·refine .inr ⟨v,τ2,S2,?_,hv⟩;rw[cc,e1,aQ,e2,aQ]
theorem Dn(hL:cy it g b τ S=r)(Pr:Vl->Sto->Prop)(hit:it τ S=.ok ⟨items,gd⟩ S1)(I:Nat->Nv->Sto->Prop)(h0:I 0 τ S1)
  (hs:∀i z τ S,items[i]?=some z->I i τ S->∃τ1 S1 fl τ2 S2,g z τ S=.ok τ1 S1/\b τ1 S1=.ok (fl,τ2) S2/\(((fl=.nx\/fl=.ct)/\gok gd S2/\I (i+1) τ2 S2)\/∃v,fl=.rt v/\Pr v S2)) :
  (∃τ' S',r=.ok (.nx,τ') S'/\I items.length τ' S')\/∃v τ' S',r=.ok (.rt v,τ') S'/\Pr v S':=by
 have q:=sd (g:=g) (b:=b) (gd:=gd) Pr I h0 hs;have e:r=cc g b gd items τ S1:=by rw[<-hL,oK,hit,qY]
 rw[e];exact q
theorem gK(h:((IP n).map λi=>Vl.d (.int (i:Nat)))[i]?=some z):i<n/\z=.d (.int i):=by
 have hi:i<n:=by simpa using(IJ.mp h).1
 rw[IU,M4 hi]at h;exact⟨hi,(Jj h).symm⟩
theorem gL:((IP n).map λi=>Vl.d (.int (i:Nat))).length=n:=by simp
theorem jR{α β:Type}{f:α->β}{l:List α}{x:α}:(l++[x]).map f=l.map f++[f x]:=by rw[JN];rfl
end L2
namespace L2
open PySem PySem.Spec PyProof.Rows ZS
noncomputable def hG(xs ys:List D):List Vl:=List.zipWith (λx y=>Vl.d (.tup [x,y])) xs ys
theorem rM:(hG xs ys).length=min xs.length ys.length:=by simp[hG]
theorem m7{xs ys:List D}{i:Nat}{z:Vl}(h:(hG xs ys)[i]?=some z):∃x y,xs[i]?=some x/\ys[i]?=some y/\z=.d (.tup [x,y]):=by
 unfold hG at h;rw[List.getElem?_zipWith]at h;cases q:xs[i]? with
 |none=>rw[q]at h;cases h
 |some x=>
  cases q2:ys[i]? with
  |none=>rw[q,q2]at h;cases h
  |some y=>rw[q,q2]at h;cases h;exact⟨x,y,rfl,rfl,rfl⟩
noncomputable def AX:D->Option (Bool×List D)
 | .tup xs=>some (false,xs)
 | .lst xs=>some (true,xs)
 |_=>none
noncomputable def wW(zs:List Vl)(S:Sto):R Its:=match zs with
 | [.d x,.d y]=>(match AX x,AX y with
  |some p,some q=>.ok ⟨hG p.2 q.2,none⟩ S
  |_,_=>.bad)
 |_=>.bad
noncomputable def iZp(as:XA):XI:=λτ S=>(as τ S).bind wW
section
variable{X:Cx}{WE:WX}{K:Iy}{mg:Str->Option Value}{μ:Nat->Addr}{S:Sto}{H:Hp}
theorem zg(r:Rep G v x)(h:AX x=some p):∃a vs,v=.ref a/\G a=some (Sq p.1 vs)/\aw G vs p.2:=by
 cases r with
 |tup g rs=>cases h;exact⟨_,_,rfl,g,rs⟩
 |lst g rs=>cases h;exact⟨_,_,rfl,g,rs⟩
 |_=>cases h
theorem EW{vs us:List V}(g:vh μ S H t=some (Sq b vs))(rs:aw (vh μ S H) vs xs)(g2:vh μ S H u=some (Sq c us))(rs2:aw (vh μ S H) us ys)(hz:vs.length<=sizeLine):fJ K mg μ S H (Itg b c t u) ⟨hG xs ys,none⟩where
 ok:=True.intro
 len:=by show(hG xs ys).length<=sizeLine;rw[rM];rw[rs.length]at hz;omega
 go:=λi z μ' S' H' st _ e=>by
  obtain⟨x,y,e1,e2,_⟩:=m7 e;obtain⟨a,q1,_⟩:=rs.get' e1;obtain⟨b,q2,_⟩:=rs2.get' e2;exact⟨vs,us,a,b,(aM (st.vis _ _ g)).2,(aM (st.vis _ _ g2)).2,q1,q2⟩
 yld:=λi z μ' S' H' v H2 st _ e yy=>by
  obtain⟨p,a,b,hp,rfl,rfl,y1,y2⟩:=yy;obtain⟨x,y,e1,e2,rfl⟩:=m7 e;have q1:=y1 vs (aM (st.vis _ _ g)).2;have q2:=y2 us (aM (st.vis _ _ g2)).2;obtain⟨x',e3,r1⟩:=rs.get q1;obtain⟨y',e4,r2⟩:=rs2.get q2;rw[e1]at e3;cases e3;rw[e2]at e4;cases e4;have st2:=Step.new st.hr hp (.tup [a,b]);exact⟨st2,Rep.tup (bM bY (st.hr.nal hp)) (.cons (Rep.mono (st.trans st2).vis r1) (.cons (Rep.mono (st.trans st2).vis r2) .nil))⟩
 stop:=λi μ' S' H' st _ hi=>by
  replace hi:(hG xs ys).length=i:=hi
  rw[rM]at hi;have l1:=rs.length;have l2:=rs2.length;exact⟨vs,us,(aM (st.vis _ _ g)).2,(aM (st.vis _ _ g2)).2,by omega,by omega,by omega⟩
theorem E3(hg:Gl X "zip")(hm:X.mg "zip"=none)(ha:RA X WE [a,b] xa)(hb:bootBuiltins "zip"=some (.type "zip"):=by decide+kernel)
  (hs:starEach [a,b] X.env=[(false,eval a X.env),(false,eval b X.env)]:=by rfl) (hs2:starEach [b] X.env=[(false,eval b X.env)]:=by rfl):RI X WE (.Tuple es kk tp) (.Call (.Name "zip" p) [a,b] [] pos) (iZp xa):=⟨by
 intro pins s σ H R I h;obtain⟨μ,S,τ,hr,sr,pp⟩:=h;refine Ni (bW I hg hm hb (Je (thn (ha.h pos pins s σ H (λvs H1=>∃μ1 S1 zs,HR μ1 S1 H1/\bx X.K X.mg μ1 S1 H1 vs zs/\aL (fJ X.K X.mg) WE μ1 S1 H1 (wW zs S1) R) I ?_) λus s1 ⟨vs,H1,I1,r1,q1⟩=>?_) (by rw[hs,hs2]) (by rw[hs2];rfl)))
 ·exact⟨μ,S,τ,hr,sr,pp.bind λv x S1 μ1 H1 st1 r1 p1=>⟨μ1,S1,x,st1.hr,r1,p1⟩⟩
 ·obtain⟨μ1,S1,zs,hr1,rz,p1⟩:=q1;have fp:∀b∈[s1.heap.objs.size+4,s1.heap.objs.size+2,s1.heap.objs.size+3,s1.heap.objs.size,s1.heap.objs.size+1],s1.heap.objs.size<=b:=by
   intro b hb;simp only[IL,Jt,Ky]at hb;rcases hb with z |z |z |z |z<;>rw[z]
   ·exact Kh _ _
   ·exact Kh _ _
   ·exact Kh _ _
   ·exact IB _
   ·exact Kh _ _
  unfold wW at p1;split at p1
  ·split at p1
   ·rename_i p q e1 e2;cases rz with
    |cons q1 q2=>cases q2 with
     |cons q2 q3=>
      cases q3;obtain⟨u1,u2,rfl,ru,rw'⟩:=r1.two;obtain⟨t,vs,rfl,g,rs⟩:=zg q1 e1;obtain⟨u,us,rfl,g2,rs2⟩:=zg q2 e2;cases ru;cases rw';obtain⟨its,rv,pl,hz⟩:=I1.sq (aM g).2;obtain⟨its2,rv2,pl2,hz2⟩:=I1.sq (aM g2).2;refine yU p.1 q.1 pl pl2 λh' z1 z2 z3 z4 z5 hk=>?_;refine NY (s:={ s1 with heap:=h' }) z1 ?_;have I2:Inv X pins σ H1 { s1 with heap:=h' }:=I1.kept (t':=s1.toks) hk;exact⟨s1.heap.objs.size+4,_,_,_,H1,rfl,I2,ym p.1 q.1 t u s1.heap.objs.size,⟨z1,z2,⟨_,_,z3⟩,z4,z5⟩,λb hb=>I1.jz (fp b hb) (I1.hok.fresh (fp b hb)),p1.here hr1 (EW g rs g2 rs2 hz)⟩
   ·exact p1.elim
  ·exact p1.elim⟩
end
noncomputable def fq(tb:List (Str×XF))(i:Nat)(as:XA):XE:=λτ S=>match τ[i]? with
 |some (some (.fn nm))=>(match tb.lookup nm with
  |some F=>aA F as τ S
  |none=>.bad)
 |_=>.bad
def wX(P:Program)(w:World)(K:Iy)(mg:Str->Option Value)(lev:Nat)(tb:List (Str×XF)):Prop:=∀nm F,tb.lookup nm=some F->∃ps,OkE P w K mg lev nm ps F
theorem om{P:Program}{w:World}{K:Iy}{mg:Str->Option Value}{lev:Nat}:wX P w K mg lev []:=λ_ _ h=>by cases h
theorem l6{P:Program}{w:World}{K:Iy}{mg:Str->Option Value}{lev l0:Nat}{nm0:Str}{ps:List Str}{F0:XF}{tb:List (Str×XF)}(h:OkE P w K mg l0 nm0 ps F0)(h':wX P w K mg lev tb)(hl:l0<=lev:=by decide):wX P w K mg lev ((nm0,F0)::tb):=by
 intro nm F e;rw[JI]at e;split at e
 ·rename_i q;cases e;obtain rfl:nm=nm0:=eq_of_beq q;obtain⟨f,fd,a,b,c,d⟩:=h;exact⟨ps,f,fd,a,b,c,λbase=>(d base).mono hl⟩
 ·exact h' nm F e
section
variable{X:Cx}{WE:WX}{i k lev j:Nat}{x:Str}{p pos:Pos}{e:Expr}{es:List Expr}{t:TA}{E:XK}
theorem AN(hr:cL k X.A)(hN:X.N[i]?=some x)(hv:Vis X.env.scope x)(hd:(x==("__debug__":Str))=false)(hcd:(x==("__classdict__":Str))=false)(hx:Passes CX0 X E)(ha:PA X (e::es) t)(he:starEach (e::es) X.env=(false,eval e X.env)::starEach es X.env)(hpl:(backTo pos (starEach es X.env)).any (·.1)=false) :
  PE X (.Call (.Name x p) (e::es) [] pos) (λσ H Q=>∃f fd ps sp,σ[i]?=some (some (.ref f))/\LO X.K (.ref f)=true/\Binds X.K fd ps []/\dG X.prog X.w X.K X.mg X.base CX0 k f fd ps sp/\BS sp [] E t σ H Q):=by
 intro pins s σ H Q I h;obtain⟨f,fd,ps,sp,hs,hk,hb,F,h⟩:=h;refine Kg (thn (xO hN hv hd hcd pins s σ H (λv H1=>v=.ref f/\H1=H) I ⟨_,hs,rfl,rfl⟩) λu s1 ⟨w,H1,I1,rw',ew,eH⟩=>?_);subst ew eH;obtain rfl:u=Value.ref f:=rw';refine O9 (h₀:=X.base) I1.ok.mod.kin hk (thn (ha pos pins s1 σ H1 _ I1 h) λus s2 ⟨vs,H2,I2,r,q⟩=>⟨I2.kIn,?_⟩) he hpl;exact yM F hr hb .nil hx I2 r q
theorem nR{st:Stmt}(D:Df X.K X.mg x st)(hg:Gl X x:=by exact rfl)(hd:(x==("__debug__":Str))=false:=by decide):RE X WE (.Name x pos) (xFn x):=by
 obtain⟨f,fd,F,hm⟩:=D;exact GK hg hm hd
theorem jZ[n:NS e](G:wX X.prog X.w X.K X.mg j tb)(hr:cL j X.A)(ha:RA X WE (e::es) ts)(hN:X.N[i]?=some x:=by exact rfl)(hv:Vis X.env.scope x:=by first |exact Or.inl rfl |exact Or.inr (Or.inl rfl) |exact Or.inr (Or.inr rfl))
  (hd:(x==("__debug__":Str))=false:=by decide) (hcd:(x==("__classdict__":Str))=false:=by decide) (hpl:(backTo pos (starEach es X.env)).any (·.1)=false:=by rfl):RE X WE (.Call (.Name x p) (e::es) [] pos) (fq tb i ts):=
 ⟨(AN hr hN hv hd hcd BH ha.h (n.eq es X.env) hpl).weak λσ H Q ⟨μ,S,τ,hr,sr,p⟩=>by
  unfold fq at p;split at p
  ·rename_i nm e1;split at p
   ·rename_i F e2;obtain⟨v,hs,f,hm,rfl⟩:=sr.get _ _ e1;obtain⟨ps,f',fd,hm',hk,hb,G'⟩:=G nm F e2;obtain rfl:f'=f:=QX (Jj (hm'.symm.trans hm));exact⟨f',fd,ps,_,hs,hk,.all hb,G' X.base,μ,S,τ,hr,sr,p.bind λvs xs S1 μ1 H1 st1 r1 p1=>by
     rw[KS];exact⟨μ1,S1,xs,st1.hr,r1,p1.noX⟩⟩
   ·exact p.elim
  ·exact p.elim⟩
end
theorem v_(h1:τ[i]?=some (some (.fn nm)))(h2:tb.lookup nm=some F):fq tb i as τ S=aA F as τ S:=by
 unfold fq;rw[h1];dsimp only;rw[h2]
set_option maxRecDepth 100000
section
variable{prog:Program}{w:World}{A:Around}{E:Value->Shared->Prop}{s:Shared}
theorem qF{Q:List Value->Shared->Prop}{r:Addr}{a b c:Int}{t u v:Tok}{n:Nat}(hh:A.handled=none)(hr:IsRange s.heap r a b c t u v)(hsmall:M5 a b c=true)(hn:KC a b c=n)(hlen:n<=2 ^ 24)
  (hQ:∀(h':Heap)(tk:Nat)(acc:Array Value),(∀b o,s.heap.get? b=some o->h'.get? b=some o)->ItemsOf (λi v=>∃t,v=.int (a+i*c) t) acc n->Q acc.toList { s with heap:=h',toks:=tk }) :
  wpAny (model prog w) A (collect (.ref r)) Q E s:=by
 unfold collect;refine ar (Nd (Ko F.entry_proto_collect ?_));rw[KA F.plain_proto_collect _];show wpAny _ A.in1 (newList []>>=λl=>again (.builtin "list.__iadd__" ⟨[l,.ref r],[]⟩)) _ _ s;refine ar (Jr ?_);refine C0 ⟨MI PH _,Ko F.entry_list_iadd ?_⟩;rw[KA PH _];show wpAny _ A.in1 (Ld (.ref s.heap.objs.size) (.ref r) (.ref s.heap.objs.size)) _ _ _;have hS:(s.heap.push { cls:=.type "list",data:=.seq ([]:List Value).toArray }).get? s.heap.objs.size=some { cls:=.type "list",data:=.seq #[] 0 }:=IG _ rfl;refine JZ (wpAny_extend_range (A:=A) (s:={ s with heap:=s.heap.push { cls:=.type "list",data:=.seq ([]:List Value).toArray } })
  (R:=λrr s'=>rr=.ok (.ret (.ref s.heap.objs.size))/\∃(h':Heap)(tk:Nat)(acc:Array Value)(c':Nat),s'={ s with heap:=h',toks:=tk }/\(∀b o,s.heap.get? b=some o->h'.get? b=some o)/\h'.get? s.heap.objs.size=some { cls:=.type "list",dict:=none,data:=.seq acc c',slots:=#[] }/\ItemsOf (λi v=>∃t,v=.int (a+i*c) t) acc n)
  hh (gV _ hr) hsmall hn hlen _ _ 0 hS λh' tk acc c' hk h1 hi=>⟨rfl,h',tk,acc,c',rfl,λb o e=>hk b o (IZ (ID e)) (gV _ e),h1,hi⟩) (λfin s' h=>?_) (λe s' h=>absurd h.1 (by simp))
 have fin':∀(h':Heap)(tk:Nat)(acc:Array Value)(c':Nat),(∀b o,s.heap.get? b=some o->h'.get? b=some o)->h'.get? s.heap.objs.size=some { cls:=.type "list",dict:=none,data:=.seq acc c',slots:=#[] }->ItemsOf (λi v=>∃t,v=.int (a+i*c) t) acc n ->
   wpAny (model prog w) A (match Value.ref s.heap.objs.size with
    |Value.ref a=>do
     match(<-load a).data with
      |Data.seq xs _=>pure xs.toList
      |_=>unsupported "internal:collect"
    |_=>unsupported "internal:collect") Q E { s with heap:=h',toks:=tk }:=λh' tk acc c' hk h1 hi=>by
  show wpAny _ A (load s.heap.objs.size>>=_) _ _ _;exact ar (P_ h1 (C0 (hQ h' tk acc hk hi)))
 cases fin with
 |done f=>
  obtain⟨e,h',tk,acc,c',rfl,hk,h1,hi⟩:=h;cases e;exact fin' h' tk acc c' hk h1 hi
 |again c'=>exact⟨h.1,MV h.2 λr s'' hr=>by
   obtain⟨rfl,h',tk,acc,c',rfl,hk,h1,hi⟩:=hr;exact fin' h' tk acc c' hk h1 hi⟩
theorem mf(r:Addr)(a b c:Int)(t u v:Tok)(n:Nat)(hsmall:M5 a b c=true)(hn:KC a b c=n)(hlen:n<=2 ^ 24) :
  Meets (Builtin.«tuple.__new__» ⟨[.type "tuple",.ref r],[]⟩)
   (λA R s=>A.handled=none/\IsRange s.heap r a b c t u v/\∀(h':Heap)(tk:Nat)(acc:Array Value),(∀b o,s.heap.get? b=some o->h'.get? b=some o)->ItemsOf (λi v=>∃t,v=.int (a+i*c) t) acc n ->
    R (.ok (.ret (.ref h'.objs.size))) { s with heap:=h'.push { cls:=.type "tuple",data:=.seq acc },toks:=tk }):=
 .of_wp λprog w A R s h=>by
  obtain⟨hp,g,d,tk,os⟩:=s;obtain⟨hh,hr,h⟩:=h;have hsub:=sub_tuple_self;have hinit:=init_tuple_lookup;have hmh:=madeHere_tuple;have hT:L6 ⟨hp,g,d,tk,os⟩ (.ref r) "range":=⟨_,hr,rfl⟩;have hh1:A.in1.handled=none:=hh;have hr':hp.get? r=some _:=hr
  wp_walk using KY hr',J0 hT,qF hh1 hr hsmall hn hlen
  intro h' tk acc hk hi;show wpAny _ _ (JH acc.toList.toArray>>=λv=>ret v) _ _ _;unfold JH;refine ar (Jr ?_ (show acc.toList.toArray.size<=sizeLine by simp only[Array.toArray_toList];rw[hi.1,Kd];omega));refine C0 ⟨_,rfl,?_⟩;have e:acc.toList.toArray=acc:=by simp
  rw[e];exact h h' tk acc hk hi
theorem m6{Q:Value->Shared->Prop}{r:Addr}{a b c:Int}{t u v:Tok}{n:Nat}(hh:A.handled=none)(hr:IsRange s.heap r a b c t u v)(hsmall:M5 a b c=true)(hn:KC a b c=n)(hlen:n<=2 ^ 24)
  (h:∀(h':Heap)(tk:Nat)(acc:Array Value),(∀b o,s.heap.get? b=some o->h'.get? b=some o)->ItemsOf (λi v=>∃t,v=.int (a+i*c) t) acc n->Q (.ref h'.objs.size) { s with heap:=h'.push { cls:=.type "tuple",data:=.seq acc },toks:=tk }) :
  wpAny (model prog w) A (call (.type "tuple") [.ref r]) Q E s:=
 NX F.called_tuple (by decide) (F.typeCall_tuple_1 _) (F.newCall_tuple_1 _) (λobj=>OR obj _) F.entry_tuple_new
  (mf r a b c t u v n hsmall hn hlen) ⟨hh,hr,λh' tk acc hk hi=>⟨⟨_,IG _ rfl,rfl⟩,h h' tk acc hk hi⟩⟩
end
section
variable{X:Cx}{WE:WX}
noncomputable def tTR(ta:TA):TE:=λσ H Q=>ta σ H λvs H1=>∃i j:Int,vs=[.int i,.int j]/\(-1000<=i/\i<=j/\j<=1000)/\∀l,H1 l=none->Q (.ref l) (upd H1 l (.tup ((IP (j-i).toNat).map λk=>V.int (i+(k:Nat)))))
theorem qm(i0:Int):∀(acc:List Value)(s:Nat),(∀(i:Nat)(v:Value),acc[i]?=some v->∃t,v=Value.int (i0+((s+i:Nat):Int)) t)->Vals ((RV s acc.length).map λk=>V.int (i0+(k:Nat))) acc
 | [],_,_=>.nil
 |x::r,s,h=>by
  rw[Js,PZ,IM];refine .cons ?_ (qm i0 r (s+1) λi v e=>?_)
  ·obtain⟨t,e⟩:=h 0 x rfl;exact⟨t,e⟩
  ·obtain⟨t,e⟩:=h (i+1) v e;exact⟨t,by rw[e];congr 2;omega⟩
theorem uB(hc:X.calm=true)(hgl:Gl X "tuple")(hml:X.mg "tuple"=none)(hgr:Gl X "range")(hmr:X.mg "range"=none)(hbl:bootBuiltins "tuple"=some (.type "tuple"))(ha:PA X [a,b] ta)
  (hs:starEach [a,b] X.env=[(false,eval a X.env),(false,eval b X.env)]:=by rfl) (hs3:starEach [b] X.env=[(false,eval b X.env)]:=by rfl)
  (hs2:starEach [Expr.Call (.Name "range" p2) [a,b] [] pos2] X.env=(false,eval (Expr.Call (.Name "range" p2) [a,b] [] pos2) X.env)::starEach [] X.env:=by rfl) :
  PE X (.Call (.Name "tuple" pA) [.Call (.Name "range" p2) [a,b] [] pos2] [] pos1) (tTR ta):=by
 intro pins s σ H Q I h;refine Kg (bW I hgl hml hbl ?_);refine Je ?_ hs2 rfl;rw[hs2];show wpAny _ _ (spliced ((false,eval (Expr.Call (.Name "range" p2) [a,b] [] pos2) X.env)::backTo pos1 (starEach [] X.env))) _ _ s;refine Kv ?_;refine Ni (bW I hgr hmr OJ (Je (thn (ha pos2 pins s σ H _ I h) λus s1 ⟨vs,H1,I1,r1,q1⟩=>?_) (by rw[hs,hs3]) (by rw[hs3];rfl)));obtain⟨i,j,e,⟨j0,j1,j2⟩,q⟩:=q1;subst e;cases r1 with
 |cons r rr=>
  cases rr with
  |cons r' rr=>
   cases rr;obtain⟨t,rfl⟩:=r;obtain⟨t',rfl⟩:=r';refine call_range_2 ?_;have hA:X.A.handled=none:=I.ok.hd hc;have I2:Inv X pins σ H1 { s1 with heap:=s1.heap.push { cls:=.type "range",data:=.fields #[.int i t,.int j t',.int 1 s1.toks] },toks:=s1.toks+1 }:=I1.kept λb o e=>gV _ e;refine C0 ?_;have hsz:KC i j 1=(((j-i).toNat:Nat):Int):=by rw[OU];split<;>omega
   refine m6 hA (PK ..) (QI (by omega) (by omega) (by omega) (by omega)) hsz (by omega) λh' tk acc hk hit=>?_;have hl:acc.toList.length=(j-i).toNat:=by rw[IC];exact hit.1
   have hvals:Vals ((IP (j-i).toNat).map λk=>V.int (i+(k:Nat))) acc.toList:=by
    rw[<-hl,OP];refine qm i acc.toList 0 λk v e=>?_;obtain⟨t2,rfl⟩:=hit.2 k v (by simpa using e);exact⟨t2,by simp⟩
   have I3:Inv X pins σ H1 { s1 with heap:=h',toks:=tk }:=I2.kept (t':=tk) hk;have e0:acc=acc.toList.toArray:=by simp
   rw[e0];have I4:Inv X pins σ (upd H1 h'.objs.size (.tup ((IP (j-i).toNat).map λk=>V.int (i+(k:Nat))))) { s1 with heap:=h'.push { cls:=.type "tuple",data:=.seq acc.toList.toArray },toks:=tk }:=
    I3.laid (t':=tk) (λb o e=>gV _ e) (IB _) (show bz X.prog X.w _ _ _ (.tup _)from⟨?_,acc.toList,hvals,Of _ _⟩)
   ·exact⟨.ref h'.objs.size,_,I4,rfl,q _ (I3.hok.fresh (IB _))⟩
   ·rw[IA,KD];exact Ka (I_ (show(j-i).toNat<100000 by omega) (by rw[Kd];decide))
noncomputable def fTR(zs:List Vl)(S:Sto):R Vl:=match zs with
 | [.d (.int i),.d (.int j)]=>if -1000<=i/\i<=j/\j<=1000 then .ok (.d (.tup ((IP (j-i).toNat).map λk=>D.int (i+(k:Nat))))) S else .bad
 |_=>.bad
theorem qg{H:Hp}(i:Int):∀l:List Nat,aw H (l.map λk=>V.int (i+(k:Nat))) (l.map λk=>D.int (i+(k:Nat)))
 | []=>.nil
 |n::l=>.cons (.int _) (qg i l)
theorem um(hc:X.calm=true)(hgl:Gl X "tuple")(hml:X.mg "tuple"=none)(hgr:Gl X "range")(hmr:X.mg "range"=none)(hbl:bootBuiltins "tuple"=some (.type "tuple"))(ha:RA X WE [a,b] as)
  (hs:starEach [a,b] X.env=[(false,eval a X.env),(false,eval b X.env)]:=by rfl) (hs3:starEach [b] X.env=[(false,eval b X.env)]:=by rfl)
  (hs2:starEach [Expr.Call (.Name "range" p2) [a,b] [] pos2] X.env=(false,eval (Expr.Call (.Name "range" p2) [a,b] [] pos2) X.env)::starEach [] X.env:=by rfl) :
  RE X WE (.Call (.Name "tuple" pA) [.Call (.Name "range" p2) [a,b] [] pos2] [] pos1) (xN fTR as):=
 ⟨(uB hc hgl hml hgr hmr hbl ha.h hs hs3 hs2).weak λσ H Q ⟨μ,S,τ,hr,sr,p⟩=>⟨μ,S,τ,hr,sr,p.bind λvs xs S1 μ1 H1 st1 r1 p1=>by
  unfold fTR at p1;split at p1
  ·split at p1
   ·obtain⟨v,v',rfl,r,r'⟩:=r1.two;rename_i i j hj;exact⟨i,j,by rw[aY r,aY r'],hj,λl hl=>p1.mL st1.hr (qg i _) l hl⟩
   ·exact p1.elim
  ·exact p1.elim⟩⟩
end
noncomputable def hZ:D->Option Key
 | .int i=>some (.inl i)
 | .str x=>some (.inr x)
 |_=>none
noncomputable def kD:Key->D
 | .inl i=>.int i
 | .inr x=>.str x
noncomputable def jv(x:Vl)(S:Sto):Option (List (Key×D)):=match x with
 | .fd kvs=>some kvs
 | .r n=>(match S[n]? with
  |some (.dct kvs)=>some kvs
  |_=>none)
 |_=>none
noncomputable def fH(kvs:List (Key×D))(k:Key):Option D:=(kvs.find? λkv=>decide (kv.1=k)).map (·.2)
noncomputable def putD(kvs:List (Key×D))(k:Key)(v:D):List (Key×D):=
 if(kvs.any λkv=>decide (kv.1=k))=true then kvs.map (λkv=>if kv.1=k then(kv.1,v)else kv)else kvs++[(k,v)]
section
variable{G:Hp}
theorem m8(e:p.1=k):fH (p::r) k=some p.2:=by simp[fH,Kp,e]
theorem jF(e:¬p.1=k):fH (p::r) k=fH r k:=by simp[fH,Kp,e]
theorem sQ(k:Key):∀{kvs:List (Key×D)}{vs:List V},aw G vs (kvs.map (·.2))->(fH kvs k=none/\f7 ((kvs.map (·.1)).zip vs) k=none)\/∃d v,fH kvs k=some d/\f7 ((kvs.map (·.1)).zip vs) k=some v/\Rep G v d
 | [],_,.nil=>.inl ⟨rfl,rfl⟩
 |p::r,_,.cons (v:=v) (vs:=vs) h t=>by
  by_cases e:p.1=k
  ·exact .inr ⟨p.2,v,m8 e,jJ (p:=(p.1,v)) e,h⟩
  ·rcases sQ k (kvs:=r) t with⟨h1,h2⟩ |⟨d,u,h1,h2,h3⟩
   ·exact .inl ⟨by rw[jF e];exact h1,(ij (p:=(p.1,v)) e).trans h2⟩
   ·exact .inr ⟨d,u,by rw[jF e];exact h1,(ij (p:=(p.1,v)) e).trans h2,h3⟩
theorem xM(k:Key):∀{kvs:List (Key×D)}{vs:List V},aw G vs (kvs.map (·.2))->(((kvs.map (·.1)).zip vs).any λkv=>decide (kv.1=k))=kvs.any λkv=>decide (kv.1=k)
 | [],_,.nil=>rfl
 |p::r,_,.cons h t=>by
  rw[IM,LD,K1,K1,xM k (kvs:=r) t]
theorem xH(k:Key)(rv:Rep G v d):∀{kvs:List (Key×D)}{vs:List V},aw G vs (kvs.map (·.2))->∃ws,ws.length=kvs.length /\
  ((kvs.map (·.1)).zip vs).map (λkv=>if kv.1=k then(kv.1,v)else kv)=((kvs.map λkv=>if kv.1=k then(kv.1,d)else kv).map (·.1)).zip ws/\aw G ws ((kvs.map λkv=>if kv.1=k then(kv.1,d)else kv).map (·.2))
 | [],_,.nil=>⟨[],rfl,rfl,.nil⟩
 |p::r,_,.cons (v:=u) (vs:=us) h t=>by
  obtain⟨ws,l,e,rs⟩:=xH k rv (kvs:=r) t;by_cases q:p.1=k
  ·refine⟨v::ws,by simp[l],?_,?_⟩
   ·rw[IM,LD,IM,e,IM,IM,LD,Iw q,Iw q]
   ·rw[IM,IM,Iw q];exact .cons rv rs
  ·refine⟨u::ws,by simp[l],?_,?_⟩
   ·rw[IM,LD,IM,e,IM,IM,LD,IF q,IF q]
   ·rw[IM,IM,IF q];exact .cons h rs
theorem yW(k:Key)(rv:Rep G v d)(rs:aw G vs (kvs.map (·.2))):∃ws,ws.length=(putD kvs k d).length /\
  putK ((kvs.map (·.1)).zip vs) k v=((putD kvs k d).map (·.1)).zip ws/\aw G ws ((putD kvs k d).map (·.2)):=by
 unfold putK putD;rw[xM k rs];by_cases a:(kvs.any λkv=>decide (kv.1=k))=true
 ·rw[Iw a,Iw a];obtain⟨ws,l,e,r⟩:=xH k rv rs;exact⟨ws,by simp[l],e,r⟩
 ·rw[IF a,IF a];have lv:vs.length=kvs.length:=by have:=rs.length;simpa using this
  refine⟨vs++[v],by simp[lv],?_,?_⟩
  ·rw[JN,List.zip_append (by simp[lv])];rfl
  ·rw[JN];exact rs.append (.cons rv .nil)
theorem jf(r:Rep G v x)(e:hZ x=some k):v=kV k:=by
 unfold hZ at e;split at e
 ·cases e;cases r;rfl
 ·cases e;cases r;rfl
 ·cases e
theorem E8(k:Key):Rep G (kV k) (kD k):=by
 cases k with
 |inl i=>exact Rep.int i
 |inr x=>exact Rep.str x
end
section
variable{K:Iy}{mg:Str->Option Value}{μ:Nat->Addr}{S:Sto}{H:Hp}{v:V}{x:Vl}{kvs:List (Key×D)}{WE:WX}{Q:VK}
theorem rn(hr:HR μ S H)(r:aS K mg μ S H v x)(e:jv x S=some kvs):∃a vs,v=.ref a/\Rd H a (.dK ((kvs.map (·.1)).zip vs))/\aw (vh μ S H) vs (kvs.map (·.2)):=by
 unfold jv at e;split at e
 ·cases e;obtain⟨a,vs,o,rfl,l,h,rs⟩:=r;exact⟨a,vs,rfl,.inr ⟨o,(aM h).2⟩,rs⟩
 ·split at e
  ·rename_i q;cases e;obtain⟨rfl,hn⟩:=r;obtain⟨vs,l,h,rs⟩:=hr.ob _ _ q;exact⟨_,vs,rfl,.inl h,rs⟩
  ·cases e
 ·cases e
end
noncomputable def oDx(x y:Vl)(S:Sto):R Vl:=match y with
 | .d yd=>(match hZ yd,jv x S with
  |some k,some kvs=>(match fH kvs k with
   |some z=>.ok (.d z) S
   |none=>.bad)
  |_,_=>.bad)
 |_=>.bad
noncomputable def vD:XE:=λ_ S=>.ok (.r S.length) (S++[.dct []])
noncomputable def rh(o i e:XE):XS:=λτ S=>(e τ S).bind λz S1=>(o τ S1).bind λx S2=>(i τ S2).bind λy S3=>match x,y,z with
 | .r n,.d yd,.d zd=>(match hZ yd,S3[n]? with
  |some k,some (.dct kvs)=>if kvs.length<100000 then .ok (.nx,τ) (S3.set n (.dct (putD kvs k zd)))else .bad
  |_,_=>.bad)
 |_,_,_=>.bad
noncomputable def qU(d k e:XE):XE:=λτ S=>(d τ S).bind λx S1=>if(jv x S1).isSome=true then(k τ S1).bind λy S2=>(e τ S2).bind λz S3=>(match y,z with
 | .d yd,.d zd=>(match hZ yd,jv x S3 with
  |some k,some kvs=>.ok (.d ((fH kvs k).getD zd)) S3
  |_,_=>.bad)
 |_,_=>.bad)else .bad
noncomputable def rW(e:XE):XI:=λτ S=>(e τ S).bind λz S1=>match z with
 | .fd kvs=>.ok ⟨kvs.map λkv=>Vl.d (kD kv.1),none⟩ S1
 |_=>.bad
section
variable{X:Cx}{WE:WX}{a b c e:Expr}{xa xb xc xe:XE}{pos:Pos}
theorem B9(hu:X.A.units+64<cLine)(ha:RE X WE a xa)(hb:RE X WE b xb)(hs:Bh b:=by exactλ_ _=>rfl):RE X WE (.Subscript a b pos) (xOp oDx xa xb):=
 ⟨(Cu (by omega) ha.h hb.h hs).weak λσ H Q h=>by
  refine(two (X:=X) (r:=λx y H2 Q=>∃a v,x=.ref a/\pB H2 a y (some v)/\Q v H2) ?_ h:_);intro WE μ S H v w x y Q hr rx ry p;unfold oDx at p;split at p
  ·split at p
   ·rename_i k kvs hk hd;obtain⟨a,vs,rfl,rd,rs⟩:=rn hr rx hd;split at p
    ·rename_i z hz;rcases sQ k rs with⟨h1,_⟩ |⟨d,u,h1,h2,h3⟩
     ·rw[h1]at hz;cases hz
     ·rw[h1]at hz;cases hz;rw[jf ry hk];exact⟨a,u,rfl,.inl ⟨_,k,rd,rfl,h2.symm⟩,p.here hr h3⟩
    ·exact p.elim
   ·exact p.elim
  ·exact p.elim⟩
theorem Dw:RE X WE (.Dict [] [] pos) vD:=
 ⟨A9.weak λσ H Q ⟨μ,S,τ,hr,sr,p⟩ q hq=>p _ _ _ (Step.alloc hr hq (ob:=.dct []) ⟨[],rfl,rfl,.nil⟩) ⟨by rw[cC],by simp⟩⟩
theorem DD(hu:X.A.units+64<cLine)(ho:RE X WE a xa)(hi:RE X WE b xb)(hv:RE X WE c xc)(hs:swapsWith c (some (.Subscript a b pos')) pos.line X.env=pure false:=by rfl) :
  RS X WE (.Assign [.Subscript a b pos'] c pos) (rh xa xb xc):=
 ⟨(CM (by omega) ho.h hi.h hv.h hs).weak λD σ H ⟨μ,S,τ,hr,sr,p⟩=>⟨μ,S,τ,hr,sr,p.bind λw z S1 μ1 H1 st1 r1 p1=>⟨μ1,S1,τ,st1.hr,sr.step st1,p1.bind λv x S2 μ2 H2 st2 r2 p2=>⟨μ2,S2,τ,st2.hr,sr.step (st1.trans st2),p2.bind λu y S3 μ3 H3 st3 r3 p3=>by
  have rw':=r1.step (st2.trans st3);have rv:=r2.step st3
  try dsimp only at p3
  split at p3
  ·split at p3
   ·rename_i k kvs hk e;split at p3
    ·rename_i hl;obtain⟨rfl,hn⟩:=rv;obtain⟨vs,l,h,rs⟩:=st3.hr.ob _ _ e;rw[jf r3 hk];obtain⟨ws,lw,e2,rs2⟩:=yW k rw' rs;refine⟨_,_,rfl,tL.k h ?_,?_⟩
     ·rw[Kq,IA,l,La];exact I_ hl (by rw[Kd];decide)
     ·have st4:=Step.put st3.hr e (by simp) (ob:=.dct (putD kvs k _)) ⟨ws,lw,rfl,rs2⟩;rw[<-e2]at st4;exact(show Ends.at D (FlV.nx,σ) _ from p3 (FlV.nx,σ) _ _ st4 ⟨sr.step (st1.trans (st2.trans (st3.trans st4))),True.intro⟩)
    ·exact p3.elim
   ·exact p3.elim
  ·exact p3.elim⟩⟩⟩⟩
theorem Dr(hu:X.A.units+64<cLine)(hd:RE X WE a xa)(hk:RE X WE b xb)(he:RE X WE c xc)
  (m:M2 X a "get" apos b c cpos:=by exact⟨rfl,rfl,rfl,rfl⟩):RE X WE (.Call (.Attribute a "get" apos) [b,c] [] cpos) (qU xa xb xc):=
 ⟨(A5 (by omega) hd.h hk.h he.h m).weak λσ H Q ⟨μ,S,τ,hr,sr,p⟩=>⟨μ,S,τ,hr,sr,p.bind λv x S1 μ1 H1 st1 r1 p1=>by
  try dsimp only at p1
  split at p1
  ·rename_i hs;obtain⟨kvs,hd⟩:=Md.mp hs;obtain⟨a,vs,rfl,rd,rs⟩:=rn st1.hr r1 hd;refine⟨a,rfl,.inl ⟨_,rd⟩,μ1,S1,τ,st1.hr,sr.step st1,p1.bind λu y S2 μ2 H2 st2 r2 p2=>⟨μ2,S2,τ,st2.hr,sr.step (st1.trans st2),p2.bind λw z S3 μ3 H3 st3 r3 p3=>?_⟩⟩
   try dsimp only at p3
   split at p3
   ·split at p3
    ·rename_i k kvs' hk hd';obtain⟨a',vs',ea,rd',rs'⟩:=rn st3.hr (r1.step (st2.trans st3)) hd';cases ea;rw[jf (r2.step st3) hk];refine⟨_,.inl ⟨_,k,rd',rfl,rfl⟩,?_⟩;rcases sQ k rs' with⟨h1,h2⟩ |⟨d,u,h1,h2,h3⟩
     ·rw[h2];rw[h1]at p3;exact p3.here st3.hr r3
     ·rw[h2];rw[h1]at p3;exact p3.here st3.hr h3
    ·exact p3.elim
   ·exact p3.elim
  ·exact p1.elim⟩⟩
end
noncomputable def Itd(d:Addr)(o:Obj):It:=
 ⟨λi H=>∃kvs,H d=some (.frz o (.dK kvs))/\i<kvs.length,λi H x H'=>H'=H/\∀kvs,H d=some (.frz o (.dK kvs))->∃k v,kvs[i]?=some (k,v)/\x=kV k,λi H=>∃kvs,H d=some (.frz o (.dK kvs))/\kvs.length=i⟩
theorem xK(h:(aV P w).is k u=true):RelV (kV k) u:=by
 rcases bT h with⟨i,t,rfl,rfl⟩ |⟨x,t,rfl,rfl⟩
 ·exact⟨t,rfl⟩
 ·exact⟨t,rfl⟩
theorem KV.get{kvs:List (Key×V)}{vs:List (Key×Value)}(r:KV kvs vs){i:Nat}{k:Key}{x:Value}(e:vs[i]?=some (k,x)):∃v,kvs[i]?=some (k,v):=by
 unfold KV at r
 induction r generalizing i with
 |nil=>simp at e
 | @cons p q ps qs h t ih=>
  cases i with
  |zero=>simp at e;subst e;exact⟨p.2,by rw[show p=(k,p.2)from Rx h.1 rfl];rfl⟩
  |succ i=>simpa using ih (by simpa using e)
theorem nO(ok:HOk P w H h)(hd:o.data=.dict es ep)(e:H d=some (.frz o (.dK kvs))) :
  (d==sysModules)=false/\kvs.length<=sizeLine/\kvs.length=es.size/\∃vs,KV kvs vs/\h.DictAt (aV P w) d vs ep:=by
 obtain⟨e1,z1,z2,vs,rel,o',es',ep',e2,c,hd',ks,ps,nd⟩:=ok d _ e;rw[e1]at e2;cases e2;rw[hd]at hd';cases hd';exact⟨z2,z1,by rw[rel.length,<-ps.length];simp,vs,rel,o,es,e1,c,hd,ks,ps,nd⟩
theorem zq{P:Program}{w:World}{K:Iy}{tg:Expr}(d it:Addr){o:Obj}{es:Array DictEntry}{ep:Nat}(hd:o.data=.dict es ep):Turn P w K tg (Itd d o) [it] it (λi h=>h.IsKeyIter it d i es.size ep)where
 mem:=by simp
 obj:=λi h st b hb=>by
  have e:b=it:=by simpa using hb
  subst e;obtain⟨o,e,c,d⟩:=st;exact⟨o,e,λv z=>by rw[d]at z;cases z⟩
 keep:=λi h h' st k=>st.at λo e=>k it (by simp) o e
 item:=by
  intro X hP hw hK hc i pins s σ H E I hf st hg;subst hP hw hK;obtain⟨kvs,hk,hi⟩:=hg;obtain⟨z2,z1,lk,vs,rel,da⟩:=nO I.hok hd hk;have lv:=rel.length;obtain⟨f0,f1,f2,f3,f4,f5⟩:=hf it (by simp);have hx:vs[i]?=some ((vs[i]'(by omega)).1,(vs[i]'(by omega)).2):=by rw[H0 (by omega)]
  refine wpAny_pyNext_dict_item (by rw[<-lv,lk];exact st) da hx λkey h' hkey st' sb=>?_;rw[<-lv,lk]at st';have I1:Inv X pins σ H { s with heap:=h' }:=I.turned (t':=s.toks) (λb o hb e=>(sb.2 b hb).trans e) f0 f1 f3 f4 f5;obtain⟨o2,e,c,d2⟩:=id st';obtain⟨v,hv⟩:=rel.get hx;refine⟨key,rfl,q_ (s:={ s with heap:=h' }) e c d2 (by decide) ⟨kV _,H,I1,xK hkey,⟨rfl,λkvs' hy=>?_⟩,st',λb hb=>(hf b hb).1⟩⟩;rw[hk]at hy;cases hy;exact⟨_,v,hv,rfl⟩
 done:=by
  intro X hP hw hK hc i pins s σ H E I hf st hg;subst hP hw hK;obtain⟨kvs,hk,hi⟩:=hg;obtain⟨z2,z1,lk,vs,rel,da⟩:=nO I.hok hd hk;have lv:=rel.length;obtain⟨f0,f1,f2,f3,f4,f5⟩:=hf it (by simp);exact wpAny_pyNext_dict_end (I.ok.hd hc) (by rw[<-lv,lk];exact st) da (by simp;omega) λh' eb=>⟨rfl,I.turned (t':=s.toks) (λb o hb e=>eb b o hb e) f0 f1 f3 f4 f5⟩
 self:=λ_ _ _ _ _ st h=>wpAny_pyIter_keyiter st h
section
variable{X:Cx}{WE:WX}{tg l:Expr}{xl:XE}
theorem xZ(hl:RE X WE l xl):RI X WE tg l (rW xl):=⟨by
 intro pins s σ H Rr I h;obtain⟨μ,S,τ,hr,sr,p⟩:=h;refine thn (hl.h pins s σ H _ I ⟨μ,S,τ,hr,sr,p.bind (Q:=λv H1=>∃μ1 S1 z,HR μ1 S1 H1/\aS X.K X.mg μ1 S1 H1 v z/\aL (fJ X.K X.mg) WE μ1 S1 H1 (match z with
   | .fd kvs=>.ok ⟨kvs.map λkv=>Vl.d (kD kv.1),none⟩ S1
   |_=>.bad) Rr) λv x S1 μ1 H1 st1 r1 p1=>⟨μ1,S1,x,st1.hr,r1,p1⟩⟩) λv s1 ⟨u,H1,I1,ru,μ1,S1,z,hr1,r1,p1⟩=>?_
 split at p1
 ·rename_i kvs;obtain⟨a,vs,o,rfl,l,h,rs⟩:=r1;have hH:=(aM h).2;cases ru;obtain⟨_,_,_,ws,rel,o',es,ep,e2,c,hd,rest⟩:=I1.hok a _ hH;have e1:s1.heap.get? a=some o:=(I1.hok a _ hH).1;rw[e1]at e2;cases e2;obtain⟨z2,z1,lk,ws,rel,da⟩:=nO I1.hok hd hH;have lv:=rel.length;refine wpAny_pyIter_dict z2 da ?_;refine⟨s1.heap.objs.size,[s1.heap.objs.size],_,_,H1,rfl,I1.kept (t':=s1.toks) λb o e=>gV _ e,zq a _ hd,⟨_,IG _ rfl,rfl,by rw[<-lv,lk];rfl⟩,λb hb=>?_,?_⟩
  ·rw[IQ.mp hb];exact I1.jz (IB _) (I1.hok.fresh (IB _))
  ·refine p1.here hr1 ⟨True.intro,?_,?_,?_,?_⟩
   ·have:((kvs.map (·.1)).zip vs).length=kvs.length:=by rw[Kq,IA,l,La]
    simp only[IA];omega
   ·intro i z μ' S' H' st _ e;have hi:=(IJ.mp e).1;exact⟨_,(aM (st.vis _ _ h)).2,by rw[Kq,IA,l,La];simpa using hi⟩
   ·intro i z μ' S' H' x H2 st _ e y;obtain⟨rfl,y⟩:=y;obtain⟨k,v,e3,rfl⟩:=y _ (aM (st.vis _ _ h)).2;have hi:=(IJ.mp e).1;simp only[IA]at hi;rw[IU,H0 hi]at e;cases e;have e4:kvs[i].1=k:=by
     rw[H0 (by rw[Kq,IA,l,La];exact hi),List.getElem_zip]at e3;simp only[SK,Prod.mk.injEq,List.getElem_map]at e3;exact e3.1
    rw[<-e4];exact⟨Step.refl st.hr,E8 _⟩
   ·intro i μ' S' H' st _ hi;exact⟨_,(aM (st.vis _ _ h)).2,by rw[Kq,IA,l,La];simpa using hi⟩
 ·exact p1.elim⟩
end
section
variable{X:Cx}
def xY(N:Nat):List V->Hp->VK->Prop:=λvs H Q=>∃(p:Addr)(o:Obj)(kvs:List (Key×V))(ns:List Int),vs=[.ref p]/\H p=some (.frz o (.dK kvs))/\kvs.map (·.1)=ns.map Sum.inl/\ns.length<N/\∀(l:Addr)(ms:List Int),H l=none->List.Perm ms ns->ms.Pairwise (·<=·)->Q (.ref l) (upd H l (.lst (ms.map V.int)))
theorem nz:∀{vs:List Value}{ns:List Int},vs.length=ns.length->(∀(i:Nat)(v:Value)(n:Int),vs[i]?=some v->ns[i]?=some n->∃t,v=Value.int n t)->IntsAre vs ns
 | [],[],_,_=>.nil
 |v::vs,n::ns,l,h=>by
  obtain⟨t,rfl⟩:=h 0 v n rfl rfl;exact .cons n t (nz (by simpa using l) λi v' n' a b=>h (i+1) v' n' (by simpa using a) (by simpa using b))
theorem vH(T:lA N)(hN:N<=301)(hc:X.calm=true):bJ X (.builtin "sorted") (xY N):=by
 intro pins s σ H xs us Q I r h;obtain⟨p,o,kvs,ns,rfl,hH,hk,hl,q⟩:=h;obtain⟨u,rfl,rx⟩:=vals1 r;cases rx;have hh:=I.ok.hd hc;obtain⟨e1,_,_,_,_,o',es,ep,e2,_,hd,_⟩:=I.hok p _ hH;rw[e1]at e2;cases e2;obtain⟨z2,z1,lk,vs,rel,da⟩:=nO I.hok hd hH;have lv:=rel.length;have ln:kvs.length=ns.length:=by have:=Jn MC hk;simpa using this
 refine Mc PQ Pn Po (Pp _) ?_;unfold QB;refine ar ?_;unfold checkCount;refine IK rfl (IK rfl (IK rfl (C0 ?_)));refine ar (O4 (PySem.W.kdl_dict (knd:=aV X.prog X.w) (kvs:=vs) (ep:=ep) z2) hh da (by omega) λh1 tk acc hkp hacc=>?_);have i1:IntsAre acc.toList ns:=by
  refine nz (by rw[IC,hacc.1];omega) λi v n hv hn=>?_;obtain⟨k,x,hx,hi⟩:=hacc.2 i v (by simpa using hv);obtain⟨w,hw⟩:=rel.get hx;have e3:(kvs.map (·.1))[i]?=some k:=by rw[IU,hw];rfl
  rw[hk,IU,hn]at e3;have e4:k=Sum.inl n:=(Jj e3).symm;subst e4;exact xK (P:=X.prog) (w:=X.w) hi
 have l0:acc.toList.length=ns.length:=by rw[IC,hacc.1];omega
 refine ar (MJ ?_ (by rw[l0];exact Ka (dF (by omega))));refine ar (Jl ?_);have hat:(h1.push (seqObj "list" acc.toList.toArray 0)).get? h1.objs.size=some (seqObj "list" acc.toList.toArray 0):=IG _ rfl;refine JB OF ⟨_,hat,rfl⟩ Oi ?_ (OG _);refine T hat i1 (by omega) λout ms r1 r2 r3=>⟨_,rfl,C0 ⟨_,rfl,?_⟩⟩;obtain⟨c,hc2⟩:=QW (out:=out) hat;have I1:Inv X pins σ H { s with heap:=h1,toks:=tk }:=I.kept (t':=tk) hkp;refine⟨.ref h1.objs.size,_,I1.laid (t':=tk) (a:=h1.objs.size) (o:=.lst (ms.map V.int)) (λb ob qb=>?_) (IB _) ?_,rfl,q _ ms (I1.hok.fresh (IB _)) r2 r3⟩
 ·have hb:b<h1.objs.size:=ID qb;rw[QC (IZ hb) (by rw[JY];exact Lm hb)];exact gV _ qb
 ·have hlm:ms.length=ns.length:=r2.length_eq;exact⟨by rw[IA];have:(301:Nat)<=sizeLine:=(by decide);omega,out.toList,c,eO r1,by simpa using hc2⟩
end
noncomputable def fL:List (Key×D)->Option (List Int)
 | []=>some []
 |(.inl i,_)::r=>(fL r).map (i::·)
 |_=>none
theorem oj:∀{kvs:List (Key×D)}{ns:List Int},fL kvs=some ns->kvs.map (·.1)=ns.map Sum.inl
 | [],_,e=>by cases e;rfl
 |(.inl i,_)::r,ns,e=>by
  simp only[fL,K8]at e;obtain⟨ms,e1,rfl⟩:=e;rw[IM,IM,oj e1]
 |(.inr _,_)::r,_,e=>by simp[fL]at e
noncomputable def k8(N:Nat)(xs:List Vl)(S:Sto):R Vl:=match xs with
 | [.fd kvs]=>(match fL kvs with
  |some ns=>if ns.length<N then .ok (.d (.lst ((sortI ns).map D.int))) S else .bad
  |none=>.bad)
 |_=>.bad
theorem vL{N:Nat}{K:Iy}{mg:Str->Option Value}:f6 K mg (xY N) (k8 N):=by
 intro WE μ S H vs xs Q hr rs p;unfold k8 at p;split at p
 ·obtain⟨v,rfl,r⟩:=rs.one;split at p
  ·rename_i ns e;split at p
   ·rename_i hb;obtain⟨a,us,o,rfl,l,h,rr⟩:=r;refine⟨a,o,_,ns,rfl,(aM h).2,?_,hb,λl ms hl h1 h2=>?_⟩
    ·rw[List.map_fst_zip (by simp[l])];exact oj e
    ·rw[nc h1 h2];exact p.jB hr (aw.ints _) l hl
   ·exact p.elim
  ·exact p.elim
 ·exact p.elim
noncomputable def kN:List (XE×XE)->Nv->Sto->R (List (Vl×Vl))
 | [],_,S=>.ok [] S
 |(k,v)::r,τ,S=>(k τ S).bind λx S1=>(v τ S1).bind λy S2=>(kN r τ S2).bind λps S3=>.ok ((x,y)::ps) S3
noncomputable def gR:List (Vl×Vl)->Option (List (Key×D))
 | []=>some []
 |(.d x,.d y)::r=>(match hZ x,gR r with
  |some k,some l=>some ((k,y)::l)
  |_,_=>none)
 |_=>none
noncomputable def dn(kvs more:List (Key×D)):List (Key×D):=more.foldl (λacc kv=>putD acc kv.1 kv.2) kvs
noncomputable def rj(ms:List (XE×XE)):XE:=λτ S=>(kN ms τ (S++[.dct []])).bind λps S2=>match gR ps,S2[S.length]? with
 |some l,some (.dct [])=>if l.length<=15 then .ok (.r S.length) (S2.set S.length (.dct (dn [] l)))else .bad
 |_,_=>.bad
noncomputable def trP(K:Iy)(mg:Str->Option Value)(WE:WX)(ms:List (XE×XE)):List (TE×TE):=ms.map λm=>(trE K mg WE m.1,trE K mg WE m.2)
structure RP(X:Cx)(WE:WX)(pos:Pos)(ks:List (Option Expr))(vs:List Expr)(ms:List (XE×XE)):Prop where
 h:PPs X pos ks vs (trP X.K X.mg WE ms)
section
variable{X:Cx}{WE:WX}{pos:Pos}
theorem DL:RP X WE pos [] [] []:=⟨C8⟩
theorem CO(hk:RE X WE k xk)(hv:RE X WE v xv)(hr:RP X WE pos ks vs ms):RP X WE pos (some k::ks) (v::vs) ((xk,xv)::ms):=⟨A7 hk.h hv.h hr.h⟩
inductive n5(K:Iy)(mg:Str->Option Value)(μ:Nat->Addr)(S:Sto)(H:Hp):List (V×V)->List (Vl×Vl)->Prop
 |nil:n5 K mg μ S H [] []
 |cons {v w:V} {x y:Vl} {vs:List (V×V)} {xs:List (Vl×Vl)}:aS K mg μ S H v x->aS K mg μ S H w y->n5 K mg μ S H vs xs->n5 K mg μ S H ((v,w)::vs) ((x,y)::xs)
theorem rB{K:Iy}{mg:Str->Option Value}:∀{ms:List (XE×XE)}{μ:Nat->Addr}{S:Sto}{H:Hp}{σ:St}{τ:Nv}{Q:List (V×V)->Hp->Prop},HR μ S H->b5 K mg μ S H σ τ->aL (n5 K mg) WE μ S H (kN ms τ S) Q->nV (trP K mg WE ms) σ H Q
 | [],μ,S,H,σ,τ,Q,hr,sr,p=>p.here hr .nil
 |(k,v)::r,μ,S,H,σ,τ,Q,hr,sr,p=>by
  refine⟨μ,S,τ,hr,sr,aL.bind (f:=λx S1=>(v τ S1).bind λy S2=>(kN r τ S2).bind λps S3=>.ok ((x,y)::ps) S3) p λa x S1 μ1 H1 st1 r1 p1=>⟨μ1,S1,τ,st1.hr,sr.step st1,p1.bind λb y S2 μ2 H2 st2 r2 p2=>?_⟩⟩;refine rB (ms:=r) st2.hr (sr.step (st1.trans st2)) (p2.bind λps zs S3 μ3 H3 st3 r3 p3=>?_);exact p3.here st3.hr (.cons (r1.step (st2.trans st3)) (r2.step st3) r3)
theorem qA{K:Iy}{mg:Str->Option Value}{μ:Nat->Addr}{S:Sto}{H:Hp}:∀{ps:List (V×V)}{zs:List (Vl×Vl)}{l:List (Key×D)},n5 K mg μ S H ps zs->gR zs=some l->∃vs:List V,vs.length=l.length/\ps=((l.map (·.1)).zip vs).map (λkv=>(kV kv.1,kv.2))/\aw (vh μ S H) vs (l.map (·.2))
 |_,_,_,.nil,e=>by cases e;exact⟨[],rfl,rfl,.nil⟩
 |_,_,l,.cons (v:=v) (w:=w) (x:=x) (y:=y) r q t,e=>by
  cases x with
  |d x=>
   cases y with
   |d y=>
    simp only[gR]at e;split at e
    ·rename_i k l' hk hl;cases e;obtain⟨vs,l1,e1,rs⟩:=qA t hl;exact⟨w::vs,by simp[l1],by rw[e1,jf r hk];rfl,.cons q rs⟩
    ·cases e
   |_=>simp[gR]at e
  |_=>simp[gR]at e
theorem mV:∀{l kvs:List (Key×D)}{vs ws:List V},aw G vs (l.map (·.2))->aw G ws (kvs.map (·.2))->∃us,us.length=(dn kvs l).length/\cj ((kvs.map (·.1)).zip ws) ((l.map (·.1)).zip vs)=((dn kvs l).map (·.1)).zip us/\aw G us ((dn kvs l).map (·.2))
 | [],kvs,_,ws,.nil,r=>⟨ws,by have:=r.length;simpa[dn]using this,rfl,r⟩
 |p::l,kvs,_,ws,.cons (v:=v) (vs:=vs) h t,r=>by
  obtain⟨us,lu,eu,ru⟩:=yW p.1 h r;obtain⟨us2,l2,e2,r2⟩:=mV (l:=l) (kvs:=putD kvs p.1 p.2) t ru;refine⟨us2,l2,?_,r2⟩;rw[<-eu]at e2;exact e2
theorem C4(h:RP X WE pos ks vs ms)(hall:ks.all (·.isSome)=true:=by rfl)(hl:ks.length=vs.length:=by rfl)(h0:ks≠[]:=by exact List.cons_ne_nil _ _)(h15:ks.length<=15:=by decide):RE X WE (.Dict ks vs pos) (rj ms):=
 ⟨(Dd h.h hall hl h0 h15).weak λσ H Q ⟨μ,S,τ,hr,sr,p⟩ a ha=>by
  have st0:Step μ S H (ext μ S.length a) (S++[.dct []]) (upd H a (.dK [])):=Step.alloc hr ha (ob:=.dct []) ⟨[],rfl,rfl,.nil⟩;refine rB (WE:=WE) st0.hr (sr.step st0) ((p.shift st0).bind λps zs S2 μ2 H2 st2 r2 p2=>?_)
  try dsimp only at p2
  split at p2
  ·rename_i l e1 e2;split at p2
   ·rename_i hl;have hμ:μ2 S.length=a:=by rw[st2.ag S.length (by simp),cC]
    obtain⟨ws,lw,e3,rs⟩:=st2.hr.ob _ _ e2;rw[hμ]at e3;obtain⟨vs,lv,rfl,rv⟩:=qA r2 e1;obtain⟨us,lu,eu,ru⟩:=mV (kvs:=[]) (ws:=[]) rv (aw.nil (H:=vh μ2 S2 H2));refine⟨by simpa using e3,_,rfl,?_,?_⟩
    ·rw[Kq,IA,lv,La];exact hl
    ·have st3:=Step.put st2.hr e2 (by simp) (ob:=.dct (dn [] l)) ⟨us,lu,rfl,ru⟩;rw[hμ,<-eu]at st3;exact p2 _ _ _ st3 ⟨by rw[hμ],by rw[KH];have:=st2.le;simp at this;omega⟩
   ·exact p2.elim
  ·exact p2.elim⟩
end
noncomputable def mkP(xs:List Vl)(S:Sto):R Vl:=match xs with
 | [.d x,.r n]=>(match S[n]? with
  |some (.lst _)=>.ok (.pr x n) S
  |_=>.bad)
 |xs=>mkT xs S
section
variable{X:Cx}{WE:WX}{e:Expr}{es:List Expr}{pos:Pos}{K:Iy}{mg:Str->Option Value}
theorem vd(h:RA X WE es ts):RE X WE (.Tuple es k pos) (xN mkP ts):=
 ⟨(yb h.h).weak λσ H Q ⟨μ,S,τ,hr,sr,p⟩=>⟨μ,S,τ,hr,sr,p.bind λvs xs S1 μ1 H1 st1 r1 p1=>by
  unfold mkP at p1;split at p1
  ·split at p1
   ·rename_i x n _ ys e;cases r1 with
    | @cons u0 _ _ _ a r1=>cases r1 with
     |cons b r1=>
      cases r1;obtain⟨rfl,hn⟩:=b;refine⟨by show 2<=sizeLine;decide,λq hq=>?_⟩;have st:=Step.new st1.hr hq (.tup [u0,.ref (μ1 n)]);exact p1 _ μ1 _ st ⟨q,_,rfl,bM bY (st1.hr.nal hq),Rep.mono st.vis a,hn⟩
   ·exact p1.elim
  ·unfold mkT at p1;split at p1
   ·rename_i ds e;split at p1
    ·have rs:=eU r1 e;refine⟨iT (by rw[rs.length];assumption),λq hq=>p1.mL st1.hr rs q hq⟩
    ·exact p1.elim
   ·exact p1.elim⟩⟩
end
set_option maxRecDepth 100000
theorem xr(l:Addr)(items:Array Value):Meets (Builtin.«enumerate.__new__» ⟨[.type "enumerate",.ref l],[]⟩) (λ_ R s=>(∃o,s.heap.get? l=some o/\o.cls=.type "tuple"/\∃n,o.data=.seq items n) /\
   R (.ok (.ret (.ref (zT s.heap l).objs.size))) { s with heap:=(zT s.heap l).push { cls:=.type "enumerate",data:=.fields #[.none,.bool false,.ref s.heap.objs.size,rawInt 0,.none,.none] } }):=
 .of_wp λprog w A R s h=>by
  obtain⟨hp,g,d,tk,os⟩:=s;obtain⟨⟨⟨c,dct,dt,sl⟩,hl,hc,n,hd⟩,h⟩:=h
  replace hc:c=.type "tuple":=hc
  replace hd:dt=.seq items n:=hd
  subst hc hd;have hsub:=sub_enumerate;have hL:MY (Nj ⟨hp,g,d,tk,os⟩) l items:=⟨_,hl,rfl,n,rfl⟩
  wp_walk using KY hl
  refine wpAny_stack_any λst=>C0 ?_;split
  ·rename_i c _ _ _ _ _;cases(c==Value.type "enumerate")
   ·wp_walk using KY hl,Kx hL
    exact⟨_,rfl,h⟩
   ·wp_walk using KY hl,Kx hL
    exact⟨_,rfl,h⟩
  ·wp_walk using KY hl,Kx hL
   exact⟨_,rfl,h⟩
section
variable{prog:Program}{w:World}{A:Around}{E:Value->Shared->Prop}{s:Shared}
theorem vX(hL:s.heap.IsTuple l items)
  (h:∀h',IsEnum h' (s.heap.objs.size+1) s.heap.objs.size 0 .none->h'.IsTupleIter s.heap.objs.size l 0->(∀b o,s.heap.get? b=some o->h'.get? b=some o)->Q (.ref (s.heap.objs.size+1)) { s with heap:=h' }) :
  wpAny (model prog w) A (call (.type "enumerate") [.ref l]) Q E s:=by
 refine NX F.called_enumerate (by decide) (F.typeCall_enumerate_1 _) (F.newCall_enumerate_1 _) (λobj=>OR obj _) F.entry_enumerate_new (xr l items) ⟨hL,?_⟩;have hz:(zT s.heap l).objs.size=s.heap.objs.size+1:=JY ..;have he:((zT s.heap l).push { cls:=.type "enumerate",data:=.fields #[.none,.bool false,.ref s.heap.objs.size,rawInt 0,.none,.none] }).get? (zT s.heap l).objs.size=some { cls:=.type "enumerate",data:=.fields #[.none,.bool false,.ref s.heap.objs.size,rawInt 0,.none,.none] }:=IG _ rfl;show _/\_;rw[hz]at he ⊢;exact⟨⟨_,he,rfl⟩,h _ he ⟨_,gV _ (IG _ rfl),rfl,rfl⟩ λb o e=>gV _ (gV _ e)⟩
end
noncomputable def DE(t:Addr):It:=
 ⟨λi H=>∃xs x,H t=some (.tup xs)/\xs[i]?=some x,λi H x H'=>∃p y,H p=none/\x=.ref p/\H'=upd H p (.tup [.int i,y])/\∀xs,H t=some (.tup xs)->xs[i]?=some y,λi H=>∃xs,H t=some (.tup xs)/\xs.length=i⟩
theorem wZ{P:Program}{w:World}{K:Iy}{es:List Expr}{kk:Nat}{tp:Pos}(l e it:Addr)(hne:e≠it)(hle:l≠e)(hli:l≠it) :
  Turn P w K (.Tuple es kk tp) (DE l) [e,it] e (λi h=>(∃old,IsEnum h e it ((i:Nat):Int) old)/\h.IsTupleIter it l i)where
 mem:=by simp
 obj:=λi h st b hb=>by
  obtain⟨⟨old,he⟩,hit⟩:=st;rcases IL.mp hb with z |z
  ·subst z;exact⟨_,he,λv z=>by
    have z':Data.fields _=Data.cell v:=z;cases z'⟩
  ·have z:b=it:=IQ.mp z;subst z;obtain⟨o,q,_,d⟩:=hit;exact⟨o,q,λv z=>by rw[d]at z;cases z⟩
 keep:=λi h h' st k=>by
  obtain⟨⟨old,he⟩,hit⟩:=st;exact⟨⟨old,k e (by simp) _ he⟩,hit.at λo q=>k it (by simp) o q⟩
 item:=by
  intro X hP hw hK hc i pins s σ H E I hf st hg;subst hP hw hK;obtain⟨⟨old,he⟩,hit⟩:=st;obtain⟨xs,x,hq,hx⟩:=hg;obtain⟨its,rv,p,hz⟩:=I.tuple (SqT.of (K:=X.K) hq);obtain⟨u,hu,ru⟩:=rv.get hx;have hit':i<its.toArray.size:=by have:=(IJ.mp hu).1;simpa using this
  refine wpAny_pyNext_enum_itemD (ir (prog:=X.prog) (w:=X.w) (A:=X.A.in1) (I.ok.hd hc) it l hli its.toArray) he ⟨hit,p⟩ hit' hne (by simp[hne,KJ hle]) λu' h1 tk hu' ho1 st1 ht1 hz1 hk1=>?_;have e0:u'=u:=by
   have a1:its[i]?=some u':=by simpa using hu'
   rw[hu]at a1;exact(Jj a1).symm
  subst e0;refine⟨_,rfl,Nw (s:={ s with heap:=h1,toks:=tk+1 }) ho1 λh2 he2 hs2=>?_⟩;have helt:e<s.heap.objs.size:=ID he;have ht2:h2.get? s.heap.objs.size=some { cls:=.type "tuple",data:=.seq #[.int i tk,u'] }:=hs2.extBut _ _ (Ku helt) ht1;have k2:∀b o,b∉[e,it]->s.heap.get? b=some o->h2.get? b=some o:=λb o hb q=>by
   have hb1:b≠e:=λz=>hb (by simp[z]);have hb2:b≠it:=λz=>hb (by simp[z]);exact hs2.extBut b o hb1 (hk1 b o hb1 hb2 q)
  have I2:Inv X pins σ (upd H s.heap.objs.size (.tup [.int i,x])) { s with heap:=h2,toks:=tk+1 }:=by
   refine I.mU (fp:=[e,it]) (IB _) k2 hf ?_;exact⟨by show 2<=sizeLine;decide,[.int i tk,u'],.cons ⟨_,rfl⟩ (.cons ru .nil),⟨_,ht2,rfl,_,rfl⟩⟩
  refine⟨.ref s.heap.objs.size,_,I2,rfl,⟨s.heap.objs.size,x,I.hok.fresh (IB _),rfl,rfl,λys hy=>by rw[hq]at hy;cases hy;exact hx⟩,⟨⟨_,by simpa using he2⟩,?_⟩,λb hb=>?_⟩
  ·exact st1.1.extBut hs2.extBut (KJ hne)
  ·have hlt:b<s.heap.objs.size:=by
    rcases IL.mp hb with z |z
    ·rw[z];exact helt
    ·have z:b=it:=IQ.mp z;subst z;obtain⟨o,q,_⟩:=hit;exact ID q
   rw[aP (IZ hlt)];exact(hf b hb).1
 done:=by
  intro X hP hw hK hc i pins s σ H E I hf st hg;subst hP hw hK;obtain⟨⟨old,he⟩,hit⟩:=st;obtain⟨xs,hq,hx⟩:=hg;obtain⟨its,rv,p,hz⟩:=I.tuple (SqT.of (K:=X.K) hq);have hl:=rv.length;obtain⟨f0,f1,f2,f3,f4,f5⟩:=hf it (by simp);exact wpAny_pyNext_enum_endD (ir (prog:=X.prog) (w:=X.w) (A:=X.A.in1) (I.ok.hd hc) it l hli its.toArray) he ⟨by rw[IE,<-hl,hx];exact hit,p⟩ λh' eb=>⟨rfl,I.turned (t':=s.toks) (λb o hb e=>eb b o hb e) f0 f1 f3 f4 f5⟩
 self:=λ_ _ _ _ _ st h=>by
  obtain⟨⟨old,he⟩,_⟩:=st;exact Mv he h
noncomputable def Be(e:XE):XI:=λτ S=>(e τ S).bind λz S1=>match z with
 | .d (.tup xs)=>.ok ⟨cJ 0 xs,none⟩ S1
 |_=>.bad
section
variable{X:Cx}{WE:WX}{K:Iy}{mg:Str->Option Value}{μ:Nat->Addr}{S:Sto}{H:Hp}
theorem AA(g:vh μ S H a=some (.tup vs))(rs:aw (vh μ S H) vs xs)(hz:vs.length<=sizeLine):fJ K mg μ S H (DE a) ⟨cJ 0 xs,none⟩where
 ok:=True.intro
 len:=by simp only[fU];rw[<-rs.length];exact hz
 go:=λi z μ' S' H' st _ e=>by
  rw[dH]at e;cases q:xs[i]? with
  |none=>rw[q]at e;cases e
  |some x=>
   obtain⟨u,e2,_⟩:=rs.get' q;exact⟨vs,u,(aM (st.vis _ _ g)).2,e2⟩
 yld:=λi z μ' S' H' u H2 st _ e y=>by
  obtain⟨p,w,hp,rfl,rfl,y⟩:=y;rw[dH]at e;cases q:xs[i]? with
  |none=>rw[q]at e;cases e
  |some x=>
   rw[q]at e;cases e;have e2:=y vs (aM (st.vis _ _ g)).2;obtain⟨x',e3,r⟩:=rs.get e2;rw[q]at e3;cases e3;have st2:=Step.new st.hr hp (.tup [.int i,w]);refine⟨st2,Rep.tup (bM bY (st.hr.nal hp)) (.cons ?_ (.cons (Rep.mono (st.trans st2).vis r) .nil))⟩;rw[J3];exact .int _
 stop:=λi μ' S' H' st _ hi=>⟨vs,(aM (st.vis _ _ g)).2,by rw[rs.length];rw[fU]at hi;exact hi⟩
end
section
variable{X:Cx}{WE:WX}
theorem Am{es:List Expr}{kk:Nat}{tp:Pos}{l:Expr}{xl:XE}{p pos:Pos}(hg:Gl X "enumerate")(hm:X.mg "enumerate"=none)(hl:RE X WE l xl)(hb:bootBuiltins "enumerate"=some (.type "enumerate"):=by decide+kernel)
  (hs:starEach [l] X.env=[(false,eval l X.env)]:=by rfl):RI X WE (.Tuple es kk tp) (.Call (.Name "enumerate" p) [l] [] pos) (Be xl):=⟨by
 intro pins s σ H R I h;obtain⟨μ,S,τ,hr,sr,pp⟩:=h;refine Ni (bW I hg hm hb (Je (thn ((dN hl.h fY hs) pos pins s σ H (λvs H1=>∃x,vs=[x]/\∃μ1 S1 z,HR μ1 S1 H1/\aS X.K X.mg μ1 S1 H1 x z/\aL (fJ X.K X.mg) WE μ1 S1 H1 (match z with
   | .d (.tup xs)=>.ok ⟨cJ 0 xs,none⟩ S1
   |_=>.bad) R) I ?_) λus s1 ⟨vs,H1,I1,r1,q1⟩=>?_) hs rfl))
 ·exact⟨μ,S,τ,hr,sr,pp.bind λv x S1 μ1 H1 st1 r1 p1=>⟨v,rfl,μ1,S1,x,st1.hr,r1,p1⟩⟩
 ·obtain⟨x,e,μ1,S1,z,hr1,rz,p1⟩:=q1;subst e;obtain⟨u,rfl,ru⟩:=vals1 r1;split at p1
  ·obtain⟨a,us,rfl,h0,g,rs⟩:=fe rz;cases ru;obtain⟨its,rv,pl,hz⟩:=I1.tuple (SqT.of (K:=X.K) h0);have q:=p1.here hr1 (AA g rs hz);have hlt:a<s1.heap.objs.size:=pl.lt;refine vX (show s1.heap.IsTuple a its.toArray from pl) λh' he hit hk=>?_;refine Mv (s:={ s1 with heap:=h' }) he ?_;have I2:Inv X pins σ H1 { s1 with heap:=h' }:=I1.kept (t':=s1.toks) hk;refine⟨s1.heap.objs.size+1,[s1.heap.objs.size+1,s1.heap.objs.size],_,_,H1,rfl,I2,wZ a _ _ (P6 _) (IZ (Lm hlt)) (IZ hlt),⟨⟨_,he⟩,hit⟩,λb hb=>?_,q⟩;have hle:s1.heap.objs.size<=b:=by
    rcases IL.mp hb with z |z
    ·rw[z];exact L7 _
    ·rw[IQ.mp z];exact IB _
   exact I1.jz hle (I1.hok.fresh hle)
  ·exact p1.elim⟩
end
section
variable{prog:Program}{w:World}{A:Around}{E:Value->Shared->Prop}{s:Shared}{z TI TO i1 i2:Addr}{fp1 fp2:List Addr}{n1 n2 k:Nat}{P1 P2:Nat->Value->Prop}{S1 S2:Nat->Heap->Prop}
abbrev nq(h:Heap)(z TI TO T:Addr)(b:Bool):Prop:=h.get? z=some { cls:=.type "zip",dict:=none,data:=.fields #[rawInt T,.bool b,.bool false,.ref TI,.ref TO],slots:=#[] }
theorem xF{T:Addr}{fl:Bool}{Q:Value->Shared->Prop}(D:cu z TI TO i1 i2 fp1 fp2)(D1:Draws prog w A i1 fp1 n1 P1 S1)(D2:Draws prog w A i2 fp2 n2 P2 S2)(hz:nq s.heap z TI TO T fl)(hT:∃o,s.heap.get? T=some o)(hTI:IsPair s.heap TI (.ref i1) (.ref i2))
  (h1:S1 k s.heap) (h2:S2 k s.heap) (l1:k<n1) (l2:k<n2)
  (hQ:∀x y h' tk,P1 k x->P2 k y->nq h' z TI TO T true->IsPair h' TI (.ref i1) (.ref i2)->S1 (k+1) h'->S2 (k+1) h'->IsPair h' s.heap.objs.size x y ->
   (∀c o,c≠z->c≠i1->c≠i2->s.heap.get? c=some o->h'.get? c=some o)->Q (.ref s.heap.objs.size) { s with heap:=h',toks:=tk }) :
  wpAny (model prog w) A (Builtin.«zip.__next__» ⟨[.ref z],[]⟩) (λfin s'=>∃v,fin=.done (.ret v)/\Q v s') E s:=by
 refine(show wpAny _ _ (field (.ref z) 2>>=_) _ _ _ from ar (Ju hz rfl (x:=.bool false) rfl ?_));refine(show wpAny _ _ (field (.ref z) 3>>=_) _ _ _ from ar (Ju hz rfl (x:=.ref TI) rfl ?_));refine ar (Kk hTI rfl ?_);refine(show wpAny _ _ (Jx (.ref z)>>=_) _ _ _ from ar ?_);unfold Jx;refine ar (Ju hz rfl (x:=rawInt T) rfl ?_);refine(show wpAny _ _ (loadIfAlive ((T:Int)).toNat>>=_) _ _ _ from ar (dY ?_));rw[Jh];obtain⟨oT,hoT⟩:=hT;rw[hoT];refine IK (by rfl) ?_;refine ar (Ju hz rfl (x:=.bool fl) rfl ?_);have sb:Jg z s.heap s.heap:=⟨rfl,λ_ _=>rfl⟩;cases fl with
 |true=>
  refine IK (by rfl) (C0 ?_);refine IK (by rfl) ?_;simp only[<-Mj,Lf,LS];have hz0:=hz
  let g0:=s.heap
  have e0:Jg z s.heap g0:=sb;have q1:S1 k g0:=D1.frame _ _ _ h1 λc hc o q=>e0.extBut c o (λy=>D.z1 (y▸hc)) q;have q2:S2 k g0:=D2.frame _ _ _ h2 λc hc o q=>e0.extBut c o (λy=>D.z2 (y▸hc)) q;refine ar (ar (ar (Jl ?_)));refine(show wpAny _ _ (I0 (.ref i1)>>=_) _ _ _ from ar (D1.item k _ _ _ l1 q1 λx g2 t2 p1 q1' e2=>C0 (C0 ?_)))
  replace e2:Jg i1 g0 g2:=e2
  refine ar (ar (Jl ?_));have r2:S2 k g2:=D2.frame _ _ _ q2 λc hc o q=>e2.extBut c o (λy=>D.i12 (y▸hc)) q;refine(show wpAny _ _ (I0 (.ref i2)>>=_) _ _ _ from ar (D2.item k _ _ _ l2 r2 λy g4 t4 p2 r2' e4=>C0 (C0 (C0 ?_))))
  replace e4:Jg i2 g2 g4:=e4
  refine ar (Na ?_ (by show 2<=sizeLine;decide));have hsz:g4.objs.size=s.heap.objs.size:=by rw[e4.1,e2.1,e0.1]
  refine C0 ⟨_,rfl,?_⟩;show Q (.ref g4.objs.size) _;rw[hsz];have up:∀c o,g4.get? c=some o->(g4.push { cls:=.type "tuple",data:=.seq #[x,y] }).get? c=some o:=λc o q=>gV _ q;refine hQ x y _ _ p1 p2 (up _ _ (e4.extBut _ _ D.i2z.symm (e2.extBut _ _ D.i1z.symm hz0))) (up _ _ (e4.extBut _ _ D.TI2 (e2.extBut _ _ D.TI1 (e0.extBut _ _ D.TIz hTI)))) ?_ ?_ ?_ λc o c1 c3 c4 q=>up _ _ (e4.extBut _ _ c4 (e2.extBut _ _ c3 (e0.extBut _ _ c1 q)))
  ·exact D1.frame _ _ _ q1' λc hc o q=>up _ _ (e4.extBut c o (λy=>D.i21 (y▸hc)) q)
  ·exact D2.frame _ _ _ r2' λc hc o q=>up _ _ q
  ·rw[<-hsz];exact IG _ rfl
 |false=>
  refine KP (by rfl) (ar (J2 hz (by simp) λg0 hz0 e0=>C0 ?_));refine IK (by rfl) ?_;simp only[<-Mj,Lf,LS];have q1:S1 k g0:=D1.frame _ _ _ h1 λc hc o q=>e0.extBut c o (λy=>D.z1 (y▸hc)) q;have q2:S2 k g0:=D2.frame _ _ _ h2 λc hc o q=>e0.extBut c o (λy=>D.z2 (y▸hc)) q;refine ar (ar (ar (Jl ?_)));refine(show wpAny _ _ (I0 (.ref i1)>>=_) _ _ _ from ar (D1.item k _ _ _ l1 q1 λx g2 t2 p1 q1' e2=>C0 (C0 ?_)))
  replace e2:Jg i1 g0 g2:=e2
  refine ar (ar (Jl ?_));have r2:S2 k g2:=D2.frame _ _ _ q2 λc hc o q=>e2.extBut c o (λy=>D.i12 (y▸hc)) q;refine(show wpAny _ _ (I0 (.ref i2)>>=_) _ _ _ from ar (D2.item k _ _ _ l2 r2 λy g4 t4 p2 r2' e4=>C0 (C0 (C0 ?_))))
  replace e4:Jg i2 g2 g4:=e4
  refine ar (Na ?_ (by show 2<=sizeLine;decide));have hsz:g4.objs.size=s.heap.objs.size:=by rw[e4.1,e2.1,e0.1]
  refine C0 ⟨_,rfl,?_⟩;show Q (.ref g4.objs.size) _;rw[hsz];have up:∀c o,g4.get? c=some o->(g4.push { cls:=.type "tuple",data:=.seq #[x,y] }).get? c=some o:=λc o q=>gV _ q;refine hQ x y _ _ p1 p2 (up _ _ (e4.extBut _ _ D.i2z.symm (e2.extBut _ _ D.i1z.symm hz0))) (up _ _ (e4.extBut _ _ D.TI2 (e2.extBut _ _ D.TI1 (e0.extBut _ _ D.TIz hTI)))) ?_ ?_ ?_ λc o c1 c3 c4 q=>up _ _ (e4.extBut _ _ c4 (e2.extBut _ _ c3 (e0.extBut _ _ c1 q)))
  ·exact D1.frame _ _ _ q1' λc hc o q=>up _ _ (e4.extBut c o (λy=>D.i21 (y▸hc)) q)
  ·exact D2.frame _ _ _ r2' λc hc o q=>up _ _ q
  ·rw[<-hsz];exact IG _ rfl
theorem AS(D:cu z TI TO i1 i2 fp1 fp2)(D1:Draws prog w A i1 fp1 n1 P1 S1)(D2:Draws prog w A i2 fp2 n2 P2 S2)(hz:nq s.heap z TI TO T fl)(hT:∃o,s.heap.get? T=some o)(hTI:IsPair s.heap TI (.ref i1) (.ref i2))
  (h1:S1 k s.heap) (h2:S2 k s.heap) (hend:k=n1\/(k<n1/\k=n2))
  (hE:∀h' e tk,(∀c o,c≠z->c≠TO->c≠i1->c≠i2->s.heap.get? c=some o->h'.get? c=some o)->(∃o,h'.get? e=some o/\o.cls=.type "StopIteration")->E (.ref e) { s with heap:=h',toks:=tk }) :
  wpAny (model prog w) A (Builtin.«zip.__next__» ⟨[.ref z],[]⟩) Q E s:=by
 refine(show wpAny _ _ (field (.ref z) 2>>=_) _ _ _ from ar (Ju hz rfl (x:=.bool false) rfl ?_));refine(show wpAny _ _ (field (.ref z) 3>>=_) _ _ _ from ar (Ju hz rfl (x:=.ref TI) rfl ?_));refine ar (Kk hTI rfl ?_);refine(show wpAny _ _ (Jx (.ref z)>>=_) _ _ _ from ar ?_);unfold Jx;refine ar (Ju hz rfl (x:=rawInt T) rfl ?_);refine(show wpAny _ _ (loadIfAlive ((T:Int)).toNat>>=_) _ _ _ from ar (dY ?_));rw[Jh];obtain⟨oT,hoT⟩:=hT;rw[hoT];refine IK (by rfl) ?_;refine ar (Ju hz rfl (x:=.bool fl) rfl ?_);have sb:Jg z s.heap s.heap:=⟨rfl,λ_ _=>rfl⟩;cases fl with
 |true=>
  refine IK (by rfl) (C0 ?_);refine IK (by rfl) ?_;simp only[<-Mj,Lf,LS];have hz0:=hz
  let g0:=s.heap
  have e0:Jg z s.heap g0:=sb;have q1:S1 k g0:=D1.frame _ _ _ h1 λc hc o q=>e0.extBut c o (λy=>D.z1 (y▸hc)) q;have q2:S2 k g0:=D2.frame _ _ _ h2 λc hc o q=>e0.extBut c o (λy=>D.z2 (y▸hc)) q;refine ar (ar (ar (Jl ?_)));rcases hend with hk |⟨hk,hk2⟩
  ·subst hk;refine(show wpAny _ _ (I0 (.ref i1)>>=_) _ _ _ from ar (D1.done _ _ _ q1 λg2 e e2 he=>?_))
   replace e2:LG i1 g0 g2:=e2
   exact hE g2 e _ (λc o c1 _ c3 _ q=>e2 _ _ c3 (e0.extBut _ _ c1 q)) he
  ·subst hk2;refine(show wpAny _ _ (I0 (.ref i1)>>=_) _ _ _ from ar (D1.item k _ _ _ hk q1 λx g2 t2 p1 q1' e2=>C0 (C0 ?_)))
   replace e2:Jg i1 g0 g2:=e2
   refine ar (ar (Jl ?_));have r2:S2 k g2:=D2.frame _ _ _ q2 λc hc o q=>e2.extBut c o (λy=>D.i12 (y▸hc)) q;refine(show wpAny _ _ (I0 (.ref i2)>>=_) _ _ _ from ar (D2.done _ _ _ r2 λg4 e e4 he=>?_))
   replace e4:LG i2 g2 g4:=e4
   exact hE g4 e _ (λc o c1 _ c3 c4 q=>e4 _ _ c4 (e2.extBut _ _ c3 (e0.extBut _ _ c1 q))) he
 |false=>
  refine KP (by rfl) (ar (J2 hz (by simp) λg0 hz0 e0=>C0 ?_));refine IK (by rfl) ?_;simp only[<-Mj,Lf,LS];have q1:S1 k g0:=D1.frame _ _ _ h1 λc hc o q=>e0.extBut c o (λy=>D.z1 (y▸hc)) q;have q2:S2 k g0:=D2.frame _ _ _ h2 λc hc o q=>e0.extBut c o (λy=>D.z2 (y▸hc)) q;refine ar (ar (ar (Jl ?_)));rcases hend with hk |⟨hk,hk2⟩
  ·subst hk;refine(show wpAny _ _ (I0 (.ref i1)>>=_) _ _ _ from ar (D1.done _ _ _ q1 λg2 e e2 he=>?_))
   replace e2:LG i1 g0 g2:=e2
   exact hE g2 e _ (λc o c1 _ c3 _ q=>e2 _ _ c3 (e0.extBut _ _ c1 q)) he
  ·subst hk2;refine(show wpAny _ _ (I0 (.ref i1)>>=_) _ _ _ from ar (D1.item k _ _ _ hk q1 λx g2 t2 p1 q1' e2=>C0 (C0 ?_)))
   replace e2:Jg i1 g0 g2:=e2
   refine ar (ar (Jl ?_));have r2:S2 k g2:=D2.frame _ _ _ q2 λc hc o q=>e2.extBut c o (λy=>D.i12 (y▸hc)) q;refine(show wpAny _ _ (I0 (.ref i2)>>=_) _ _ _ from ar (D2.done _ _ _ r2 λg4 e e4 he=>?_))
   replace e4:LG i2 g2 g4:=e4
   exact hE g4 e _ (λc o c1 _ c3 c4 q=>e4 _ _ c4 (e2.extBut _ _ c3 (e0.extBut _ _ c1 q))) he
end
set_option maxRecDepth 100000
theorem gu:entryFor table "dict.update.loop"=some Builtin.«dict.update.loop»:=P5 (by rfl)
theorem cV:plainId "dict.update.loop"=true:=by decide+kernel
structure Ad(prog:Program)(w:World)(A:Around)(I d:Addr)(wr:List Addr)(ps:List (Key×V))(St:Nat->Heap->Prop):Prop where
 nd:d∉wr
 frame:∀i h h',St i h->(∀b o,b≠d->h.get? b=some o->h'.get? b=some o)->St i h'
 item:∀i(s:Shared)(Q:Option Value->Shared->Prop)(E:Value->Shared->Prop),i<ps.length->St i s.heap->d<s.heap.objs.size ->
  (∀T k v x y h' tk,ps[i]?=some (k,v)->(aV prog w).is k x=true->RelV v y->h'.IsTuple T #[x,y]->St (i+1) h'->(∀b o,b∉wr->s.heap.get? b=some o->h'.get? b=some o)->Q (some (.ref T)) { s with heap:=h',toks:=tk }) ->
  wpAny (model prog w) A (pyNext (.ref I)) Q E s
 done:∀(s:Shared)(Q:Option Value->Shared->Prop)(E:Value->Shared->Prop),St ps.length s.heap->(∀h' tk,(∀b o,b∉wr->s.heap.get? b=some o->h'.get? b=some o)->Q none { s with heap:=h',toks:=tk })->wpAny (model prog w) A (pyNext (.ref I)) Q E s
theorem t6(kvs:List (Key×V))(ps:List (Key×V))(k:Key)(v:V):cj kvs (ps++[(k,v)])=putK (cj kvs ps) k v:=by simp[cj,NL]
theorem t_{prog:Program}{w:World}{A:Around}{I d:Addr}{wr:List Addr}{ps:List (Key×V)}{St:Nat->Heap->Prop}{R:Result->Shared->Prop}(W:Ad prog w A.in1 I d wr ps St)(hn:ps.length<=100000)(res:Value) :
  ∀(k i:Nat)(t:Tok)(s:Shared)(kvs:List (Key×Value)),ps.length-i=k->i<=ps.length->St i s.heap->s.heap.DictOf (aV prog w) d kvs->KV (cj [] (ps.take i)) kvs ->
  (∀h' tk kvs',h'.DictOf (aV prog w) d kvs'->KV (cj [] ps) kvs'->(∀b o,b≠d->b∉wr->s.heap.get? b=some o->h'.get? b=some o)->R (.ok (.ret res)) { s with heap:=h',toks:=tk }) ->
  codeAny (model prog w) A (.builtin "dict.update.loop" ⟨[.ref d,.ref I,.int i t,res],[]⟩) R s:=by
 intro k
 induction k with
 |zero=>
  intro i t s kvs hk hi hst hd hkv hR;have hin:i=ps.length:=by omega
  subst hin;rw[JW]at hkv;refine Ko gu ?_;rw[KA cV _];show wpAny _ A.in1 (pyNext (.ref I)>>=_) _ _ s;refine ar (W.done s _ _ hst λh' tk hkp=>?_);refine ar (C0 (C0 ?_));obtain⟨o,es,ep,ho,r⟩:=hd;exact hR h' tk kvs ⟨o,es,ep,hkp d o W.nd ho,r⟩ hkv λb o _ hb e=>hkp b o hb e
 |succ k ih=>
  intro i t s kvs hk hi hst hd hkv hR;have hlt:i<ps.length:=by omega
  refine Ko gu ?_;rw[KA cV _];show wpAny _ A.in1 (pyNext (.ref I)>>=_) _ _ s;have hdl:d<s.heap.objs.size:=by obtain⟨o,es,ep,ho,r⟩:=hd;exact ID ho
  refine ar (W.item i s _ _ hlt hst hdl λT key v x y h' tk hps hkey hv hT hst' hkp=>?_);have hd':h'.DictOf (aV prog w) d kvs:=by obtain⟨o,es,ep,ho,r⟩:=hd;exact⟨o,es,ep,hkp d o W.nd ho,r⟩
  have htk:ps.take (i+1)=ps.take i++[(key,v)]:=by rw[Mz,hps];rfl
  have hkv':KV (cj [] (ps.take (i+1))) (stored kvs key y):=by
   rw[htk,t6];exact hkv.put key hv
  obtain⟨oT,hoT,hcT,nT,hdT⟩:=hT;refine ar (Jl (ar (wpAny_tryCatch ?_)));unfold RZ;refine ar (J0 (T:="tuple") ⟨oT,hoT,hcT⟩ ?_);refine KP (by rfl) ?_;refine ar (Kk hoT hdT (C0 ?_));have lk:kvs.length<=sizeLine:=by
   have l1:=hkv.length;have l2:=eB (ps.take i) [];rw[IY,KI]at l2;rw[Kd];omega
  refine Jl (wpAny_dictSet_pairs (knd:=aV prog w) (hsz:=lk) hkey hd' λh2 hd2 hs2=>?_);refine C0 ⟨MI cV _,?_⟩;refine ih (i+1) _ _ _ (by omega) hlt (W.frame _ _ _ hst' λb o hb e=>(hs2.2 b hb).trans e) hd2 hkv' λh3 tk3 kvs3 a b c=>hR h3 tk3 kvs3 a b λb' o hb hw e=>c b' o hb hw ((hs2.2 b' hb).trans (hkp b' o hw e))
theorem tY:entryFor table "zip.__getattribute__"=some Builtin.«object.__getattribute__»:=OE (id':="object.__getattribute__") (by rfl) (by decide+kernel) (by decide+kernel) (by rfl)
theorem t9:typeLookup (.type "zip") "keys"=pure none:=by rw[MZ,LU];rfl
theorem pj:typeLookup (.type "zip") "__getattr__"=pure none:=by rw[MZ,LU];rfl
theorem Bd(a:Addr)(vs:Array Value)(u:Tok):Meets (Builtin.«object.__getattribute__» ⟨[.ref a,.str "keys" u],[]⟩) (λA R s=>s.heap.get? a=some { cls:=.type "zip",dict:=none,data:=.fields vs,slots:=#[] }/\raisesAttr (.ref a) "keys" A R s):=
 Meets.of_wp λprog w A R s hs=>by
  obtain⟨hp,g,d,tk,os⟩:=s;obtain⟨hx,hs⟩:=hs;have hT:(⟨hp,g,d,tk,os⟩:Shared).TypeIs (.ref a) "zip":=⟨_,hx,rfl⟩;have hmiss:=t9;unfold Builtin.«object.__getattribute__»
  repeat (any_goals (first |assumption |wp_step))
  exact wpAny_raiseAttrError hs.1 hs.2 (attrMsg_fits (by decide+kernel) (by decide+kernel))
theorem Bg(hx:s.heap.get? a=some { cls:=.type "zip",dict:=none,data:=.fields vs,slots:=#[] })(hA:A.handled=none)
  (h:∀h' tk,(∀b o,s.heap.get? b=some o->h'.get? b=some o)->Q none { s with heap:=h',toks:=tk }):wpAny (model prog w) A (getAttr? (.ref a) "keys") Q E s:=by
 obtain⟨hp,g,d,tk,os⟩:=s;have hT:∀tk',(⟨hp,g,d,tk',os⟩:Shared).TypeIs (.ref a) "zip":=λ_=>⟨_,hx,rfl⟩;have f1:=sub_AttributeError;have f3:=Ms.lookup;have f4:=Ms.bind (.ref a);have f5:=pj;unfold getAttr? getAttrBy? getAttrBy
 repeat (any_goals (first |assumption |exact hT _ |((with_reducible show wpAny _ _ (call (Value.builtin "zip.__getattribute__") _ _) _ _ _);refine OM Ms (hT _) tY (F.args_zip_getattribute_2 _ _) (Bd a vs _) ⟨hx,hA,λh' tk' e hx'=>?_⟩) |wp_step))
 obtain⟨t',u',he⟩:=hx'.there;show wpAny _ _ (getattributeRaised _ _ _ _ _ _ _) _ _ _;unfold getattributeRaised
 repeat (any_goals (first |assumption |wp_step))
 exact h _ _ hx'.keeps
set_option maxRecDepth 100000
section
variable{prog:Program}{w:World}{A:Around}{E:Value->Shared->Prop}{s:Shared}
theorem uD{src:Addr}{ps:List (Key×V)}{T:String}{wr0:List Addr}{Q:Value->Shared->Prop}(hh:A.handled=none)(hn:ps.length<=100000)(hT:∀s':Shared,(∀b o,s.heap.get? b=some o->s'.heap.get? b=some o)->s'.TypeIs (.ref src) T)(hne:(Value.type T==Value.type "dict")=false)
  (hkeys:∀(s':Shared)(A':Around)(E':Value->Shared->Prop)(Q':Option Value->Shared->Prop),(∀b o,s.heap.get? b=some o->s'.heap.get? b=some o)->A'.handled=none->(∀h' tk,(∀b o,s'.heap.get? b=some o->h'.get? b=some o)->Q' none { s' with heap:=h',toks:=tk })->wpAny (model prog w) A' (getAttr? (.ref src) "keys") Q' E' s')
  (hit:∀(s':Shared)(A':Around)(E':Value->Shared->Prop)(Q':Value->Shared->Prop),(∀b o,s.heap.get? b=some o->s'.heap.get? b=some o)->s.heap.objs.size<s'.heap.objs.size->(∀(I:Addr)(wr:List Addr)(St:Nat->Heap->Prop) h' tk,(∀b o,s'.heap.get? b=some o->h'.get? b=some o)->St 0 h'->(∀b o,b∉wr0->s.heap.get? b=some o->b∉wr)->(∀A'':Around,A''.handled=none->Ad prog w A'' I s.heap.objs.size wr ps St)->Q' (.ref I) { s' with heap:=h',toks:=tk })->wpAny (model prog w) A' (pyIter (.ref src)) Q' E' s')
  (h:∀h' tk kvs',h'.DictOf (aV prog w) s.heap.objs.size kvs'->KV (cj [] ps) kvs'->(∀b o,b∉wr0->s.heap.get? b=some o->h'.get? b=some o)->Q (.ref s.heap.objs.size) { s with heap:=h',toks:=tk }) :
  wpAny (model prog w) A (call (.type "dict") [.ref src]) Q E s:=by
 refine callType_codes (Q₁:=λobj s₁=>obj=.ref s.heap.objs.size/\s₁={ s with heap:=s.heap.push { cls:=.type "dict",data:=.dict #[] } }) F.kt_called_dict (F.kt_typeCall_dict_1 _) F.entry_dict_init (kt_code_dict_new _ ⟨rfl,rfl⟩) ?_;rintro obj s₁ ⟨rfl,rfl⟩;have hnew:(s.heap.push { cls:=.type "dict",data:=.dict #[] }).DictOf (aV prog w) s.heap.objs.size []:=Qp s.heap;have up:∀b o,s.heap.get? b=some o->(s.heap.push { cls:=.type "dict",data:=.dict #[] }).get? b=some o:=λb o e=>gV _ e;refine⟨hnew.typeIs,F.args_dict_init_2 _ _,?_⟩;unfold Builtin.«dict.__init__»;refine ar ?_;unfold RL;refine ar (wpAny_notOrdered_dict hnew.typeIs ?_);show wpAny _ _ (pure (s.heap.objs.size,[Value.ref src])) _ _ _;refine C0 ?_;show wpAny _ _ (N9 "dict.__init__" s.heap.objs.size (.ref src) [] .none) _ _ _;unfold N9;refine ar (J0 (hT _ up) ?_);refine KP (by show decide ((Value.type T != Value.type "dict")=true)=true;simp[bne,hne]) ?_;refine ar (hkeys _ _ _ _ up hh λh1 t1 k1=>?_);refine KP rfl (ar (KU (ar ?_)));refine hit _ _ _ _ (λb o e=>k1 b o (up b o e)) ?_ λI wr St h2 t2 k2 st2 hw W=>C0 ⟨MI cV _,?_⟩
 ·have e0:(s.heap.push { cls:=.type "dict",data:=.dict #[] }).get? s.heap.objs.size=some _:=IG _ rfl;exact ID (k1 _ _ e0)
 ·have hd2:h2.DictOf (aV prog w) s.heap.objs.size []:=by
   obtain⟨o,es,ep,ho,r⟩:=hnew;exact⟨o,es,ep,k2 _ _ (k1 _ _ ho),r⟩
  refine t_ (W A.in1.in1 hh) hn .none ps.length 0 _ _ [] rfl (KN _) st2 hd2 .nil λh3 t3 kvs3 d3 r3 k3=>⟨rfl,h h3 t3 kvs3 d3 r3 λb o hb e=>k3 b o (IZ (ID e)) (hw b o hb e) (k2 b o (k1 b o (up b o e)))⟩
end
def StZ(d z TI TO i1 i2:Addr)(S1 S2:Nat->Heap->Prop)(i:Nat)(h:Heap):Prop:=IsPair h TI (.ref i1) (.ref i2)/\S1 i h/\S2 i h/\((IsZip h z TI TO .none/\∃a b,IsPair h TO a b)\/∃T fl,T∉[d,z,TO,i1,i2]/\nq h z TI TO T fl/\∃o,h.get? T=some o)
theorem Dx{prog:Program}{w:World}{A:Around}{d z TI TO i1 i2 t u:Addr}{xs ys:Array Value}{ks:List Key}{vs:List V}(hh:A.handled=none)(D:cu z TI TO i1 i2 [i1,t] [i2,u])(n1:t≠i1)(n2:u≠i2)(hd:d∉[z,TI,TO,i1,i2,t,u])
  (rk:Vals (ks.map kV) xs.toList) (rv:Vals vs ys.toList):Ad prog w A z d [z,TO,i1,i2] (ks.zip vs) (StZ d z TI TO i1 i2 (λi h=>h.IsTupleIter i1 t i/\h.IsTuple t xs) (λi h=>h.IsTupleIter i2 u i/\h.IsTuple u ys))where
 nd:=λh=>hd (by simp only[IL,Jt,Ky]at h ⊢;rcases h with h |h |h |h<;>simp[h])
 frame:=λi h h' st k=>by
  simp only[IL,Jt,Ky,not_or]at hd;obtain⟨d1,d2,d3,d4,d5,d6,d7⟩:=hd;obtain⟨a,⟨b1,b2⟩,⟨c1,c2⟩,e⟩:=st;refine⟨k _ _ (KJ d2) a,⟨b1.at λo q=>k _ o (KJ d4) q,b2.at λo q=>k _ o (KJ d6) q⟩,⟨c1.at λo q=>k _ o (KJ d5) q,c2.at λo q=>k _ o (KJ d7) q⟩,?_⟩;rcases e with⟨e1,x,y,e2⟩ |⟨T,fl,e1,e2,o,e3⟩
  ·exact .inl ⟨k _ _ (KJ d1) e1,x,y,k _ _ (KJ d3) e2⟩
  ·exact .inr ⟨T,fl,e1,k _ _ (KJ d1) e2,o,k _ _ (λz=>e1 (by simp[z])) e3⟩
 item:=λi s Q E hi st hlt hQ=>by
  obtain⟨a,b,c,e⟩:=st;have lk:ks.length=xs.size:=by have:=rk.length;simpa using this
  have lv:vs.length=ys.size:=by have:=rv.length;simpa using this
  rw[Kq]at hi;have l1:i<xs.size:=by omega
  have l2:i<ys.size:=by omega
  have dw1:=ir (prog:=prog) (w:=w) (A:=A.in1) hh i1 t n1 xs;have dw2:=ir (prog:=prog) (w:=w) (A:=A.in1) hh i2 u n2 ys;have get:∀x y,xs[i]?=some x->ys[i]?=some y->∃k v,(ks.zip vs)[i]?=some (k,v)/\(aV prog w).is k x=true/\RelV v y:=λx y hx hy=>by
   have hk:ks[i]?=some (ks[i]'(by omega)):=H0 _;have hv:vs[i]?=some (vs[i]'(by omega)):=H0 _;obtain⟨x',e1,r1⟩:=rk.get (x:=kV (ks[i]'(by omega))) (by rw[IU,hk];rfl);obtain⟨y',e2,r2⟩:=rv.get hv;rw[Kr,hx]at e1;rw[Kr,hy]at e2;cases e1;cases e2;exact⟨_,_,by rw[NQ];exact⟨hk,hv⟩,lQ r1,r2⟩
  rcases e with⟨e1,x0,y0,e2⟩ |⟨T,fl,e1,e2,e3⟩
  ·refine qy D dw1 dw2 e1 (.inl rfl) a e2 b c l1 l2 λx y h' tk px py g1 g2 g3 g4 g5 g6 g7 g8=>?_;obtain⟨k,v,q1,q2,q3⟩:=get x y px py;refine hQ _ k v x y h' tk q1 q2 q3 ⟨_,g6,rfl,_,rfl⟩ ⟨g2,g4,g5,.inr ⟨_,false,?_,g1,_,g6⟩⟩ λb' o hb q=>g8 b' o (λz=>hb (by simp[z])) (λz=>hb (by simp[z])) (λz=>hb (by simp[z])) (λz=>hb (by simp[z])) q;obtain⟨⟨o1,b1,_⟩,_⟩:=b;obtain⟨⟨o2,c1,_⟩,_⟩:=c;have:=ID b1;have:=ID c1;have:=ID e1;have:=ID e2;simp only[IL,Jt,Ky,not_or];exact⟨Ku hlt,Ku (ID e1),Ku (ID e2),Ku (ID b1),Ku (ID c1)⟩
  ·have hT:s.TypeIs (.ref z) "zip":=⟨_,e2,rfl⟩;unfold pyNext;refine ar (LB (Jz (name:=Jo "__next__") hT KW (JB KW hT MM (xF D dw1 dw2 e2 e3 a b c l1 l2 λx y h' tk px py g1 g2 g4 g5 g6 g8=>C0 ?_) (Mw _))));obtain⟨k,v,q1,q2,q3⟩:=get x y px py;obtain⟨oT,hoT⟩:=e3;refine hQ _ k v x y h' tk q1 q2 q3 ⟨_,g6,rfl,_,rfl⟩ ⟨g2,g4,g5,?_⟩ λb' o hb q=>g8 b' o (λz=>hb (by simp[z])) (λz=>hb (by simp[z])) (λz=>hb (by simp[z])) q;have e1':=e1;simp only[IL,Jt,Ky,not_or]at e1';exact .inr ⟨T,true,e1,g1,oT,g8 T oT e1'.2.1 e1'.2.2.2.1 e1'.2.2.2.2 hoT⟩
 done:=λs Q E st hQ=>by
  obtain⟨a,b,c,e⟩:=st;have lk:ks.length=xs.size:=by have:=rk.length;simpa using this
  have lv:vs.length=ys.size:=by have:=rv.length;simpa using this
  have dw1:=ir (prog:=prog) (w:=w) (A:=A.in1) hh i1 t n1 xs;have dw2:=ir (prog:=prog) (w:=w) (A:=A.in1) hh i2 u n2 ys;have hend:(ks.zip vs).length=xs.size\/((ks.zip vs).length<xs.size/\(ks.zip vs).length=ys.size):=by rw[Kq];omega
  have kp:∀{h':Heap},(∀c o,c≠z->c≠TO->c≠i1->c≠i2->s.heap.get? c=some o->h'.get? c=some o)->∀b o,b∉[z,TO,i1,i2]->s.heap.get? b=some o->h'.get? b=some o:=λk b' o hb q=>k b' o (λz=>hb (by simp[z])) (λz=>hb (by simp[z])) (λz=>hb (by simp[z])) (λz=>hb (by simp[z])) q;rcases e with⟨e1,x0,y0,e2⟩ |⟨T,fl,e1,e2,e3⟩
  ·exact rH D dw1 dw2 e1 (.inl rfl) a e2 b c hend λh' tk k=>hQ h' tk (kp k)
  ·have hT:s.TypeIs (.ref z) "zip":=⟨_,e2,rfl⟩;unfold pyNext;refine ar (LB (Jz (name:=Jo "__next__") hT KW (JB KW hT MM (AS D dw1 dw2 e2 e3 a b c hend λh' e tk k he=>?_) (Mw _))));obtain⟨o,ho,hc⟩:=he;exact ar (Kw (T:="StopIteration") (b:=true) ⟨o,ho,hc⟩ OB (C0 (hQ _ tk (kp k))))
noncomputable def tDZ(ta:TA):TE:=λσ H Q=>ta σ H λvs H1=>∃t u ks ys,vs=[.ref t,.ref u]/\H1 t=some (.tup (SO kV ks))/\H1 u=some (.tup ys)/\(ks.zip ys).length<=100000/\∀p,H1 p=none->Q (.ref p) (upd H1 p (.dK (cj [] (ks.zip ys))))
section
variable{X:Cx}
theorem wY{a b:Expr}{ta:TA}{p1 p2 pos1 pos2:Pos}(hc:X.calm=true)(hgd:Gl X "dict")(hmd:X.mg "dict"=none)(hgz:Gl X "zip")(hmz:X.mg "zip"=none)(hbd:bootBuiltins "dict"=some (.type "dict"))(hbz:bootBuiltins "zip"=some (.type "zip"))(ha:PA X [a,b] ta)
  (hs:starEach [a,b] X.env=[(false,eval a X.env),(false,eval b X.env)]:=by rfl) (hs2:starEach [b] X.env=[(false,eval b X.env)]:=by rfl)
  (hs3:starEach [Expr.Call (.Name "zip" p2) [a,b] [] pos2] X.env=(false,eval (Expr.Call (.Name "zip" p2) [a,b] [] pos2) X.env)::starEach [] X.env:=by rfl) :
  PE X (.Call (.Name "dict" p1) [.Call (.Name "zip" p2) [a,b] [] pos2] [] pos1) (tDZ ta):=by
 intro pins s σ H Q I h;refine Ni (bW I hgd hmd hbd (Je ?_ hs3 rfl));rw[hs3];show wpAny _ _ (spliced ((false,eval (Expr.Call (.Name "zip" p2) [a,b] [] pos2) X.env)::backTo pos1 (starEach [] X.env))) _ _ s;refine Kv ?_;refine Ni (bW I hgz hmz hbz (Je (thn (ha pos2 pins s σ H _ I h) λus s1 ⟨vs,H1,I1,r1,t,u,ks,ys,ev,ht,hu,hl,q⟩=>?_) (by rw[hs,hs2]) (by rw[hs2];rfl)));subst ev;obtain⟨ut,uu,rfl,rt,ru⟩:=r1.two;cases rt;cases ru;obtain⟨xs,rx,px,hzx⟩:=I1.tuple (SqT.of (K:=X.K) ht);obtain⟨zs,rz,pz,hzz⟩:=I1.tuple (SqT.of (K:=X.K) hu);have hh:X.A.handled=none:=I.ok.hd hc;have lt:=px.lt;have lu:=pz.lt;refine zj (show s1.heap.IsTuple t xs.toArray from px) (show s1.heap.IsTuple u zs.toArray from pz) λh1 z1 z2 z3 z4 z5 k1=>?_;refine C0 ?_;generalize hN:s1.heap.objs.size=N at *;have ht':∀c∈[N+4,N+2,N+3,N,N+1],t≠c:=λc hc e=>by
  simp only[IL,Jt,Ky]at hc;have:N<=c:=by rcases hc with z |z |z |z |z<;>(rw[z];first |exact IB _ |exact Kh _ _)
  exact JJ _ (I_ lt (e▸this))
 have hu':∀c∈[N+4,N+2,N+3,N,N+1],u≠c:=λc hc e=>by
  simp only[IL,Jt,Ky]at hc;have:N<=c:=by rcases hc with z |z |z |z |z<;>(rw[z];first |exact IB _ |exact Kh _ _)
  exact JJ _ (I_ lu (e▸this))
 have I2:Inv X pins σ H1 { s1 with heap:=h1 }:=I1.kept (t':=s1.toks) k1;have big:N+4<h1.objs.size:=ID z1;have t1:h1.IsTuple t xs.toArray:=by obtain⟨o,e,r⟩:=px;exact⟨o,k1 _ _ e,r⟩
 have u1:h1.IsTuple u zs.toArray:=by obtain⟨o,e,r⟩:=pz;exact⟨o,k1 _ _ e,r⟩
 have up:∀{g:Heap}{s':Shared},(∀b o,h1.get? b=some o->s'.heap.get? b=some o)->StZ h1.objs.size (N+4) (N+2) (N+3) N (N+1) (λi h=>h.IsTupleIter N t i/\h.IsTuple t xs.toArray) (λi h=>h.IsTupleIter (N+1) u i/\h.IsTuple u zs.toArray) 0 s'.heap:=λk=>
  ⟨k _ _ z2,⟨z4.at λo e=>k _ o e,t1.at λo e=>k _ o e⟩,⟨z5.at λo e=>k _ o e,u1.at λo e=>k _ o e⟩,.inl ⟨k _ _ z1,_,_,k _ _ z3⟩⟩
 have hd:h1.objs.size∉[N+4,N+2,N+3,N,N+1,t,u]:=λh=>by
  simp only[IL,Jt,Ky]at h;have:=t1;obtain⟨o,e,_⟩:=t1;obtain⟨o2,e2,_⟩:=u1;have a1:=ID e;have a2:=ID e2;have a3:=ID z2;have a4:=ID z3;obtain⟨o3,e3,_⟩:=z4;obtain⟨o4,e4,_⟩:=z5;have a5:=ID e3;have a6:=ID e4;rcases h with z |z |z |z |z |z |z
  ·rw[<-z]at big;exact JJ _ big
  ·rw[<-z]at a3;exact JJ _ a3
  ·rw[<-z]at a4;exact JJ _ a4
  ·rw[<-z]at a5;exact JJ _ a5
  ·rw[<-z]at a6;exact JJ _ a6
  ·rw[<-z]at a1;exact JJ _ a1
  ·rw[<-z]at a2;exact JJ _ a2
 refine uD (s:={ s1 with heap:=h1 }) (T:="zip") hh hl (λs' k=>⟨_,k _ _ z1,rfl⟩) (by decide) (λs' A' E' Q' k hA hQ'=>Bg (k _ _ z1) hA hQ') (λs' A' E' Q' k _ hQ'=>NY (k _ _ z1) (hQ' (N+4) [N+4,N+3,N,N+1] _ s'.heap s'.toks (λ_ _ e=>e) (up (g:=h1) k) (λb o hb _=>hb)
  (λA' hA=>Dx hA (rK ht' hu') (ht' N (by simp)) (hu' (N+1) (by simp)) hd (by simpa using rx) (by simpa using rz)))) λh3 t3 kvs3 d3 r3 k3=>?_
 have hw:∀b o,s1.heap.get? b=some o->b∉[N+4,N+3,N,N+1]:=λb o e hb=>by
  have lb:=ID e;rw[hN]at lb;simp only[IL,Jt,Ky]at hb;rcases hb with z |z |z |z<;>rw[z]at lb
  ·exact absurd lb (N3 (Kh _ _))
  ·exact absurd lb (N3 (Kh _ _))
  ·exact JJ _ lb
  ·exact absurd lb (N3 (Kh _ _))
 have sz:(cj [] (ks.zip ys)).length<=sizeLine:=by
  have:=eB (ks.zip ys) [];rw[KI]at this;rw[Kd];omega
 have hle:s1.heap.objs.size<=h1.objs.size:=by rw[hN];exact Ka (Pg (Kh _ _) big)
 exact⟨.ref h1.objs.size,_,I1.laid (t':=t3) (a:=h1.objs.size) (o:=.dK (cj [] (ks.zip ys))) (λb o e=>k3 b o (hw b o e) (k1 b o e)) hle (sk sz (K3.mpr (KJ (IZ (I_ I1.big hle)))) r3 d3),rfl,q _ (I1.hok.fresh hle)⟩
end
noncomputable def lO:List D->Option (List Key)
 | []=>some []
 |x::r=>(match hZ x,lO r with
  |some k,some l=>some (k::l)
  |_,_=>none)
noncomputable def fDZ(zs:List Vl)(S:Sto):R Vl:=match zs with
 | [.d (.tup xs),.d (.tup ys)]=>(match lO xs with
  |some ks=>if(ks.zip ys).length<=100000 then .ok (.r S.length) (S++[.dct (dn [] (ks.zip ys))])else .bad
  |none=>.bad)
 |_=>.bad
theorem sf:∀{vs:List V}{xs:List D}{ks:List Key},aw G vs xs->lO xs=some ks->vs=ks.map kV/\ks.length=xs.length
 |_,_,_,.nil,e=>by cases e;exact⟨rfl,rfl⟩
 |_,_,ks,.cons r t,e=>by
  simp only[lO]at e;split at e
  ·rename_i k l hk hl;cases e;obtain⟨h1,h2⟩:=sf t hl;exact⟨by rw[IM,jf r hk,h1],by simp[h2]⟩
  ·cases e
theorem sC:∀(ks:List Key){vs:List V}{ys:List D},aw G vs ys->∃us,us.length=(ks.zip ys).length/\ks.zip vs=((ks.zip ys).map (·.1)).zip us/\aw G us ((ks.zip ys).map (·.2))
 | [],_,_,_=>⟨[],rfl,rfl,.nil⟩
 |_::_,_,_,.nil=>⟨[],rfl,rfl,.nil⟩
 |k::ks,_,_,.cons (v:=v) r t=>by
  obtain⟨us,l,e,rs⟩:=sC ks t;exact⟨v::us,by simp[l],by simp[e],.cons r rs⟩
section
variable{X:Cx}{WE:WX}
theorem wV{a b:Expr}{ts:XA}{p1 p2 pos1 pos2:Pos}(hc:X.calm=true)(hgd:Gl X "dict")(hmd:X.mg "dict"=none)(hgz:Gl X "zip")(hmz:X.mg "zip"=none)(hbd:bootBuiltins "dict"=some (.type "dict"))(hbz:bootBuiltins "zip"=some (.type "zip"))(ha:RA X WE [a,b] ts)
  (hs:starEach [a,b] X.env=[(false,eval a X.env),(false,eval b X.env)]:=by rfl) (hs2:starEach [b] X.env=[(false,eval b X.env)]:=by rfl)
  (hs3:starEach [Expr.Call (.Name "zip" p2) [a,b] [] pos2] X.env=(false,eval (Expr.Call (.Name "zip" p2) [a,b] [] pos2) X.env)::starEach [] X.env:=by rfl) :
  RE X WE (.Call (.Name "dict" p1) [.Call (.Name "zip" p2) [a,b] [] pos2] [] pos1) (xN fDZ ts):=
 ⟨(wY hc hgd hmd hgz hmz hbd hbz ha.h hs hs2 hs3).weak λσ H Q ⟨μ,S,τ,hr,sr,p⟩=>⟨μ,S,τ,hr,sr,p.bind λvs zs S1 μ1 H1 st1 r1 p1=>by
  unfold fDZ at p1;split at p1
  ·rename_i xs ys;split at p1
   ·rename_i ks hk;split at p1
    ·rename_i hl;cases r1 with
     |cons ra r1=>cases r1 with
      |cons rb r1=>
       cases r1;obtain⟨a1,us,rfl,h1,g1,rs1⟩:=fe ra;obtain⟨a2,ws,rfl,h2,g2,rs2⟩:=fe rb;obtain⟨ek,lk⟩:=sf rs1 hk;subst ek;have lw:=rs2.length;refine⟨a1,a2,ks,ws,rfl,h1,h2,?_,λq hq=>?_⟩
       ·rw[Kq]at hl ⊢;omega
       ·obtain⟨vs2,l2,e2,r2⟩:=sC ks rs2;obtain⟨us3,l3,e3,r3⟩:=mV (kvs:=[]) (ws:=[]) r2 aw.nil;have e4:cj [] (ks.zip ws)=((dn [] (ks.zip ys)).map (·.1)).zip us3:=by rw[e2];exact e3
        rw[e4];exact p1 _ _ _ (Step.alloc st1.hr hq (ob:=.dct (dn [] (ks.zip ys))) ⟨us3,l3,rfl,r3⟩) ⟨by rw[cC],by simp⟩
    ·exact p1.elim
   ·exact p1.elim
  ·exact p1.elim⟩⟩
end
set_option maxRecDepth 100000
noncomputable def least(ns:List Int)(n:Int):Int:=ns.foldl (λm k=>if k<m then k else m) n
def cD(xs:Array Keyed)(lz k:Nat):Prop:=∀i j,i<=j->j<k->K xs (lz+i)<=K xs (lz+j)
def oZ(xs:Array Keyed)(lz k:Nat):Prop:=∀i j,i<=j->j<k->K xs (lz+j)<=K xs (lz+i)
def cR(xs ys:Array Keyed)(lz:Nat):Prop:=∀k,k<lz->K xs k=K ys k
theorem cR.refl:cR xs xs lz:=λ_ _=>rfl
theorem cR.trans(h:cR xs ys lz)(g:cR ys zs lz):cR xs zs lz:=λk hk=>(h k hk).trans (g k hk)
structure SB(a₀:Array Keyed)(p₀:Array (Nat×Nat×Nat))(st:SortSt):Prop where
 perm:(arrOf st).Perm a₀
 kind:kindOf st=oneType'
 failed:failedOf st=none
 pend:pendingOf st=p₀
section
variable{prog:Program}{w:World}{A:Around}{E:Value->Shared->Prop}{s:Shared}{a₀:Array Keyed}{p₀:Array (Nat×Nat×Nat)}{st:SortSt}
theorem SB.size(h:SB a₀ p₀ st):(arrOf st).size=a₀.size:=h.perm.size_eq
theorem SB.setArr(h:SB a₀ p₀ st)(hp:xs.Perm (arrOf st)):SB a₀ p₀ (setArr st xs):=⟨hp.trans h.perm,h.kind,h.failed,h.pend⟩
theorem By{xs:Array Keyed}(h0:IntKeys xs)(hi:i<xs.size):∃t q,xs[i]?=some (.int (K xs i) t,q):=by
 have e:xs[i]?=some xs[i]:=LV _ i hi;obtain⟨n,t,hn⟩:=h0 xs[i] (by simp);refine⟨t,xs[i].2,?_⟩;have e2:xs[i]=(.int n t,xs[i].2):=Rx hn rfl;unfold K;rw[e,e2];rfl
theorem SB.keys(h:SB a₀ p₀ st)(h0:IntKeys a₀):IntKeys (arrOf st):=λp hp=>h0 p ((ND.mp h.perm).mem_iff.mp hp)
theorem ic{i j:Nat}{Q:Option Bool->SortSt->Prop}(hB:SB a₀ p₀ st)(h0:IntKeys a₀)(hi:i<a₀.size)(hj:j<a₀.size)
  (h:Q (some (decide (K (arrOf st) i<K (arrOf st) j))) st):wpS (model prog w) A E s (ltAt' i j) Q st:=by
 obtain⟨t,p,e1⟩:=By (hB.keys h0) (by rw[hB.size];exact hi);obtain⟨u,q,e2⟩:=By (hB.keys h0) (by rw[hB.size];exact hj);exact wpS_ltAt hB.kind e1 e2 h
theorem uw(h0:IntKeys a₀)(hn:lz+n<=a₀.size)(hok:ok<=n)(hB:SB a₀ p₀ st)(hs:cD (arrOf st) lz ok)
    (h:∀st',SB a₀ p₀ st'->cD (arrOf st') lz n->cR (arrOf st') (arrOf st) lz->Q true st'):wpS (model prog w) A E s (binarySort' lz n ok) Q st:=by
  rw[binarySort'_eq];refine II (LI (Kj (I:=λk c st'=>c=(none,())/\SB a₀ p₀ st'/\cD (arrOf st') lz (min k n)/\cR (arrOf st') (arrOf st) lz)
    (Q:=λc st'=>c=(none,())/\SB a₀ p₀ st'/\cD (arrOf st') lz n/\cR (arrOf st') (arrOf st) lz) ?step ?fin ?init) ?post)
  case post=>
    rintro c st' ⟨rfl,hB',hs',hL⟩;exact IT (h st' hB' hs' hL)
  case init=>
    refine⟨rfl,hB,λi j hij hj=>?_,cR.refl⟩;by_cases h1:ok=0
    · have:i=j:=by omega
      subst this;exact Kf _
    · exact hs i j hij (by omega)
  case fin=>
    rintro c st' ⟨hc,hB',hs',hL⟩;refine⟨hc,hB',?_,hL⟩;rwa[show min (max (max ok 1) n) n=n by omega]at hs'
  case step=>
    rintro k c st' hak hkn ⟨rfl,hB',hs',hL⟩;rw[show min k n=k by omega]at hs';have hk:lz+k<a₀.size:=by omega
    refine II (LI (Kj (I:=λx c st''=>st''=st'/\∃l r,c=(none,l,r)/\l<=r/\r<=k/\r-l<=k-x /\
        (∀i,i<l->K (arrOf st') (lz+i)<=K (arrOf st') (lz+k))/\(∀i,r<=i->i<k->K (arrOf st') (lz+k)<K (arrOf st') (lz+i)))
      (Q:=λc st''=>st''=st'/\∃l r,c=(none,l,r)/\l<=k /\
        (∀i,i<l->K (arrOf st') (lz+i)<=K (arrOf st') (lz+k))/\(∀i,l<=i->i<k->K (arrOf st') (lz+k)<K (arrOf st') (lz+i))) ?istep ?ifin ?iinit) ?ipost)
    case iinit=>exact⟨rfl,0,k,rfl,by omega,by omega,by omega,λi hi=>by omega,λi h1 h2=>by omega⟩
    case ifin=>
      rintro c st'' ⟨rfl,l,r,rfl,hlr,hrk,hm,hlo,hhi⟩;have:l=r:=by omega
      subst this;exact⟨rfl,l,l,rfl,hrk,hlo,hhi⟩
    case istep=>
      rintro x c st'' _ hxk ⟨rfl,l,r,rfl,hlr,hrk,hm,hlo,hhi⟩;dsimp only;by_cases hge:l>=r
      · rw[Iw hge]
        have:l=r:=by omega
        subst this;exact IT ⟨rfl,l,l,rfl,hrk,hlo,hhi⟩
      · rw[IF hge]
        refine II (ic hB' h0 hk (by omega) ?_);by_cases hless:K (arrOf st'') (lz+k)<K (arrOf st'') (lz+(l+r) / 2)
        · simp only[hless,Nk,Lr]
          refine IT ⟨rfl,l,(l+r) / 2,rfl,by omega,by omega,by omega,hlo,λi h1 h2=>?_⟩;exact Int.lt_of_lt_of_le hless (hs' _ _ h1 h2)
        · simp only[hless,M1,J1,Lh]
          refine IT ⟨rfl,(l+r) / 2+1,r,rfl,by omega,by omega,by omega,λi h1=>?_,hhi⟩;exact JU (hs' i ((l+r) / 2) (by omega) (by omega)) (Lp.mp hless)
    case ipost=>
      rintro c st'' ⟨rfl,l,r,rfl,hlk,hlo,hhi⟩;show wpS _ _ _ _ (do moveDown' (lz+k) (lz+l);pure (ForInStep.yield (none,()))) _ _;rw[moveDown'_eq];have hks:lz+k<(arrOf st'').size:=by rw[hB'.size];exact hk
      refine II (Lq (IT ⟨rfl,hB'.setArr (bubble_perm _ _ _),?_,cR.trans (λx hx=>?_) hL⟩))
      · rw[show min (k+1) n=k+1 by omega]
        intro i j hij hj;show K (bubble (arrOf st'') (lz+k) (lz+k-(lz+l))) (lz+i)<=K (bubble (arrOf st'') (lz+k) (lz+k-(lz+l))) (lz+j);rw[RM hks (by omega),RM hks (by omega),show lz+k-(lz+k-(lz+l))=lz+l by omega];have e:∀x,l<x->lz+x-1=lz+(x-1):=λx hx=>by omega
        repeat' split
        all_goals first
          |(exfalso;omega)
          |exact Kf _
          |exact hlo _ (by omega)
          |(rw[e j (by omega)];exact Kb (hhi _ (by omega) (by omega)))
          |(rw[e i (by omega),e j (by omega)];exact hs' _ _ (by omega) (by omega))
          |(rw[e i (by omega)];exact hs' _ _ (by omega) (by omega))
          |(rw[e j (by omega)];exact hs' _ _ (by omega) (by omega))
          |exact hs' _ _ (by omega) (by omega)
      · show K (bubble (arrOf st'') (lz+k) (lz+k-(lz+l))) x=_
        rw[RM hks (by omega),IF (by omega),IF (by omega)]
theorem ma(h:Q () (O5 st (mirror (arrOf st) i j ((j-i) / 2)))):wpS (model prog w) A E s (reverseSlice' i j) Q st:=by
 rw[reverseSlice'_eq];exact Lq h
end
noncomputable def tB(lz a nrem:Nat):StateT SortSt Sem AscSt:=
 forIn [a:nrem] ((none,a):AscSt) λ_ __s=>do
  let __x<-ltAt' (lz+__s.snd) (lz+__s.snd-1)
  match __x with
  |some smaller=>if smaller=true then pure (ForInStep.done (none,__s.snd))else pure (ForInStep.yield (none,__s.snd+1))
  |_=>pure (ForInStep.done (some none,__s.snd))
noncomputable def n8(lz n nrem:Nat):StateT SortSt Sem (Option Nat):=do
 reverseSlice' lz (lz+n)
 let __s<-tB lz n nrem
 match __s.fst with
 |some r=>pure r
 |none=>pure (some __s.snd)
noncomputable def qS(lz n nrem:Nat):StateT SortSt Sem DescSt:=
 forIn [n:nrem] ((none,n,0):DescSt) λ_ __s=>do
  let __x<-ltAt' (lz+__s.snd.fst) (lz+__s.snd.fst-1)
  match __x with
  |some smaller=>
   if smaller=true then
    if __s.snd.snd>0 then do
     reverseSlice' (lz+__s.snd.fst-(__s.snd.snd+1)) (lz+__s.snd.fst)
     pure (ForInStep.yield (none,__s.snd.fst+1,0))
    else pure (ForInStep.yield (none,__s.snd.fst+1,0))
   else do
    let __x<-ltAt' (lz+__s.snd.fst-1) (lz+__s.snd.fst)
    match __x with
    |some larger=>
     if larger=true then pure (ForInStep.done (none,__s.snd.fst,__s.snd.snd))
     else pure (ForInStep.yield (none,__s.snd.fst+1,__s.snd.snd+1))
    |_=>pure (ForInStep.done (some none,__s.snd.fst,__s.snd.snd))
  |_=>pure (ForInStep.done (some none,__s.snd.fst,__s.snd.snd))
noncomputable def nM(lz n nrem:Nat):StateT SortSt Sem (Option Nat):=do
 liftM (rule "list.sort.descending-run")
 let __s<-qS lz (n+1) nrem
 match __s.fst with
 |some r=>pure r
 |none=>
  if __s.snd.snd>0 then do
   reverseSlice' (lz+__s.snd.fst-(__s.snd.snd+1)) (lz+__s.snd.fst)
   n8 lz __s.snd.fst nrem
  else n8 lz __s.snd.fst nrem
theorem zm(lz nrem:Nat):countRun' lz nrem=(do
  let __s<-tB lz 1 nrem
  match __s.fst with
  |some r=>pure r
  |none=>
   if(__s.snd==nrem)=true then pure (some __s.snd)
   else if __s.snd>1 then do
    let __x<-ltAt' lz (lz+__s.snd-1)
    match __x with
    |some rose=>if rose=true then pure (some __s.snd)else do
      reverseSlice' lz (lz+__s.snd)
      nM lz __s.snd nrem
    |_=>pure none
   else nM lz __s.snd nrem):=by
 rw[countRun'_eq];unfold nM n8 qS tB;dsimp only;congr 1;funext __s;obtain⟨r,n⟩:=__s;cases r with
 |some r=>rfl
 |none=>
  dsimp only;have fin:∀{α:Type}(f g:AscSt->α),(∀n,f (none,n)=g (none,n))->(∀r n,f (some r,n)=g (some r,n))->f=g:=λf g h1 h2=>by
   funext s3;obtain⟨r3,n3⟩:=s3;cases r3
   ·exact h1 n3
   ·exact h2 _ n3
  split
  ·rfl
  ·split
   ·congr 1;funext x;cases x with
    |none=>rfl
    |some rose=>
     dsimp only;split
     ·rfl
     ·congr 1;funext _r;congr 1;funext _u;congr 1;congr 1;funext s2;obtain⟨r2,n2,q2⟩:=s2;cases r2 with
      |some r2=>rfl
      |none=>
       dsimp only;split
       ·congr 1;funext _v;congr 1;funext _w;congr 1;exact fin _ _ (λ_=>rfl) λ_ _=>rfl
       ·congr 1;funext _w;congr 1;exact fin _ _ (λ_=>rfl) λ_ _=>rfl
   ·congr 1;funext _u;congr 1;congr 1;funext s2;obtain⟨r2,n2,q2⟩:=s2;cases r2 with
    |some r2=>rfl
    |none=>
     dsimp only;split
     ·congr 1;funext _v;congr 1;funext _w;congr 1;exact fin _ _ (λ_=>rfl) λ_ _=>rfl
     ·congr 1;funext _w;congr 1;exact fin _ _ (λ_=>rfl) λ_ _=>rfl
theorem yF(hj:lz+n<=xs.size)(k:Nat)(hk:k<n):K (mirror xs lz (lz+n) ((lz+n-lz) / 2)) (lz+k)=K xs (lz+(n-1-k)):=by
 rw[K_mirror hj,Iw (by omega)];congr 1;omega
theorem Cw(hj:j<=xs.size)(hi:lz<=i):cR (mirror xs i j ((j-i) / 2)) xs lz:=λk hk=>by rw[K_mirror hj,IF (by omega)]
section
variable{prog:Program}{w:World}{A:Around}{E:Value->Shared->Prop}{s:Shared}{a₀:Array Keyed}{p₀:Array (Nat×Nat×Nat)}{st:SortSt}
theorem tR(h0:IntKeys a₀)(hn:lz+nrem<=a₀.size)(ha:1<=a)(han:a<=nrem)(hB:SB a₀ p₀ st)
  (hs:cD (arrOf st) lz a)
  (h:∀n,a<=n->n<=nrem->cD (arrOf st) lz n->(n=nrem\/K (arrOf st) (lz+n)<K (arrOf st) (lz+n-1))->Q (none,n) st) :
  wpS (model prog w) A E s (tB lz a nrem) Q st:=by
 unfold tB;refine Kj (I:=λx c st'=>st'=st/\c=(none,x)/\cD (arrOf st) lz x) ?step ?fin ⟨rfl,rfl,hs⟩
 case fin=>
  rintro c st' ⟨rfl,rfl,hs'⟩;rw[show max a nrem=nrem by omega]at hs' ⊢;exact h nrem han (IB _) hs' (.inl rfl)
 case step=>
  rintro x c st' hax hxn ⟨rfl,rfl,hs'⟩;dsimp only;refine II (ic hB h0 (by omega) (by omega) ?_);by_cases hless:K (arrOf st') (lz+x)<K (arrOf st') (lz+x-1)
  ·simp only[hless,Nk,Lr];exact IT (h x hax (by omega) hs' (.inr hless))
  ·simp only[hless,M1,J1,Lh];refine IT ⟨rfl,rfl,λi j hij hj=>?_⟩;by_cases hjx:j<x
   ·exact hs' i j hij hjx
   ·have hj':j=x:=by omega
    subst hj';by_cases hi':i=j
    ·subst hi';exact Kf _
    ·have:=hs' i (j-1) (by omega) (by omega);rw[show lz+(j-1)=lz+j-1 by omega]at this;exact JU this (Lp.mp hless)
def pM(a₀:Array Keyed)(p₀:Array (Nat×Nat×Nat))(st0:SortSt)(lz nrem:Nat)(Q:Option Nat->SortSt->Prop):Prop:=∀m st',SB a₀ p₀ st'->1<=m->m<=nrem->cD (arrOf st') lz m->cR (arrOf st') (arrOf st0) lz->Q (some m) st'
theorem pM.of(h:pM a₀ p₀ st0 lz nrem Q)(hl:cR (arrOf st1) (arrOf st0) lz):pM a₀ p₀ st1 lz nrem Q:=λm st' b h1 h2 h3 h4=>h m st' b h1 h2 h3 (h4.trans hl)
theorem pZ(h0:IntKeys a₀)(hn:lz+nrem<=a₀.size)(h1:1<=n)(hnn:n<=nrem)(hB:SB a₀ p₀ st)
  (hs:oZ (arrOf st) lz n) (h:pM a₀ p₀ st lz nrem Q):wpS (model prog w) A E s (n8 lz n nrem) Q st:=by
 unfold n8;have hsz:lz+n<=(arrOf st).size:=by rw[hB.size];omega
 refine II (ma ?_);have hB':SB a₀ p₀ (O5 st (mirror (arrOf st) lz (lz+n) ((lz+n-lz) / 2))):=hB.setArr (Ox _ _ _ _);refine II (tR h0 hn h1 hnn hB' ?_ λm hm1 hm2 hsm _=>IT (h m _ hB' (by omega) hm2 hsm (Cw hsz (IB _))));intro i j hij hj;show K (mirror (arrOf st) lz (lz+n) ((lz+n-lz) / 2)) (lz+i)<=K (mirror (arrOf st) lz (lz+n) ((lz+n-lz) / 2)) (lz+j);rw[yF hsz i (by omega),yF hsz j hj];exact hs _ _ (by omega) (by omega)
theorem xD(hj:lz+m<=xs.size)(hq:q+1<=m)(heq:∀i,m-(q+1)<=i->i<m->K xs (lz+i)=K xs (lz+m-1))(k:Nat):K (mirror xs (lz+m-(q+1)) (lz+m) ((lz+m-(lz+m-(q+1))) / 2)) k=K xs k:=by
 refine QE hj (λk h1 h2=>?_) k;have:=heq (k-lz) (by omega) (by omega);rwa[show lz+(k-lz)=k by omega]at this
theorem zB(h0:IntKeys a₀)(hn:lz+nrem<=a₀.size)(h1:1<=n)(hnn:n<=nrem)(hB:SB a₀ p₀ st)
  (hs:oZ (arrOf st) lz n)
  (h:∀m neq st',SB a₀ p₀ st'->n<=m->m<=nrem->oZ (arrOf st') lz m->neq+1<=m->(∀i,m-(neq+1)<=i->i<m->K (arrOf st') (lz+i)=K (arrOf st') (lz+m-1))->cR (arrOf st') (arrOf st) lz->Q (none,m,neq) st') :
  wpS (model prog w) A E s (qS lz n nrem) Q st:=by
 unfold qS;refine Kj (I:=λx c st'=>∃neq,c=(none,x,neq)/\SB a₀ p₀ st'/\oZ (arrOf st') lz x/\neq+1<=x /\
   (∀i,x-(neq+1)<=i->i<x->K (arrOf st') (lz+i)=K (arrOf st') (lz+x-1))/\cR (arrOf st') (arrOf st) lz) ?step ?fin ⟨0,rfl,hB,hs,by omega,λi h1 h2=>by congr 1;omega,cR.refl⟩
 case fin=>
  rintro c st' ⟨neq,rfl,hB',hs',hq,he,hL⟩;rw[show max n nrem=nrem by omega]at hs' hq he ⊢;exact h nrem neq st' hB' hnn (IB _) hs' hq he hL
 case step=>
  rintro x c st' hax hxn ⟨neq,rfl,hB',hs',hq,he,hL⟩;dsimp only;have hsz:lz+x<=(arrOf st').size:=by rw[hB'.size];omega
  refine II (ic hB' h0 (by omega) (by omega) ?_);by_cases hless:K (arrOf st') (lz+x)<K (arrOf st') (lz+x-1)
  ·simp only[hless,Nk,Lr];have step1:∀xs:Array Keyed,(∀k,K xs k=K (arrOf st') k)->oZ xs lz (x+1):=by
    intro xs hk i j hij hj;rw[hk,hk];by_cases hjx:j<x
    ·exact hs' i j hij hjx
    ·have hj':j=x:=by omega
     subst hj';by_cases hi':i=j
     ·subst hi';exact Kf _
     ·have:=hs' i (j-1) (by omega) (by omega);rw[show lz+(j-1)=lz+j-1 by omega]at this;exact JU (Kb hless) this
   by_cases hneq:neq>0
   ·rw[Iw hneq];have hm:=xD hsz hq he;refine II (ma (IT ⟨0,rfl,hB'.setArr (Ox _ _ _ _),step1 _ hm,by omega,λi h1 h2=>by congr 1;omega,cR.trans (λk _=>hm k) hL⟩))
   ·rw[IF hneq];exact IT ⟨0,rfl,hB',step1 _ (λ_=>rfl),by omega,λi h1 h2=>by congr 1;omega,hL⟩
  ·simp only[hless,M1,J1,Lh];refine II (ic hB' h0 (by omega) (by omega) ?_);by_cases hlarger:K (arrOf st') (lz+x-1)<K (arrOf st') (lz+x)
   ·simp only[hlarger,Nk,Lr];exact IT (h x neq st' hB' hax (by omega) hs' hq he hL)
   ·simp only[hlarger,M1,J1,Lh];have heqx:K (arrOf st') (lz+x)=K (arrOf st') (lz+x-1):=by omega
    refine IT ⟨neq+1,rfl,hB',λi j hij hj=>?_,by omega,λi h1 h2=>?_,hL⟩
    ·by_cases hjx:j<x
     ·exact hs' i j hij hjx
     ·have hj':j=x:=by omega
      subst hj';by_cases hi':i=j
      ·subst hi';exact Kf _
      ·have:=hs' i (j-1) (by omega) (by omega);rw[show lz+(j-1)=lz+j-1 by omega]at this;rw[heqx];exact this
    ·rw[show lz+(x+1)-1=lz+x by omega];by_cases hix:i=x
     ·subst hix;rfl
     ·rw[heqx];exact he i (by omega) (by omega)
theorem qj(h0:IntKeys a₀)(hn:lz+nrem<=a₀.size)(hnn:n+1<=nrem)(hB:SB a₀ p₀ st)
  (hs:oZ (arrOf st) lz (n+1)) (h:pM a₀ p₀ st lz nrem Q):wpS (model prog w) A E s (nM lz n nrem) Q st:=by
 unfold nM;refine II (Ng (KU ⟨rfl,?_⟩));refine II (zB h0 hn (by omega) hnn hB hs λm neq st' hB' hm1 hm2 hs' hq he hL=>?_);dsimp only;have hsz:lz+m<=(arrOf st').size:=by rw[hB'.size];omega
 by_cases hneq:neq>0
 ·rw[Iw hneq];have hm:=xD hsz hq he;refine II (ma (pZ h0 hn (by omega) hm2 (hB'.setArr (Ox _ _ _ _)) ?_ (h.of (cR.trans (λk _=>hm k) hL))));intro i j hij hj;show K (mirror (arrOf st') _ _ _) (lz+j)<=K (mirror (arrOf st') _ _ _) (lz+i);rw[hm,hm];exact hs' i j hij hj
 ·rw[IF hneq];exact pZ h0 hn (by omega) hm2 hB' hs' (h.of hL)
theorem v8(h0:IntKeys a₀)(hn:lz+nrem<=a₀.size)(h1:1<=nrem)(hB:SB a₀ p₀ st)(h:pM a₀ p₀ st lz nrem Q):wpS (model prog w) A E s (countRun' lz nrem) Q st:=by
 rw[zm];refine II (tR h0 hn (IB 1) h1 hB (λi j hij hj=>by
  have:i=j:=by omega
  subst this;exact Kf _) λn hn1 hn2 hsn hor=>?_)
 dsimp only;by_cases hnn:n=nrem
 ·rw[Iw (by simpa using hnn)];exact IT (h n st hB hn1 hn2 hsn cR.refl)
 ·rw[IF (by simpa using hnn)];have hlt:K (arrOf st) (lz+n)<K (arrOf st) (lz+n-1):=hor.resolve_left hnn;by_cases hgt:n>1
  ·rw[Iw hgt];refine II (ic hB h0 (by omega) (by omega) ?_);by_cases hrose:K (arrOf st) lz<K (arrOf st) (lz+n-1)
   ·simp only[hrose,Nk,Lr];exact IT (h n st hB hn1 hn2 hsn cR.refl)
   ·simp only[hrose,M1,J1,Lh];have hsz:lz+n<=(arrOf st).size:=by rw[hB.size];omega
    have hall:∀k,k<n->K (arrOf st) (lz+k)=K (arrOf st) (lz+n-1):=by
     intro k hk;have a1:=hsn 0 k (by omega) hk;have a2:=hsn k (n-1) (by omega) (by omega);rw[show lz+0=lz by omega]at a1;rw[show lz+(n-1)=lz+n-1 by omega]at a2;omega
    have hm:∀k,K (mirror (arrOf st) lz (lz+n) ((lz+n-lz) / 2)) k=K (arrOf st) k:=QE hsz λk h1 h2=>by
     have:=hall (k-lz) (by omega);rwa[show lz+(k-lz)=k by omega]at this
    refine II (ma (qj h0 hn (by omega) (hB.setArr (Ox _ _ _ _)) ?_ (h.of λk _=>hm k)));intro i j hij hj;show K (mirror (arrOf st) _ _ _) (lz+j)<=K (mirror (arrOf st) _ _ _) (lz+i);rw[hm,hm];by_cases hjn:j<n
    ·rw[hall i (by omega),hall j hjn];exact Kf _
    ·have hj':j=n:=by omega
     subst hj';by_cases hi':i=j
     ·subst hi';exact Kf _
     ·rw[hall i (by omega)];exact Kb hlt
  ·rw[IF hgt];have hn1':n=1:=by omega
   subst hn1';refine qj h0 hn (by omega) hB ?_ h;intro i j hij hj;by_cases hi':i=j
   ·subst hi';exact Kf _
   ·have hi0:i=0:=by omega
    have hj1:j=1:=by omega
    subst hi0;subst hj1;exact Kb hlt
end
noncomputable def cM:Bool->Keyed->Array Keyed->Nat->Nat->Nat->StateT SortSt Sem (Option Nat):=sortPriv% PySem.Builtin.gallop
noncomputable def fD(left:Bool)(key:Keyed)(arr:Array Keyed)(base i:Nat):StateT SortSt Sem (Option Bool):=do
 let x<-elem' arr (base+i)
 if left then lt' x key else return(<-lt' key x).map (!·)
theorem vK(left:Bool)(key:Keyed)(arr:Array Keyed)(base n hint:Nat):cM left key arr base n hint=(do
 let mut lastofs:=0
 let mut ofs:=1
 let mut lz:=0
 let mut hi:=0
 let some right<-fD left key arr base hint |return none
 if right then
  let maxofs:=n-hint
  for _ in [0:n]do
   if ofs>=maxofs then break
   let some more<-fD left key arr base (hint+ofs) |return none
   if !more then break
   lastofs:=ofs
   ofs:=2*ofs+1
  lz:=hint+lastofs+1
  hi:=hint+min ofs maxofs
 else
  let maxofs:=hint+1
  for _ in [0:n]do
   if ofs>=maxofs then break
   let some found<-fD left key arr base (hint-ofs) |return none
   if found then break
   lastofs:=ofs
   ofs:=2*ofs+1
  lz:=hint+1-min ofs maxofs
  hi:=hint-lastofs
 for _ in [0:n]do
  if lz>=hi then break
  let m:=lz+(hi-lz) / 2
  let some more<-fD left key arr base m |return none
  if more then lz:=m+1 else hi:=m
 return some hi):=rfl
noncomputable def bey(left:Bool)(k:Int)(arr:Array Keyed)(base i:Nat):Bool:=if left then decide (K arr (base+i)<k)else !decide (k<K arr (base+i))
section
variable{prog:Program}{w:World}{A:Around}{E:Value->Shared->Prop}{s:Shared}{st:SortSt}
theorem l8(hk:kindOf st=oneType')(hp:∃n t,p.1=.int n t)(hq:∃n t,q.1=.int n t)(h:Q (some (decide (numOf p.1<numOf q.1))) st):wpS (model prog w) A E s (lt' p q) Q st:=by
 obtain⟨a,t,e1⟩:=hp;obtain⟨b,u,e2⟩:=hq;rw[e1,e2]at h;rw[lt'_eq];refine II (MT ?_);rw[hk,keyLt'_oneType,e1,e2];refine II (Ng (LB (oneLt_int ⟨rfl,?_⟩)));exact IT h
theorem br(hi:i<xs.size)(h:Q xs[i] st):wpS (model prog w) A E s (elem' xs i) Q st:=by
 rw[elem'_eq,LV xs i hi];exact IT h
theorem pC(hi:i<xs.size):K xs i=numOf xs[i].1:=by unfold K;rw[LV xs i hi]
theorem lV{key:Keyed}{arr:Array Keyed}(hk:kindOf st=oneType')(h0:IntKeys arr)(hkey:∃n t,key.1=.int n t)(hi:base+i<arr.size)(h:Q (some (bey left (numOf key.1) arr base i)) st):wpS (model prog w) A E s (fD left key arr base i) Q st:=by
 unfold fD;have hx:=h0 arr[base+i] (by simp);unfold bey at h;rw[pC hi]at h;refine II (br hi ?_);cases left with
 |true=>exact l8 hk hx hkey h
 |false=>exact II (l8 hk hkey hx (IT h))
theorem jP(hs:cD arr base n)(hij:i<=j)(hj:j<n)(h:bey left k arr base j=true):bey left k arr base i=true:=by
 have:=hs i j hij hj;unfold bey at h ⊢;cases left with
 |true=>simp at h ⊢;omega
 |false=>simp at h ⊢;omega
theorem tZ(hs:cD arr base n)(hij:i<=j)(hj:j<n)(h:bey left k arr base i=false):bey left k arr base j=false:=by
 cases q:bey left k arr base j with
 |false=>rfl
 |true=>rw[jP hs hij hj q]at h;cases h
theorem dS{key:Keyed}{arr:Array Keyed}(hk:kindOf st=oneType')(h0:IntKeys arr)(hkey:∃n t,key.1=.int n t)(hn:base+n<=arr.size)(hh:hint<n)(hs:cD arr base n)
  (h:∀k,k<=n->(∀i,i<k->bey left (numOf key.1) arr base i=true)->(∀i,k<=i->i<n->bey left (numOf key.1) arr base i=false)->Q (some k) st):wpS (model prog w) A E s (cM left key arr base n hint) Q st:=by
 rw[vK];have last:∀lz hi,lz<=hi->hi<=n->(∀i,i<lz->bey left (numOf key.1) arr base i=true)->(∀i,hi<=i->i<n->bey left (numOf key.1) arr base i=false) ->
   wpS (model prog w) A E s (do
    let mut lz:=lz
    let mut hi:=hi
    for _ in [0:n]do
     if lz>=hi then break
     let m:=lz+(hi-lz) / 2
     let some more<-fD left key arr base m |return none
     if more then lz:=m+1 else hi:=m
    return some hi) Q st:=λlz hi h1 h2 h3 h4=>by
  refine II (LI (Kj (I:=λx c st'=>st'=st/\∃lz hi,c=(none,lz,hi)/\lz<=hi/\hi<=n/\hi-lz<=n-x/\(∀i,i<lz->bey left (numOf key.1) arr base i=true)/\(∀i,hi<=i->i<n->bey left (numOf key.1) arr base i=false))
   (Q:=λc st'=>st'=st/\∃k,c=(none,k,k)/\k<=n/\(∀i,i<k->bey left (numOf key.1) arr base i=true)/\(∀i,k<=i->i<n->bey left (numOf key.1) arr base i=false)) ?step ?fin ⟨rfl,lz,hi,rfl,h1,h2,by omega,h3,h4⟩) ?post)
  case fin=>
   rintro c st' ⟨rfl,lz,hi,rfl,a1,a2,a3,a4,a5⟩;have:lz=hi:=by omega
   subst this;exact⟨rfl,lz,rfl,a2,a4,a5⟩
  case post=>
   rintro c st' ⟨rfl,k,rfl,a1,a2,a3⟩;exact IT (h k a1 a2 a3)
  case step=>
   rintro x c st' _ hx ⟨rfl,lz,hi,rfl,a1,a2,a3,a4,a5⟩;dsimp only;by_cases hge:lz>=hi
   ·rw[Iw hge];have:lz=hi:=by omega
    subst this;exact IT ⟨rfl,lz,rfl,a2,a4,a5⟩
   ·rw[IF hge];refine II (lV hk h0 hkey (by omega) ?_);cases q:bey left (numOf key.1) arr base (lz+(hi-lz) / 2)with
    |true=>
     exact IT ⟨rfl,lz+(hi-lz) / 2+1,hi,rfl,by omega,a2,by omega,λi hi'=>jP hs (by omega) (by omega) q,a5⟩
    |false=>
     exact IT ⟨rfl,lz,lz+(hi-lz) / 2,rfl,by omega,by omega,by omega,a4,λi h1 h2=>tZ hs h1 h2 q⟩
 refine II (lV hk h0 hkey (by omega) ?_);cases qh:bey left (numOf key.1) arr base hint with
 |true=>
  dsimp only;rw[Iw rfl];refine II (LI (Kj (I:=λx c st'=>st'=st/\∃la o,c=(none,la,o)/\la<o/\x+1<=o/\hint+la<n/\bey left (numOf key.1) arr base (hint+la)=true)
   (Q:=λc st'=>st'=st/\∃la o,c=(none,la,o)/\la<o/\hint+la<n/\bey left (numOf key.1) arr base (hint+la)=true/\(o>=n-hint\/bey left (numOf key.1) arr base (hint+o)=false)) ?step ?fin ⟨rfl,0,1,rfl,by omega,by omega,by omega,qh⟩) ?post)
  case fin=>
   rintro c st' ⟨rfl,la,o,rfl,a1,a2,a3,a4⟩;exact⟨rfl,la,o,rfl,a1,a3,a4,.inl (by omega)⟩
  case step=>
   rintro x c st' _ hx ⟨rfl,la,o,rfl,a1,a2,a3,a4⟩;dsimp only;by_cases hge:o>=n-hint
   ·rw[Iw hge];exact IT ⟨rfl,la,o,rfl,a1,a3,a4,.inl hge⟩
   ·rw[IF hge];refine II (lV hk h0 hkey (by omega) ?_);cases q:bey left (numOf key.1) arr base (hint+o)with
    |true=>exact IT ⟨rfl,o,2*o+1,rfl,by omega,by omega,by omega,q⟩
    |false=>exact IT ⟨rfl,la,o,rfl,a1,a3,a4,.inr q⟩
  case post=>
   rintro c st' ⟨rfl,la,o,rfl,a1,a3,a4,a5⟩;refine last (hint+la+1) (hint+min o (n-hint)) (by omega) (by omega) (λi hi=>jP hs (by omega) a3 a4) λi h1 h2=>?_;rcases a5 with z |z
   ·omega
   ·by_cases hlt:o<n-hint
    ·exact tZ hs (by omega) h2 z
    ·omega
 |false=>
  dsimp only;rw[IF IS];refine II (LI (Kj (I:=λx c st'=>st'=st/\∃la o,c=(none,la,o)/\la<o/\x+1<=o/\la<=hint/\bey left (numOf key.1) arr base (hint-la)=false)
   (Q:=λc st'=>st'=st/\∃la o,c=(none,la,o)/\la<o/\la<=hint/\bey left (numOf key.1) arr base (hint-la)=false/\(o>=hint+1\/bey left (numOf key.1) arr base (hint-o)=true)) ?step ?fin ⟨rfl,0,1,rfl,by omega,by omega,by omega,qh⟩) ?post)
  case fin=>
   rintro c st' ⟨rfl,la,o,rfl,a1,a2,a3,a4⟩;exact⟨rfl,la,o,rfl,a1,a3,a4,.inl (by omega)⟩
  case step=>
   rintro x c st' _ hx ⟨rfl,la,o,rfl,a1,a2,a3,a4⟩;dsimp only;by_cases hge:o>=hint+1
   ·rw[Iw hge];exact IT ⟨rfl,la,o,rfl,a1,a3,a4,.inl hge⟩
   ·rw[IF hge];refine II (lV hk h0 hkey (by omega) ?_);cases q:bey left (numOf key.1) arr base (hint-o)with
    |true=>exact IT ⟨rfl,la,o,rfl,a1,a3,a4,.inr q⟩
    |false=>exact IT ⟨rfl,o,2*o+1,rfl,by omega,by omega,by omega,q⟩
  case post=>
   rintro c st' ⟨rfl,la,o,rfl,a1,a3,a4,a5⟩;refine last (hint+1-min o (hint+1)) (hint-la) (by omega) (by omega) (λi hi=>?_) λi h1 h2=>tZ hs (by omega) h2 a4;rcases a5 with z |z
   ·omega
   ·exact jP hs (by omega) (by omega) z
end
noncomputable def kk(p:Keyed):Int:=numOf p.1
def Srt(l:List Keyed):Prop:=l.Pairwise λp q=>kk p<=kk q
def Mgd(A B r:List Keyed):Prop:=r.Perm (A++B)/\Srt r
structure ML(A B l:List Keyed)(ia ib:Nat):Prop where
 perm:l.Perm (A.take ia++B.take ib)
 srt:Srt l
 le:∀p∈l,∀q,q∈A.drop ia\/q∈B.drop ib->kk p<=kk q
structure MH(A B l:List Keyed)(na nb:Nat):Prop where
 perm:l.Perm (A.drop na++B.drop nb)
 srt:Srt l
 le:∀p∈l,∀q,q∈A.take na\/q∈B.take nb->kk q<=kk p
theorem pR{A:List Keyed}:A.take (i+k)=A.take i++(A.drop i).take k:=QY
theorem c7(h1:Srt l)(h2:Srt r)(h:∀p∈l,∀q∈r,kk p<=kk q):Srt (l++r):=LZ.mpr ⟨h1,h2,h⟩
theorem kF(h:Srt A)(i:Nat):∀p∈A.take i,∀q∈A.drop i,kk p<=kk q:=by
 have:Srt (A.take i++A.drop i):=by rw[Jm];exact h
 exact(LZ.mp this).2.2
section
variable{A B l:List Keyed}{ia ib na nb k:Nat}
theorem ML.jn(h:ML A B l ia ib)(hA:Srt A)(hk:∀q∈(A.drop ia).take k,∀r∈B.drop ib,kk q<=kk r):ML A B (l++(A.drop ia).take k) (ia+k) ib where
 perm:=by
  rw[pR,Ja];refine(h.perm.append_right _).trans ?_;rw[Ja];exact JM _ Kt
 srt:=c7 h.srt ((hA.drop).take) λp hp q hq=>h.le p hp q (.inl (JD hq))
 le:=λp hp q hq=>by
  have hd:q∈A.drop (ia+k)->q∈(A.drop ia).drop k:=λz=>by rw[Nh];exact z
  rcases Jk.mp hp with hp |hp
  ·refine h.le p hp q (hq.imp (λz=>?_) id);exact JP (hd z)
  ·rcases hq with hq |hq
   ·exact kF (hA.drop (i:=ia)) k p hp q (hd hq)
   ·exact hk p hp q hq
theorem ML.kK(h:ML A B l ia ib)(hB:Srt B)(hk:∀q∈(B.drop ib).take k,∀r∈A.drop ia,kk q<=kk r):ML A B (l++(B.drop ib).take k) ia (ib+k)where
 perm:=by
  rw[pR,<-Ja];exact h.perm.append_right _
 srt:=c7 h.srt ((hB.drop).take) λp hp q hq=>h.le p hp q (.inr (JD hq))
 le:=λp hp q hq=>by
  have hd:q∈B.drop (ib+k)->q∈(B.drop ib).drop k:=λz=>by rw[Nh];exact z
  rcases Jk.mp hp with hp |hp
  ·refine h.le p hp q (hq.imp id λz=>?_);exact JP (hd z)
  ·rcases hq with hq |hq
   ·exact hk p hp q hq
   ·exact kF (hB.drop (i:=ib)) k p hp q (hd hq)
theorem ML.iX(h:ML A B l ia ib)(hA:Srt A)(hb:B.length<=ib):Mgd A B (l++A.drop ia++B.drop ib):=by
 have e:B.drop ib=[]:=J6 hb;have e2:B.take ib=B:=Jf hb;rw[e,KS];have hp:=h.perm;rw[e2]at hp;refine⟨?_,c7 h.srt hA.drop λp hp q hq=>h.le p hp q (.inl hq)⟩;refine(hp.append_right _).trans ?_;rw[Ja];refine(JM _ Kt).trans ?_;rw[<-Ja,Jm]
theorem ML.iY(h:ML A B l ia ib)(hB:Srt B)(ha:A.length<=ia):Mgd A B (l++A.drop ia++B.drop ib):=by
 have e:A.drop ia=[]:=J6 ha;have e2:A.take ia=A:=Jf ha;rw[e,KS];have hp:=h.perm;rw[e2]at hp;refine⟨?_,c7 h.srt hB.drop λp hp q hq=>h.le p hp q (.inr hq)⟩;refine(hp.append_right _).trans ?_;rw[Ja,Jm]
theorem ML.pf(h:ML A B l ia ib)(hA:Srt A)(hB:Srt B)(hl:∀p∈B,∀q∈A.drop ia,kk p<=kk q):Mgd A B (l++B.drop ib++A.drop ia):=by
 refine⟨?_,c7 (c7 h.srt hB.drop λp hp q hq=>h.le p hp q (.inr hq)) hA.drop λp hp q hq=>?_⟩
 ·rw[Ja];refine(h.perm.append_right _).trans ?_;rw[Ja,<-Ja (B.take ib),Jm];refine(JM _ Kt).trans ?_;rw[<-Ja,Jm]
 ·rcases Jk.mp hp with z |z
  ·exact h.le p z q (.inl hq)
  ·exact hl p (JP z) q hq
theorem MH.jn(h:MH A B l na nb)(hA:Srt A)(hk:k<=na)(hle:∀q∈(A.take na).drop k,∀r∈B.take nb,kk r<=kk q):MH A B ((A.take na).drop k++l) k nb where
 perm:=by
  have e:A.drop k=(A.take na).drop k++A.drop na:=by
   conv=>lhs;rw[<-Jm na A]
   rw[P7];by_cases hl:na<=A.length
   ·rw[IY,Lg hl,Nat.sub_eq_zero_of_le hk,Kl]
   ·rw[J6 (show A.length<=na by omega),List.drop_nil]
  rw[e,Ja];exact JM _ h.perm
 srt:=c7 ((hA.take).drop) h.srt λp hp q hq=>h.le q hq p (.inl (JP hp))
 le:=λp hp q hq=>by
  have e:A.take k=(A.take na).take k:=by rw[List.take_take,Lg hk]
  rcases Jk.mp hp with hp |hp
  ·rcases hq with hq |hq
   ·rw[e]at hq;exact kF (hA.take (i:=na)) k q hq p hp
   ·exact hle p hp q hq
  ·refine h.le p hp q (hq.imp (λz=>?_) id);rw[e]at z;exact JD z
theorem MH.symm(h:MH A B l na nb):MH B A l nb na:=⟨h.perm.trans Kt,h.srt,λp hp q hq=>h.le p hp q hq.symm⟩
theorem MH.kK(h:MH A B l na nb)(hB:Srt B)(hk:k<=nb)(hle:∀q∈(B.take nb).drop k,∀r∈A.take na,kk r<=kk q):MH A B ((B.take nb).drop k++l) na k:=(h.symm.jn hB hk hle).symm
theorem MH.iY(h:MH A B l 0 nb)(hB:Srt B):Mgd A B (A.take 0++B.take nb++l):=by
 rw[QF,Qr];have hp:=h.perm;rw[Kl]at hp;refine⟨?_,c7 hB.take h.srt λp hp q hq=>h.le q hq p (.inr hp)⟩;refine(JM _ hp).trans ?_;rw[<-Ja];refine(Kt.append_right _).trans ?_;rw[Ja,Jm]
theorem MH.iX(h:MH A B l na 0)(hA:Srt A):Mgd A B (A.take na++B.take 0++l):=by
 rw[QF,KS];have hp:=h.perm;rw[Kl]at hp;refine⟨?_,c7 hA.take h.srt λp hp q hq=>h.le q hq p (.inl hp)⟩;refine(JM _ hp).trans ?_;rw[<-Ja,Jm]
theorem MH.pG(h:MH A B l na nb)(hA:Srt A)(hB:Srt B)(hl:∀p∈B.take nb,∀q∈A,kk p<=kk q):Mgd A B (B.take nb++A.take na++l):=by
 refine⟨?_,c7 (c7 hB.take hA.take λp hp q hq=>hl p hp q (JD hq)) h.srt λp hp q hq=>?_⟩
 ·refine(JM _ h.perm).trans ?_;rw[Ja,<-Ja (A.take na),Jm];refine Kt.trans ?_;rw[Ja];refine JM _ (Kt.trans ?_);rw[Jm]
 ·rcases Jk.mp hp with z |z
  ·exact h.le q hq p (.inr z)
  ·exact h.le q hq p (.inl z)
end
noncomputable def gy:Nat->StateT SortSt Sem Unit:=sortPriv% PySem.Builtin.setMinGallop
theorem jw(g:Nat):gy g=modify λs=>K9 (kindOf s) (arrOf s) (pendingOf s) g (failedOf s):=rfl
noncomputable def jC:Array Keyed->Array Keyed->StateT SortSt Sem (Array Keyed):=sortPriv% PySem.Builtin.mergeLo
noncomputable def ju:Array Keyed->Array Keyed->StateT SortSt Sem (Array Keyed):=sortPriv% PySem.Builtin.mergeHi
noncomputable abbrev LoA:=Option (Array Keyed)×Array Keyed×Nat×Nat×Nat×Nat
noncomputable abbrev LoG:=Option (Array Keyed)×Array Keyed×Nat×Nat×Nat×Nat×Nat
noncomputable abbrev LoO:=Option (Array Keyed)×Array Keyed×Nat×Nat×Nat
noncomputable def loF(a b:Array Keyed)(mg:Nat)(c:LoA):StateT SortSt Sem (ForInStep LoA):=do
 let x<-elem' b c.2.2.2.1
 let y<-elem' a c.2.2.1
 let r<-lt' x y
 match r with
 |some bWins=>
  if bWins=true then do
   let x<-elem' b c.2.2.2.1
   if(c.2.2.2.1+1==b.size)=true then pure (.done (some (c.2.1.push x++a.extract c.2.2.1 a.size++b.extract (c.2.2.2.1+1) b.size),c.2.1.push x,c.2.2.1,c.2.2.2.1+1,0,c.2.2.2.2.2+1))
   else if c.2.2.2.2.2+1>=mg then pure (.done (none,c.2.1.push x,c.2.2.1,c.2.2.2.1+1,0,c.2.2.2.2.2+1))
   else pure (.yield (none,c.2.1.push x,c.2.2.1,c.2.2.2.1+1,0,c.2.2.2.2.2+1))
  else do
   let y<-elem' a c.2.2.1
   if(c.2.2.1+1+1==a.size)=true then pure (.done (some (c.2.1.push y++b.extract c.2.2.2.1 b.size++a.extract (c.2.2.1+1) a.size),c.2.1.push y,c.2.2.1+1,c.2.2.2.1,c.2.2.2.2.1+1,0))
   else if c.2.2.2.2.1+1>=mg then pure (.done (none,c.2.1.push y,c.2.2.1+1,c.2.2.2.1,c.2.2.2.2.1+1,0))
   else pure (.yield (none,c.2.1.push y,c.2.2.1+1,c.2.2.2.1,c.2.2.2.2.1+1,0))
 |_=>pure (.done (some (c.2.1++a.extract c.2.2.1 a.size++b.extract c.2.2.2.1 b.size),c.2.1,c.2.2.1,c.2.2.2.1,c.2.2.2.2.1,c.2.2.2.2.2))
noncomputable def wQ(a b ou:Array Keyed)(ia ib mg ac bc:Nat):StateT SortSt Sem (ForInStep LoG):=do
 let y<-elem' a ia
 if(ia+1+1==a.size)=true then pure (.done (some (ou.push y++b.extract ib b.size++a.extract (ia+1) a.size),ou.push y,ia+1,ib,mg,ac,bc))
 else if(decide (ac<7)&&decide (bc<7))=true then pure (.done (none,ou.push y,ia+1,ib,mg,ac,bc))
 else pure (.yield (none,ou.push y,ia+1,ib,mg,ac,bc))
noncomputable def wR(a b ou:Array Keyed)(ia ib mg ac bc:Nat):StateT SortSt Sem (ForInStep LoG):=do
 let x<-elem' b ib
 if(ib+1==b.size)=true then pure (.done (some (ou.push x++a.extract ia a.size++b.extract (ib+1) b.size),ou.push x,ia,ib+1,mg,ac,bc))
 else do
  let y<-elem' a ia
  let r<-cM true y b (ib+1) (b.size-(ib+1)) 0
  match r with
  |some k=>
   if k>0 then
    if(ib+1+k==b.size)=true then pure (.done (some (ou.push x++b.extract (ib+1) (ib+1+k)++a.extract ia a.size++b.extract (ib+1+k) b.size),ou.push x++b.extract (ib+1) (ib+1+k),ia,ib+1+k,mg,ac,k))
    else wQ a b (ou.push x++b.extract (ib+1) (ib+1+k)) ia (ib+1+k) mg ac k
   else wQ a b (ou.push x) ia (ib+1) mg ac k
  |_=>pure (.done (some (ou.push x++a.extract ia a.size++b.extract (ib+1) b.size),ou.push x,ia,ib+1,mg,ac,bc))
noncomputable def pD(a b ou:Array Keyed)(ia ib mg ac bc:Nat):StateT SortSt Sem (ForInStep LoG):=do
 gy mg
 let x<-elem' b ib
 let r<-cM false x a ia (a.size-ia) 0
 match r with
 |some k=>
  if k>0 then
   if(ia+k+1==a.size)=true then pure (.done (some (ou++a.extract ia (ia+k)++b.extract ib b.size++a.extract (ia+k) a.size),ou++a.extract ia (ia+k),ia+k,ib,mg,k,bc))
   else if(ia+k==a.size)=true then pure (.done (some (ou++a.extract ia (ia+k)++a.extract (ia+k) a.size++b.extract ib b.size),ou++a.extract ia (ia+k),ia+k,ib,mg,k,bc))
   else wR a b (ou++a.extract ia (ia+k)) (ia+k) ib mg k bc
  else wR a b ou ia ib mg k bc
 |_=>pure (.done (some (ou++a.extract ia a.size++b.extract ib b.size),ou,ia,ib,mg,ac,bc))
noncomputable def loG(a b:Array Keyed)(c:LoG):StateT SortSt Sem (ForInStep LoG):=
 if c.2.2.2.2.1>1 then pD a b c.2.1 c.2.2.1 c.2.2.2.1 (c.2.2.2.2.1-1) c.2.2.2.2.2.1 c.2.2.2.2.2.2 else pD a b c.2.1 c.2.2.1 c.2.2.2.1 c.2.2.2.2.1 c.2.2.2.2.2.1 c.2.2.2.2.2.2
noncomputable def loO(a b:Array Keyed)(c:LoO):StateT SortSt Sem (ForInStep LoO):=do
 let c1<-forIn [0:a.size+b.size] ((none,c.2.1,c.2.2.1,c.2.2.2.1,0,0):LoA) λ_ c1=>loF a b c.2.2.2.2 c1
 match c1.1 with
 |some r=>pure (.done (some r,c1.2.1,c1.2.2.1,c1.2.2.2.1,c.2.2.2.2))
 |none=>do
  liftM (rule "list.sort.gallop")
  let c2<-forIn [0:a.size+b.size] ((none,c1.2.1,c1.2.2.1,c1.2.2.2.1,c.2.2.2.2+1,c1.2.2.2.2.1,c1.2.2.2.2.2):LoG) λ_ c2=>loG a b c2
  match c2.1 with
  |some r=>pure (.done (some r,c2.2.1,c2.2.2.1,c2.2.2.2.1,c2.2.2.2.2.1))
  |none=>do
   gy (c2.2.2.2.2.1+1)
   pure (.yield (none,c2.2.1,c2.2.2.1,c2.2.2.2.1,c2.2.2.2.2.1+1))
theorem uA(a b:Array Keyed):jC a b=(do
 rule "list.sort.merge-lo"
 let total:=a.size+b.size
 let done (ou:Array Keyed) (ia ib:Nat):=ou++a.extract ia a.size++b.extract ib b.size
 let lastOfA (ou:Array Keyed) (ia ib:Nat):=ou++b.extract ib b.size++a.extract ia a.size
 let mut ou:Array Keyed:=#[<-elem' b 0]
 let mut ia:=0
 let mut ib:=1
 if ib==b.size then return done ou ia ib
 if ia+1==a.size then return lastOfA ou ia ib
 let mut minGallop:=gallopOf (<-get)
 for _ in [0:total]do
  let mut acount:=0
  let mut bcount:=0
  for _ in [0:total]do
   let some bWins<-lt' (<-elem' b ib) (<-elem' a ia) |return done ou ia ib
   if bWins then
    ou:=ou.push (<-elem' b ib);ib:=ib+1;bcount:=bcount+1;acount:=0
    if ib==b.size then return done ou ia ib
    if bcount>=minGallop then break
   else
    ou:=ou.push (<-elem' a ia);ia:=ia+1;acount:=acount+1;bcount:=0
    if ia+1==a.size then return lastOfA ou ia ib
    if acount>=minGallop then break
  rule "list.sort.gallop"
  minGallop:=minGallop+1
  for _ in [0:total]do
   if minGallop>1 then minGallop:=minGallop-1
   gy minGallop
   let some k<-cM false (<-elem' b ib) a ia (a.size-ia) 0 |return done ou ia ib
   acount:=k
   if k>0 then
    ou:=ou++a.extract ia (ia+k);ia:=ia+k
    if ia+1==a.size then return lastOfA ou ia ib
    if ia==a.size then return done ou ia ib
   ou:=ou.push (<-elem' b ib);ib:=ib+1
   if ib==b.size then return done ou ia ib
   let some k<-cM true (<-elem' a ia) b ib (b.size-ib) 0 |return done ou ia ib
   bcount:=k
   if k>0 then
    ou:=ou++b.extract ib (ib+k);ib:=ib+k
    if ib==b.size then return done ou ia ib
   ou:=ou.push (<-elem' a ia);ia:=ia+1
   if ia+1==a.size then return lastOfA ou ia ib
   if acount<7&&bcount<7 then break
  minGallop:=minGallop+1
  gy minGallop
 unsupported "internal:list.sort.merge-bound"):=rfl
theorem ua(a b:Array Keyed):jC a b=(do
 liftM (rule "list.sort.merge-lo")
 let x<-elem' b 0
 if(1==b.size)=true then pure (#[x]++a.extract 0 a.size++b.extract 1 b.size)
 else if(0+1==a.size)=true then pure (#[x]++b.extract 1 b.size++a.extract 0 a.size)
 else do
  let g<-get
  let c<-forIn [0:a.size+b.size] ((none,#[x],0,1,gallopOf g):LoO) λ_ c=>loO a b c
  match c.1 with
  |some r=>pure r
  |none=>unsupported "internal:list.sort.merge-bound"):=by
 rw[uA];refine Ki λ_=>?_;refine Ki λx=>?_;refine LX rfl (λ_=>rfl) λ_=>?_;refine LX rfl (λ_=>rfl) λ_=>?_;refine Ki λg=>?_;refine congr (Jn bind (Jn (forIn _ _) (funext λ_=>funext λc=>?_))) (funext λc=>?_)
 ·unfold loO;refine congr (Jn bind (Jn (forIn _ _) (funext λ_=>funext λc1=>?_))) (funext λc1=>?_)
  ·unfold loF;rfl
  ·obtain⟨r,o1,i1,j1,x1,y1⟩:=c1;cases r with
   |some r=>rfl
   |none=>
    refine Ki λ_=>?_;refine congr (Jn bind (Jn (forIn _ _) (funext λ_=>funext λc2=>?_))) (funext λc2=>?_)
    ·unfold loG;refine LX rfl (λ_=>?_) λ_=>?_
     ·unfold pD;rfl
     ·unfold pD;rfl
    ·obtain⟨r,o1,i1,j1,x1,y1,z1⟩:=c2;cases r<;>rfl
 ·obtain⟨r,o1,i1,j1,x1⟩:=c;cases r<;>rfl
structure GS(st st':SortSt):Prop where
 kind:kindOf st'=kindOf st
 arr:arrOf st'=arrOf st
 pend:pendingOf st'=pendingOf st
 failed:failedOf st'=failedOf st
theorem GS.refl{st:SortSt}:GS st st:=⟨rfl,rfl,rfl,rfl⟩
theorem GS.set{st st':SortSt}{g:Nat}(h:GS st st'):GS st (K9 (kindOf st') (arrOf st') (pendingOf st') g (failedOf st')):=⟨h.kind,h.arr,h.pend,h.failed⟩
theorem bB{a:Array Keyed}:(a.extract i j).toList=(a.toList.drop i).take (j-i):=by rw[Array.toList_extract,List.extract_eq_take_drop]
section
variable{prog:Program}{w:World}{A:Around}{E:Value->Shared->Prop}{s:Shared}{st:SortSt}{a b:Array Keyed}
theorem cZ(hi:i<xs.size):K xs i=kk xs[i]:=pC hi
theorem jg(h:Srt xs.toList)(hn:lz+n<=xs.size):cD xs lz n:=λi j hij hj=>by
 rw[cZ (by omega),cZ (by omega)];rcases RN i j with z |z
 ·have:=Kn.mp h (lz+i) (lz+j) (by rw[IC];omega) (by rw[IC];omega) (by omega);simpa using this
 ·have:i=j:=by omega
  subst this;exact Kf _
theorem lT{xs:Array Keyed}(hi:i<xs.size):xs.toList.drop i=xs[i]::xs.toList.drop (i+1):=by
 rw[KQ (by rw[IC];exact hi),JV]
theorem ll{xs:Array Keyed}(h:q∈(xs.toList.drop i).take k):∃j,j<k/\∃hj:i+j<xs.size,q=xs[i+j]:=by
 obtain⟨j,hj,e⟩:=JC.mp h;rw[IY,Jc,IC]at hj;refine⟨j,by omega,by omega,?_⟩;rw[<-e,LM,LN,JV]
theorem oD{xs:Array Keyed}(h:q∈xs.toList.drop i):∃j,∃hj:i+j<xs.size,q=xs[i+j]:=by
 obtain⟨j,hj,e⟩:=JC.mp h;rw[Jc,IC]at hj;refine⟨j,by omega,?_⟩;rw[<-e,LN,JV]
theorem oF{xs:Array Keyed}(h:Srt xs.toList)(hi:i<xs.size):∀q∈xs.toList.drop i,kk xs[i]<=kk q:=λq hq=>by
 obtain⟨j,hj,rfl⟩:=oD hq;have:=jg h (lz:=0) (n:=xs.size) (by omega) i (i+j) (by omega) (by omega);rwa[J3,J3,cZ hi,cZ hj]at this
theorem ML.lX{ou:Array Keyed}(h:ML a.toList b.toList ou.toList ia ib)(sb:Srt b.toList)(hb:ib<b.size)(hle:∀r∈a.toList.drop ia,kk b[ib]<=kk r):ML a.toList b.toList (ou.push b[ib]).toList ia (ib+1):=by
 have:=h.kK (k:=1) sb λq hq r hr=>by
  rw[lT hb,QZ]at hq;simp at hq;rw[hq];exact hle r hr
 rw[lT hb]at this;rw[Ln];simpa using this
theorem ML.lR{ou:Array Keyed}(h:ML a.toList b.toList ou.toList ia ib)(sa:Srt a.toList)(ha:ia<a.size)(hle:∀r∈b.toList.drop ib,kk a[ia]<=kk r):ML a.toList b.toList (ou.push a[ia]).toList (ia+1) ib:=by
 have:=h.jn (k:=1) sa λq hq r hr=>by
  rw[lT ha,QZ]at hq;simp at hq;rw[hq];exact hle r hr
 rw[lT ha]at this;rw[Ln];simpa using this
structure fA(a b:Array Keyed):Prop where
 ka:IntKeys a
 kb:IntKeys b
 sa:Srt a.toList
 sb:Srt b.toList
 last:∀p∈b.toList,∀q∈a.toList.drop (a.size-1),kk p<=kk q
theorem fA.pf(g:fA a b){ou:Array Keyed}(h:ML a.toList b.toList ou.toList ia ib)(ha:ia+1=a.size):Mgd a.toList b.toList (ou++b.extract ib b.size++a.extract ia a.size).toList:=by
 have:=h.pf g.sa g.sb (by rw[show ia=a.size-1 by omega];exact g.last);rw[Jv,Jv,bB,bB,Jf (by rw[Jc,IC];omega),Jf (by rw[Jc,IC];omega)];exact this
theorem fA.iX(g:fA a b){ou:Array Keyed}(h:ML a.toList b.toList ou.toList ia ib)(hb:b.size<=ib):Mgd a.toList b.toList (ou++a.extract ia a.size++b.extract ib b.size).toList:=by
 have:=h.iX g.sa (by rw[IC];exact hb);rw[Jv,Jv,bB,bB,Jf (by rw[Jc,IC];omega),Jf (by rw[Jc,IC];omega)];exact this
theorem fA.iY(g:fA a b){ou:Array Keyed}(h:ML a.toList b.toList ou.toList ia ib)(ha:a.size<=ia):Mgd a.toList b.toList (ou++a.extract ia a.size++b.extract ib b.size).toList:=by
 have:=h.iY g.sb (by rw[IC];exact ha);rw[Jv,Jv,bB,bB,Jf (by rw[Jc,IC];omega),Jf (by rw[Jc,IC];omega)];exact this
def PLo(a b:Array Keyed)(st:SortSt)(n:Nat)(r:Option (Array Keyed))(ou:Array Keyed)(ia ib:Nat)(st':SortSt):Prop:=GS st st'/\match r with
 |some r=>Mgd a.toList b.toList r.toList
 |none=>ML a.toList b.toList ou.toList ia ib/\ia+1<a.size/\ib<b.size/\n<=ia+ib
theorem PLo.less(h:PLo a b st n r ou ia ib st')(hm:m<=n):PLo a b st m r ou ia ib st':=by
 unfold PLo at h ⊢;cases r with
 |some r=>exact h
 |none=>exact⟨h.1,h.2.1,h.2.2.1,h.2.2.2.1,by have:=h.2.2.2.2;omega⟩
def StP{σ:Type}(P:σ->SortSt->Prop)(N:σ->Prop)(r:ForInStep σ)(st':SortSt):Prop:=match r with
 | .done c=>P c st'
 | .yield c=>P c st'/\N c
theorem CK(g:fA a b){mg n:Nat}{ou:Array Keyed}{ia ib ac bc:Nat}{st':SortSt}(hk:kindOf st=oneType')(h:PLo a b st n none ou ia ib st'):wpS (model prog w) A E s (loF a b mg (none,ou,ia,ib,ac,bc)) (StP (λc st2=>PLo a b st (n+1) c.1 c.2.1 c.2.2.1 c.2.2.2.1 st2) λc=>c.1=none) st':=by
 obtain⟨hg,hm,ha,hb,hn⟩:=h;unfold loF;dsimp only;refine II (br hb ?_);refine II (br (by omega) ?_);refine II (l8 (hg.kind.trans hk) (g.kb _ (by simp)) (g.ka _ (by simp)) ?_);have ha':ia<a.size:=by omega
 by_cases hw:numOf b[ib].1<numOf a[ia].1
 ·rw[IV hw];dsimp only;rw[Iw rfl];have m2:=hm.lX g.sb hb λr hr=>JU (Kb hw) (oF g.sa ha' r hr);refine II (br hb ?_);by_cases he:ib+1=b.size
  ·rw[Iw (by simpa using he)];exact IT ⟨hg,g.iX m2 (by omega)⟩
  ·rw[IF (by simpa using he)];split
   ·exact IT ⟨hg,m2,ha,(by dsimp only;omega),(by dsimp only;omega)⟩
   ·exact IT ⟨⟨hg,m2,ha,(by dsimp only;omega),(by dsimp only;omega)⟩,rfl⟩
 ·rw[IW hw];dsimp only;rw[IF IS];have m2:=hm.lR g.sa ha' λr hr=>JU (Lp.mp hw) (oF g.sb hb r hr);refine II (br ha' ?_);by_cases he:ia+1+1=a.size
  ·rw[Iw (by simpa using he)];exact IT ⟨hg,g.pf m2 he⟩
  ·rw[IF (by simpa using he)];split
   ·exact IT ⟨hg,m2,(by dsimp only;omega),hb,(by dsimp only;omega)⟩
   ·exact IT ⟨⟨hg,m2,(by dsimp only;omega),hb,(by dsimp only;omega)⟩,rfl⟩
theorem sF(g:fA a b)(hg:GS st st')(hm:ML a.toList b.toList ou.toList ia ib)(ha:ia+1<a.size)(hb:ib<b.size)(hn:n<=ia+ib)(hle:∀r∈b.toList.drop ib,kk (a[ia]'(by omega))<=kk r):wpS (model prog w) A E s (wQ a b ou ia ib mg ac bc) (StP (λc st2=>PLo a b st n c.1 c.2.1 c.2.2.1 c.2.2.2.1 st2) λc=>c.1=none) st':=by
 unfold wQ;have m2:=hm.lR g.sa (by omega) hle;refine II (br (by omega) ?_);by_cases he:ia+1+1=a.size
 ·rw[Iw (by simpa using he)];exact IT ⟨hg,g.pf m2 he⟩
 ·rw[IF (by simpa using he)];split
  ·exact IT ⟨hg,m2,(by dsimp only;omega),hb,(by dsimp only;omega)⟩
  ·exact IT ⟨⟨hg,m2,(by dsimp only;omega),hb,(by dsimp only;omega)⟩,rfl⟩
theorem sZ(g:fA a b)(hk:kindOf st=oneType')(hg:GS st st')(hm:ML a.toList b.toList ou.toList ia ib)(ha:ia+1<a.size)(hb:ib<b.size)(hn:n<=ia+ib)(hle:∀r∈a.toList.drop ia,kk b[ib]<=kk r):wpS (model prog w) A E s (wR a b ou ia ib mg ac bc) (StP (λc st2=>PLo a b st n c.1 c.2.1 c.2.2.1 c.2.2.2.1 st2) λc=>c.1=none) st':=by
 unfold wR;have m2:=hm.lX g.sb hb hle;refine II (br hb ?_);by_cases he:ib+1=b.size
 ·rw[Iw (by simpa using he)];exact IT ⟨hg,g.iX m2 (by omega)⟩
 ·rw[IF (by simpa using he)];have ha':ia<a.size:=by omega
  refine II (br ha' ?_);refine II (dS (hg.kind.trans hk) g.kb (g.ka _ (by simp)) (by omega) (by omega) (jg g.sb (by omega)) λk hk1 hk2 hk3=>?_);dsimp only;have blk:∀q∈(b.toList.drop (ib+1)).take k,∀r∈a.toList.drop ia,kk q<=kk r:=λq hq r hr=>by
   obtain⟨j,hj,hj2,rfl⟩:=ll hq;have:=hk2 j hj;unfold bey at this;rw[Iw rfl,cZ hj2]at this;have:kk b[ib+1+j]<kk a[ia]:=J9 this;exact JU (Kb this) (oF g.sa ha' r hr)
  have aft:∀r∈b.toList.drop (ib+1+k),kk a[ia]<=kk r:=λr hr=>by
   obtain⟨j,hj,rfl⟩:=oD hr;have:=hk3 (k+j) (by omega) (by omega);unfold bey at this;rw[Iw rfl,cZ (by omega)]at this;have:¬kk b[ib+1+(k+j)]<kk a[ia]:=Le this;have e:b[ib+1+(k+j)]=b[ib+1+k+j]:=by congr 1;omega
   rw[e]at this;exact Lp.mp this
  by_cases hz:k>0
  ·rw[Iw hz];have m3:=m2.kK (k:=k) g.sb blk;rw[show(ou.push b[ib]).toList++(b.toList.drop (ib+1)).take k=(ou.push b[ib]++b.extract (ib+1) (ib+1+k)).toList by rw[Jv,bB,N_]]at m3;by_cases he2:ib+1+k=b.size
   ·rw[Iw (by simpa using he2)];exact IT ⟨hg,g.iX m3 (by omega)⟩
   ·rw[IF (by simpa using he2)];exact sF g hg m3 ha (by omega) (by omega) aft
  ·rw[IF hz];have hk0:k=0:=by omega
   subst hk0;exact sF g hg m2 ha (by omega) (by omega) aft
theorem sG(g:fA a b){ou:Array Keyed}(hk:kindOf st=oneType')(hg:GS st st')(hm:ML a.toList b.toList ou.toList ia ib)(ha:ia+1<a.size)(hb:ib<b.size)(hn:n<=ia+ib):wpS (model prog w) A E s (pD a b ou ia ib mg ac bc) (StP (λc st2=>PLo a b st n c.1 c.2.1 c.2.2.1 c.2.2.2.1 st2) λc=>c.1=none) st':=by
 unfold pD;rw[jw];refine II (Lq ?_);have hg:=hg.set (g:=mg);refine II (br hb ?_);refine II (dS (hg.kind.trans hk) g.ka (g.kb _ (by simp)) (by omega) (by omega) (jg g.sa (by omega)) λk hk1 hk2 hk3=>?_);dsimp only;have blk:∀q∈(a.toList.drop ia).take k,∀r∈b.toList.drop ib,kk q<=kk r:=λq hq r hr=>by
  obtain⟨j,hj,hj2,rfl⟩:=ll hq;have:=hk2 j hj;unfold bey at this;rw[IF IS,cZ hj2,NM]at this;have:¬kk b[ib]<kk a[ia+j]:=Le this;exact JU (Lp.mp this) (oF g.sb hb r hr)
 have aft:∀r∈a.toList.drop (ia+k),kk b[ib]<=kk r:=λr hr=>by
  obtain⟨j,hj,rfl⟩:=oD hr;have:=hk3 (k+j) (by omega) (by omega);unfold bey at this;rw[IF IS,cZ (by omega),Nr]at this;have:kk b[ib]<kk a[ia+(k+j)]:=J9 this;have e:a[ia+(k+j)]=a[ia+k+j]:=by congr 1;omega
  rw[e]at this;exact Kb this
 by_cases hz:k>0
 ·rw[Iw hz];have m3:=hm.jn (k:=k) g.sa blk;rw[show ou.toList++(a.toList.drop ia).take k=(ou++a.extract ia (ia+k)).toList by rw[Jv,bB,N_]]at m3;by_cases he2:ia+k+1=a.size
  ·rw[Iw (by simpa using he2)];exact IT ⟨hg,g.pf m3 he2⟩
  ·rw[IF (by simpa using he2)];by_cases he3:ia+k=a.size
   ·rw[Iw (by simpa using he3)];exact IT ⟨hg,g.iY m3 (by omega)⟩
   ·rw[IF (by simpa using he3)];exact sZ g hk hg m3 (by omega) hb (by omega) aft
 ·rw[IF hz];have hk0:k=0:=by omega
  subst hk0;exact sZ g hk hg hm ha hb hn aft
theorem lS(I:Nat->σ->SortSt->Prop)(N:σ->Prop)(hs:∀x c st',I x c st'->N c->wpS (model prog w) A E s (f x c) (StP (I (x+1)) N) st')(hd:∀x c st',I (x+1) c st'->Q c st')(hn:0<n)(h0:I 0 c st)(hN:N c):wpS (model prog w) A E s (forIn [0:n] c f) Q st:=by
 refine Kj (I:=λx c st'=>I x c st'/\N c) (λx c st' _ hx h=>LI (hs x c st' h.1 h.2) λr st2 hr=>?_) (λc st' h=>?_) ⟨h0,hN⟩
 ·cases r with
  |done c'=>exact hd x c' st2 hr
  |yield c'=>exact hr
 ·obtain⟨m,hm⟩:∃m,max 0 n=m+1:=⟨n-1,by omega⟩;rw[hm]at h;exact hd m c st' h.1
theorem uo{Q:Array Keyed->SortSt->Prop}(g:fA a b)(hk:kindOf st=oneType')(ha:0<a.size)(hb:0<b.size)(h1:∀q∈a.toList,kk b[0]<=kk q)
  (h:∀r st',GS st st'->Mgd a.toList b.toList r.toList->Q r st'):wpS (model prog w) A E s (jC a b) Q st:=by
 rw[ua];refine II (Ng (KU ⟨rfl,?_⟩));refine II (br hb ?_);have m0:ML a.toList b.toList (#[b[0]]:Array Keyed).toList 0 1:=by
  have:=ML.lX (a:=a) (b:=b) (ou:=#[]) (ia:=0) (ib:=0) ⟨by simp,.nil,λp hp=>by simp at hp⟩ g.sb hb (by rw[Kl];exact h1);simpa using this
 by_cases e1:1=b.size
 ·rw[Iw (by simpa using e1)];exact IT (h _ st GS.refl (g.iX m0 (by omega)))
 rw[IF (by simpa using e1)];by_cases e2:0+1=a.size
 ·rw[Iw (by simpa using e2)];exact IT (h _ st GS.refl (g.pf m0 e2))
 rw[IF (by simpa using e2)];refine II (MT ?_);refine II (LI (Kj (I:=λx(c:LoO) st'=>c.1=none/\PLo a b st (x+1) c.1 c.2.1 c.2.2.1 c.2.2.2.1 st')
  (Q:=λ(c:LoO) st'=>∃r,c.1=some r/\GS st st'/\Mgd a.toList b.toList r.toList) ?step ?fin ⟨rfl,GS.refl,m0,by dsimp only;omega,by dsimp only;omega,by dsimp only;omega⟩) ?post)
 case post=>
  rintro⟨r,c⟩ st' ⟨r',e,hg,hm⟩;cases e;exact IT (h r' st' hg hm)
 case fin=>
  rintro⟨r,ou,ia,ib,mg⟩ st' ⟨e,hp⟩;cases e;obtain⟨_,_,q1,q2,q3⟩:=hp;dsimp only at q1 q2 q3;omega
 case step=>
  rintro x ⟨r,ou,ia,ib,mg⟩ st' _ hx ⟨e,hp⟩;cases e;unfold loO;dsimp only;refine II (lS (I:=λy(c:LoA) st2=>PLo a b st (x+1+y) c.1 c.2.1 c.2.2.1 c.2.2.2.1 st2) (N:=λc=>c.1=none) (λy c st2 hI hN=>?_) (λy c st2 hI=>?_) (by omega) hp rfl)
  ·obtain⟨r,ou,ia,ib,ac,bc⟩:=c;cases hN;exact CK g hk hI
  ·obtain⟨r,out2,ia2,ib2,ac,bc⟩:=c;cases r with
   |some r=>exact IT ⟨r,rfl,hI.1,hI.2⟩
   |none=>
    have hI:PLo a b st (x+2) none out2 ia2 ib2 st2:=hI.less (by omega);dsimp only;refine II (Ng (KU ⟨rfl,?_⟩));refine II (lS (I:=λy(c:LoG) st3=>PLo a b st (x+2) c.1 c.2.1 c.2.2.1 c.2.2.2.1 st3) (N:=λc=>c.1=none) (λy c st3 hI hN=>?_) (λy c st3 hI=>?_) (by omega) hI rfl)
    ·obtain⟨r,ou,ia,ib,mg,ac,bc⟩:=c;cases hN;obtain⟨hg,q1,q2,q3,q4⟩:=hI;unfold loG;split
     ·exact sG g hk hg q1 q2 q3 q4
     ·exact sG g hk hg q1 q2 q3 q4
    ·obtain⟨r,out3,ia3,ib3,mg3,ac,bc⟩:=c;cases r with
     |some r=>exact IT ⟨r,rfl,hI.1,hI.2⟩
     |none=>
      dsimp only;rw[jw];refine II (Lq (IT ⟨rfl,hI.1.set,hI.2⟩))
end
noncomputable abbrev HiA:=Option (Array Keyed)×Nat×Nat×Array Keyed×Nat×Nat
noncomputable abbrev HiG:=Option (Array Keyed)×Nat×Nat×Array Keyed×Nat×Nat×Nat
noncomputable abbrev HiO:=Option (Array Keyed)×Nat×Nat×Array Keyed×Nat
noncomputable def hiF(a b:Array Keyed)(mg:Nat)(c:HiA):StateT SortSt Sem (ForInStep HiA):=do
 let x<-elem' b (c.2.2.1-1)
 let y<-elem' a (c.2.1-1)
 let r<-lt' x y
 match r with
 |some aWins=>
  if aWins=true then do
   let y<-elem' a (c.2.1-1)
   if(c.2.1-1==0)=true then pure (.done (some (a.extract 0 (c.2.1-1)++b.extract 0 c.2.2.1++(c.2.2.2.1.push y).reverse),c.2.1-1,c.2.2.1,c.2.2.2.1.push y,c.2.2.2.2.1+1,0))
   else if c.2.2.2.2.1+1>=mg then pure (.done (none,c.2.1-1,c.2.2.1,c.2.2.2.1.push y,c.2.2.2.2.1+1,0))
   else pure (.yield (none,c.2.1-1,c.2.2.1,c.2.2.2.1.push y,c.2.2.2.2.1+1,0))
  else do
   let x<-elem' b (c.2.2.1-1)
   if(c.2.2.1-1==1)=true then pure (.done (some (b.extract 0 (c.2.2.1-1)++a.extract 0 c.2.1++(c.2.2.2.1.push x).reverse),c.2.1,c.2.2.1-1,c.2.2.2.1.push x,0,c.2.2.2.2.2+1))
   else if c.2.2.2.2.2+1>=mg then pure (.done (none,c.2.1,c.2.2.1-1,c.2.2.2.1.push x,0,c.2.2.2.2.2+1))
   else pure (.yield (none,c.2.1,c.2.2.1-1,c.2.2.2.1.push x,0,c.2.2.2.2.2+1))
 |_=>pure (.done (some (a.extract 0 c.2.1++b.extract 0 c.2.2.1++c.2.2.2.1.reverse),c.2.1,c.2.2.1,c.2.2.2.1,c.2.2.2.2.1,c.2.2.2.2.2))
noncomputable def wC(a b ou:Array Keyed)(na nb mg ac bc:Nat):StateT SortSt Sem (ForInStep HiG):=do
 let y<-elem' a (na-1)
 if(na-1==0)=true then pure (.done (some (a.extract 0 (na-1)++b.extract 0 nb++(ou.push y).reverse),na-1,nb,ou.push y,mg,ac,bc))
 else if(decide (ac<7)&&decide (bc<7))=true then pure (.done (none,na-1,nb,ou.push y,mg,ac,bc))
 else pure (.yield (none,na-1,nb,ou.push y,mg,ac,bc))
noncomputable def vV(a b ou:Array Keyed)(na nb mg ac bc:Nat):StateT SortSt Sem (ForInStep HiG):=do
 let x<-elem' b (nb-1)
 if(nb-1==1)=true then pure (.done (some (b.extract 0 (nb-1)++a.extract 0 na++(ou.push x).reverse),na,nb-1,ou.push x,mg,ac,bc))
 else do
  let y<-elem' a (na-1)
  let r<-cM true y b 0 (nb-1) (nb-1-1)
  match r with
  |some k=>
   if nb-1-k>0 then
    if(k==1)=true then pure (.done (some (b.extract 0 k++a.extract 0 na++(ou.push x++(b.extract k (nb-1)).reverse).reverse),na,k,ou.push x++(b.extract k (nb-1)).reverse,mg,ac,nb-1-k))
    else if(k==0)=true then pure (.done (some (a.extract 0 na++b.extract 0 k++(ou.push x++(b.extract k (nb-1)).reverse).reverse),na,k,ou.push x++(b.extract k (nb-1)).reverse,mg,ac,nb-1-k))
    else wC a b (ou.push x++(b.extract k (nb-1)).reverse) na k mg ac (nb-1-k)
   else wC a b (ou.push x) na (nb-1) mg ac (nb-1-k)
  |_=>pure (.done (some (a.extract 0 na++b.extract 0 (nb-1)++(ou.push x).reverse),na,nb-1,ou.push x,mg,ac,bc))
noncomputable def pd(a b ou:Array Keyed)(na nb mg ac bc:Nat):StateT SortSt Sem (ForInStep HiG):=do
 gy mg
 let x<-elem' b (nb-1)
 let r<-cM false x a 0 na (na-1)
 match r with
 |some k=>
  if na-k>0 then
   if(k==0)=true then pure (.done (some (a.extract 0 k++b.extract 0 nb++(ou++(a.extract k na).reverse).reverse),k,nb,ou++(a.extract k na).reverse,mg,na-k,bc))
   else vV a b (ou++(a.extract k na).reverse) k nb mg (na-k) bc
  else vV a b ou na nb mg (na-k) bc
 |_=>pure (.done (some (a.extract 0 na++b.extract 0 nb++ou.reverse),na,nb,ou,mg,ac,bc))
noncomputable def hiG(a b:Array Keyed)(c:HiG):StateT SortSt Sem (ForInStep HiG):=
 if c.2.2.2.2.1>1 then pd a b c.2.2.2.1 c.2.1 c.2.2.1 (c.2.2.2.2.1-1) c.2.2.2.2.2.1 c.2.2.2.2.2.2 else pd a b c.2.2.2.1 c.2.1 c.2.2.1 c.2.2.2.2.1 c.2.2.2.2.2.1 c.2.2.2.2.2.2
noncomputable def hiO(a b:Array Keyed)(c:HiO):StateT SortSt Sem (ForInStep HiO):=do
 let c1<-forIn [0:a.size+b.size] ((none,c.2.1,c.2.2.1,c.2.2.2.1,0,0):HiA) λ_ c1=>hiF a b c.2.2.2.2 c1
 match c1.1 with
 |some r=>pure (.done (some r,c1.2.1,c1.2.2.1,c1.2.2.2.1,c.2.2.2.2))
 |none=>do
  liftM (rule "list.sort.gallop")
  let c2<-forIn [0:a.size+b.size] ((none,c1.2.1,c1.2.2.1,c1.2.2.2.1,c.2.2.2.2+1,c1.2.2.2.2.1,c1.2.2.2.2.2):HiG) λ_ c2=>hiG a b c2
  match c2.1 with
  |some r=>pure (.done (some r,c2.2.1,c2.2.2.1,c2.2.2.2.1,c2.2.2.2.2.1))
  |none=>do
   gy (c2.2.2.2.2.1+1)
   pure (.yield (none,c2.2.1,c2.2.2.1,c2.2.2.2.1,c2.2.2.2.2.1+1))
theorem uc(a b:Array Keyed):ju a b=(do
 rule "list.sort.merge-hi"
 let total:=a.size+b.size
 let done (ou:Array Keyed) (na nb:Nat):=a.extract 0 na++b.extract 0 nb++ou.reverse
 let firstOfB (ou:Array Keyed) (na nb:Nat):=b.extract 0 nb++a.extract 0 na++ou.reverse
 let mut na:=a.size-1
 let mut nb:=b.size
 let mut ou:Array Keyed:=#[<-elem' a na]
 if na==0 then return done ou na nb
 if nb==1 then return firstOfB ou na nb
 let mut minGallop:=gallopOf (<-get)
 for _ in [0:total]do
  let mut acount:=0
  let mut bcount:=0
  for _ in [0:total]do
   let some aWins<-lt' (<-elem' b (nb-1)) (<-elem' a (na-1)) |return done ou na nb
   if aWins then
    na:=na-1;ou:=ou.push (<-elem' a na);acount:=acount+1;bcount:=0
    if na==0 then return done ou na nb
    if acount>=minGallop then break
   else
    nb:=nb-1;ou:=ou.push (<-elem' b nb);bcount:=bcount+1;acount:=0
    if nb==1 then return firstOfB ou na nb
    if bcount>=minGallop then break
  rule "list.sort.gallop"
  minGallop:=minGallop+1
  for _ in [0:total]do
   if minGallop>1 then minGallop:=minGallop-1
   gy minGallop
   let some at_<-cM false (<-elem' b (nb-1)) a 0 na (na-1) |return done ou na nb
   let k:=na-at_
   acount:=k
   if k>0 then
    ou:=ou++(a.extract at_ na).reverse;na:=at_
    if na==0 then return done ou na nb
   nb:=nb-1;ou:=ou.push (<-elem' b nb)
   if nb==1 then return firstOfB ou na nb
   let some at_<-cM true (<-elem' a (na-1)) b 0 nb (nb-1) |return done ou na nb
   let k:=nb-at_
   bcount:=k
   if k>0 then
    ou:=ou++(b.extract at_ nb).reverse;nb:=at_
    if nb==1 then return firstOfB ou na nb
    if nb==0 then return done ou na nb
   na:=na-1;ou:=ou.push (<-elem' a na)
   if na==0 then return done ou na nb
   if acount<7&&bcount<7 then break
  minGallop:=minGallop+1
  gy minGallop
 unsupported "internal:list.sort.merge-bound"):=rfl
theorem uf(a b:Array Keyed):ju a b=(do
 liftM (rule "list.sort.merge-hi")
 let y<-elem' a (a.size-1)
 if(a.size-1==0)=true then pure (a.extract 0 (a.size-1)++b.extract 0 b.size++(#[y]:Array Keyed).reverse)
 else if(b.size==1)=true then pure (b.extract 0 b.size++a.extract 0 (a.size-1)++(#[y]:Array Keyed).reverse)
 else do
  let g<-get
  let c<-forIn [0:a.size+b.size] ((none,a.size-1,b.size,#[y],gallopOf g):HiO) λ_ c=>hiO a b c
  match c.1 with
  |some r=>pure r
  |none=>unsupported "internal:list.sort.merge-bound"):=by
 rw[uc];refine Ki λ_=>?_;refine Ki λx=>?_;refine LX rfl (λ_=>rfl) λ_=>?_;refine LX rfl (λ_=>rfl) λ_=>?_;refine Ki λg=>?_;refine congr (Jn bind (Jn (forIn _ _) (funext λ_=>funext λc=>?_))) (funext λc=>?_)
 ·unfold hiO;refine congr (Jn bind (Jn (forIn _ _) (funext λ_=>funext λc1=>?_))) (funext λc1=>?_)
  ·unfold hiF;rfl
  ·obtain⟨r,o1,i1,j1,x1,y1⟩:=c1;cases r with
   |some r=>rfl
   |none=>
    refine Ki λ_=>?_;refine congr (Jn bind (Jn (forIn _ _) (funext λ_=>funext λc2=>?_))) (funext λc2=>?_)
    ·unfold hiG;refine LX rfl (λ_=>?_) λ_=>?_
     ·unfold pd;rfl
     ·unfold pd;rfl
    ·obtain⟨r,o1,i1,j1,x1,y1,z1⟩:=c2;cases r<;>rfl
 ·obtain⟨r,o1,i1,j1,x1⟩:=c;cases r<;>rfl
section
variable{prog:Program}{w:World}{A:Around}{E:Value->Shared->Prop}{s:Shared}{st:SortSt}{a b:Array Keyed}
theorem jo{xs:Array Keyed}(h:0<i)(hi:i<=xs.size):(xs.toList.take i).drop (i-1)=[xs[i-1]]:=by
 obtain⟨j,rfl⟩:∃j,i=j+1:=⟨i-1,by omega⟩;show(xs.toList.take (j+1)).drop j=[xs[j]];rw[QG,P7];have hl:(xs.toList.take j).length=j:=by rw[IY,IC];omega
 rw[J6 (by omega),hl,Mk,Kl,Qr,H0 (by rw[IC];omega),JV];rfl
theorem nP{xs:Array Keyed}(h:Srt xs.toList)(h0:0<i)(hi:i<=xs.size):∀q∈xs.toList.take i,kk q<=kk xs[i-1]:=λq hq=>by
 obtain⟨j,hj,e⟩:=JC.mp hq;rw[IY,IC]at hj;rw[LM,JV]at e;have:=jg h (lz:=0) (n:=xs.size) (by omega) j (i-1) (by omega) (by omega);rwa[J3,J3,cZ (by omega),cZ (by omega),e]at this
noncomputable abbrev rvK(ou:Array Keyed):List Keyed:=ou.toList.reverse
theorem MH.lR{ou:Array Keyed}(h:MH a.toList b.toList (rvK ou) na nb)(sa:Srt a.toList)(h0:0<na)(ha:na<=a.size)(hle:∀r∈b.toList.take nb,kk r<=kk a[na-1]):MH a.toList b.toList (rvK (ou.push a[na-1])) (na-1) nb:=by
 have:=h.jn (k:=na-1) sa (by omega) λq hq r hr=>by
  rw[jo h0 ha]at hq;rw[IQ.mp hq];exact hle r hr
 rw[jo h0 ha]at this;unfold rvK;rw[Ln,M6];exact this
theorem MH.lX{ou:Array Keyed}(h:MH a.toList b.toList (rvK ou) na nb)(sb:Srt b.toList)(h0:0<nb)(hb:nb<=b.size)(hle:∀r∈a.toList.take na,kk r<=kk b[nb-1]):MH a.toList b.toList (rvK (ou.push b[nb-1])) na (nb-1):=by
 have:=h.kK (k:=nb-1) sb (by omega) λq hq r hr=>by
  rw[jo h0 hb]at hq;rw[IQ.mp hq];exact hle r hr
 rw[jo h0 hb]at this;unfold rvK;rw[Ln,M6];exact this
structure e_(a b:Array Keyed):Prop where
 ka:IntKeys a
 kb:IntKeys b
 sa:Srt a.toList
 sb:Srt b.toList
 first:∀p∈b.toList.take 1,∀q∈a.toList,kk p<=kk q
theorem oV{xs:Array Keyed}:(xs.extract 0 n).toList=xs.toList.take n:=by rw[bB,Kl,Pt]
theorem e_.pG(g:e_ a b){ou:Array Keyed}(h:MH a.toList b.toList (rvK ou) na nb)(hb:nb=1):Mgd a.toList b.toList (b.extract 0 nb++a.extract 0 na++ou.reverse).toList:=by
 have:=h.pG g.sa g.sb (by rw[hb];exact g.first);rw[Jv,Jv,oV,oV,L4];exact this
theorem e_.iY(g:e_ a b){ou:Array Keyed}(h:MH a.toList b.toList (rvK ou) na nb)(ha:na=0):Mgd a.toList b.toList (a.extract 0 na++b.extract 0 nb++ou.reverse).toList:=by
 subst ha;have:=h.iY g.sb;rw[Jv,Jv,oV,oV,L4];exact this
theorem e_.iX(g:e_ a b){ou:Array Keyed}(h:MH a.toList b.toList (rvK ou) na nb)(hb:nb=0):Mgd a.toList b.toList (a.extract 0 na++b.extract 0 nb++ou.reverse).toList:=by
 subst hb;have:=h.iX g.sa;rw[Jv,Jv,oV,oV,L4];exact this
def PHi(a b:Array Keyed)(st:SortSt)(n:Nat)(r:Option (Array Keyed))(ou:Array Keyed)(na nb:Nat)(st':SortSt):Prop:=GS st st'/\match r with
 |some r=>Mgd a.toList b.toList r.toList
 |none=>MH a.toList b.toList (rvK ou) na nb/\(1<=na/\na<=a.size)/\(2<=nb/\nb<=b.size)/\n+na+nb<=a.size+b.size
theorem PHi.less(h:PHi a b st n r ou na nb st')(hm:m<=n):PHi a b st m r ou na nb st':=by
 unfold PHi at h ⊢;cases r with
 |some r=>exact h
 |none=>exact⟨h.1,h.2.1,h.2.2.1,h.2.2.2.1,by have:=h.2.2.2.2;omega⟩
theorem Dl(g:e_ a b){mg n:Nat}{ou:Array Keyed}{na nb ac bc:Nat}{st':SortSt}(hk:kindOf st=oneType')(h:PHi a b st n none ou na nb st'):wpS (model prog w) A E s (hiF a b mg (none,na,nb,ou,ac,bc)) (StP (λc st2=>PHi a b st (n+1) c.1 c.2.2.2.1 c.2.1 c.2.2.1 st2) λc=>c.1=none) st':=by
 obtain⟨hg,hm,ha,hb,hn⟩:=h;unfold hiF;dsimp only;refine II (br (by omega) ?_);refine II (br (by omega) ?_);refine II (l8 (hg.kind.trans hk) (g.kb _ (by simp)) (g.ka _ (by simp)) ?_);by_cases hw:numOf (b[nb-1]'(by omega)).1<numOf (a[na-1]'(by omega)).1
 ·rw[IV hw];dsimp only;rw[Iw rfl];have m2:=hm.lR g.sa ha.1 ha.2 λr hr=>JU (nP g.sb (by omega) hb.2 r hr) (Kb hw);refine II (br (by omega) ?_);by_cases he:na-1=0
  ·rw[Iw (by simpa using he)];exact IT ⟨hg,g.iY m2 he⟩
  ·rw[IF (by simpa using he)];split
   ·exact IT ⟨hg,m2,(by dsimp only;omega),hb,(by dsimp only;omega)⟩
   ·exact IT ⟨⟨hg,m2,(by dsimp only;omega),hb,(by dsimp only;omega)⟩,rfl⟩
 ·rw[IW hw];dsimp only;rw[IF IS];have m2:=hm.lX g.sb (by omega) hb.2 λr hr=>JU (nP g.sa ha.1 ha.2 r hr) (Lp.mp hw);refine II (br (by omega) ?_);by_cases he:nb-1=1
  ·rw[Iw (by simpa using he)];exact IT ⟨hg,g.pG m2 he⟩
  ·rw[IF (by simpa using he)];split
   ·exact IT ⟨hg,m2,ha,(by dsimp only;omega),(by dsimp only;omega)⟩
   ·exact IT ⟨⟨hg,m2,ha,(by dsimp only;omega),(by dsimp only;omega)⟩,rfl⟩
theorem rS(g:e_ a b)(hg:GS st st')(hm:MH a.toList b.toList (rvK ou) na nb)(ha:1<=na/\na<=a.size)(hb:2<=nb/\nb<=b.size)(hn:n+na+nb<=a.size+b.size)(hle:∀r∈b.toList.take nb,kk r<=kk (a[na-1]'(by omega))):wpS (model prog w) A E s (wC a b ou na nb mg ac bc) (StP (λc st2=>PHi a b st n c.1 c.2.2.2.1 c.2.1 c.2.2.1 st2) λc=>c.1=none) st':=by
 unfold wC;have m2:=hm.lR g.sa ha.1 ha.2 hle;refine II (br (by omega) ?_);by_cases he:na-1=0
 ·rw[Iw (by simpa using he)];exact IT ⟨hg,g.iY m2 he⟩
 ·rw[IF (by simpa using he)];split
  ·exact IT ⟨hg,m2,(by dsimp only;omega),hb,(by dsimp only;omega)⟩
  ·exact IT ⟨⟨hg,m2,(by dsimp only;omega),hb,(by dsimp only;omega)⟩,rfl⟩
theorem sX{xs:Array Keyed}:rvK (ou++(xs.extract k n).reverse)=(xs.toList.take n).drop k++rvK ou:=by
 unfold rvK;rw[Jv,L4,M6,List.reverse_reverse,bB,QH]
theorem oH{xs:Array Keyed}(hn:n<=xs.size)(h:q∈(xs.toList.take n).drop k):∃j,k<=j/\j<n/\∃hj:j<xs.size,q=xs[j]:=by
 rw[QH]at h;obtain⟨j,hj,hj2,e⟩:=ll h;exact⟨k+j,by omega,by omega,hj2,e⟩
theorem sV(g:e_ a b){mg n:Nat}{ou:Array Keyed}{na nb ac bc:Nat}{st':SortSt}(hk:kindOf st=oneType')(hg:GS st st')(hm:MH a.toList b.toList (rvK ou) na nb)(ha:1<=na/\na<=a.size)(hb:2<=nb/\nb<=b.size)(hn:n+na+nb<=a.size+b.size)(hle:∀r∈a.toList.take na,kk r<=kk (b[nb-1]'(by omega))):wpS (model prog w) A E s (vV a b ou na nb mg ac bc) (StP (λc st2=>PHi a b st n c.1 c.2.2.2.1 c.2.1 c.2.2.1 st2) λc=>c.1=none) st':=by
 unfold vV;have m2:=hm.lX g.sb (by omega) hb.2 hle;refine II (br (by omega) ?_);by_cases he:nb-1=1
 ·rw[Iw (by simpa using he)];exact IT ⟨hg,g.pG m2 he⟩
 ·rw[IF (by simpa using he)];refine II (br (by omega) ?_);refine II (dS (hg.kind.trans hk) g.kb (g.ka _ (by simp)) (by omega) (by omega) (jg g.sb (by omega)) λk hk1 hk2 hk3=>?_);dsimp only;have blk:∀q∈(b.toList.take (nb-1)).drop k,∀r∈a.toList.take na,kk r<=kk q:=λq hq r hr=>by
   obtain⟨j,j1,j2,j3,rfl⟩:=oH (by omega) hq;have:=hk3 j j1 j2;unfold bey at this;rw[Iw rfl,J3,cZ j3]at this;have:¬kk b[j]<kk (a[na-1]'(by omega)):=Le this;exact JU (nP g.sa ha.1 ha.2 r hr) (Lp.mp this)
  have aft:∀r∈b.toList.take k,kk r<=kk (a[na-1]'(by omega)):=λr hr=>by
   obtain⟨j,j1,j2,j3,rfl⟩:=oH (xs:=b) (n:=k) (k:=0) (by omega) (by rw[Kl];exact hr);have:=hk2 j j2;unfold bey at this;rw[Iw rfl,J3,cZ j3]at this;have:kk b[j]<kk (a[na-1]'(by omega)):=J9 this;exact Kb this
  by_cases hz:nb-1-k>0
  ·rw[Iw hz];have m3:=m2.kK (k:=k) g.sb (by omega) blk;rw[<-sX]at m3;by_cases he2:k=1
   ·rw[Iw (by simpa using he2)];exact IT ⟨hg,g.pG m3 he2⟩
   ·rw[IF (by simpa using he2)];by_cases he3:k=0
    ·rw[Iw (by simpa using he3)];exact IT ⟨hg,g.iX m3 he3⟩
    ·rw[IF (by simpa using he3)];exact rS g hg m3 ha (by omega) (by omega) aft
  ·rw[IF hz];have hk0:k=nb-1:=by omega
   rw[hk0]at aft;exact rS g hg m2 ha (by omega) (by omega) aft
theorem rD(g:e_ a b){mg n:Nat}{ou:Array Keyed}{na nb ac bc:Nat}{st':SortSt}(hk:kindOf st=oneType')(hg:GS st st')(hm:MH a.toList b.toList (rvK ou) na nb)(ha:1<=na/\na<=a.size)(hb:2<=nb/\nb<=b.size)(hn:n+na+nb<=a.size+b.size):wpS (model prog w) A E s (pd a b ou na nb mg ac bc) (StP (λc st2=>PHi a b st n c.1 c.2.2.2.1 c.2.1 c.2.2.1 st2) λc=>c.1=none) st':=by
 unfold pd;rw[jw];refine II (Lq ?_);have hg:=hg.set (g:=mg);refine II (br (by omega) ?_);refine II (dS (hg.kind.trans hk) g.ka (g.kb _ (by simp)) (by omega) (by omega) (jg g.sa (by omega)) λk hk1 hk2 hk3=>?_);dsimp only;have blk:∀q∈(a.toList.take na).drop k,∀r∈b.toList.take nb,kk r<=kk q:=λq hq r hr=>by
  obtain⟨j,j1,j2,j3,rfl⟩:=oH (by omega) hq;have:=hk3 j j1 j2;unfold bey at this;rw[IF IS,J3,cZ j3,Nr]at this;have:kk (b[nb-1]'(by omega))<kk a[j]:=J9 this;exact JU (nP g.sb (by omega) hb.2 r hr) (Kb this)
 have aft:∀r∈a.toList.take k,kk r<=kk (b[nb-1]'(by omega)):=λr hr=>by
  obtain⟨j,j1,j2,j3,rfl⟩:=oH (xs:=a) (n:=k) (k:=0) (by omega) (by rw[Kl];exact hr);have:=hk2 j j2;unfold bey at this;rw[IF IS,J3,cZ j3,NM]at this;have:¬kk (b[nb-1]'(by omega))<kk a[j]:=Le this;exact Lp.mp this
 by_cases hz:na-k>0
 ·rw[Iw hz];have m3:=hm.jn (k:=k) g.sa (by omega) blk;rw[<-sX]at m3;by_cases he2:k=0
  ·rw[Iw (by simpa using he2)];exact IT ⟨hg,g.iY m3 he2⟩
  ·rw[IF (by simpa using he2)];exact sV g hk hg m3 (by omega) hb (by omega) aft
 ·rw[IF hz];have hk0:k=na:=by omega
  rw[hk0]at aft;exact sV g hk hg hm ha hb hn aft
theorem uy(g:e_ a b)(hk:kindOf st=oneType')(ha:0<a.size)(hb:0<b.size)(h1:∀q∈b.toList,kk q<=kk (a[a.size-1]'(by omega)))
  (h:∀r st',GS st st'->Mgd a.toList b.toList r.toList->Q r st'):wpS (model prog w) A E s (ju a b) Q st:=by
 rw[uf];refine II (Ng (KU ⟨rfl,?_⟩));refine II (br (by omega) ?_);have m0:MH a.toList b.toList (rvK (#[a[a.size-1]'(by omega)]:Array Keyed)) (a.size-1) b.size:=by
  have:=MH.lR (a:=a) (b:=b) (ou:=#[]) (na:=a.size) (nb:=b.size) ⟨by rw[J6 (by rw[IC];exact IB _),J6 (by rw[IC];exact IB _)];exact .nil,.nil,λp hp=>by simp[rvK]at hp⟩ g.sa ha (IB _) (λr hr=>h1 r (JD hr));simpa using this
 by_cases e1:a.size-1=0
 ·rw[Iw (by simpa using e1)];exact IT (h _ st GS.refl (g.iY m0 e1))
 rw[IF (by simpa using e1)];by_cases e2:b.size=1
 ·rw[Iw (by simpa using e2)];exact IT (h _ st GS.refl (g.pG m0 e2))
 rw[IF (by simpa using e2)];refine II (MT ?_);refine II (LI (Kj (I:=λx(c:HiO) st'=>c.1=none/\PHi a b st (x+1) c.1 c.2.2.2.1 c.2.1 c.2.2.1 st')
  (Q:=λ(c:HiO) st'=>∃r,c.1=some r/\GS st st'/\Mgd a.toList b.toList r.toList) ?step ?fin ⟨rfl,GS.refl,m0,by dsimp only;omega,by dsimp only;omega,by dsimp only;omega⟩) ?post)
 case post=>
  rintro⟨r,c⟩ st' ⟨r',e,hg,hm⟩;cases e;exact IT (h r' st' hg hm)
 case fin=>
  rintro⟨r,na,nb,ou,mg⟩ st' ⟨e,hp⟩;cases e;obtain⟨_,_,q1,q2,q3⟩:=hp;dsimp only at q1 q2 q3;omega
 case step=>
  rintro x ⟨r,na,nb,ou,mg⟩ st' _ hx ⟨e,hp⟩;cases e;unfold hiO;dsimp only;refine II (lS (I:=λy(c:HiA) st2=>PHi a b st (x+1+y) c.1 c.2.2.2.1 c.2.1 c.2.2.1 st2) (N:=λc=>c.1=none) (λy c st2 hI hN=>?_) (λy c st2 hI=>?_) (by omega) hp rfl)
  ·obtain⟨r,na,nb,ou,ac,bc⟩:=c;cases hN;exact Dl g hk hI
  ·obtain⟨r,na2,nb2,out2,ac,bc⟩:=c;cases r with
   |some r=>exact IT ⟨r,rfl,hI.1,hI.2⟩
   |none=>
    have hI:PHi a b st (x+2) none out2 na2 nb2 st2:=hI.less (by omega);dsimp only;refine II (Ng (KU ⟨rfl,?_⟩));refine II (lS (I:=λy(c:HiG) st3=>PHi a b st (x+2) c.1 c.2.2.2.1 c.2.1 c.2.2.1 st3) (N:=λc=>c.1=none) (λy c st3 hI hN=>?_) (λy c st3 hI=>?_) (by omega) hI rfl)
    ·obtain⟨r,na,nb,ou,mg,ac,bc⟩:=c;cases hN;obtain⟨hg,q1,q2,q3,q4⟩:=hI;unfold hiG;split
     ·exact rD g hk hg q1 q2 q3 q4
     ·exact rD g hk hg q1 q2 q3 q4
    ·obtain⟨r,na3,nb3,out3,mg3,ac,bc⟩:=c;cases r with
     |some r=>exact IT ⟨r,rfl,hI.1,hI.2⟩
     |none=>
      dsimp only;rw[jw];refine II (Lq (IT ⟨rfl,hI.1.set,hI.2⟩))
end
theorem ur(i:Nat):mergeAt' i=(do
 let s<-get
 let(some (sa,na,power),some (sb,nb,_)):=((pendingOf s)[i]?,(pendingOf s)[i+1]?) |unsupported "internal:list.sort.pending"
 set (K9 (kindOf s) (arrOf s) (((pendingOf s).setIfInBounds i (sa,na+nb,power)).eraseIdxIfInBounds (i+1)) (gallopOf s) (failedOf s))
 let some k<-cM false (<-elem' (arrOf s) sb) (arrOf s) sa na 0 |return false
 let(sa,na):=(sa+k,na-k)
 if na==0 then return true
 let some nb<-cM true (<-elem' (arrOf s) (sa+na-1)) (arrOf s) sb nb (nb-1) |return false
 if nb==0 then return true
 let x:=(arrOf s).extract sa sb
 let y:=(arrOf s).extract sb (sb+nb)
 let merged<-if na<=nb then jC x y else ju x y
 modify λs=>K9 (kindOf s) (merged.toList.zipIdx.foldl (λa(p,j)=>a.setIfInBounds (sa+j) p) (arrOf s)) (pendingOf s) (gallopOf s) (failedOf s)
 return(failedOf (<-get)).isNone):=rfl
theorem tw:∀(M Z R pre:List Keyed)(arr:Array Keyed)(i:Nat),arr.toList=pre++Z++R->pre.length=base+i->Z.length=M.length->((M.zipIdx i).foldl (λa(p,j)=>a.setIfInBounds (base+j) p) arr).toList=pre++M++R
 | [],Z,R,pre,arr,i,h,_,hl=>by
  rw[KI]at hl;rw[Oa.mp hl]at h;simpa using h
 |m::M,Z,R,pre,arr,i,h,hp,hl=>by
  cases Z with
  |nil=>simp at hl
  |cons z Z=>
   rw[NW,Qj];have h2:(arr.setIfInBounds (base+i) m).toList=(pre++[m])++Z++R:=by
    rw[NF,h,<-hp,Ja,MS _ _ (IB _),Mk];simp
   rw[tw M Z R (pre++[m]) (arr.setIfInBounds (base+i) m) (i+1) h2 (by rw[IH,Ji];omega) (by simpa using hl)];simp
theorem uO(hn:lz+n<=xs.size)(h:cD xs lz n):Srt ((xs.toList.drop lz).take n):=by
 refine Kn.mpr λi j hi hj hij=>?_;rw[IY,Jc,IC]at hi hj;have:=h i j (by omega) (by omega);rw[cZ (by omega),cZ (by omega)]at this;rw[LM,LM,LN,LN,JV,JV];exact this
theorem kL:K xs i=match xs.toList[i]? with |some p=>kk p |none=>0:=by
 unfold K kk;rw[Kr];cases xs[i]?<;>rfl
structure sJ(xs ys:Array Keyed)(sa n:Nat):Prop where
 perm:ys.Perm xs
 seg:cD ys sa n
 same:∀j,j<sa\/sa+n<=j->K ys j=K xs j
section
variable{prog:Program}{w:World}{A:Around}{E:Value->Shared->Prop}{s:Shared}{st:SortSt}{a₀:Array Keyed}{p₀:Array (Nat×Nat×Nat)}
theorem sJ.refl(h:cD xs sa n):sJ xs xs sa n:=⟨Oj _,h,λ_ _=>rfl⟩
theorem s_(h1:cD xs sa na)(h2:cD xs (sa+na) nb)(h:∀i,i<na->∀j,j<nb->K xs (sa+i)<=K xs (sa+na+j)):cD xs sa (na+nb):=λi j hij hj=>by
 by_cases q:j<na
 ·exact h1 i j hij q
 ·by_cases p:i<na
  ·have:=h i p (j-na) (by omega);rwa[show sa+na+(j-na)=sa+j by omega]at this
  ·have:=h2 (i-na) (j-na) (by omega) (by omega);rwa[show sa+na+(i-na)=sa+i by omega,show sa+na+(j-na)=sa+j by omega]at this
theorem ui(h0:IntKeys a₀)(hB:SB a₀ p₀ st)(e1:p₀[i]?=some (sa,na,pw))(e2:p₀[i+1]?=some (sb,nb,pw2))(hsb:sb=sa+na)(hna:0<na)(hnb:0<nb)(hsz:sb+nb<=a₀.size)(s1:cD (arrOf st) sa na)(s2:cD (arrOf st) sb nb)
  (h:∀st',SB a₀ ((p₀.setIfInBounds i (sa,na+nb,pw)).eraseIdxIfInBounds (i+1)) st'->sJ (arrOf st) (arrOf st') sa (na+nb)->Q true st'):wpS (model prog w) A E s (mergeAt' i) Q st:=by
 subst hsb;have hA:=hB.keys h0;have hz:(arrOf st).size=a₀.size:=hB.size;have hP:(arrOf st).Perm a₀:=hB.perm;rw[ur];refine II (MT ?_);rw[hB.pend,e1,e2];dsimp only;refine II (Lq (f:=λ_=>_) ?_);have hB1:SB a₀ ((p₀.setIfInBounds i (sa,na+nb,pw)).eraseIdxIfInBounds (i+1)) (K9 (kindOf st) (arrOf st) ((p₀.setIfInBounds i (sa,na+nb,pw)).eraseIdxIfInBounds (i+1)) (gallopOf st) (failedOf st)):=⟨hB.perm,hB.kind,hB.failed,rfl⟩;generalize hst1:K9 (kindOf st) (arrOf st) ((p₀.setIfInBounds i (sa,na+nb,pw)).eraseIdxIfInBounds (i+1)) (gallopOf st) (failedOf st)=st1 at hB1;have ea:arrOf st1=arrOf st:=by rw[<-hst1]
 generalize arrOf st=xs at *;refine II (br (by omega) ?_);refine II (dS hB1.kind hA (hA _ (by simp)) (by omega) (by omega) s1 λk hk1 hk2 hk3=>?_);dsimp only;have kle:∀i,i<k->K xs (sa+i)<=K xs (sa+na):=λi hi=>by
  have:=hk2 i hi;unfold bey at this;rw[IF IS,NM]at this;have:=Le this;rw[pC (show sa+na<xs.size by omega)];exact Lp.mp this
 have klt:∀i,k<=i->i<na->K xs (sa+na)<K xs (sa+i):=λi h1 h2=>by
  have:=hk3 i h1 h2;unfold bey at this;rw[IF IS,Nr]at this;have:=J9 this;rw[pC (show sa+na<xs.size by omega)];exact this
 have first:∀j,j<nb->K xs (sa+na)<=K xs (sa+na+j):=λj hj=>by have:=s2 0 j (by omega) hj;rwa[RH]at this
 by_cases q1:na-k=0
 ·rw[Iw (by simpa using q1)];refine IT (h st1 hB1 (by rw[ea];exact sJ.refl (s_ s1 s2 λi hi j hj=>JU (kle i (by omega)) (first j hj))))
 rw[IF (by simpa using q1)];refine II (br (by omega) ?_);refine II (dS hB1.kind hA (hA _ (by simp)) (by omega) (by omega) s2 λm hm1 hm2 hm3=>?_);dsimp only;have elast:sa+k+(na-k)-1=sa+(na-1):=by omega
 have mlt:∀j,j<m->K xs (sa+na+j)<K xs (sa+(na-1)):=λj hj=>by
  have:=hm2 j hj;unfold bey at this;rw[Iw rfl]at this;have:=J9 this;rw[<-pC (show sa+k+(na-k)-1<xs.size by omega),elast]at this;exact this
 have mle:∀j,m<=j->j<nb->K xs (sa+(na-1))<=K xs (sa+na+j):=λj h1 h2=>by
  have:=hm3 j h1 h2;unfold bey at this;rw[Iw rfl]at this;have:=Le this;rw[<-pC (show sa+k+(na-k)-1<xs.size by omega),elast]at this;exact Lp.mp this
 by_cases q2:m=0
 ·rw[Iw (by simpa using q2)];refine IT (h st1 hB1 (by rw[ea];exact sJ.refl (s_ s1 s2 λi hi j hj=>JU (s1 i (na-1) (by omega) (by omega)) (mle j (by omega) hj))))
 rw[IF (by simpa using q2)];have kx:IntKeys (xs.extract (sa+k) (sa+na)):=λp hp=>hA p (by rw[bB]at hp;exact JP (JD hp));have ky:IntKeys (xs.extract (sa+na) (sa+na+m)):=λp hp=>hA p (by rw[bB]at hp;exact JP (JD hp));have sx:Srt (xs.extract (sa+k) (sa+na)).toList:=by
  rw[bB];exact uO (by omega) λi j hij hj=>by
   have:=s1 (k+i) (k+j) (by omega) (by omega);rwa[<-NG,<-NG]at this
 have sy:Srt (xs.extract (sa+na) (sa+na+m)).toList:=by
  rw[bB];exact uO (by omega) λi j hij hj=>s2 i j hij (by omega)
 have memx:∀p∈(xs.extract (sa+k) (sa+na)).toList,∃i,k<=i/\i<na/\kk p=K xs (sa+i):=λp hp=>by
  rw[bB]at hp;obtain⟨j,hj,hj2,rfl⟩:=ll hp;refine⟨k+j,by omega,by omega,?_⟩;rw[<-cZ hj2,NG]
 have memy:∀p∈(xs.extract (sa+na) (sa+na+m)).toList,∃j,j<m/\kk p=K xs (sa+na+j):=λp hp=>by
  rw[bB]at hp;obtain⟨j,hj,hj2,rfl⟩:=ll hp;exact⟨j,by omega,by rw[<-cZ hj2]⟩
 have zx:(xs.extract (sa+k) (sa+na)).size=na-k:=by rw[Pu];omega
 have zy:(xs.extract (sa+na) (sa+na+m)).size=m:=by rw[Pu];omega
 have post:∀(M:Array Keyed)(st2:SortSt),GS st1 st2->Mgd (xs.extract (sa+k) (sa+na)).toList (xs.extract (sa+na) (sa+na+m)).toList M.toList->Q true (K9 (kindOf st2) (M.toList.zipIdx.foldl (λa(p,j)=>a.setIfInBounds (sa+k+j) p) (arrOf st2)) (pendingOf st2) (gallopOf st2) (failedOf st2)):=λM st2 hg hM=>by
  rw[hg.arr,ea];have lM:M.toList.length=na-k+m:=by
   rw[hM.1.length_eq,IH,IC,IC,zx,zy]
  have eL:xs.toList=xs.toList.take (sa+k)++(xs.toList.drop (sa+k)).take (na-k+m)++xs.toList.drop (sa+na+m):=by
   conv=>lhs;rw[<-Jm (sa+k) xs.toList,<-Jm (na-k+m) (xs.toList.drop (sa+k)),Nh]
   rw[show sa+k+(na-k+m)=sa+na+m by omega,Ja]
  have eF:=tw (base:=sa+k) M.toList ((xs.toList.drop (sa+k)).take (na-k+m)) (xs.toList.drop (sa+na+m)) (xs.toList.take (sa+k)) xs 0 eL (by rw[IY,IC];omega) (by rw[IY,Jc,IC];omega);generalize hY:M.toList.zipIdx.foldl (λa(p,j)=>a.setIfInBounds (sa+k+j) p) xs=ys at eF;have eXY:(xs.toList.drop (sa+k)).take (na-k+m)=(xs.extract (sa+k) (sa+na)).toList++(xs.extract (sa+na) (sa+na+m)).toList:=by
   rw[bB,bB,QY,Nh,show sa+k+(na-k)=sa+na by omega,show sa+na-(sa+k)=na-k by omega,show sa+na+m-(sa+na)=m by omega]
  have hMX:M.toList.Perm ((xs.toList.drop (sa+k)).take (na-k+m)):=by rw[eXY];exact hM.1
  have hperm:ys.Perm xs:=by
   rw[ND,eF];refine(List.Perm.append_right _ (JM _ hMX)).trans ?_;rw[<-eL]
  have zl:(xs.toList.take (sa+k)).length=sa+k:=by rw[IY,IC];omega
  have k1:∀j,j<sa+k->K ys j=K xs j:=λj hj=>by
   rw[kL,kL,eF,Ja,Jb (by omega),Mi,Iw hj]
  have k3:∀j,sa+na+m<=j->K ys j=K xs j:=λj hj=>by
   rw[kL,kL,eF,Jd (by rw[IH,zl,lM];omega),IH,zl,lM,Ph,show sa+na+m+(j-(sa+k+(na-k+m)))=j by omega]
  have k2:∀j(hj:j<na-k+m),K ys (sa+k+j)=kk (M.toList[j]'(by omega)):=λj hj=>by
   rw[kL,eF,Ja,Jd (by omega),zl,show sa+k+j-(sa+k)=j by omega,Jb (by omega),H0 (by omega)]
  have mM:∀j(hj:j<na-k+m),(∃i,k<=i/\i<na/\kk (M.toList[j]'(by omega))=K xs (sa+i))\/∃i,i<m/\kk (M.toList[j]'(by omega))=K xs (sa+na+i):=λj hj=>by
   rcases Jk.mp (hM.1.mem_iff.mp (JE (show j<M.toList.length by omega)))with z |z
   ·exact .inl (memx _ z)
   ·exact .inr (memy _ z)
  refine h _ ⟨hperm.trans hP,hg.kind.trans hB1.kind,hg.failed.trans hB1.failed,hg.pend.trans hB1.pend⟩ ⟨hperm,λi j hij hj=>?_,λj hj=>?_⟩
  ·show K ys (sa+i)<=K ys (sa+j);have z2:∀i,k<=i->sa+i=sa+k+(i-k):=λi hi=>by omega
   by_cases i1:i<k
   ·rw[k1 (sa+i) (by omega)];by_cases j1:j<k
    ·rw[k1 (sa+j) (by omega)];exact s1 i j hij (by omega)
    ·by_cases j2:j<na+m
     ·rw[z2 j (by omega),k2 (j-k) (by omega)];rcases mM (j-k) (by omega)with⟨i',a1,a2,a3⟩ |⟨i',a1,a3⟩
      ·rw[a3];exact s1 i i' (by omega) a2
      ·rw[a3];exact JU (kle i i1) (first i' (by omega))
     ·rw[k3 (sa+j) (by omega)];have:=mle (j-na) (by omega) (by omega);rw[show sa+na+(j-na)=sa+j by omega]at this;exact JU (s1 i (na-1) (by omega) (by omega)) this
   ·by_cases i2:i<na+m
    ·rw[z2 i (by omega),k2 (i-k) (by omega)];by_cases j2:j<na+m
     ·rw[z2 j (by omega),k2 (j-k) (by omega)];rcases RN i j with z |z
      ·exact Kn.mp hM.2 (i-k) (j-k) (by omega) (by omega) (by omega)
      ·have:i=j:=by omega
       subst this;exact Kf _
     ·rw[k3 (sa+j) (by omega)];have:=mle (j-na) (by omega) (by omega);have e3:sa+na+(j-na)=sa+j:=by omega
      rw[e3]at this;rcases mM (i-k) (by omega)with⟨i',a1,a2,a3⟩ |⟨i',a1,a3⟩
      ·rw[a3];exact JU (s1 i' (na-1) (by omega) (by omega)) this
      ·rw[a3,<-e3];exact s2 i' (j-na) (by omega) (by omega)
    ·rw[k3 (sa+i) (by omega),k3 (sa+j) (by omega)];have:=s2 (i-na) (j-na) (by omega) (by omega);rwa[show sa+na+(i-na)=sa+i by omega,show sa+na+(j-na)=sa+j by omega]at this
  ·rcases hj with z |z
   ·exact k1 j (by omega)
   ·exact k3 j (by omega)
 have done:∀(M:Array Keyed)(st2:SortSt),GS st1 st2->Mgd (xs.extract (sa+k) (sa+na)).toList (xs.extract (sa+na) (sa+na+m)).toList M.toList->wpS (model prog w) A E s (do
   modify λs=>K9 (kindOf s) (M.toList.zipIdx.foldl (λa(p,j)=>a.setIfInBounds (sa+k+j) p) (arrOf s)) (pendingOf s) (gallopOf s) (failedOf s)
   let s<-get
   pure (failedOf s).isNone) Q st2:=λM st2 hg hM=>by
  refine II (Lq (II (MT (IT ?_))));have e:(failedOf (K9 (kindOf st2) (M.toList.zipIdx.foldl (λa(p,j)=>a.setIfInBounds (sa+k+j) p) (arrOf st2)) (pendingOf st2) (gallopOf st2) (failedOf st2))).isNone=true:=by
   show(failedOf st2).isNone=true;rw[hg.failed,hB1.failed];rfl
  rw[e];exact post M st2 hg hM
 have x0:kk ((xs.extract (sa+na) (sa+na+m))[0]'(by omega))=K xs (sa+na):=by
  rw[OI,cZ (show sa+na<xs.size by omega)];rfl
 have xl:kk ((xs.extract (sa+k) (sa+na))[(xs.extract (sa+k) (sa+na)).size-1]'(by omega))=K xs (sa+(na-1)):=by
  rw[OI,cZ (show sa+(na-1)<xs.size by omega)];congr 2;omega
 by_cases q3:na-k<=m
 ·rw[Iw q3];refine II (uo ⟨kx,ky,sx,sy,λp hp q hq=>?_⟩ hB1.kind (by omega) (by omega) (λq hq=>?_) λr st2 hg hM=>done r st2 hg hM)
  ·obtain⟨j,hj,ej⟩:=memy p hp;obtain⟨t,ht,et⟩:=oD hq;rw[ej,et];have e:(xs.extract (sa+k) (sa+na))[(xs.extract (sa+k) (sa+na)).size-1+t]=(xs.extract (sa+k) (sa+na))[(xs.extract (sa+k) (sa+na)).size-1]'(by omega):=by congr 1;omega
   rw[e,xl];exact Kb (mlt j hj)
  ·obtain⟨i',a1,a2,a3⟩:=memx q hq;rw[x0,a3];exact Kb (klt i' a1 a2)
 ·rw[IF q3];refine II (uy ⟨kx,ky,sx,sy,λp hp q hq=>?_⟩ hB1.kind (by omega) (by omega) (λq hq=>?_) λr st2 hg hM=>done r st2 hg hM)
  ·obtain⟨i',a1,a2,a3⟩:=memx q hq;rw[a3];have e:(xs.extract (sa+na) (sa+na+m)).toList.take 1=[(xs.extract (sa+na) (sa+na+m))[0]'(by omega)]:=by
    have:=jo (xs:=xs.extract (sa+na) (sa+na+m)) (i:=1) (by omega) (by omega);rwa[Kl]at this
   rw[e]at hp;rw[IQ.mp hp,x0];exact Kb (klt i' a1 a2)
  ·obtain⟨j,hj,ej⟩:=memy q hq;rw[ej,xl];exact Kb (mlt j hj)
end
noncomputable def oi(lz n:Nat):StateT SortSt Sem (ForInStep (Option Unit×Nat)):=do
 modify λs=>setPending s ((pendingOf s).push (lz,n,0))
 pure (ForInStep.yield (none,lz+n))
noncomputable def wo(size pw:Nat):StateT SortSt Sem (Option Unit×Unit):=
 forIn [0:size] ((none,()):Option Unit×Unit) λ_ _=>do
  let g<-get
  match(if(pendingOf g).size>1 then(pendingOf g)[(pendingOf g).size-2]? else none)with
  |some (_,_,older)=>
   if older<=pw then pure (ForInStep.done (none,()))
   else do
    let ok<-mergeAt' ((pendingOf g).size-2)
    if(!ok)=true then pure (ForInStep.done (some (),()))else pure (ForInStep.yield (none,()))
  |_=>pure (ForInStep.done (none,()))
noncomputable def pK(size lz n:Nat):StateT SortSt Sem (ForInStep (Option Unit×Nat)):=do
 let g<-get
 match(pendingOf g).back? with
 |some (s1,n1,_)=>do
  let c<-wo size (power' size (2*s1+n1) (2*s1+n1+n1+n) size)
  match c.1 with
  |some r=>pure (ForInStep.done (some r,lz))
  |none=>do
   modify λs=>setPending s ((pendingOf s).modify ((pendingOf s).size-1) λx=>match x with |(st,len,_)=>(st,len,power' size (2*s1+n1) (2*s1+n1+n1+n) size))
   oi lz n
 |_=>oi lz n
noncomputable def kY(size minrun lz:Nat):StateT SortSt Sem (ForInStep (Option Unit×Nat)):=
 if lz>=size then pure (ForInStep.done (none,lz))
 else do
  let r<-countRun' lz (size-lz)
  match r with
  |some n=>
   if n<minrun then do
    liftM (rule "list.sort.binary-insertion")
    let ok<-binarySort' lz (min (size-lz) minrun) n
    if(!ok)=true then pure (ForInStep.done (some (),lz))else pK size lz (min (size-lz) minrun)
   else pK size lz n
  |_=>pure (ForInStep.done (some (),lz))
noncomputable def BB(size:Nat):StateT SortSt Sem (Option Unit×Unit):=
 forIn [0:size] ((none,()):Option Unit×Unit) λ_ _=>do
  let g<-get
  if(pendingOf g).size<=1 then pure (ForInStep.done (none,()))
  else do
   let ok<-mergeAt' (if Option.any (λx=>decide (x<(pendingOf g)[(pendingOf g).size-2+1]?.elim 0 λx=>x.snd.fst)) (if(pendingOf g).size-2>0 then Qo (λx=>x.snd.fst) (pendingOf g)[(pendingOf g).size-2-1]? else none)=true then(pendingOf g).size-2-1 else(pendingOf g).size-2)
   if(!ok)=true then pure (ForInStep.done (some (),()))else pure (ForInStep.yield (none,()))
theorem AD:sortRuns'=(do
  let g<-get
  let c<-forIn [0:(arrOf g).size] ((none,0):Option Unit×Nat) λ_ c=>kY (arrOf g).size (minRun' (arrOf g).size (arrOf g).size 0) c.2
  match c.1 with
  |some r=>pure r
  |none=>do
   let c<-BB (arrOf g).size
   match c.1 with
   |some r=>pure r
   |none=>pure ()):=by
 rw[sortRuns'_eq];refine Ki λg=>?_;refine congr (Jn bind (Jn (forIn _ _) (funext λ_=>funext λc=>?_))) (funext λc=>?_)
 ·unfold kY;refine LX rfl (λ_=>rfl) λ_=>?_;refine Ki λr=>?_;cases r with
  |none=>rfl
  |some n=>
   refine LX rfl (λ_=>?_) λ_=>?_
   ·refine Ki λ_=>?_;refine Ki λok=>?_;refine LX rfl (λ_=>rfl) λ_=>?_;unfold pK;refine Ki λg2=>?_;cases(pendingOf g2).back? with
    |none=>rfl
    |some q=>
     obtain⟨s1,n1,x⟩:=q;refine congr (Jn bind (Jn (forIn _ _) (funext λ_=>funext λc=>?_))) (funext λc=>?_)
     ·refine Ki λg3=>?_;dsimp only;generalize(if(pendingOf g3).size>1 then(pendingOf g3)[(pendingOf g3).size-2]? else none)=o;cases o<;>rfl
     ·obtain⟨r,u⟩:=c;cases r<;>rfl
   ·unfold pK;refine Ki λg2=>?_;cases(pendingOf g2).back? with
    |none=>rfl
    |some q=>
     obtain⟨s1,n1,x⟩:=q;refine congr (Jn bind (Jn (forIn _ _) (funext λ_=>funext λc=>?_))) (funext λc=>?_)
     ·refine Ki λg3=>?_;dsimp only;generalize(if(pendingOf g3).size>1 then(pendingOf g3)[(pendingOf g3).size-2]? else none)=o;cases o<;>rfl
     ·obtain⟨r,u⟩:=c;cases r<;>rfl
 ·obtain⟨r,lz⟩:=c;cases r with
  |some r=>rfl
  |none=>
   refine congr (Jn bind (Jn (forIn _ _) (funext λ_=>funext λc=>rfl))) (funext λc=>?_);obtain⟨r,u⟩:=c;cases r<;>rfl
noncomputable abbrev Pd:=Nat×Nat×Nat
def dh(xs:Array Keyed):Nat->List Pd->Nat->Prop
 |lz,[],hi=>lz=hi
 |lz,p::r,hi=>p.1=lz/\0<p.2.1/\cD xs lz p.2.1/\dh xs (lz+p.2.1) r hi
theorem o_:∀{p:List Pd}{lz hi:Nat},dh xs lz p hi->lz+p.length<=hi
 | [],lz,hi,h=>by cases h;simp
 |q::p,lz,hi,⟨_,h2,_,h4⟩=>by
  have:=o_ h4;rw[Js];omega
theorem eD:∀{p q:List Pd}{lz hi:Nat},dh xs lz (p++q) hi↔∃m,dh xs lz p m/\dh xs m q hi
 | [],q,lz,hi=>⟨λh=>⟨lz,rfl,h⟩,λ⟨m,h1,h2⟩=>by cases h1;exact h2⟩
 |x::p,q,lz,hi=>⟨λ⟨a,b,c,d⟩=>by
   obtain⟨m,h1,h2⟩:=eD.mp d;exact⟨m,⟨a,b,c,h1⟩,h2⟩,λ⟨m,⟨a,b,c,h1⟩,h2⟩=>⟨a,b,c,eD.mpr ⟨m,h1,h2⟩⟩⟩
theorem fS:∀{p:List Pd}{lz hi:Nat},(∀j,lz<=j->j<hi->K ys j=K xs j)->dh xs lz p hi->dh ys lz p hi
 | [],_,_,_,h=>h
 |x::p,lz,hi,hs,⟨a,b,c,d⟩=>by
  have hl:=o_ d;refine⟨a,b,λi j hij hj=>?_,fS (λj h1 h2=>hs j (by omega) h2) d⟩;rw[hs _ (by omega) (by omega),hs _ (by omega) (by omega)];exact c i j hij hj
theorem lK{p₀:Array Pd}(hi:i+1<p₀.size):((p₀.setIfInBounds i v).eraseIdxIfInBounds (i+1)).toList=p₀.toList.take i++v::p₀.toList.drop (i+2):=by
 have hz:i+1<(p₀.setIfInBounds i v).size:=by rw[Mh];exact hi
 unfold Array.eraseIdxIfInBounds;rw[dif_pos hz,Array.toList_eraseIdx,NF,List.eraseIdx_eq_take_drop_succ];have hl:i<p₀.toList.length:=by rw[IC];omega
 rw[List.take_set,List.drop_set,Iw (by omega),QG,H0 hl];rw[MS _ _ (by rw[IY];omega),IY,Lg (by omega),Mk];simp
section
variable{prog:Program}{w:World}{A:Around}{E:Value->Shared->Prop}{s:Shared}{st:SortSt}{a₀:Array Keyed}{p₀:Array Pd}
structure SR(a₀:Array Keyed)(st0:SortSt)(hi n:Nat)(p:Array Pd)(st:SortSt):Prop where
 sb:SB a₀ p st
 runs:dh (arrOf st) 0 p.toList hi
 from_:∀j,hi<=j->K (arrOf st) j=K (arrOf st0) j
 few:p.size<=n
theorem oG(h0:IntKeys a₀)(hB:SR a₀ st0 hi (n+1) p₀ st)(hh:hi<=a₀.size)(hi2:i+1<p₀.size)
  (h:∀p st',SR a₀ st0 hi n p st'->1<=p.size->Q true st'):wpS (model prog w) A E s (mergeAt' i) Q st:=by
 have e1:p₀[i]?=some p₀[i]:=LV _ i (by omega);have e2:p₀[i+1]?=some p₀[i+1]:=LV _ (i+1) hi2;have eL:p₀.toList=p₀.toList.take i++p₀[i]::p₀[i+1]::p₀.toList.drop (i+2):=by
  conv=>lhs;rw[<-Jm i p₀.toList]
  rw[KQ (by rw[IC];omega),KQ (by rw[IC];omega),JV,JV]
 generalize p₀[i]=u at e1 eL;generalize p₀[i+1]=v at e2 eL;obtain⟨sa,na,pw⟩:=u;obtain⟨sb,nb,pw2⟩:=v;have hr:=hB.runs;rw[eL]at hr;obtain⟨m,r1,a1,a2,a3,b1,b2,b3,r2⟩:=eD.mp hr;dsimp only at a1 a2 a3 b1 b2 b3 r2;have hl:=o_ r2;subst a1;refine ui h0 hB.sb e1 e2 b1 a2 b2 (by omega) a3 (by rw[b1];exact b3) λst' hB' hM=>?_;refine h _ st' ⟨hB',?_,λj hj=>(hM.same j (.inr (by omega))).trans (hB.from_ j hj),?_⟩ ?_
 ·rw[lK hi2];refine eD.mpr ⟨sa,fS (λj _ h2=>hM.same j (.inl h2)) r1,rfl,by dsimp only;omega,hM.seg,?_⟩;refine fS (λj h1 _=>hM.same j (.inr h1)) ?_;rw[<-NG];exact r2
 ·have:=Jn MC (lK (v:=(sa,na+nb,pw)) hi2);rw[IH,Js,IY,Jc,IC,IC]at this;have:=hB.few;omega
 ·have:=Jn MC (lK (v:=(sa,na+nb,pw)) hi2);rw[IH,Js,IY,Jc,IC,IC]at this;omega
theorem Cz(h0:IntKeys a₀)(hh:hi<=a₀.size)(hB:SR a₀ st0 hi p.size p st)(hp:1<=p.size)
  (h:∀p' st',SR a₀ st0 hi p.size p' st'->1<=p'.size->Q (none,()) st'):wpS (model prog w) A E s (wo size pw) Q st:=by
 unfold wo;refine Kj (I:=λ_ c st'=>c=(none,())/\∃p',SR a₀ st0 hi p.size p' st'/\1<=p'.size) ?step ?fin ⟨rfl,p,hB,hp⟩
 case fin=>
  rintro c st' ⟨rfl,p',h1,h2⟩;exact h p' st' h1 h2
 case step=>
  rintro x c st' _ hx ⟨rfl,p',h1,h2⟩;refine II (MT ?_);rw[h1.sb.pend];by_cases q:p'.size>1
  ·rw[Iw q,LV p' (p'.size-2) (by omega)];generalize p'[p'.size-2]=u;obtain⟨u1,u2,older⟩:=u;dsimp only;by_cases q2:older<=pw
   ·rw[Iw q2];exact IT (h p' st' h1 h2)
   ·rw[IF q2];obtain⟨m,hm⟩:∃m,p.size=m+1:=⟨p.size-1,by omega⟩;refine II (oG h0 (n:=m) (by rw[<-hm];exact h1) hh (by omega) λp2 st2 g1 g2=>?_);rw[IF (by decide)];exact IT ⟨rfl,p2,⟨g1.sb,g1.runs,g1.from_,by have:=g1.few;omega⟩,g2⟩
  ·rw[IF q];exact IT (h p' st' h1 h2)
theorem xG{st0:SortSt}(h0:IntKeys a₀)(hh:lz+n<=a₀.size)(hn:0<n)(hB:SR a₀ st lz p.size p st)(hs:cD (arrOf st) lz n)(hp:p.size<=lz)
  (h:∀p' st',SB a₀ p' st'->dh (arrOf st') 0 p'.toList (lz+n)->p'.size<=lz+n->Q (.yield (none,lz+n)) st'):wpS (model prog w) A E s (pK size lz n) Q st:=by
 have push:∀(p:Array Pd)(st1:SortSt),SB a₀ p st1->dh (arrOf st1) 0 p.toList lz->cD (arrOf st1) lz n->p.size<=lz->wpS (model prog w) A E s (oi lz n) Q st1:=λp st1 b r g hl=>by
  unfold oi;refine II (Lq (IT (h (p.push (lz,n,0)) _ ⟨b.perm,b.kind,b.failed,?_⟩ ?_ ?_)))
  ·show(pendingOf st1).push (lz,n,0)=_;rw[b.pend]
  ·rw[Ln];exact eD.mpr ⟨lz,r,rfl,hn,g,rfl⟩
  ·rw[Array.size_push];omega
 unfold pK;refine II (MT ?_);rw[hB.sb.pend];cases hb:p.back? with
 |none=>exact push p st hB.sb hB.runs hs hp
 |some q=>
  obtain⟨s1,n1,x⟩:=q;dsimp only;have hpz:1<=p.size:=by
   rcases Nat.eq_zero_or_pos p.size with z |z
   ·rw[Array.eq_empty_of_size_eq_zero z]at hb;cases hb
   ·exact z
  refine II (Cz h0 (by omega) hB hpz λp' st' g1 g2=>?_);refine II (Lq ?_);have f1:=g1.few;have last:p'.toList=p'.toList.dropLast++[p'[p'.size-1]]:=by
   have hne:p'.toList≠[]:=λz=>by have:=Jn MC z;rw[IC,KI]at this;omega
   conv=>lhs;rw[<-List.dropLast_concat_getLast hne]
   rw[List.getLast_eq_getElem,JV];simp
  have hr:=g1.runs;rw[last]at hr;obtain⟨m,r1,r2,r3,r4,r5⟩:=eD.mp hr;generalize power' size (2*s1+n1) (2*s1+n1+n1+n) size=pw;refine push (p'.modify (p'.size-1) λx=>(x.1,x.2.1,pw)) _ ⟨g1.sb.perm,g1.sb.kind,g1.sb.failed,?_⟩ ?_ ?_ ?_
  ·rw[<-g1.sb.pend]
  ·have e:(p'.modify (p'.size-1) λx=>(x.1,x.2.1,pw)).toList=p'.toList.dropLast++[(p'[p'.size-1].1,p'[p'.size-1].2.1,pw)]:=by
    have hl:p'.toList.dropLast.length=p'.size-1:=by rw[OS,IC]
    apply Mx;intro j;rw[Kr,Array.getElem?_modify];by_cases q:p'.size-1=j
    ·rw[Iw q,Jd (by omega),hl,<-q,Mk,LV p' (p'.size-1) (by omega)];rfl
    ·rw[IF q];by_cases q2:j<p'.size-1
     ·rw[Jb (by omega),List.getElem?_dropLast,IC,Iw q2,Kr]
     ·rw[Jd (by omega),hl,Jq (by simp;omega),Array.getElem?_eq_none (by omega)]
   rw[e];exact eD.mpr ⟨m,r1,r2,r3,r4,r5⟩
  ·intro i j hij hj;show K (arrOf st') (lz+i)<=K (arrOf st') (lz+j);rw[g1.from_ _ (by omega),g1.from_ _ (by omega)];exact hs i j hij hj
  ·rw[Array.size_modify];omega
def SJ(a₀:Array Keyed)(lz:Nat)(st:SortSt):Prop:=∃p,SB a₀ p st/\dh (arrOf st) 0 p.toList lz/\p.size<=lz
theorem vC(h0:IntKeys a₀)(hm:0<mr)(hl:lz<a₀.size)(hJ:SJ a₀ lz st)
  (h:∀n st',0<n->lz+n<=a₀.size->SJ a₀ (lz+n) st'->Q (.yield (none,lz+n)) st'):wpS (model prog w) A E s (kY a₀.size mr lz) Q st:=by
 obtain⟨p,hB,hR,hp⟩:=hJ;unfold kY;rw[IF (by omega)];refine II (v8 h0 (by omega) (by omega) hB λm st1 hB1 m1 m2 hs1 hl1=>?_);have r1:dh (arrOf st1) 0 p.toList lz:=fS (λj _ h2=>hl1 j h2) hR;dsimp only;by_cases q:m<mr
 ·rw[Iw q];refine II (Ng (KU ⟨rfl,?_⟩));refine II (uw h0 (by omega) (by omega) hB1 hs1 λst2 hB2 hs2 hl2=>?_);rw[IF (by decide)];exact xG (st0:=st2) h0 (by omega) (by omega) ⟨hB2,fS (λj _ h2=>hl2 j h2) r1,λ_ _=>rfl,IB _⟩ hs2 hp λp' st' b r f=>h _ st' (by omega) (by omega) ⟨p',b,r,f⟩
 ·rw[IF q];exact xG (st0:=st1) h0 (by omega) (by omega) ⟨hB1,r1,λ_ _=>rfl,IB _⟩ hs1 hp λp' st' b r f=>h _ st' (by omega) (by omega) ⟨p',b,r,f⟩
theorem n6:∀(f n r:Nat),2<=n->0<minRun' f n r
 |0,n,r,h=>by
  show 0<n+r;omega
 |f+1,n,r,h=>by
  rw[minRun'_succ];split
  ·omega
  ·exact n6 f _ _ (by omega)
theorem w8(h0:IntKeys a₀)(hB:SB a₀ #[] st)(h2:2<=a₀.size)
  (h:∀st',(arrOf st').Perm a₀->failedOf st'=none->SortedTo (arrOf st') a₀.size->Q () st'):wpS (model prog w) A E s sortRuns' Q st:=by
 rw[AD];refine II (MT ?_);rw[hB.size];refine II (LI (Kj (I:=λx(c:Option Unit×Nat) st'=>∃lz,c=(none,lz)/\lz<=a₀.size/\(x<=lz\/lz=a₀.size)/\SJ a₀ lz st')
  (Q:=λ(c:Option Unit×Nat) st'=>c=(none,a₀.size)/\SJ a₀ a₀.size st') ?step ?fin ⟨0,rfl,by omega,.inl (IB _),#[],hB,rfl,IB _⟩) ?post)
 case fin=>
  rintro c st' ⟨lz,rfl,h1,h3,hJ⟩;have:lz=a₀.size:=by omega
  subst this;exact⟨rfl,hJ⟩
 case step=>
  rintro x c st' _ hx ⟨lz,rfl,h1,h3,hJ⟩;dsimp only;by_cases q:lz=a₀.size
  ·subst q;unfold kY;rw[Iw (IB _)];exact IT ⟨rfl,hJ⟩
  ·exact vC h0 (n6 _ _ _ h2) (by omega) hJ λn st2 n0 n1 hJ2=>⟨lz+n,rfl,n1,.inl (by omega),hJ2⟩
 case post=>
  rintro c st' ⟨rfl,p,hB1,hR,hp⟩;dsimp only;unfold BB;refine II (LI (Kj (I:=λx(c:Option Unit×Unit) st2=>c=(none,())/\∃p,SR a₀ st' a₀.size (max 1 (a₀.size-x)) p st2)
   (Q:=λ(c:Option Unit×Unit) st2=>c=(none,())/\∃p,SR a₀ st' a₀.size 1 p st2) ?step2 ?fin2 ⟨rfl,p,hB1,hR,λ_ _=>rfl,by omega⟩) ?post2)
  case fin2=>
   rintro c st2 ⟨rfl,p,g⟩;exact⟨rfl,p,g.sb,g.runs,g.from_,by have:=g.few;omega⟩
  case step2=>
   rintro x c st2 _ hx ⟨rfl,p,g⟩;refine II (MT ?_);rw[g.sb.pend];by_cases q:p.size<=1
   ·rw[Iw q];exact IT ⟨rfl,p,g.sb,g.runs,g.from_,q⟩
   ·rw[IF q];have f1:=g.few;have key:∀i,i+1<p.size->wpS (model prog w) A E s (mergeAt' i) (λok st3=>ok=true/\∃p,SR a₀ st' a₀.size (max 1 (a₀.size-(x+1))) p st3) st2:=λi hi=>by
     obtain⟨m,hm⟩:∃m,max 1 (a₀.size-x)=m+1:=⟨max 1 (a₀.size-x)-1,by omega⟩;refine oG h0 (n:=m) (by rw[<-hm];exact g) (IB _) hi λp2 st3 g1 g2=>⟨rfl,p2,g1.sb,g1.runs,g1.from_,?_⟩;have:=g1.few;omega
    have lt:∀(c:Prop)[Decidable c],(if c then p.size-2-1 else p.size-2)+1<p.size:=λc _=>by split<;>omega
    refine II (LI (key _ (lt _)) ?_);rintro ok st3 ⟨rfl,p2,g2⟩;rw[IF (by decide)];exact IT ⟨rfl,p2,g2⟩
  case post2=>
   rintro c st2 ⟨rfl,p,g⟩;refine IT (h st2 g.sb.perm g.sb.failed ?_);have f1:=g.few;have hr:=g.runs;cases e:p.toList with
   |nil=>
    rw[e]at hr;have:0=a₀.size:=hr;omega
   |cons q r=>
    have hl:r=[]:=by
     have:=Jn MC e;rw[IC,Js]at this;exact Oa.mp (by omega)
    subst hl;rw[e]at hr;obtain⟨_,_,r3,r4⟩:=hr;have r4:0+q.2.1=a₀.size:=r4;intro i j hij hj;have:=r3 i j hij (by omega);rwa[J3,J3]at this
theorem nJ(ho:s.heap.get? a=some (seqObj "list" vs.toArray n))
  (hI:IntsAre vs ns) (h64:vs.length<=100000)
  (h:∀(ou:Array Value)(ns':List Int),IntsAre ou.toList ns'->ns'.Perm ns->ns'.Pairwise (·<=·)->P (.done (.ret .none)) { s with heap:=sortedHeap s.heap a vs ou }) :
  wpAny (model prog w) A (Builtin.«list.sort» ⟨[.ref a],[]⟩) P E s:=by
 rw[list_sort_plain];have ha:a<s.heap.objs.size:=ID ho;have hsl:vs.length<=sizeLine:=by rw[Kd];omega
 refine ar (M0 ho rfl ?_);refine ar (MK ho rfl ?_ (by simpa using hsl) (by simp));obtain⟨e1,ho1⟩:∃e1,(s.heap.update a (KO λ_=>#[])).get? a=some (seqObj "list" #[] e1):=⟨_,Qq ho (λ_=>#[])⟩;refine ar (PR ho1 rfl ?_);refine ar (Na ?_ (by simpa using hsl));refine ar (MJ ?_);refine Jl ?_;have ho6:(((s.heap.update a (KO λ_=>#[])).push (seqObj "tuple" vs.toArray 0)).push (seqObj "list" #[] 0)).get? a=some (seqObj "list" #[] e1):=by
  rw[PJ _ _ _ (by rw[size_push',N2];exact IZ (Lm ha)),PJ _ _ _ (by rw[N2];exact IZ ha)];exact ho1
 show wpAny (model prog w) A _ P E { s with heap:=((s.heap.update a (KO λ_=>#[])).push (seqObj "tuple" vs.toArray 0)).push (seqObj "list" #[] 0) };dsimp only;have hsz:vs.toArray.size=vs.length:=by simp
 have fin:∀st':SortSt,(arrOf st').Perm (pairsOf vs)->SortedTo (arrOf st') (pairsOf vs).size ->
   P (.done (.ret .none)) { s with heap:=sortedHeap s.heap a vs ((arrOf st').map (·.2)) }:=by
  intro st' hp hs;obtain⟨ns',h1,h2,h3⟩:=sorted_out hI hp hs;exact h _ ns' h1 h2 h3
 by_cases h2:vs.toArray.size<2
 ·rw[Iw h2,Iw h2];refine ar (C0 ?_);rw[StateT.run_pure];refine ar (C0 ?_);dsimp only;refine ar (PR ho6 rfl ?_);refine ar (MK ho6 rfl ?_ (hsz2:=by rw[OC];show(pairsOf vs).size<=_;rw[N4,Kd];omega));simp only[bne_self_eq_false,J1,Lh];refine C0 (fin (K9 general' (vs.toArray.zip vs.toArray) #[] 7 none) (Oj _) ?_);intro i j hij hj;have:i=j:=by rw[N4]at hj;omega
  subst this;exact Kf _
 ·rw[IF h2,IF h2];obtain⟨v₁,v₂,rest,rfl⟩:∃v₁ v₂ rest,vs=v₁::v₂::rest:=by
   match vs,hsz,h2 with
   | [],_,h2=>simp at h2
   | [_],_,h2=>simp at h2
   |v₁::v₂::rest,_,_=>exact⟨v₁,v₂,rest,rfl⟩
  rw[keyKind_ints hI];refine ar (C0 ?_);refine ar (JZ (w8 (a₀:=pairsOf (v₁::v₂::rest)) (st:=K9 oneType' ((v₁::v₂::rest).toArray.zip (v₁::v₂::rest).toArray) #[] 7 none)
   (Q:=λ_ st'=>(arrOf st').Perm (pairsOf (v₁::v₂::rest))/\failedOf st'=none/\SortedTo (arrOf st') (pairsOf (v₁::v₂::rest)).size)
   hI.intKeys ⟨Oj _,rfl,rfl,rfl⟩ (by rw[N4];simp) λst' a1 a2 a3=>⟨a1,a2,a3⟩) ?_ λ_ _ e=>e)
  rintro⟨⟨⟩,st'⟩ s' ⟨rfl,hp,hf,hs⟩;dsimp only;refine ar (PR ho6 rfl ?_);refine ar (MK ho6 rfl ?_ (hsz2:=by refine JS (K_ ((OC ..).trans (hp.size_eq.trans (N4 _)))) ?_;rw[Kd];omega));rw[hf];simp only[bne_self_eq_false,J1,Lh];exact C0 (fin st' hp hs)
end
theorem jm:lA 301:=λho hI h64 h=>nJ ho hI (by omega) h
theorem tX(e:bX x S=some (ns.map D.int))(h:ns.length<=300):iu 301 x S=.ok (.d (.lst ((bh ns).map D.int))) S:=by
 have hl:=fX ns;unfold iu;rw[e,Lx,show intsOf (ns.map D.int)=some ns by rw[rR (λx=>x) ns];simp];dsimp only;rw[Iw ⟨h,by omega⟩]
noncomputable def rp(g:XGs):XG:=λz τ S=>match z with
 | .pr d n=>g [.d d,.r n] τ S
 |z=>gTu 2 g z τ S
section
variable{X:Cx}{WE:WX}{pos:Pos}{gs:XGs}
theorem CC(h:RGs X WE es gs)(hc:X.calm=true:=by exact rfl)(hn:(assignEach es X.env).length=2:=by rfl)(hst:(assignEach es X.env).findIdx? (·.1)=none:=by rfl):RG X WE (.Tuple es k pos) (rp gs):=
 ⟨(xJ hc h.h hn hst).weak λv σ H Q ⟨μ,S,τ,z,hr,sr,r,p⟩=>by
  unfold rp at p;split at p
  ·rename_i d n;obtain⟨a,u,rfl,h,ru,hm⟩:=r;exact⟨_,_,rfl,SqT.of (aM h).2,rfl,μ,S,τ,[.d d,.r n],hr,sr,.cons (show aS X.K X.mg μ S H u (.d d)from ru) (.cons (show aS X.K X.mg μ S H (.ref (μ n)) (.r n)from⟨rfl,hm⟩) .nil),p⟩
  ·unfold gTu at p;split at p
   ·split at p
    ·rename_i xs _ hl;cases(show Rep (vh μ S H) v (.tup xs)from r)with
     |tup h rs=>exact⟨_,_,rfl,SqT.of (aM h).2,by rw[rs.length];exact hl,μ,S,τ,_,hr,sr,bx.oQ rs,p⟩
    ·exact p.elim
   ·exact p.elim⟩
end
theorem jc{n d k:Nat}:HT.sIx n d (some (k:Int))=min k n:=by
 unfold HT.sIx
 first |(dsimp only;split<;>omega) |(simp;omega) |omega
theorem gX:HT.sIx n d none=d:=rfl
theorem rm{xs:List D}{k:Nat}:cF xs none (some (k:Int))=xs.take k:=by
 unfold cF;rw[gX,jc,Kl,Pt];by_cases h:k<=xs.length
 ·rw[Lg h]
 ·rw[MO (by omega),Jf (IB _),Jf (by omega)]
theorem rO{xs:List D}{k:Nat}:cF xs (some (k:Int)) none=xs.drop k:=by
 unfold cF;rw[gX,jc];by_cases h:k<=xs.length
 ·rw[Lg h,Jf (by simp)]
 ·rw[MO (by omega),LJ (IB _),LJ (by omega)];simp
theorem yQ{xs:List D}{a b:Nat}:cF xs (some (a:Int)) (some (b:Int))=(xs.drop a).take (b-a):=by
 unfold cF;rw[jc,jc];by_cases h:a<=xs.length
 ·rw[Lg h];by_cases hb:b<=xs.length
  ·rw[Lg hb]
  ·rw[MO (by omega),Jf (by simp),Jf (by simp;omega)]
 ·rw[MO (show xs.length<=a by omega),LJ (IB _),LJ (by omega)];simp
theorem jY(ns:List Int):D.cq (ns.map D.int)=0:=by
 induction ns with
 |nil=>rfl
 |cons n ns ih=>simp[D.cq,D.depth,ih]
theorem ql:∀(xs ys:List Int),D.bS (xs.map D.int) (ys.map D.int)=decide (xs=ys)
 | [],[]=>by simp[D.bS]
 | [],y::ys=>by simp[D.bS]
 |x::xs,[]=>by simp[D.bS]
 |x::xs,y::ys=>by
  simp only[IM,D.bS,D.eqv,ql xs ys];by_cases h:x=y
  ·by_cases h2:xs=ys<;>simp[h,h2]
  ·simp[h]
theorem mX{xs:List D}{i:Nat}{z:D}(h:xs[i]?=some z):atI xs (i:Int)=some z:=by
 have hi:=(IJ.mp h).1;unfold atI;rw[vF (by omega) (by omega)];show xs[((i:Nat):Int).toNat]?=_;rw[Jh];exact h
noncomputable def zp1(r:R (List Vl)):R Its:=r.bind wW
theorem F_:iZp as τ S=zp1 (as τ S):=ak rfl
theorem Hl:zp1 (.ok [.d (.tup xs),.d (.tup ys)] S)=.ok ⟨hG xs ys,none⟩ S:=ak rfl
end L2
set_option maxHeartbeats 4000000
namespace My
open PySem L2
noncomputable def p6:XS:=(cy (A_ (xSl rV (aa 0) (bR (xC (.int 12))) (bR (xC (.int 63))))) (gTu 2 (gCo (gNm 2) (gCo (gNm 3) gN0))) (aK (xOp aI (xOp oIx (aa 1) (xOp oMod (aa 2) (xC (.int 12)))) (aa 3)) (gSb (aa 1) (xOp oMod (aa 2) (xC (.int 12))) eI)))
noncomputable def qt:XS:=(ay (aK (xN nr (ab (xSl rV (aa 0) bK (bR (xC (.int 12)))) aj)) (gNm 1))
 (ay p6
 (aR (xN mkM (ab (xFz (aa 1)) (ab (xC (.int 0)) (ab (xC (.int 0)) aj)))))))
noncomputable def j8:XF:=aW 1 4 qt
noncomputable def mG:XS:=(ay (xIf (ba (xOp oGe (aa 0) (xOp pL (xC (.int 10)) (xC (.int 18))))) (aR (aa 0)) aX)
 (ay (aK (xOp oMod (xOp aI (xOp aI (xOp fg (xOp oMod (aa 0) (xC (.int 1000000007))) (xC (.int 69069))) (xOp fg (aa 1) (xC (.int 40503)))) (xC (.int 977))) (xC (.int 2147483629))) (gNm 2))
 (ay (aK (xOp oMod (xOp aI (xOp aI (xOp fg (aa 2) (aa 2)) (xOp fg (aa 1) (xC (.int 7919)))) (xOp oMod (aa 0) (xC (.int 65537)))) (xC (.int 2147483587))) (gNm 3))
 (ay (aK (xOp oMod (xOp aI (xOp aI (xOp fg (aa 3) (aa 3)) (xOp fg (aa 2) (xC (.int 31)))) (xC (.int 5))) (xC (.int 2147483563))) (gNm 4))
 (aR (xOp aI (xOp fg (xOp aI (xOp fg (aa 2) (xC (.int 2147483659))) (aa 3)) (xC (.int 2147483693))) (aa 4)))))))
noncomputable def eV:XF:=aW 2 5 mG
noncomputable def pS:XS:=(ay (xIf (ba (xOp oLt (xOp oIx (aa 0) (xC (.int 2))) (aa 1))) (ay (aK (xOp oIx (aa 0) (xC (.int 1))) (gNm 2))
 (ay (aK (xC (.int 0)) (gNm 3))
 (ay (xIf (ba (xOp oLt (aa 2) (xN bD (ab (xOp oIx (aa 0) (xC (.int 0))) aj)))) (aK (xOp oIx (xOp oIx (aa 0) (xC (.int 0))) (aa 2)) (gNm 3)) (xIf (ba (xOp oGt (xN bD (ab (xOp oIx (aa 0) (xC (.int 0))) aj)) (xC (.int 0)))) (aK (xOp oMod (xOp oIx (xOp oIx (aa 0) (xC (.int 0))) (xOp oMod (xOp aI (xOp fg (aa 2) (xC (.int 5))) (xC (.int 3))) (xN bD (ab (xOp oIx (aa 0) (xC (.int 0))) aj)))) (xOp aI (xOp pL (xC (.int 10)) (xC (.int 17))) (aa 2))) (gNm 3)) aX))
 (ay (aK (xOp aI (aa 2) (xC (.int 1))) (gSb (aa 0) (xC (.int 1)) eI))
 (aK (aA eV (ab (aa 3) (ab (aa 2) aj))) (gSb (aa 0) (xC (.int 2)) eI)))))) aX)
 (ay (aK (xOp oMod (xOp oIx (aa 0) (xC (.int 2))) (aa 1)) (gNm 4))
 (ay (aK (xOp oDiv (xOp oIx (aa 0) (xC (.int 2))) (aa 1)) (gSb (aa 0) (xC (.int 2)) eI))
 (aR (aa 4)))))
noncomputable def aZ:XF:=aW 2 5 pS
noncomputable def mw:XS:=(cy (gW (ab (xOp aI (xC (.int 1)) (aA aZ (ab (aa 0) (ab (aa 1) aj)))) aj)) (gNm 4) (ay (aK (xOp aI (aa 2) (aA aZ (ab (aa 0) (ab (xC (.int 5)) aj)))) (gNm 5))
 (ay (xIf (ba (xOp oEq (aA aZ (ab (aa 0) (ab (xC (.int 6)) aj))) (xC (.int 0)))) (aK (xOp jM (aA aZ (ab (aa 0) (ab (xC (.int 19)) aj))) (xC (.int 9))) (gNm 5)) aX)
 (xIf (ba (xOp ip (aa 5) (aa 3))) (cK (xLm fi (aa 3) (aa 5))) aX))))
noncomputable def mJ:XS:=(ay (aK (xN mkM aj) (gNm 3))
 (ay mw
 (aR (xN cY (ab (xN l4 (ab (aa 3) aj)) aj)))))
noncomputable def eS:XF:=aW 3 6 mJ
noncomputable def nN:XE:=(xLC (gW (ab (xOp aI (xC (.int 1)) (aA aZ (ab (aa 0) (ab (aa 1) aj)))) aj)) 1 (gNm 0) (λ_ S=>.ok true S) (aA eS (ab (aa 1) (ab (aa 3) (ab (aa 4) aj)))))
noncomputable def nU:XS:=(ay (aK (xOp jM (aA aZ (ab (aa 0) (ab (xC (.int 15)) aj))) (xC (.int 9))) (gNm 3))
 (aR (xN cY (ab nN aj))))
noncomputable def iR:XF:=aW 3 4 nU
noncomputable def qe:XS:=(ay (aK (xC (.int 0)) (gSb (aa 0) (xC (.int 2)) eI))
 (aR (aa 0)))
noncomputable def jO:XF:=aW 1 1 qe
noncomputable def fc:XE:=(xLC (gW (ab (aa 3) aj)) 1 (gNm 0) (λ_ S=>.ok true S) (xLm tH (aa 3) (aA aZ (ab (aa 1) (ab (xN bD (ab (aa 3) aj)) aj)))))
noncomputable def iz:XS:=(ay (aK (xN (lrg Bb) (ab (xN bD (ab (aa 1) aj)) aj)) (gNm 2))
 (ay (aK (xOp aI (xC (.int 1)) (aA aZ (ab (aa 0) (ab (xN bD (ab (aa 2) aj)) aj)))) (gNm 3))
 (ay (xIf (ba (xOp oGt (aA aZ (ab (aa 0) (ab (xC (.int 3)) aj))) (xC (.int 0)))) (aK (xN bD (ab (aa 2) aj)) (gNm 3)) aX)
 (aR (xN cY (ab fc aj))))))
noncomputable def dQ:XF:=aW 2 4 iz
noncomputable def lg:XE:=(xLC (b6 (aa 3)) 1 (gNm 0) (λ_ S=>.ok true S) (xOp jM (aA aZ (ab (aa 1) (ab (xC (.int 7)) aj))) (xC (.int 3))))
noncomputable def kC:XS:=(cy (iZp (ab (aa 3) (ab (aa 4) aj))) (gTu 2 (gCo (gNm 6) (gCo (gNm 7) gN0))) (aK (xOp aI (aa 5) (xOp fg (aa 7) (xOp oIx (xOp oIx (aa 1) (aa 6)) (aA aZ (ab (aa 0) (ab (xN bD (ab (xOp oIx (aa 1) (aa 6)) aj)) aj)))))) (gNm 5)))
noncomputable def lC:XS:=(ay (aK (aA dQ (ab (aa 0) (ab (aa 1) aj))) (gNm 3))
 (ay (xIf (ba (xOp oEq (aa 2) (xC (.int 0)))) ck aX)
 (ay (xIf (ba (xOp oEq (aa 2) (xC (.int 1)))) ck aX)
 (ay (xIf (ba (xOp oEq (aa 2) (xC (.int 2)))) (ay (aK (xN cY (ab lg aj)) (gNm 4))
 (ay (aK (xC (.int 0)) (gNm 5))
 (ay kC
 (ay (aK (xN rP (ab (xUn cX (xC (.int 99))) (ab (xN oS (ab (xC (.int 99)) (ab (xOp aI (aa 5) (xOp oIx (xN mkL (ab (xC (.int 0)) (ab (xC (.int 0)) (ab (xC (.int 1)) (ab (xUn cX (xC (.int 4))) (ab (xC (.int 9)) aj)))))) (aA aZ (ab (aa 0) (ab (xC (.int 5)) aj))))) aj))) aj))) (gNm 8))
 (ay (aK (xN oS (ab (xC (.int 99)) (ab (xOp aI (aa 8) (xOp oIx (xN mkL (ab (xC (.int 0)) (ab (xC (.int 0)) (ab (xC (.int 1)) (ab (xC (.int 2)) (ab (xC (.int 7)) aj)))))) (aA aZ (ab (aa 0) (ab (xC (.int 5)) aj))))) aj))) (gNm 9))
 (ay (xIf (ba (xOp oEq (aA aZ (ab (aa 0) (ab (xC (.int 6)) aj))) (xC (.int 0)))) (ay (aK (xOp jM (aA aZ (ab (aa 0) (ab (xC (.int 199)) aj))) (xC (.int 99))) (gNm 8))
 (aK (xOp aI (aa 8) (aA aZ (ab (aa 0) (ab (xOp jM (xC (.int 100)) (aa 8)) aj)))) (gNm 9))) aX)
 (aR (xN mkT (ab (xC (.str "sum")) (ab (aa 3) (ab (aa 4) (ab (aa 8) (ab (aa 9) aj))))))))))))) aX)
 ck))))
noncomputable def fO:XF:=aW 3 11 lC
noncomputable def mx:XE:=(xLC (b6 (aa 1)) 1 (gNm 0) (λ_ S=>.ok true S) (aA eS (ab (aa 1) (ab (xC (.int 3)) (ab (aa 3) aj)))))
noncomputable def mq:XS:=(ay (aK (xOp jM (aA aZ (ab (aa 0) (ab (xC (.int 15)) aj))) (xC (.int 9))) (gNm 2))
 (aR (xN cY (ab mx aj))))
noncomputable def gE:XF:=aW 2 3 mq
noncomputable def ng:XE:=(xLC (b6 (aa 4)) 1 (gNm 0) (λ_ S=>.ok true S) (xOp aI (aa 4) (xOp fg (aa 0) (xOp oIx (xOp oIx (aa 2) (xC (.int 2))) (aa 3)))))
noncomputable def og:XS:=(ay (aK (xOp oIx (aa 0) (xOp oIx (xOp oIx (aa 1) (xC (.int 1))) (aa 2))) (gNm 4))
 (ay (xIf (ba (xOp oEq (xOp oIx (aa 1) (xC (.int 0))) (xC (.str "sum")))) (aR ng) aX)
 ck))
noncomputable def fZ:XF:=aW 4 5 og
noncomputable def ml:XS:=(cy (b6 (xOp oIx (aa 2) (xUn cX (xC (.int 1))))) (gNm 5) (cK (xLm nZ (aa 4) (aA fZ (ab (aa 0) (ab (aa 1) (ab (aa 3) (ab (aa 5) aj))))))))
noncomputable def mI:XS:=(cy (gW (ab (xN bD (ab (xOp oIx (aa 1) (xC (.int 1))) aj)) aj)) (gNm 3) (ay (aK (xN mkM aj) (gNm 4))
 (ay ml
 (cK (xLm fi (aa 2) (xUn (iu 301) (aa 4)))))))
noncomputable def mj:XE:=(xLC (b6 (aa 2)) 1 (gNm 0) (λ_ S=>.ok true S) (xN cY (ab (aa 0) aj)))
noncomputable def mH:XS:=(ay (aK (xN mkM (ab (xN mkL (ab (xC (.int 0)) aj)) aj)) (gNm 2))
 (ay mI
 (aR mj)))
noncomputable def eY:XF:=aW 2 6 mH
noncomputable def mC:XS:=(aR (dA (xUn (iV "int") (aa 0)) (qR (xUn (iV "bool") (aa 0)))))
noncomputable def gA:XF:=aW 1 1 mC
noncomputable def lj:XS:=(aR (dA (aA gA (ab (aa 0) aj)) (eh oLe oLe (aa 1) (aa 0) (aa 2))))
noncomputable def du:XF:=aW 3 3 lj
noncomputable def kA:XE:=(xLC (b6 (aa 0)) 1 (gNm 0) (λ_ S=>.ok true S) (aA du (ab (aa 0) (ab (aa 2) (ab (aa 3) aj)))))
noncomputable def kB:XS:=(aR (dA (xUn (iV "tuple") (aa 0)) (xN dX (ab kA aj))))
noncomputable def cW:XF:=aW 3 3 kB
noncomputable def gf:XE:=(xLC (Bj (ab (xC (.int 1)) (ab (xN bD (ab (aa 0) aj)) aj))) 1 (gNm 0) (λ_ S=>.ok true S) (xOp oLt (xOp oIx (aa 1) (xOp jM (aa 0) (xC (.int 1)))) (xOp oIx (aa 1) (aa 0))))
noncomputable def kn:XS:=(aR (xN dX (ab gf aj)))
noncomputable def dB:XF:=aW 1 1 kn
noncomputable def kc:XS:=(aR (dA (aA cW (ab (aa 0) (ab (xUn cX (xC (.int 9))) (ab (xC (.int 9)) aj)))) (dA (eh oLe oLe (xC (.int 1)) (xN bD (ab (aa 0) aj)) (xC (.int 4))) (aA dB (ab (aa 0) aj)))))
noncomputable def fw:XF:=aW 1 1 kc
noncomputable def mB:XE:=(xLC (b6 (aa 0)) 1 (gNm 0) (λ_ S=>.ok true S) (aA fw (ab (aa 0) aj)))
noncomputable def mF:XS:=(ay (xIf (xOr (eK (eE (xUn (iV "tuple") (aa 0)))) (eK (ba (eh oLe oLe (xC (.int 1)) (xN bD (ab (aa 0) aj)) (xC (.int 4)))))) (aR (xC (.bl false))) aX)
 (aR (xN dX (ab mB aj))))
noncomputable def gB:XF:=aW 1 1 mF
noncomputable def ku:XS:=(xIf (eK (eE (aA gB (ab (aa 0) aj)))) ck aX)
noncomputable def eT:XF:=aW 1 1 ku
noncomputable def kq:XS:=(aR (xOp oEq (xUn oLS (aa 0)) (xN bD (ab (aa 0) aj))))
noncomputable def fB:XF:=aW 1 1 kq
noncomputable def lB:XS:=(aR (dA (aA cW (ab (aa 0) (ab (xC (.int 0)) (ab (xC (.int 3)) aj)))) (dA (eh oLe oLe (xC (.int 1)) (xN bD (ab (aa 0) aj)) (xC (.int 4))) (aA fB (ab (aa 0) aj)))))
noncomputable def fN:XF:=aW 1 1 lB
noncomputable def nF:XS:=(aR (dA (aA du (ab (aa 0) (ab (aa 2) (ab (aa 3) aj)))) (dA (aA du (ab (aa 1) (ab (aa 2) (ab (aa 3) aj)))) (xOp oLe (aa 0) (aa 1)))))
noncomputable def iI:XF:=aW 4 4 nF
noncomputable def p7:XS:=(ay (xIf (xOr (ba (xOp oNe (xN bD (ab (aa 0) aj)) (xC (.int 5)))) (eK (eE (aA cW (ab (xOp oIx (aa 0) (xC (.int 2))) (ab (xUn cX (xC (.int 3))) (ab (xC (.int 3)) aj))))))) (aR (xC (.bl false))) aX)
 (aR (dA (xOp oEq (xN bD (ab (xOp oIx (aa 0) (xC (.int 2))) aj)) (xN bD (ab (xOp oIx (aa 0) (xC (.int 1))) aj))) (aA iI (ab (xOp oIx (aa 0) (xC (.int 3))) (ab (xOp oIx (aa 0) (xC (.int 4))) (ab (xUn cX (xC (.int 99))) (ab (xC (.int 99)) aj))))))))
noncomputable def jI:XF:=aW 1 1 p7
noncomputable def gj:XS:=(ay (aK (xOp oIx (aa 0) (xC (.int 0))) (gNm 1))
 (ay (xIf (ba (xOp oEq (aa 1) (xC (.str "unlike")))) ck aX)
 (ay (xIf (ba (xOp oEq (aa 1) (xC (.str "many")))) ck aX)
 (ay (xIf (ba (xOp oEq (aa 1) (xC (.str "sum")))) (aR (aA jI (ab (aa 0) aj))) aX)
 ck))))
noncomputable def df:XF:=aW 1 2 gj
noncomputable def nX:XS:=(ay (xIf (xOr (eK (eE (xUn (iV "tuple") (aa 0)))) (ba (xOp oLt (xN bD (ab (aa 0) aj)) (xC (.int 2))))) (aR (xC (.bl false))) aX)
 (aR (dA (aA fN (ab (xOp oIx (aa 0) (xC (.int 1))) aj)) (aA df (ab (aa 0) aj)))))
noncomputable def iG:XF:=aW 1 1 nX
noncomputable def kh:XE:=(xLC (b6 (xOp oIx (aa 1) (xC (.int 1)))) 1 (gNm 0) (λ_ S=>.ok true S) (xOp oLt (aa 0) (xN bD (ab (aa 1) aj))))
noncomputable def ki:XS:=(aR (dA (aA iG (ab (aa 1) aj)) (xN dX (ab kh aj))))
noncomputable def eR:XF:=aW 2 2 ki
noncomputable def kP:XS:=(xIf (eK (eE (aA eR (ab (aa 0) (ab (aa 1) aj))))) ck aX)
noncomputable def fQ:XF:=aW 3 3 kP
noncomputable def va:XS:=(ay (cK (aA eT (ab (aa 0) aj)))
 (cK (aA fQ (ab (aa 0) (ab (aa 1) (ab (xC (.int 0)) aj))))))
noncomputable def lN:XF:=aW 2 2 va
noncomputable def lH:XS:=(ay (cK (aA lN (ab (aa 0) (ab (aa 1) aj))))
 (xIf (ba (xOp oNe (xOp oIx (aa 1) (xC (.int 0))) (aa 2))) ck aX))
noncomputable def ef:XF:=aW 3 3 lH
noncomputable def i_:XS:=(aR (xN mkL (ab (xOp aI (aa 2) (xOp fg (aa 3) (xOp oIx (xOp oIx (aa 0) (xC (.int 2))) (aa 1)))) aj)))
noncomputable def cn:XF:=aW 4 4 i_
noncomputable def jD:XS:=(cy (b6 (fq [("sums_onward",cn)] 4 (ab (aa 1) (ab (aa 2) (ab (aa 6) (ab (aa 7) aj)))))) (gNm 8) (rh (aa 5) (aa 8) (xOp aI (xOp oDx (aa 3) (aa 6)) (xN mkT (ab (aa 7) aj)))))
noncomputable def jL:XS:=(cy (b6 (xOp oIx (aa 0) (xOp oIx (xOp oIx (aa 1) (xC (.int 1))) (aa 2)))) (gNm 7) jD)
noncomputable def nD:XS:=(cy (rW (aa 3)) (gNm 6) jL)
noncomputable def ni:XS:=(ay (aK vD (gNm 5))
 (ay nD
 (aR (xFz (aa 5)))))
noncomputable def iL:XF:=aW 5 9 ni
noncomputable def iS:XS:=(aR (eh oLe oLe (xOp oIx (aa 0) (xC (.int 3))) (aa 1) (xOp oIx (aa 0) (xC (.int 4)))))
noncomputable def bQ:XF:=aW 2 2 iS
noncomputable def fz:XE:=(xLC (Be (aa 0)) 2 (gTu 2 (gCo (gNm 0) (gCo (gNm 1) gN0))) (λ_ S=>.ok true S) (qU (aa 3) (aa 0) (xOp oIx (aa 1) (xC (.int 0)))))
noncomputable def iF:XS:=(aR (xN cY (ab fz aj)))
noncomputable def dM:XF:=aW 2 2 iF
noncomputable def fP:XS:=(cy (gW (ab (xN bD (ab (xOp oIx (aa 1) (xC (.int 1))) aj)) aj)) (gNm 6) (ay (aK (aA iL (ab (aa 0) (ab (aa 1) (ab (aa 6) (ab (aa 4) (ab (aa 2) aj)))))) (gNm 4))
 (cK (xLm fi (aa 5) (xN cY (ab (xN (k8 301) (ab (aa 4) aj)) aj))))))
noncomputable def eo:XS:=(cy (rW (aa 4)) (gNm 7) (xIf (eE (fq [("is_sum_asked",bQ)] 3 (ab (aa 1) (ab (aa 7) aj)))) (aR (xN mkP (ab (xC (.str "can")) (ab (aA dM (ab (aa 0) (ab (xFz (xN fDZ (ab (xOp oIx (aa 1) (xC (.int 1))) (ab (xOp oDx (aa 4) (aa 7)) aj)))) aj))) aj)))) aX))
noncomputable def mn:XS:=(ay (aK (xFz (rj [((xC (.int 0)),(xN mkT aj))])) (gNm 4))
 (ay (aK (xN mkM (ab (xN mkT (ab (xC (.int 0)) aj)) aj)) (gNm 5))
 (ay fP
 (ay eo
 (aR (xN mkP (ab (xC (.str "no")) (ab (aa 5) aj))))))))
noncomputable def dc:XF:=aW 4 8 mn
noncomputable def nv:XS:=(ay (cK (aA ef (ab (aa 0) (ab (aa 1) (ab (xC (.str "sum")) aj)))))
 (aR (aA dc (ab (aa 0) (ab (aa 1) (ab (xFn "sums_onward") (ab (xFn "is_sum_asked") aj)))))))
noncomputable def eN:XF:=aW 2 2 nv
noncomputable def iq:XS:=(ay (aK (aA aZ (ab (aa 0) (ab (xN bD (ab (aa 1) aj)) aj))) (gNm 2))
 (ay (aK (xOp oIx (aa 1) (aa 2)) (gNm 3))
 (ay (aK (xN cY (ab (xUn (iu 301) (xOp aI (aa 3) (xN mkT (ab (xOp jM (aA aZ (ab (aa 0) (ab (xC (.int 9)) aj))) (xC (.int 4))) aj)))) aj)) (gNm 4))
 (ay (aK (xN cY (ab (xUn (iu 301) (xOp aI (aa 3) (xN mkT (ab (xOp pL (xC (.int 10)) (xC (.int 20))) (ab (xUn cX (xOp pL (xC (.int 10)) (xC (.int 20)))) aj))))) aj)) (gNm 5))
 (ay (aK (xN mkL (ab (xSl oSl (aa 3) (bR (xC (.int 1))) bK) (ab (xSl oSl (aa 3) bK (bR (xUn cX (xC (.int 1))))) (ab (xOp pv (aa 3) (xUn cX (xC (.int 1)))) (ab (xOp aI (aa 3) (xSl oSl (aa 3) (bR (xUn cX (xC (.int 1)))) bK)) (ab (aa 4) (ab (aa 5) (ab (xN mkT aj) (ab (aa 3) aj))))))))) (gNm 6))
 (ay (aK (aA aZ (ab (aa 0) (ab (xOp aI (xN bD (ab (aa 3) aj)) (xC (.int 1))) aj))) (gNm 7))
 (ay (aK (aA aZ (ab (aa 0) (ab (xOp aI (xN bD (ab (aa 3) aj)) (xC (.int 1))) aj))) (gNm 8))
 (ay (aK (xOp aI (aa 6) (xN mkL (ab (xOp aI (xOp aI (xSl oSl (aa 3) bK (bR (aa 8))) (xSl oSl (aa 3) (bR (aa 7)) (bR (xOp aI (aa 7) (xC (.int 1)))))) (xSl oSl (aa 3) (bR (aa 8)) bK)) (ab (xOp aI (xOp aI (xSl oSl (aa 3) bK (bR (aa 7))) (xOp pv (xSl oSl (aa 3) (bR (aa 7)) (bR (xOp aI (aa 7) (xC (.int 2))))) (xUn cX (xC (.int 1))))) (xSl oSl (aa 3) (bR (xOp aI (aa 7) (xC (.int 2)))) bK)) aj)))) (gNm 6))
 (ay (aK (aA aZ (ab (aa 0) (ab (xC (.int 13)) aj))) (gNm 9))
 (ay (xIf (ba (xOp oEq (aa 9) (xC (.int 10)))) (aR (xOp aI (xSl oSl (aa 1) bK (bR (aa 2))) (xSl oSl (aa 1) (bR (xOp aI (aa 2) (xC (.int 1)))) bK))) aX)
 (ay (xIf (ba (xOp oEq (aa 9) (xC (.int 11)))) (aR (xOp aI (xOp aI (xSl oSl (aa 1) bK (bR (aa 2))) (xN mkL (ab (aa 3) aj))) (xSl oSl (aa 1) (bR (aa 2)) bK))) aX)
 (ay (xIf (ba (xOp oEq (aa 9) (xC (.int 12)))) (aR (xOp aI (xOp aI (xSl oSl (aa 1) bK (bR (aa 2))) (xN mkL (ab (xN fTR (ab (xUn cX (xC (.int 30))) (ab (xC (.int 31)) aj))) aj))) (xSl oSl (aa 1) (bR (xOp aI (aa 2) (xC (.int 1)))) bK))) aX)
 (aR (xOp aI (xOp aI (xSl oSl (aa 1) bK (bR (aa 2))) (xN mkL (ab (xOp oIx (aa 6) (aa 9)) aj))) (xSl oSl (aa 1) (bR (xOp aI (aa 2) (xC (.int 1)))) bK)))))))))))))))
noncomputable def bC:XF:=aW 2 10 iq
noncomputable def oh:XS:=(aR (xOp oEq (xN jS (ab (aa 0) aj)) (xUn (iu 301) (aa 0))))
noncomputable def iC:XF:=aW 1 1 oh
noncomputable def gi:XE:=(xLC (b6 (aa 2)) 1 (gNm 0) (λ_ S=>.ok true S) (aA iC (ab (aa 0) aj)))
noncomputable def gr:XE:=(xLC (b6 (aA fZ (ab (aa 0) (ab (aa 1) (ab (aa 3) (ab (aa 4) aj)))))) 1 (gNm 0) (λ_ S=>.ok true S) (xOp oIn (aa 0) (xOp oIx (aa 3) (xOp aI (aa 4) (xC (.int 1))))))
noncomputable def gh:XS:=(cy (b6 (xOp oIx (aa 2) (aa 3))) (gNm 4) (xIf (eK (eE (xN dX (ab gr aj)))) (aR (xC (.bl false))) aX))
noncomputable def gg:XS:=(cy (gW (ab (xN bD (ab (xOp oIx (aa 1) (xC (.int 1))) aj)) aj)) (gNm 3) gh)
noncomputable def gq:XE:=(xLC (b6 (xOp oIx (aa 2) (xUn cX (xC (.int 1))))) 1 (gNm 0) (ba (eh oLe oLe (xOp oIx (aa 2) (xC (.int 3))) (aa 0) (xOp oIx (aa 2) (xC (.int 4))))) (aa 0))
noncomputable def gp:XS:=(ay (xIf (xOr (ba (xOp oNe (xN bD (ab (aa 2) aj)) (xOp aI (xN bD (ab (xOp oIx (aa 1) (xC (.int 1))) aj)) (xC (.int 1))))) (ba (xOp ip (xC (.int 0)) (xOp oIx (aa 2) (xC (.int 0)))))) (aR (xC (.bl false))) aX)
 (ay (xIf (eK (eE (xN dX (ab gi aj)))) (aR (xC (.bl false))) aX)
 (ay gg
 (ay (xIf (ba (xOp oEq (xOp oIx (aa 1) (xC (.int 0))) (xC (.str "sum")))) (aR (xOp oEq gq (xN mkL aj))) aX)
 ck))))
noncomputable def cG:XF:=aW 3 5 gp
noncomputable def iP:XE:=(xLC (b6 (fq [("sums_onward",cn)] 4 (ab (aa 1) (ab (aa 2) (ab (aa 5) (ab (aa 6) aj)))))) 1 (gNm 0) (λ_ S=>.ok true S) (xOp oIn (aa 0) (xOp oIx (aa 4) (xOp aI (aa 3) (xC (.int 1))))))
noncomputable def iM:XS:=(cy (b6 (xOp oIx (aa 0) (xOp oIx (xOp oIx (aa 1) (xC (.int 1))) (aa 2)))) (gNm 6) (xIf (eK (eE (xN dX (ab iP aj)))) (aR (xC (.bl false))) aX))
noncomputable def iQ:XS:=(cy (b6 (xOp oIx (aa 3) (aa 2))) (gNm 5) iM)
noncomputable def iA:XS:=(ay iQ
 (aR (xC (.bl true))))
noncomputable def dP:XF:=aW 5 7 iA
noncomputable def kj:XE:=(xLC (b6 (aa 2)) 1 (gNm 0) (λ_ S=>.ok true S) (aA dB (ab (aa 0) aj)))
noncomputable def kf:XE:=(xLC (gW (ab (aa 5) aj)) 1 (gNm 0) (λ_ S=>.ok true S) (aA dP (ab (aa 1) (ab (aa 2) (ab (aa 0) (ab (aa 3) (ab (aa 4) aj)))))))
noncomputable def kg:XE:=(xLC (b6 (xOp oIx (aa 2) (aa 5))) 1 (gNm 0) (λ_ S=>.ok true S) (fq [("is_sum_asked",bQ)] 5 (ab (aa 2) (ab (aa 0) aj))))
noncomputable def j_:XS:=(ay (aK (xN bD (ab (xOp oIx (aa 1) (xC (.int 1))) aj)) (gNm 5))
 (ay (xIf (xOr (eK (eE (xUn (iV "list") (aa 2)))) (ba (xOp oNe (xN bD (ab (aa 2) aj)) (xOp aI (aa 5) (xC (.int 1)))))) (aR (xC (.bl false))) aX)
 (ay (xIf (xOr (eK (eE (xN dX (ab kj aj)))) (ba (xOp ip (xC (.int 0)) (xOp oIx (aa 2) (xC (.int 0)))))) (aR (xC (.bl false))) aX)
 (ay (xIf (eK (eE (xN dX (ab kf aj)))) (aR (xC (.bl false))) aX)
 (aR (qR (xN pN (ab kg aj))))))))
noncomputable def fh:XF:=aW 5 6 j_
noncomputable def lG:XS:=(ay (cK (aA ef (ab (aa 0) (ab (aa 1) (ab (xC (.str "sum")) aj)))))
 (aR (aA fh (ab (aa 0) (ab (aa 1) (ab (aa 2) (ab (xFn "sums_onward") (ab (xFn "is_sum_asked") aj))))))))
noncomputable def dr:XF:=aW 3 3 lG
noncomputable def mm:XS:=(ay (cK (aA lN (ab (aa 0) (ab (aa 1) aj))))
 (ay (aK (xOp oIx (aa 1) (xC (.int 0))) (gNm 3))
 (ay (xIf (ba (xOp oEq (aa 3) (xC (.str "unlike")))) ck aX)
 (ay (xIf (ba (xOp oEq (aa 3) (xC (.str "many")))) ck aX)
 (ay (xIf (ba (xOp oEq (aa 3) (xC (.str "sum")))) (aR (aA dr (ab (aa 0) (ab (aa 1) (ab (aa 2) aj))))) aX)
 (ay (xIf (ba (xOp oEq (aa 3) (xC (.str "row")))) ck aX)
 ck))))))
noncomputable def fj:XF:=aW 3 4 mm
noncomputable def kR:XS:=(cy (gW (ab (xC (.int 6)) aj)) (gNm 15) (cK (xLm fi (aa 13) (aA bC (ab (aa 1) (ab (aa 12) aj))))))
noncomputable def tI:XS:=(cy (b6 (xN mkL (ab (aA dr (ab (aa 17) (ab (aa 18) (ab (aa 19) aj)))) (ab (aA fj (ab (aa 17) (ab (aa 18) (ab (aa 19) aj)))) aj)))) (gNm 21) (xIf (xOr (eK (eE (xUn (iV "bool") (aa 21)))) (xOr (ba (xOp oNe (aa 21) (aa 20))) (ba (xOp oNe (aa 19) (aa 16))))) (aR (xC (.bl false))) aX))
noncomputable def sD:XS:=(cy (b6 (xN mkL (ab (xN mkT (ab (aa 3) (ab (aa 4) aj))) (ab (xN mkT (ab (aa 5) (ab (aa 4) aj))) (ab (xN mkT (ab (aa 3) (ab (aa 11) aj))) aj))))) (gTu 2 (gCo (gNm 17) (gCo (gNm 18) gN0))) (ay (aK (xN jS (ab (aa 16) aj)) (gNm 19))
 (ay (aK (aA cG (ab (aa 17) (ab (aa 18) (ab (aa 16) aj)))) (gNm 20))
 tI)))
noncomputable def kX:XS:=(cy (b6 (aa 13)) (gNm 16) sD)
noncomputable def ye:XS:=(cy (gW (ab (xC (.int 6)) aj)) (gNm 2) (ay (aK (aA iR (ab (aA jO (ab (aa 1) aj)) (ab (xC (.int 4)) (ab (xOp oIx (xN mkL (ab (xC (.int 2)) (ab (xC (.int 3)) (ab (xC (.int 1)) aj)))) (xOp oMod (aa 2) (xC (.int 3)))) aj)))) (gNm 3))
 (ay (aK (aA fO (ab (aa 1) (ab (aa 3) (ab (xC (.int 2)) aj)))) (gNm 4))
 (ay (aK (aA gE (ab (aa 1) (ab (aa 3) aj))) (gNm 5))
 (ay (aK (aa 4) (gTu 5 (gCo (gNm 6) (gCo (gNm 7) (gCo (gNm 8) (gCo (gNm 9) (gCo (gNm 10) gN0)))))))
 (ay (aK (xN mkT (ab (aa 6) (ab (aa 7) (ab (aa 8) (ab (xN rP (ab (xUn cX (xC (.int 99))) (ab (xOp jM (aa 9) (xC (.int 2))) aj))) (ab (xN oS (ab (xC (.int 99)) (ab (xOp aI (aa 10) (xC (.int 2))) aj))) aj)))))) (gNm 11))
 (ay (aK (aA eY (ab (aa 3) (ab (aa 4) aj))) (gNm 12))
 (ay (aK (xN mkM (ab (aa 12) (ab (xN mkL aj) (ab (xN mkL (ab (xN mkT (ab (xC (.int 0)) aj)) aj)) aj)))) (gNm 13))
 (ay (aK (aA eN (ab (aa 3) (ab (aa 4) aj))) (rp (gCo (gNm 6) (gCo (gNm 14) gN0))))
 (ay (xIf (ba (xOp oEq (aa 6) (xC (.str "no")))) (cK (xLm fi (aa 13) (xFz (aa 14)))) aX)
 (ay kR
 (ay (cK (xLm fi (aa 13) (aA bC (ab (aa 1) (ab (xOp oIx (aa 13) (xUn cX (xC (.int 1)))) aj)))))
 kX))))))))))))
noncomputable def xI:XS:=(ay (aK (aA j8 (ab (aa 0) aj)) (gNm 1))
 (ay ye
 (aR (xC (.bl true)))))
noncomputable def wH:XF:=aW 1 22 xI
local macro_rules | `(tactic| walk_at "mx") => do
 let a:=("F_ Hl BV BX Ek F9 Gz DP Ed Hr Gy AR Hd Gs EJ Fb Co HG FR Gp GH Gj Hv Hh FK FH CJ Dm De Dp yk vc BW Bv HQ Im vn Fy qZ Gb Hu yO Cb Il Gh F5 F7 F6 GI G3 G2 BE BP pH sg jx Hn CY BJ Eg GC BZ Ep r_ tM lZ oq eX Gq G1 G0 Gi BA Bz BF v9 oK qY lq yH Ey Fq Hs DJ Ei E5 Gu Ie EA Hy GP Gd Hb Gr Hx F1 sH yD Eh E4 Cn wy wL l_ GZ F4 BU FN EG DF DV EY EK Ew DH Fh FW Fx E6 FG mS su Aa Ab B4 xT".splitOn " ").toArray.map λs=>RQ (Lean.Name.mkStr `L2 s)
 let b:=("List.getElem?_cons_zero List.getElem?_cons_succ List.set_cons_zero List.set_cons_succ List.map_cons List.map_nil List.length_cons List.length_nil List.cons_append List.nil_append List.replicate_succ List.replicate_zero List.append_nil Nat.reduceSub Nat.reduceAdd Nat.zero_add Bool.not_true Bool.not_false decide_true decide_false beq_self_eq_true if_true if_false Int.reduceNeg".splitOn " ").toArray.map λs=>RQ s.toName
 `(tactic| simp only [$[$a:term],*,$[$b:term],*,↓reduceIte])
local macro_rules | `(tactic| walk_at "mo") => `(tactic| first
  |rw[rf (by first |decide |omega)]
  |rw[qT (by first |exact qX (by decide) (by decide) |exact Or.inl ⟨by omega,by omega⟩ |exact Or.inr ⟨by omega,by omega⟩)]
  |rw[Hj ⟨by first |decide |omega,by first |decide |omega⟩]
  |rw[rg ⟨by decide,by decide,by decide⟩]
  |rw[tu (by first |(simp only[Js,KI,IA];omega) |(simp;omega))]
  |rw[yB (by first |(simp only[Js,KI,IA];omega) |(simp;omega))]
  |rw[jH (by omega)]
  |rw[B6 (by omega)])
local macro_rules | `(tactic| walk_at "mm") => `(tactic| repeat (first | walk_at "mx" | walk_at "mo"))
local macro_rules | `(tactic| erw [$rs,*]) => `(tactic| (rw [$rs,*]; walk_at "mx"))
local macro_rules | `(tactic| simp? [$ls,*]) => `(tactic| repeat (first | walk_at "mx" | simp only [J1, $ls,*]))
noncomputable def dy(cells:List Int)(at' pool:Int):Ob:=.lst [.lst (cells.map D.int),.int at',.int pool]
def Pen(o:Ob):Prop:=∃cells at' pool,o=dy cells at' pool/\cells.length<=63/\0<=at'/\0<=pool
theorem aO:leave S (.ok (.rt (.d x),τ) S)=.ok (.d x) S:=by rw[mR,jq,JW]
theorem cO:leave S (.ok (.rt (.d x),τ) S')=.ok (.d x) (S'.take S.length):=by rw[mR,jq]
theorem xu(cell at':Int)(h:0<=at')(S:Sto):∃r:Int,0<=r/\eV [.d (.int cell),.d (.int at')] S=.ok (.d (.int r)) S:=by
 unfold eV;rw[dD];unfold mG;walk_at"mx";erw[rg ⟨by decide,by decide,by decide⟩];by_cases hc:(10:Int) ^ (18:Int).toNat<=cell
 ·rw[IV hc];refine⟨cell,JU (by decide) hc,?_⟩;walk_at"mx";exact aO
 ·rw[IW hc];walk_at"mm";generalize hone:(cell % 1000000007*69069+at'*40503+977) % 2147483629=one;have o1:0<=one:=by rw[<-hone];exact LF _ (by decide)
  have o2:one<2147483629:=by rw[<-hone];exact Lb _ (by decide)
  walk_at"mm";generalize htwo:(one*one+at'*7919+cell % 65537) % 2147483587=two;have o3:0<=two:=by rw[<-htwo];exact LF _ (by decide)
  have o4:two<2147483587:=by rw[<-htwo];exact Lb _ (by decide)
  walk_at"mm";generalize hthree:(two*two+one*31+5) % 2147483563=three;have o5:0<=three:=by rw[<-hthree];exact LF _ (by decide)
  walk_at"mm";exact⟨(one*2147483659+two)*2147483693+three,by omega,aO⟩
theorem nI{R:Sto}:oIx (.r 0) (.d (.int 0)) (dy cells at' pool::R)=.ok (.d (.lst (cells.map D.int))) (dy cells at' pool::R):=lU rfl rfl
theorem GU{R:Sto}:oIx (.r 0) (.d (.int 1)) (dy cells at' pool::R)=.ok (.d (.int at')) (dy cells at' pool::R):=lU rfl rfl
theorem vW{R:Sto}:oIx (.r 0) (.d (.int 2)) (dy cells at' pool::R)=.ok (.d (.int pool)) (dy cells at' pool::R):=lU rfl rfl
theorem FA{R:Sto}:eI (.r 0) (.d (.int 1)) (.d (.int v)) (dy cells at' pool::R)=.ok () (dy cells v pool::R):=ak rfl
theorem si{R:Sto}:eI (.r 0) (.d (.int 2)) (.d (.int v)) (dy cells at' pool::R)=.ok () (dy cells at' v::R):=ak rfl
theorem fG{ns:List Int}{i:Int}(h0:0<=i)(h1:i<ns.length):∃n,atI (ns.map D.int) i=some (.int n)/\n∈ns:=by
 have hk:i.toNat<ns.length:=by omega
 refine⟨ns[i.toNat],?_,JE hk⟩;unfold atI;rw[vF h0 (by simpa using h1)];show(ns.map D.int)[i.toNat]?=_;rw[IU,H0 hk];rfl
theorem cS{R:Sto}:(o'::R).take (o::R).length=o'::R:=by rw[show(o::R).length=(o'::R).length from rfl,JW]
theorem bu{o:Ob}{R:Sto}{m:Int}(hp:Pen o)(h0:0<m)(h1:m<1073741824):∃(k:Int)(o':Ob),0<=k/\k<m/\Pen o'/\aZ [.r 0,.d (.int m)] (o::R)=.ok (.d (.int k)) (o'::R):=by
 obtain⟨cells,at',pool,rfl,hl,ha,hq⟩:=hp;unfold aZ;rw[dD];unfold pS;have tail:∀(at2 pool2:Int)(o2 o3:Option Vl),0<=at2->0<=pool2->∃(k:Int)(o':Ob),0<=k/\k<m/\Pen o' /\
   leave (dy cells at' pool::R) ((ay (aK (xOp oMod (xOp oIx (aa 0) (xC (.int 2))) (aa 1)) (gNm 4)) (ay (aK (xOp oDiv (xOp oIx (aa 0) (xC (.int 2))) (aa 1)) (gSb (aa 0) (xC (.int 2)) eI)) (aR (aa 4)))) [some (.r 0),some (.d (.int m)),o2,o3,none] (dy cells at2 pool2::R))=.ok (.d (.int k)) (o'::R):=by
  intro at2 pool2 o2 o3 g1 g2;walk_at"mx";rw[vW];walk_at"mm";rw[vW];walk_at"mm";rw[si];walk_at"mm";exact⟨pool2 % m,_,LF _ (by omega),Lb _ h0,⟨cells,at2,pool2 / m,rfl,hl,g1,Int.ediv_nonneg g2 (by omega)⟩,by rw[cO,cS]⟩
 erw[sg,BZ];rw[vW];walk_at"mm";by_cases hc:pool<m
 ·erw[IV hc];rw[GU];walk_at"mm";rw[nI];walk_at"mm";have fin:∀cell:Int,∃(k:Int)(o':Ob),0<=k/\k<m/\Pen o'/\leave (dy cells at' pool::R) (sq1 ((ay (aK (xOp aI (aa 2) (xC (.int 1))) (gSb (aa 0) (xC (.int 1)) eI)) (aK (aA eV (ab (aa 3) (ab (aa 2) aj))) (gSb (aa 0) (xC (.int 2)) eI))) [some (.r 0),some (.d (.int m)),some (.d (.int at')),some (.d (.int cell)),none] (dy cells at' pool::R))
    (ay (aK (xOp oMod (xOp oIx (aa 0) (xC (.int 2))) (aa 1)) (gNm 4)) (ay (aK (xOp oDiv (xOp oIx (aa 0) (xC (.int 2))) (aa 1)) (gSb (aa 0) (xC (.int 2)) eI)) (aR (aa 4)))))=.ok (.d (.int k)) (o'::R):=by
   intro cell;erw[sg,tM];rw[FA];rw[v9,oq,jx,tM,vn];obtain⟨r,hr,er⟩:=xu cell at' ha (dy cells (at'+1) pool::R);simp only[vc,yk,BX,BV,BW,Bv,Fy,er,qZ,lZ,BA,Bz,BF,Ek,si,v9,oq,jx];exact tail (at'+1) r _ _ (by omega) hr
  by_cases hin:at'<((cells.map D.int).length:Int)
  ·erw[IV hin];rw[nI];obtain⟨n,en,_⟩:=fG (ns:=cells) ha (by simpa using hin);walk_at"mx";rw[iH en];rw[lZ,eX,oq,jx];exact fin n
  ·erw[IW hin];rw[nI];walk_at"mm";by_cases hpos:(0:Int)<((cells.map D.int).length:Int)
   ·erw[IV hpos];rw[nI];walk_at"mm";rw[nI];walk_at"mm";obtain⟨n,en,_⟩:=fG (ns:=cells) (i:=(at'*5+3) % ((cells.map D.int).length:Int)) (LF _ (by omega)) (by have:=Lb (at'*5+3) hpos;simpa using this);erw[iH en];erw[rg ⟨by decide,by decide,by decide⟩];rw[rf (by have:(0:Int)<10 ^ (17:Int).toNat:=(by decide);omega)];rw[lZ,eX,oq,jx];exact fin _
   ·rw[IW hpos];rw[r_,pH,jx];exact fin 0
 ·rw[IW hc];rw[r_,pH,jx];exact tail at' pool _ _ ha hq
structure GoodW(m:Int)(ws:List Int):Prop where
 rise:ws.Pairwise (· <·)
 lim:∀w∈ws,-9<=w/\w<=9
 pos:1<=ws.length
 le:(ws.length:Int)<=m
noncomputable def af(ns:List Int):D:=.tup (ns.map D.int)
theorem pU{R:Sto}(hp:Pen o)(h0:0<most)(h1:most<=50)(n0:-9<=near)(n1:near<=5):∃(ws:List Int)(o':Ob),GoodW most ws/\Pen o'/\eS [.r 0,.d (.int most),.d (.int near)] (o::R)=.ok (.d (af ws)) (o'::R):=by
 unfold eS;rw[d8];unfold mJ;walk_at"mx";obtain⟨k,o1,k0,k1,hp1,e1⟩:=bu (R:=R++[.lst []]) hp h0 (by omega);obtain⟨τ',S',e2,o2,ws,x4,x5,hp2,rfl,rfl,nd,lim,le,pos⟩:=dj (show _=mw [some (.r 0),some (.d (.int most)),some (.d (.int near)),some (.r (R.length+1)),none,none] (o::(R++[.lst []]))from rfl)
  (S1:=o1::(R++[.lst []])) (gd:=none) (items:=(IP (1+k).toNat).map λi=>Vl.d (.int (i:Nat))) (by walk_at"mx";rw[e1];walk_at"mm")
  (λi τ S=>∃(o':Ob)(ws:List Int)(x4 x5:Option Vl),Pen o'/\τ=[some (.r 0),some (.d (.int most)),some (.d (.int near)),some (.r (R.length+1)),x4,x5]/\S=o'::(R++[.lst (ws.map D.int)])/\ws.Nodup/\(∀w∈ws,-9<=w/\w<=9)/\ws.length<=i/\(0<i->0<ws.length))
  ⟨o1,[],none,none,hp1,rfl,rfl,Nf,by simp,IB _,by omega⟩ (by
   rintro i z τ S hz ⟨o',ws,x4,x5,hp',rfl,rfl,nd,lim,le,pos⟩;have hi:i<(1+k).toNat:=by simpa using(IJ.mp hz).1
   obtain⟨a,oa,a0,a1,hpa,ea⟩:=bu (R:=R++[.lst (ws.map D.int)]) (m:=5) hp' (by decide) (by decide);obtain⟨b,ob,b0,b1,hpb,eb⟩:=bu (R:=R++[.lst (ws.map D.int)]) (m:=6) hpa (by decide) (by decide);obtain⟨c,oc,c0,c1,hpc,ec⟩:=bu (R:=R++[.lst (ws.map D.int)]) (m:=19) hpb (by decide) (by decide);have fin:∀(v:Int)(q:Ob)(x5':Option Vl),-9<=v->v<=9->Pen q->x5'=some (.d (.int v))->∃fl τ2 S2,(xIf (ba (xOp ip (aa 5) (aa 3))) (cK (xLm fi (aa 3) (aa 5))) aX) [some (.r 0),some (.d (.int most)),some (.d (.int near)),some (.r (R.length+1)),some z,x5'] (q::(R++[.lst (ws.map D.int)]))=.ok (fl,τ2) S2/\(fl=.nx\/fl=.ct) /\
     ∃(o':Ob)(ws:List Int)(x4 x5:Option Vl),Pen o'/\τ2=[some (.r 0),some (.d (.int most)),some (.d (.int near)),some (.r (R.length+1)),x4,x5]/\S2=o'::(R++[.lst (ws.map D.int)])/\ws.Nodup/\(∀w∈ws,-9<=w/\w<=9)/\ws.length<=i+1/\(0<i+1->0<ws.length):=by
    rintro v q _ v0 v1 hq rfl;walk_at"mx";rw[E_ (ns:=ws) uY];by_cases hm:v∈ws
    ·erw[IV hm];exact⟨_,_,_,rfl,.inl rfl,q,ws,_,_,hq,rfl,rfl,nd,lim,by omega,λ_=>List.length_pos_of_mem hm⟩
    ·erw[IW hm];erw[oE (by rw[IA];omega)];refine⟨_,_,_,rfl,.inl rfl,q,ws++[v],_,_,hq,rfl,by rw[JN];rfl,?_,?_,by simp;omega,λ_=>by simp⟩
     ·rw[NO];refine⟨nd,by simp,λx hx y hy=>?_⟩;rw[IQ.mp hy];rintro rfl;exact hm hx
     ·intro w hw;rcases Jk.mp hw with e |e
      ·exact lim w e
      ·rw[IQ.mp e];omega
   by_cases hb:b=0
   ·subst hb;obtain⟨fl,τ2,S2,f1,f2,f3⟩:=fin (c-9) oc _ (by omega) (by omega) hpc rfl;refine⟨_,_,fl,τ2,S2,eX,?_,f2,True.intro,f3⟩;walk_at"mx";erw[ea];erw[eb];erw[ec];erw[<-f1]
   ·obtain⟨fl,τ2,S2,f1,f2,f3⟩:=fin (near+a) ob _ (by omega) (by omega) hpb rfl;refine⟨_,_,fl,τ2,S2,eX,?_,f2,True.intro,f3⟩;walk_at"mx";erw[ea];erw[eb];erw[IW hb];rw[<-f1];walk_at"mx")
 erw[e2];rw[gL]at le pos;erw[Cr uY (by omega)];refine⟨sortI ws,o2,⟨mZ nd,λw hw=>lim w ((lr ws w).mp hw),by rw[fW];exact pos (by omega),by rw[fW];omega⟩,hp2,?_⟩;rw[cO];simp[af]
structure b8(n m:Int)(wss:List (List Int)):Prop where
 pos:1<=wss.length
 le:(wss.length:Int)<=n
 all:∀ws∈wss,GoodW m ws
noncomputable def ao(wss:List (List Int)):D:=.tup (wss.map af)
theorem Bf{R:Sto}(hp:Pen o)(h0:0<names)(h1:names<=50)(m0:0<most)(m1:most<=50):∃(wss:List (List Int))(o':Ob),b8 names most wss/\Pen o'/\iR [.r 0,.d (.int names),.d (.int most)] (o::R)=.ok (.d (ao wss)) (o'::R):=by
 unfold iR;rw[d8];unfold nU;walk_at"mx";obtain⟨k,o1,k0,k1,hp1,e1⟩:=bu (R:=R) (m:=15) hp (by decide) (by decide);erw[e1];obtain⟨j,o2,j0,j1,hp2,e2⟩:=bu (R:=R) hp1 h0 (by omega);obtain⟨acc,Q,e4,hl,o3,wss,hp3,rfl,rfl,hw,hg⟩:=nH (show _=nN [some (.r 0),some (.d (.int names)),some (.d (.int most)),some (.d (.int (k-9)))] (o1::R)from rfl) (S1:=o2::R) (items:=(IP (1+j).toNat).map λi=>Vl.d (.int (i:Nat))) (by walk_at"mx";rw[e2];walk_at"mm")
  (λi acc Q=>∃(o':Ob)(wss:List (List Int)),Pen o'/\acc=wss.map af/\Q=o'::R/\wss.length=i/\∀ws∈wss,GoodW most ws) ⟨o2,[],hp2,rfl,rfl,rfl,by simp⟩ (by
   rintro i z acc Q hz ⟨o',wss,hp',rfl,rfl,hw,hg⟩ _;obtain⟨hi,rfl⟩:=gK hz;obtain⟨ws,o3,gw,hp3,e3⟩:=pU (R:=R++[.lst (wss.map af)]) (near:=k-9) hp' m0 m1 (by omega) (by omega);refine⟨af ws,o3::R,?_,rfl,o3,wss++[ws],hp3,jR.symm,rfl,by simp[hw],λx hx=>?_⟩
   ·walk_at"mx";erw[e3]
   ·rcases Jk.mp hx with e |e
    ·exact hg x e
    ·rw[IQ.mp e];exact gw)
 erw[e4];rw[gL]at hw;exact⟨wss,o3,⟨by omega,by omega,hg⟩,hp3,by rw[cO,cS];rfl⟩
theorem Cf{R:Sto}(hp:Pen o):∃o',Pen o'/\jO [.r 0] (o::R)=.ok (.r 0) (o'::R):=by
 obtain⟨cells,at',pool,rfl,hl,ha,hq⟩:=hp;unfold jO;rw[cN];unfold qe;walk_at"mx";erw[si];refine⟨dy cells at' 0,⟨cells,at',0,rfl,hl,ha,Kf 0⟩,?_⟩;rw[mR];unfold out;dsimp only;rw[Iw (by simp),cS]
theorem jG{xs:List D}{i:Nat}{z:Vl}(h:(cJ 0 xs)[i]?=some z):∃x,xs[i]?=some x/\z=.d (.tup [.int i,x]):=by
 rw[dH]at h;cases q:xs[i]? with
 |none=>rw[q]at h;cases h
 |some x=>rw[q]at h;cases h;exact⟨x,rfl,by rw[J3]⟩
theorem CH(ns:List Int):∃o,Pen o/\j8 [.sc ns] []=.ok (.r 0) [o]:=by
 unfold j8;rw[cN];unfold qt;walk_at"mx";rw[show(12:Int)=((12:Nat):Int)from rfl,rm,<-MF];obtain⟨τ',S',e2,cs,x2,x3,rfl,rfl,hl⟩:=dj (show _=p6 [some (.sc ns),some (.r 0),none,none] [.lst ((ns.take 12).map D.int)]from rfl)
  (S1:=[.lst ((ns.take 12).map D.int)]) (gd:=none) (items:=cJ 0 (((ns.map D.int).drop 12).take (63-12))) (by
   walk_at"mx";rw[show(12:Int)=((12:Nat):Int)from rfl,show(63:Int)=((63:Nat):Int)from rfl,yQ])
  (λi τ S=>∃(cs:List Int)(x2 x3:Option Vl),τ=[some (.sc ns),some (.r 0),x2,x3]/\S=[.lst (cs.map D.int)]/\cs.length=(ns.take 12).length) ⟨_,none,none,rfl,rfl,rfl⟩ (by
   rintro i z τ S hz ⟨cs,x2,x3,rfl,rfl,hl⟩;obtain⟨x,ex,rfl⟩:=jG hz;have hx:x∈ns.map D.int:=JP (JD (JG ex));obtain⟨v,_,rfl⟩:=J4.mp hx;have hlen:12<ns.length:=by
    have:=(IJ.mp ex).1;simp at this;omega
   have hcs:cs.length=12:=by rw[hl];simp;omega
   have h0:0<=((i:Nat):Int) % 12:=LF _ (by decide);have h1:((i:Nat):Int) % 12<12:=Lb _ (by decide);obtain⟨c,ec,_⟩:=fG (ns:=cs) (i:=((i:Nat):Int) % 12) h0 (by omega);have hix:ixN (cs.map D.int).length (((i:Nat):Int) % 12)=some (((i:Nat):Int) % 12).toNat:=vF h0 (by rw[IA];omega);refine⟨_,_,.nx,_,_,by walk_at"mm";rfl,by
    walk_at"mm";rw[lU (xs:=cs.map D.int) rfl ec];walk_at"mm";rw[show eI (.r 0) (.d (.int (((i:Nat):Int) % 12))) (.d (.int (c+v))) [Ob.lst (cs.map D.int)]=.ok () [.lst ((cs.map D.int).set (((i:Nat):Int) % 12).toNat (.int (c+v)))] by
     unfold eI;simp only[N6,hix];rfl]
    walk_at"mx";rfl,.inl rfl,True.intro,cs.set (((i:Nat):Int) % 12).toNat (c+v),_,_,rfl,by rw[List.map_set],by rw[KH];exact hl⟩)
 erw[e2];refine⟨dy cs 0 0,⟨cs,0,0,rfl,by rw[hl];simp;omega,Kf 0,Kf 0⟩,?_⟩;rfl
theorem pY(f:α->β):∀(l:List α)(k:Nat),(l.eraseIdx k).map f=(l.map f).eraseIdx k
 | [],_=>rfl
 |_::_,0=>rfl
 |x::l,k+1=>by
  rw[Mq,IM,IM,Mq,pY f l k]
structure eA(k:Nat)(ns:List Int):Prop where
 dom:∀n∈ns,0<=n/\n<(k:Int)
 pos:1<=ns.length
 le:ns.length<=k
 nd:ns.Nodup
theorem qE{R:Sto}(hp:Pen o)(h0:1<=wss.length)(h1:wss.length<=50):∃(ns:List Int)(o':Ob),eA wss.length ns/\Pen o'/\dQ [.r 0,.d (ao wss)] (o::R)=.ok (.d (af ns)) (o'::R):=by
 unfold dQ;rw[dD];unfold iz ao;walk_at"mx";erw[IA,Ff (by omega)];have hr:(IP ((wss.length:Nat):Int).toNat).map (λi=>D.int ((i:Nat):Int))=((IP wss.length).map λi=>((i:Nat):Int)).map D.int:=by rw[Jh,JT];rfl
 rw[hr];generalize hL:((IP wss.length).map λi=>((i:Nat):Int))=L0;have lL:L0.length=wss.length:=by rw[<-hL];simp
 have dL:∀n∈L0,0<=n/\n<(wss.length:Int):=by
  intro n hn;rw[<-hL]at hn;obtain⟨i,hi,rfl⟩:=J4.mp hn;have:=JO.mp hi;omega
 have nL:L0.Nodup:=by
  rw[<-hL];exact SM _ (λa b(h:a≠b)=>by omega) N0
 rw[rL (xs:=L0.map D.int) (by walk_at"mx"),IA,lL];obtain⟨a,o1,a0,a1,hp1,e1⟩:=bu (R:=R++[.lst (L0.map D.int)]) (m:=(wss.length:Int)) hp (by omega) (by omega);walk_at"mx";erw[e1];obtain⟨b,o2,b0,b1,hp2,e2⟩:=bu (R:=R++[.lst (L0.map D.int)]) (m:=3) hp1 (by decide) (by decide);erw[e2];have fin:∀(many:Int),1<=many->many<=wss.length->∃(ns left:List Int)(o':Ob),eA wss.length ns/\Pen o' /\
   fc [some (.r 0),some (.d (.tup (wss.map af))),some (.r (R.length+1)),some (.d (.int many))] (o2::(R++[.lst (L0.map D.int)]))=.ok (.d (.lst (ns.map D.int))) (o'::(R++[.lst (left.map D.int)])):=by
  intro many m0 m1;obtain⟨acc,Q,e4,hl,o3,ns,left,hp3,rfl,rfl,hw,hlen,hmem,hnd⟩:=nH (show _=fc [some (.r 0),some (.d (.tup (wss.map af))),some (.r (R.length+1)),some (.d (.int many))] (o2::(R++[.lst (L0.map D.int)]))from rfl) (S1:=o2::(R++[.lst (L0.map D.int)])) (items:=(IP many.toNat).map λi=>Vl.d (.int (i:Nat))) (by walk_at"mm")
   (λi acc Q=>∃(o':Ob)(ns left:List Int),Pen o'/\acc=ns.map D.int/\Q=o'::(R++[.lst (left.map D.int)])/\ns.length=i/\left.length+i=wss.length/\(∀n,n∈ns++left->0<=n/\n<(wss.length:Int))/\(ns++left).Nodup) ⟨o2,[],L0,hp2,rfl,rfl,rfl,by omega,by simpa using dL,by simpa using nL⟩ (by
    rintro i z acc Q hz ⟨o',ns,left,hp',rfl,rfl,hw,hlen,hmem,hnd⟩ _;obtain⟨hi,rfl⟩:=gK hz;obtain⟨c,o3,c0,c1,hp3,e3⟩:=bu (R:=R++[.lst (left.map D.int),.lst (ns.map D.int)]) (m:=(left.length:Int)) hp' (by omega) (by omega);have hc:c.toNat<left.length:=by omega
    have hge:(left.map D.int)[c.toNat]?=some (.int left[c.toNat]):=by rw[IU,H0 hc];rfl
    have pe:(left[c.toNat]::left.eraseIdx c.toNat).Perm left:=jN left c.toNat hc;have pa:((ns++[left[c.toNat]])++left.eraseIdx c.toNat).Perm (ns++left):=by
     rw[Ja];exact JM ns pe
    refine⟨.int left[c.toNat],o3::(R++[.lst ((left.eraseIdx c.toNat).map D.int)]),?_,by simp,o3,ns++[left[c.toNat]],left.eraseIdx c.toNat,hp3,jR.symm,rfl,by simp[hw],?_,λn hn=>hmem n (pa.mem_iff.mp hn),pa.nodup_iff.mpr hnd⟩
    ·walk_at"mx";erw[show(R++[Ob.lst (left.map D.int)]++[Ob.lst (ns.map D.int)])=R++[.lst (left.map D.int),.lst (ns.map D.int)] by simp];erw[rL (xs:=left.map D.int) (by walk_at"mx"),IA];erw[e3];erw[Hc (by omega) hge];rw[pY];simp
    ·rw[NB hc];omega)
  rw[gL]at hw hlen;exact⟨ns,left,o3,⟨λn hn=>hmem n (MU _ hn),by omega,by omega,(NO.mp hnd).1⟩,hp3,e4⟩
 by_cases hb:0<b
 ·erw[IV hb];erw[rL (xs:=L0.map D.int) (by walk_at"mx"),IA,lL];obtain⟨ns,left,o3,gn,hp3,e4⟩:=fin (wss.length:Int) (by omega) (by omega);erw[e4];refine⟨ns,o3,gn,hp3,?_⟩;rw[cO];simp[af]
 ·erw[IW hb];obtain⟨ns,left,o3,gn,hp3,e4⟩:=fin (1+a) (by omega) (by omega);erw[e4];refine⟨ns,o3,gn,hp3,?_⟩;rw[cO];simp[af]
theorem se{g:XG}{b:XS}{S:Sto}{α:Type}{d:α->Vl}{ok:α->Bool}{J:Nv->Prop}:∀(xs:List α)(τ:Nv),J τ->(∀x∈xs,∀τ,J τ->∃τ1 τ2,g (d x) τ S=.ok τ1 S/\J τ2/\b τ1 S=.ok ((if ok x then .nx else .rt (.d (.bl false))),τ2) S) ->
  ∃τ',J τ'/\cc g b none (xs.map d) τ S=.ok ((if xs.all ok then .nx else .rt (.d (.bl false))),τ') S
 | [],τ,h,_=>⟨τ,h,rfl⟩
 |x::xs,τ,h,hs=>by
  obtain⟨τ1,τ2,e1,h2,e2⟩:=hs x JK τ h;cases q:ok x with
  |false=>
   refine⟨τ2,h2,?_⟩;rw[IM,cc,e1,aQ,e2,q,aQ,Lj,q];rfl
  |true=>
   obtain⟨τ',h',e'⟩:=se xs τ2 h2 (λy hy=>hs y (Jp _ hy));refine⟨τ',h',?_⟩;rw[IM,cc,e1,aQ,e2,q,aQ,Lj,q,Q0,<-e'];exact Iw True.intro
theorem jA{xs:List D}{n:Nat}(h:xs.length=n+1):atI xs (-1)=xs[n]?:=by
 unfold atI ixN;rw[IF (by omega),Iw (by omega),Lx];congr 1;omega
theorem take_snoc{α:Type}{ps:List α}{i:Nat}{p:α}(h:ps[i]?=some p):ps.take (i+1)=ps.take i++[p]:=by
 rw[Mz,h];rfl
theorem js{wss:List (List Int)}{p:Int}(h0:0<=p)(h1:p<wss.length):atI (wss.map af) p=some (af (wss.getD p.toNat [])):=by
 obtain⟨k,rfl⟩:=K2 h0;have hk:k<wss.length:=by omega
 exact mX (by rw[IU,H0 hk,Jh,Iz,H0 hk];rfl)
theorem p8{wss:List (List Int)}{p:Int}(h0:0<=p)(h1:p<wss.length):wss.getD p.toNat []∈wss:=by
 have hk:p.toNat<wss.length:=by omega
 rw[Iz,H0 hk];exact JE hk
theorem uF{v:Int}{S:Sto}:gA [.d (.int v)] S=.ok (.d (.bl true)) S:=by
 unfold gA;rw[cN];unfold mC;walk_at"mx";erw[show isT "int" (.int v)=true from rfl];erw[show isT "bool" (.int v)=false from rfl];rw[aO]
theorem ig{v lo hi:Int}{S:Sto}(h:lo<=v/\v<=hi):du [.d (.int v),.d (.int lo),.d (.int hi)] S=.ok (.d (.bl true)) S:=by
 unfold du;rw[d8];unfold lj;walk_at"mx";erw[uF];erw[IV h.1];rw[IV h.2];rw[aO]
theorem all_true{α:Type}{l:List α}{S:Sto}:dX [.d (.lst (l.map λ_=>D.bl true))] S=.ok (.d (.bl true)) S:=by
 rw[ix (f:=λ_=>true)];simp
theorem uZ{xs:List D}:isT "tuple" (.tup xs)=true:=rfl
theorem f9{ns:List Int}{lo hi:Int}{S:Sto}(h:∀v∈ns,lo<=v/\v<=hi):cW [.d (af ns),.d (.int lo),.d (.int hi)] S=.ok (.d (.bl true)) S:=by
 unfold cW;rw[d8];unfold kB af;walk_at"mx";erw[uZ];rw[pE (show _=kA [some (.d (.tup (ns.map D.int))),some (.d (.int lo)),some (.d (.int hi))] S from rfl) (xs:=ns.map D.int) (S1:=S) (by walk_at"mx") (λ_=>.bl true) (by
  intro x hx S;obtain⟨v,hv,rfl⟩:=J4.mp hx;walk_at"mx";rw[ig (h v hv)];walk_at"mx")]
 walk_at"mx";erw[all_true];rw[aO]
theorem B_{ns:List Int}(h:∀k,k+1<ns.length->ns.getD k 0<ns.getD (k+1) 0):ns.Pairwise (· <·):=by
 rw[Kn];have key:∀d i,(hd:i+d+1<ns.length)->ns.getD i 0<ns.getD (i+d+1) 0:=by
  intro d
  induction d with
  |zero=>intro i hd;exact h i hd
  |succ d ih=>
   intro i hd;have a:=ih i (by omega);have b:=h (i+d+1) (by omega);rw[show i+(d+1)+1=i+d+1+1 by omega];omega
 intro i j hi hj hij;have:=key (j-i-1) i (by omega);rw[show i+(j-i-1)+1=j by omega,Iz,Iz,H0 hi,H0 hj]at this;simpa using this
theorem CG{ns:List Int}(h:ns.Pairwise (· <·)){k:Nat}(hk:k+1<ns.length):ns.getD k 0<ns.getD (k+1) 0:=by
 rw[Kn]at h;have:=h k (k+1) (by omega) hk (by omega);rw[Iz,Iz,H0 hk,H0 (by omega)];simpa using this
theorem zW{ns:List Int}:((IP (ns.length-1)).all λk=>decide (ns.getD k 0<ns.getD (k+1) 0))=decide (ns.Pairwise (· <·)):=by
 rw[Kc,K5,decide_eq_true_iff];constructor
 ·intro h;exact B_ λk hk=>by simpa using h k (JO.mpr (by omega))
 ·intro h k hk;have:=JO.mp hk;exact IV (CG h (by omega))
noncomputable def nbL(ns:List Int):Vl->D
 | .d (.int j)=>.bl (decide (ns.getD (j.toNat-1) 0<ns.getD j.toNat 0))
 |_=>.non
theorem zO{ns:List Int}{i:Nat}(h:i<ns.length):atI (ns.map D.int) (i:Int)=some (.int (ns.getD i 0)):=mX (by rw[IU,H0 h,Iz,H0 h];rfl)
theorem kr{ns:List Int}{S:Sto}(h:ns.length<=1000):dB [.d (af ns)] S=.ok (.d (.bl (decide (ns.Pairwise (· <·))))) S:=by
 unfold dB;rw[cN];unfold kn af;walk_at"mx";have key:gf [some (.d (.tup (ns.map D.int)))] S=.ok (.d (.lst ((IP (ns.length-1)).map λk=>.bl (decide (ns.getD k 0<ns.getD (k+1) 0))))) S:=by
  unfold gf;rw[xX (items:=(IP ((ns.length:Int)-1).toNat).map λk=>Vl.d (.int (1+(k:Nat)))) (S1:=S) (by walk_at"mx";rw[IA,B6 (by omega)]) (nbL ns) (by
   intro z hz S;obtain⟨k,hk,rfl⟩:=J4.mp hz;have hk:=JO.mp hk;walk_at"mx";erw[show(1:Int)+(k:Nat)-1=(k:Nat) by omega,show(1:Int)+(k:Nat)=((k+1:Nat):Int) by omega,dz (zO (by omega))];erw[dz (zO (by omega))];rfl)]
  rw[JT,show((ns.length:Int)-1).toNat=ns.length-1 by omega];congr 3;refine M7 λk hk=>?_;show nbL ns (.d (.int (1+(k:Nat))))=_;rw[show(1:Int)+(k:Nat)=((k+1:Nat):Int) by omega];rfl
 erw[key];erw[ix,zW];rw[aO]
theorem qH{ws:List Int}{m:Int}{S:Sto}(g:GoodW m ws)(hm:m<=4):fw [.d (af ws)] S=.ok (.d (.bl true)) S:=by
 have h1:=g.pos;have h2:=g.le;unfold fw;rw[cN];unfold kc;walk_at"mx";erw[f9 g.lim];rw[show af ws=.tup (ws.map D.int)from rfl]
 try walk_at"mx"
 erw[IA,IV (show(1:Int)<=(ws.length:Int) by omega)];erw[IV (show(ws.length:Int)<=4 by omega)];erw[show D.tup (ws.map D.int)=af ws from rfl,kr (by omega),IV g.rise];rw[aO]
theorem uv{wss:List (List Int)}{n m:Int}{S:Sto}(g:b8 n m wss)(hn:n<=4)(hm:m<=4):gB [.d (ao wss)] S=.ok (.d (.bl true)) S:=by
 have h1:=g.pos;have h2:=g.le;unfold gB;rw[cN];unfold mF ao;walk_at"mx";erw[uZ];erw[IA,IV (show(1:Int)<=(wss.length:Int) by omega)];erw[IV (show(wss.length:Int)<=4 by omega)];rw[pE (show _=mB [some (.d (.tup (wss.map af)))] S from rfl) (xs:=wss.map af) (S1:=S) (by walk_at"mx") (λ_=>.bl true) (by
  intro x hx S;obtain⟨ws,hv,rfl⟩:=J4.mp hx;walk_at"mx";rw[qH (g.all ws hv) hm];walk_at"mx")]
 walk_at"mx";erw[all_true];rw[aO]
theorem qG{wss:List (List Int)}{n m:Int}{S:Sto}(g:b8 n m wss)(hn:n<=4)(hm:m<=4):eT [.d (ao wss)] S=.ok (.d .non) S:=by
 unfold eT;rw[cN];unfold ku;walk_at"mx";erw[uv g hn hm];rw[jy,jq,JW]
theorem Ao{ns:List Int}(h:ns.Nodup):(bh ns).length=ns.length:=by
 rw[<-m_ (xs:=ns) (λz=>lr ns z) (mZ h),fW]
theorem qP{ns:List Int}{S:Sto}(h:ns.Nodup)(hl:ns.length<=60):fB [.d (af ns)] S=.ok (.d (.bl true)) S:=by
 unfold fB;rw[cN];unfold kq af;walk_at"mx";erw[Hg (ns:=ns) rfl (by omega)];erw[IA,Ao h];rw[aO]
theorem tj{ns:List Int}{k:Nat}{S:Sto}(g:eA k ns)(hk:k<=4):fN [.d (af ns)] S=.ok (.d (.bl true)) S:=by
 have h1:=g.pos;have h2:=g.le;unfold fN;rw[cN];unfold lB;walk_at"mx";erw[f9 (λv hv=>by have:=g.dom v hv;omega)];rw[show af ns=.tup (ns.map D.int)from rfl]
 try walk_at"mx"
 erw[IA,IV (show(1:Int)<=(ns.length:Int) by omega)];erw[IV (show(ns.length:Int)<=4 by omega)];erw[show D.tup (ns.map D.int)=af ns from rfl,qP g.nd (by omega)];rw[aO]
theorem eP{it:XI}{t:XT}{e:XE}{τ:Nv}{S S1:Sto}{r:R Vl}(hC:xLC it 1 (gNm 0) t e τ S=r){α:Type}{d g:α->D}{xs:List α}(hit:it τ S=.ok ⟨xs.map λx=>Vl.d (d x),none⟩ S1)(p:α->Bool)(ht:∀x∈xs,∀S:Sto,t (some (.d (d x))::τ) S=.ok (p x) S)(he:∀x∈xs,p x=true->∀S:Sto,e (some (.d (d x))::τ) S=.ok (.d (g x)) S):r=.ok (.d (.lst ((xs.filter p).map g))) S1:=by
 obtain⟨acc,Q,e1,hl,rfl,rfl⟩:=B2 hC hit (λi acc Q=>acc=((xs.take i).filter p).map g/\Q=S1) ⟨by simp,rfl⟩ (by
  rintro i z acc Q hz ⟨rfl,rfl⟩ _;rw[IU]at hz;cases q:xs[i]? with
  |none=>rw[q]at hz;cases hz
  |some x=>
   rw[q]at hz;cases hz;have hx:=JG q;refine⟨p x,Q,ht x hx _,rfl,λhb=>⟨g x,Q,he x hx hb _,rfl,?_,rfl⟩,λhb=>⟨?_,rfl⟩⟩
   ·rw[take_snoc q,Pw,JN];simp[hb]
   ·rw[take_snoc q,Pw];simp[hb])
 rw[e1,IA,JW]
theorem cw{ws:List Int}:(ws.map D.int).map Vl.d=ws.map λx=>Vl.d (.int x):=by rw[JT];rfl
theorem lcG{it:XI}{k:Nat}{g:XG}{t:XT}{e:XE}{τ:Nv}{S S1:Sto}{items:List Vl}(hit:it τ S=.ok ⟨items,none⟩ S1)(own:Vl->Nv)(f:Vl->D)(p:Vl->Bool)(hown:∀z∈items,(own z).length=k)(hg:∀z∈items,∀ρ:Nv,ρ.length=k->∀S:Sto,g z (ρ++τ) S=.ok (own z++τ) S)
  (ht:∀z∈items,∀S:Sto,t (own z++τ) S=.ok (p z) S) (he:∀z∈items,p z=true->∀S:Sto,e (own z++τ) S=.ok (.d (f z)) S):xLC it k g t e τ S=.ok (.d (.lst ((items.filter p).map f))) S1:=by
 have key:∀(zs:List Vl)(acc:List D)(ρ:Nv),(∀z∈zs,z∈items)->ρ.length=k->eG g t e S1.length none zs acc (ρ++τ) (S1++[.lst acc])=.ok (acc++(zs.filter p).map f) (S1++[.lst (acc++(zs.filter p).map f)]):=by
  intro zs
  induction zs with
  |nil=>
   intro acc ρ _ _;rw[eG,Iw (by simp)];simp
  |cons z zs ih=>
   intro acc ρ hz hl;have hm:=hz z (JK ..);rw[eG,hg z hm ρ hl,aQ,ht z hm,aQ];by_cases hp:p z=true
   ·rw[Iw hp,he z hm hp,aQ];dsimp only;rw[Iw ⟨by simp,True.intro⟩];rw[show(S1++[Ob.lst acc]).set S1.length (.lst (acc++[f z]))=S1++[.lst (acc++[f z])] by simp];rw[ih (acc++[f z]) (own z) (λy hy=>hz y (Jp _ hy)) (hown z hm),List.filter_cons_of_pos hp,IM,Ja];rfl
   ·rw[IF hp,Iw (show gok none (S1++[Ob.lst acc])from True.intro),ih acc (own z) (λy hy=>hz y (Jp _ hy)) (hown z hm),List.filter_cons_of_neg hp]
 show(it τ S).bind _=_;rw[hit,aQ];dsimp only;rw[key items [] (Jw k none) (λ_ h=>h) (by simp),aQ];unfold lP;rw[Iw (by simp),OH];simp
theorem An{xs:List D}:D.bS xs []=xs.isEmpty:=by cases xs<;>simp[D.bS]
theorem dC{ns:List Int}{S:Sto}:bD [.d (af ns)] S=.ok (.d (.int ns.length)) S:=by unfold af;rw[sH,IA]
theorem fK{ns:List Int}{v:Int}{S:Sto}:oIn (.d (.int v)) (.d (af ns)) S=.ok (.d (.bl (decide (v∈ns)))) S:=B4
theorem eJ{ns:List Int}{v:Int}{S:Sto}:ip (.d (.int v)) (.d (af ns)) S=.ok (.d (.bl (!decide (v∈ns)))) S:=xT
theorem t7{α β:Type}{f:α->β}{l:List α}:(l.map f).isEmpty=l.isEmpty:=by cases l<;>rfl
theorem Bw{α β:Type}{f:α->β}:∀{l:List α},l.Nodup->(∀x∈l,∀y∈l,f x=f y->x=y)->(l.map f).Nodup
 | [],_,_=>Nf
 |a::l,h,k=>by
  rw[KG]at h;rw[IM,KG];refine⟨λhm=>?_,Bw h.2 λx hx y hy=>k x (Jp _ hx) y (Jp _ hy)⟩;obtain⟨y,hy,e⟩:=J4.mp hm;have:=k a (JK ..) y (Jp _ hy) e.symm;exact h.1 (this▸hy)
theorem Fd{kvs:List (Key×D)}{yd z:D}{k:Key}{S:Sto}(hk:hZ yd=some k)(hv:fH kvs k=some z):oDx (.fd kvs) (.d yd) S=.ok (.d z) S:=by
 unfold oDx;dsimp only;rw[hk];simp only[jv,hv]
theorem yN{S:Sto}{x:Ob}:(S++[x])[S.length]?=some x:=by simp
theorem uH{S:Sto}{x y:Ob}:(S++[x]).set S.length y=S++[y]:=by simp
theorem vI{S R:Sto}{kvs:List (Key×D)}:frz (.r S.length) (S++[.dct kvs])=.ok (.fd kvs) (S++[.dead]):=by
 unfold frz;simp
theorem FU{S R:Sto}{kvs:List (Key×D)}{τ:Nv}:leave S (.ok (.rt (.fd kvs),τ) (S++R))=.ok (.fd kvs) S:=by
 unfold leave out;simp
theorem A8{kvs:List (Key×D)}{k:Key}{v:D}(h:k∉kvs.map (·.1)):putD kvs k v=kvs++[(k,v)]:=by
 unfold putD;rw[IF];intro z;obtain⟨x,hx,hk⟩:=Lv.mp z;exact h (J4.mpr ⟨x,hx,by simpa using hk⟩)
theorem qi:∀{l kvs:List (Key×D)},(l.map (·.1)).Nodup->(∀k∈l.map (·.1),k∉kvs.map (·.1))->dn kvs l=kvs++l
 | [],kvs,_,_=>by simp[dn]
 |p::l,kvs,hn,hd=>by
  rw[IM]at hn hd;obtain⟨h1,h2⟩:=KG.mp hn;show dn (putD kvs p.1 p.2) l=_;rw[A8 (hd p.1 (by simp)),qi h2,Ja]
  ·rfl
  ·intro k hk z;rw[JN]at z;rcases Jk.mp z with z |z
   ·exact hd k (by simp[hk]) z
   ·rw[IM,Mf,IQ]at z;exact h1 (z▸hk)
theorem pk{ns:List Int}{i:Nat}{S:Sto}(h:i<ns.length):oIx (.d (af ns)) (.d (.int (i:Int))) S=.ok (.d (.int (ns.getD i 0))) S:=dz (zO h)
theorem tF:∀{ns f:List Int},((ns.zip f).map (·.1)).Sublist ns
 | [],_=>by simp
 |_::_,[]=>by simp
 |n::ns,a::f=>by simpa using(tF (ns:=ns) (f:=f)).cons₂ n
theorem wM{ns:List Int}:lO (ns.map D.int)=some (ns.map Sum.inl):=by
 induction ns with
 |nil=>rfl
 |cons n ns ih=>simp only[IM,lO,ih,hZ]
theorem zt{o:Ob}{R:Sto}{wss:List (List Int)}(hp:Pen o)(h0:1<=wss.length)(h1:wss.length<=50):∃(vss:List (List Int))(o':Ob),b8 wss.length 3 vss/\vss.length=wss.length/\Pen o'/\gE [.r 0,.d (ao wss)] (o::R)=.ok (.d (ao vss)) (o'::R):=by
 unfold gE;rw[dD];unfold mq ao;obtain⟨a,o1,a0,a1,hp1,e1⟩:=bu (R:=R) (m:=15) hp (by decide) (by decide);walk_at"mx";erw[e1];obtain⟨acc,Q,e4,hl,o3,vss,hp3,rfl,rfl,hw,hg⟩:=nH (show _=mx [some (.r 0),some (.d (.tup (wss.map af))),some (.d (.int (a-9)))] (o1::R)from rfl) (S1:=o1::R) (items:=(wss.map af).map Vl.d) (by walk_at"mx")
  (λi acc Q=>∃(o':Ob)(vss:List (List Int)),Pen o'/\acc=vss.map af/\Q=o'::R/\vss.length=i/\∀ws∈vss,GoodW 3 ws) ⟨o1,[],hp1,rfl,rfl,rfl,λ_ h=>by cases h⟩ (by
   rintro i z acc Q hz ⟨o',vss,hp',rfl,rfl,hw,hg⟩ _;obtain⟨ws,o3,gw,hp3,e3⟩:=pU (R:=R++[.lst (vss.map af)]) (most:=3) (near:=a-9) hp' (by decide) (by decide) (by omega) (by omega);refine⟨af ws,o3::R,?_,rfl,o3,vss++[ws],hp3,jR.symm,rfl,by simp[hw],λw hm=>?_⟩
   ·walk_at"mx";erw[e3]
   ·rcases Jk.mp hm with q |q
    ·exact hg w q
    ·rw[IQ.mp q];exact gw)
 erw[e4];have hw':vss.length=wss.length:=by simpa using hw
 refine⟨vss,o3,⟨by omega,by omega,hg⟩,hw',hp3,?_⟩;rw[cO,cS]
theorem Gk{n:Nat}{S:Sto}{xs:List D}(e:S[n]?=some (.lst xs)):frz (.r n) S=.ok (.d (.lst xs)) (S.set n .dead):=by
 unfold frz;dsimp only;rw[e]
theorem nK:∀l:List (List Int),D.cq (l.map af)<=1
 | []=>by simp[D.cq]
 |f::l=>by
  have:=nK l;rw[IM,D.cq,show D.depth (af f)=1 by unfold af;rw[D.depth,jY]];omega
theorem Ex{d k e:XE}{τ:Nv}{S S1 S2 S3:Sto}{kvs:List (Key×D)}{yd zd:D}{key:Key}(h1:d τ S=.ok (.fd kvs) S1)(h2:k τ S1=.ok (.d yd) S2)(h3:e τ S2=.ok (.d zd) S3)(hk:hZ yd=some key):qU d k e τ S=.ok (.d ((fH kvs key).getD zd)) S3:=by
 unfold qU;rw[h1,aQ];rw[Iw (show(jv (.fd kvs) S1).isSome=true from rfl),h2,aQ,h3,aQ];dsimp only;rw[hk];rfl
theorem uR{n m:Int}{wss:List (List Int)}(gs:b8 n m wss)(hn:n<=4)(hm:m<=4):b8 4 4 wss:=⟨gs.pos,by have:=gs.le;omega,λws h=>⟨(gs.all ws h).rise,(gs.all ws h).lim,(gs.all ws h).pos,by have:=(gs.all ws h).le;omega⟩⟩
theorem zQ{xs ys:List Int}{i:Nat}{z:Vl}(h:(hG (xs.map D.int) (ys.map D.int))[i]?=some z):∃x y,xs[i]?=some x/\ys[i]?=some y/\z=.d (.tup [.int x,.int y]):=by
 obtain⟨a,b,e1,e2,rfl⟩:=m7 h;rw[IU]at e1 e2;cases q1:xs[i]? with
 |none=>rw[q1]at e1;cases e1
 |some x=>
  cases q2:ys[i]? with
  |none=>rw[q2]at e2;cases e2
  |some y=>
   rw[q1]at e1;rw[q2]at e2;cases e1;cases e2;exact⟨x,y,rfl,rfl,rfl⟩
theorem wx{a b lo hi:Int}{S:Sto}(h:lo<=a/\a<=b/\b<=hi):iI [.d (.int a),.d (.int b),.d (.int lo),.d (.int hi)] S=.ok (.d (.bl true)) S:=by
 unfold iI;rw[nB];unfold nF;walk_at"mx";erw[ig (by omega)];erw[ig (by omega)];rw[IV h.2.1,aO]
theorem zJ:decide ((Jo "sum":Str)=Jo "unlike")=false:=by decide+kernel
theorem yR:decide ((Jo "sum":Str)=Jo "many")=false:=by decide+kernel
theorem zZ{ps:List Int}:ps=bh ps↔ps.Pairwise (· <·):=⟨λh=>by rw[h];exact gx ps,λh=>m_ (λ_=>Iff.rfl) h⟩
theorem gG{it:XI}{g:XG}{b:XS}{τ:Nv}{S:Sto}{r:R (Fl×Nv)}(hL:cy it g b τ S=r){α:Type}{d:α->Vl}{xs:List α}(hit:it τ S=.ok ⟨xs.map d,none⟩ S)(ok:α->Bool)(J:Nv->Prop)(h0:J τ)
  (hs:∀x∈xs,∀τ,J τ->∃τ1 τ2,g (d x) τ S=.ok τ1 S/\J τ2/\b τ1 S=.ok ((if ok x then .nx else .rt (.d (.bl false))),τ2) S):∃τ',J τ'/\r=.ok ((if xs.all ok then .nx else .rt (.d (.bl false))),τ') S:=by
 obtain⟨τ',h',e⟩:=se xs τ h0 hs;refine⟨τ',h',?_⟩;rw[<-hL,oK,hit,qY];exact e
theorem ints_list{s:List Int}{S:Sto}:jS [.d (af s)] S=.ok (.d (.lst (s.map D.int))) S:=by
 unfold af;walk_at"mx"
theorem sv{t:XT}{e:XE}{τ:Nv}{S1:Sto}{n:Nat}{ob:Ob}{α:Type}{d g:α->D}(hn:S1[n]?=some ob)(p:α->Bool):∀(xs:List α)(acc:List D)(ρ:Nv),ρ.length=1->(∀x∈xs,∀S:Sto,t (some (.d (d x))::τ) S=.ok (p x) S)->(∀x∈xs,p x=true->∀S:Sto,e (some (.d (d x))::τ) S=.ok (.d (g x)) S) ->
  eG (gNm 0) t e S1.length (some (n,ob)) (xs.map λx=>Vl.d (d x)) acc (ρ++τ) (S1++[.lst acc])=.ok (acc++(xs.filter p).map g) (S1++[.lst (acc++(xs.filter p).map g)])
 | [],acc,ρ,_,_,_=>by
  rw[Mf,eG,Iw (by simp)];simp
 |x::xs,acc,[r],hρ,ht,he=>by
  have hlt:n<S1.length:=(IJ.mp hn).1;have gk:∀l,gok (some (n,ob)) (S1++[Ob.lst l]):=λl=>by
   show(S1++[Ob.lst l])[n]?=some ob;rw[Jb hlt];exact hn
  have set_top:∀l l',(S1++[Ob.lst l]).set S1.length (.lst l')=S1++[.lst l']:=λl l'=>by simp
  rw[IM,eG];rw[show gNm 0 (Vl.d (d x)) ([r]++τ) (S1++[.lst acc])=.ok (some (.d (d x))::τ) (S1++[.lst acc])from rfl,aQ,ht x (by simp),aQ];cases hp:p x with
  |true=>
   rw[Iw rfl,he x (by simp) hp,aQ];dsimp only;rw[Iw ⟨by simp,by rw[set_top];exact gk _⟩,set_top];have:=sv hn p (d:=d) (g:=g) xs (acc++[g x]) [some (.d (d x))] rfl (λy hy=>ht y (by simp[hy])) (λy hy=>he y (by simp[hy]));rw[MN,Iw hp,IM];simpa using this
  |false=>
   rw[IF (by decide),Iw (gk _)];have:=sv hn p (d:=d) (g:=g) xs acc [some (.d (d x))] rfl (λy hy=>ht y (by simp[hy])) (λy hy=>he y (by simp[hy]));rw[MN,IF (by simp[hp])];exact this
theorem Ap{it:XI}{t:XT}{e:XE}{τ:Nv}{S S1:Sto}{r:R Vl}(hC:xLC it 1 (gNm 0) t e τ S=r){α:Type}{d g:α->D}{xs:List α}{n:Nat}{ob:Ob}(hit:it τ S=.ok ⟨xs.map λx=>Vl.d (d x),some (n,ob)⟩ S1)(hn:S1[n]?=some ob)(p:α->Bool)(ht:∀x∈xs,∀S:Sto,t (some (.d (d x))::τ) S=.ok (p x) S)(he:∀x∈xs,p x=true->∀S:Sto,e (some (.d (d x))::τ) S=.ok (.d (g x)) S):r=.ok (.d (.lst ((xs.filter p).map g))) S1:=by
 rw[<-hC];unfold xLC tQ;rw[hit,aQ];dsimp only;rw[show(Jw 1 (none:Option Vl)++τ)=[none]++τ from rfl,sv hn p xs [] [none] rfl ht he,aQ];unfold lP;simp
theorem HC{a:XE}{τ:Nv}{xs:List D}{n:Nat}{S S1:Sto}(ha:a τ S=.ok (.r n) S1)(hn:S1[n]?=some (.lst xs)):b6 a τ S=.ok ⟨xs.map Vl.d,some (n,.lst xs)⟩ S1:=by unfold b6;rw[ha,aQ];simp[hn]
noncomputable abbrev Way:=Int×List Int
noncomputable def wyD(x:Way):Key×D:=(.inl x.1,af x.2)
noncomputable def iW(W:List Way)(q:Int)(f:List Int):List Way:=if(W.any λx=>decide (x.1=q))=true then W.map (λx=>if x.1=q then(x.1,f)else x)else W++[(q,f)]
theorem El{a b:Int}:decide ((Sum.inl a:Key)=Sum.inl b)=decide (a=b):=by
 by_cases h:a=b
 ·subst h;simp
 ·rw[IW h,IW (λz=>h (MB z))]
theorem D6{W:List Way}{q:Int}{f:List Int}:putD (W.map wyD) (.inl q) (af f)=(iW W q f).map wyD:=by
 unfold putD iW;rw[Pq];have e:((λkv:Key×D=>decide (kv.1=Sum.inl q))∘wyD)=λx:Way=>decide (x.1=q):=by funext x;exact El
 rw[e];by_cases h:(W.any λx=>decide (x.1=q))=true
 ·rw[Iw h,Iw h,JT,JT];refine M7 λx _=>?_;show(if(wyD x).1=Sum.inl q then((wyD x).1,af f)else wyD x)=wyD (if x.1=q then(x.1,f)else x);by_cases hx:x.1=q
  ·rw[Iw (show(wyD x).1=Sum.inl q by rw[<-hx];rfl),Iw hx];rfl
  ·rw[IF (show¬(wyD x).1=Sum.inl q fromλz=>hx (MB z)),IF hx]
 ·rw[IF h,IF h,JN];rfl
theorem Aq{W:List Way}{q:Int}{f:List Int}{x:Way}(h:x∈iW W q f):x∈W\/x=(q,f):=by
 unfold iW at h;split at h
 ·obtain⟨y,hy,e⟩:=J4.mp h;split at e
  ·rename_i hq;exact .inr (by rw[<-e,hq])
  ·exact .inl (by rw[<-e];exact hy)
 ·rcases Jk.mp h with h |h
  ·exact .inl h
  ·exact .inr (IQ.mp h)
noncomputable def bj(W:List Way):List Int:=W.map (·.1)
theorem xw{W:List Way}{q:Int}{f:List Int}:bj (iW W q f)=if q∈bj W then bj W else bj W++[q]:=by
 have hm:(W.any λx=>decide (x.1=q))=true↔q∈bj W:=by simp[bj]
 unfold iW;by_cases h:q∈bj W
 ·rw[Iw (hm.mpr h),Iw h];unfold bj;rw[JT];refine M7 λx _=>?_;simp only[Function.comp];split<;>rfl
 ·rw[IF (λz=>h (hm.mp z)),IF h];simp[bj]
theorem Ds{W:List Way}{q:Int}{f:List Int}(h:(bj W).Nodup):(bj (iW W q f)).Nodup:=by
 rw[xw];split
 ·exact h
 ·rename_i hq;refine NO.mpr ⟨h,by simp,λa ha b hb=>?_⟩;rw[IQ.mp hb]
  exactλz=>hq (z▸ha)
theorem gY{α β:Type}(P:β->Prop){f:β->α->β}:∀(l:List α)(b:β),P b->(∀b,∀a∈l,P b->P (f b a))->P (l.foldl f b)
 | [],_,h,_=>h
 |x::l,b,h,hs=>gY P l (f b x) (hs b x (by simp) h) λb a ha=>hs b a (by simp[ha])
theorem tG{b:Int}:∀{l:List Int}{a:Int},l.Pairwise (· <·)->(∀x∈l,a<=x/\x<=b)->(l.length:Int)<=max 0 (b+1-a)
 | [],_,_,_=>by simp;omega
 |x::l,a,h,hb=>by
  obtain⟨h1,h2⟩:=JQ.mp h;have:=tG (a:=x+1) h2 λy hy=>⟨by have:=h1 y hy;omega,(hb y (by simp[hy])).2⟩;have:=hb x (by simp);rw[Js];omega
theorem Ee{o i e:XE}{τ:Nv}{S S1 S2 S3:Sto}{n:Nat}{yd zd:D}{k:Key}{kvs:List (Key×D)}(h1:e τ S=.ok (.d zd) S1)(h2:o τ S1=.ok (.r n) S2)(h3:i τ S2=.ok (.d yd) S3)(hk:hZ yd=some k)(hn:S3[n]?=some (.dct kvs))(hl:kvs.length<100000):rh o i e τ S=.ok (.nx,τ) (S3.set n (.dct (putD kvs k zd))):=by
 unfold rh;rw[h1,aQ,h2,aQ,h3,aQ];dsimp only;rw[hk,hn];dsimp only;rw[Iw hl]
theorem w6{W:List Way}{q:Int}{f:List Int}(hnd:(bj W).Nodup)(h:(q,f)∈W):fH (W.map wyD) (.inl q)=some (af f):=by
 induction W with
 |nil=>cases h
 |cons x W ih=>
  rw[IM];obtain⟨h1,h2⟩:=KG.mp hnd;rcases IL.mp h with rfl |h
  ·exact m8 rfl
  ·rw[jF]
   ·exact ih h2 h
   ·intro z;have e:x.1=q:=MB z;exact h1 (J4.mpr ⟨_,h,e.symm⟩)
theorem E1{τ:Nv}{S:Sto}:vD τ S=.ok (.r S.length) (S++[.dct []]):=ak rfl
noncomputable def lkW(ns f:List Int)(k:Int):Option Int:=((ns.zip f).find? λx=>decide (x.1=k)).map (·.2)
noncomputable def pairD(x:Int×Int):Key×D:=(.inl x.1,.int x.2)
noncomputable def iN(wss:List (List Int))(ns f:List Int):List Int:=(IP wss.length).map λk=>(lkW ns f (k:Nat)).getD ((wss.getD k []).getD 0 0)
theorem Hq{ns f:List Int}{S:Sto}(hn:ns.Nodup)(hl:ns.length<=60):fDZ [.d (af ns),.d (af f)] S=.ok (.r S.length) (S++[.dct ((ns.zip f).map pairD)]):=by
 unfold fDZ af;dsimp only;rw[wM];dsimp only;have e:(ns.map Sum.inl).zip (f.map D.int)=(ns.zip f).map pairD:=by
  rw[List.zip_map];rfl
 rw[e,Iw (by rw[IA,Kq];omega),qi]
 ·rfl
 ·rw[JT];have:((ns.zip f).map ((λx=>x.1)∘pairD))=((ns.zip f).map (·.1)).map Sum.inl:=by rw[JT];rfl
  rw[this];exact Bw (hn.sublist tF) λx _ y _ z=>MB z
 ·simp
theorem yi{ns f:List Int}{k:Int}:fH ((ns.zip f).map pairD) (.inl k)=(lkW ns f k).map D.int:=by
 unfold lkW;generalize ns.zip f=l
 induction l with
 |nil=>rfl
 |cons x l ih=>
  rw[IM];by_cases h:x.1=k
  ·rw[m8 (show(pairD x).1=.inl k by rw[<-h];rfl)];simp[Kp,h,pairD]
  ·rw[jF (show¬(pairD x).1=.inl k fromλz=>h (MB z)),ih];simp[Kp,h]
theorem ox{wss:List (List Int)}{ns f:List Int}{n m:Int}{S:Sto}(gs:b8 n m wss):dM [.d (ao wss),.fd ((ns.zip f).map pairD)] S=.ok (.d (af (iN wss ns f))) S:=by
 unfold dM;rw[dD];unfold iF;have e:fz [some (.d (ao wss)),some (.fd ((ns.zip f).map pairD))] S=.ok (.d (.lst ((iN wss ns f).map D.int))) S:=by
  unfold fz;rw[lcG (items:=cJ 0 (wss.map af)) (S1:=S) (by unfold Be;rfl) (λz=>match z with | .d (.tup [a,b])=>[some (.d a),some (.d b)] |_=>[none,none]) (λz=>match z with | .d (.tup [.int k,_])=>.int ((lkW ns f k).getD ((wss.getD k.toNat []).getD 0 0)) |_=>.non) (λ_=>true) ?_ ?_ ?_ ?_]
  ·rw[J8.mpr (λ_ _=>rfl)];congr 3;refine Mx λi=>?_;rw[IU,dH,IU];unfold iN;rw[IU,IU];by_cases hi:i<wss.length
   ·rw[H0 hi,M4 hi];simp
   ·rw[Jq (by omega),Jq (by simp;omega)];rfl
  ·intro z hz;obtain⟨i,hi,rfl⟩:=JC.mp hz;obtain⟨x,_,e⟩:=jG (H0 hi);rw[e];rfl
  ·intro z hz ρ hρ S;obtain⟨i,hi,rfl⟩:=JC.mp hz;obtain⟨x,_,e⟩:=jG (H0 hi);rw[e]
   match ρ,hρ with
   | [_,_],_=>walk_at"mx"
  ·intro z hz S;rfl
  ·intro z hz _ S;obtain⟨i,hi,rfl⟩:=JC.mp hz;obtain⟨x,hx,e⟩:=jG (H0 hi);rw[e];rw[IU]at hx;cases q:wss[i]? with
   |none=>rw[q]at hx;cases hx
   |some ws=>
    rw[q]at hx;cases hx;have hws:=gs.all ws (JG q);have hpos:0<ws.length:=hws.pos;dsimp only;rw[Ex (S1:=S) (S2:=S) (S3:=S) (kvs:=(ns.zip f).map pairD) (yd:=.int (i:Nat)) (key:=.inl (i:Nat)) (zd:=.int (ws.getD 0 0)) (by walk_at"mx") (by walk_at"mx") (by
     walk_at"mx";exact pk (i:=0) hpos) rfl,yi]
    rw[Jh,show wss.getD i []=ws by rw[Iz,q];rfl];cases lkW ns f (i:Nat)<;>rfl
 walk_at"mx";erw[e];rw[aO];rfl
theorem Gw{τ:Nv}{S:Sto}:rj [(xC (.int 0),xN mkT aj)] τ S=.ok (.r S.length) (S++[.dct ([((0:Int),([]:List Int))].map wyD)]):=by
 unfold rj;rw[show kN [(xC (.int 0),xN mkT aj)] τ (S++[.dct []])=.ok [(.d (.int 0),.d (.tup []))] (S++[.dct []])from rfl,aQ];rw[show gR [(Vl.d (.int 0),.d (.tup []))]=some [(Sum.inl 0,.tup [])]from rfl,yN];dsimp only;rw[Iw (by decide),uH];rfl
theorem xB{W:List Way}:fL (W.map wyD)=some (bj W):=by
 induction W with
 |nil=>rfl
 |cons x W ih=>
  rw[IM];show(fL (W.map wyD)).map (x.1::·)=_;rw[ih];rfl
theorem Ct{a b:D}{S:Sto}:mkP [.d a,.d b] S=.ok (.d (.tup [a,b])) S:=ak rfl
theorem Fz{S:Sto}{P:List D}:mkP [.d (.str "no"),.r (S.length+1)] (S++[.dead]++[.lst P])=.ok (.pr (.str "no") (S.length+1)) (S++[.dead]++[.lst P]):=by
 unfold mkP;simp
theorem Eu{S:Sto}{P:List D}{τ:Nv}:leave S (.ok (.rt (.pr (.str "no") (S.length+1)),τ) (S++[.dead]++[.lst P]))=.ok (.pr (.str "no") S.length) (S++[.lst P]):=by
 unfold leave out;simp
theorem DA{S R:Sto}{τ:Nv}{P:List D}:leave S (.ok (.rt (.pr (.str "no") S.length),τ) (S++[.lst P]))=.ok (.pr (.str "no") S.length) (S++[.lst P]):=by
 unfold leave out;simp
local macro_rules | `(tactic| walk_at "my") => `(tactic| repeat (first | walk_at "mx" | simp only [dC, fK, eJ, IA]))
noncomputable def ax(ns cs:List Int)(lo hi:Int):D:=.tup [.str "sum",af ns,af cs,.int lo,.int hi]
structure GoodC(ns cs:List Int)(lo hi:Int):Prop where
 len:cs.length=ns.length
 lim:∀c∈cs,-3<=c/\c<=3
 span:-99<=lo/\lo<=hi/\hi<=99
theorem rT{ns cs:List Int}{lo hi:Int}{S:Sto}:oIx (.d (ax ns cs lo hi)) (.d (.int 0)) S=.ok (.d (.str "sum")) S:=dz rfl
theorem gb{ns cs:List Int}{lo hi:Int}{S:Sto}:oIx (.d (ax ns cs lo hi)) (.d (.int 1)) S=.ok (.d (af ns)) S:=dz rfl
theorem vJ{ns cs:List Int}{lo hi:Int}{S:Sto}:oIx (.d (ax ns cs lo hi)) (.d (.int 2)) S=.ok (.d (af cs)) S:=dz rfl
theorem AY{ns cs:List Int}{lo hi:Int}{S:Sto}:oIx (.d (ax ns cs lo hi)) (.d (.int 3)) S=.ok (.d (.int lo)) S:=dz rfl
theorem z_{ns cs:List Int}{lo hi:Int}{S:Sto}:oIx (.d (ax ns cs lo hi)) (.d (.int 4)) S=.ok (.d (.int hi)) S:=dz rfl
theorem xV{ns cs:List Int}{lo hi:Int}{S:Sto}:bD [.d (ax ns cs lo hi)] S=.ok (.d (.int 5)) S:=sH
theorem Ck{o:Ob}{R:Sto}{wss:List (List Int)}{n m:Int}(hp:Pen o)(g:b8 n m wss)(hn:n<=50)(hm:m<=50):∃(ns cs:List Int)(lo hi:Int)(o':Ob),eA wss.length ns/\GoodC ns cs lo hi/\Pen o'/\fO [.r 0,.d (ao wss),.d (.int 2)] (o::R)=.ok (.d (ax ns cs lo hi)) (o'::R):=by
 have g0:=g.pos;have g1:=g.le;obtain⟨ns,o1,gn,hp1,e1⟩:=qE (R:=R) (wss:=wss) hp g0 (by omega);have gl:=gn.le;unfold fO;rw[d8];unfold lC;walk_at"mx";erw[e1];erw[show decide ((2:Int)=0)=false from rfl];erw[show decide ((2:Int)=1)=false from rfl];obtain⟨acc,Q,e4,hl,o3,ws,hp3,rfl,rfl,hw,hlim⟩:=nH (show _=lg [some (.r 0),some (.d (ao wss)),some (.d (.int 2)),some (.d (af ns)),none,none,none,none,none,none,none] (o1::R)from rfl) (S1:=o1::R) (items:=(ns.map D.int).map Vl.d) (by unfold af;walk_at"mx")
  (λi acc Q=>∃(o':Ob)(ws:List Int),Pen o'/\acc=ws.map D.int/\Q=o'::R/\ws.length=i/\∀w∈ws,-3<=w/\w<=3) ⟨o1,[],hp1,rfl,rfl,rfl,λ_ h=>by cases h⟩ (by
   rintro i z acc Q hz ⟨o',ws,hp',rfl,rfl,hw,hlim⟩ _;obtain⟨c,o3,c0,c1,hp3,e3⟩:=bu (R:=R++[.lst (ws.map D.int)]) (m:=7) hp' (by decide) (by decide);refine⟨.int (c-3),o3::R,?_,rfl,o3,ws++[c-3],hp3,jR.symm,rfl,by simp[hw],λw hw=>?_⟩
   ·walk_at"mx";erw[e3]
   ·rcases Jk.mp hw with q |q
    ·exact hlim w q
    ·rw[IQ.mp q];omega)
 have hw':ws.length=ns.length:=by simpa using hw
 erw[e4];obtain⟨τ',S',e5,o5,tot,x6,x7,hp5,rfl,rfl⟩:=dj (show _=kC [some (.r 0),some (.d (ao wss)),some (.d (.int 2)),some (.d (af ns)),some (.d (.tup (ws.map D.int))),some (.d (.int 0)),none,none,none,none,none] (o3::R)from rfl)
  (S1:=o3::R) (gd:=none) (items:=hG (ns.map D.int) (ws.map D.int)) (by unfold af;walk_at"mx")
  (λi τ S=>∃(o':Ob)(tot:Int)(x6 x7:Option Vl),Pen o'/\τ=[some (.r 0),some (.d (ao wss)),some (.d (.int 2)),some (.d (af ns)),some (.d (.tup (ws.map D.int))),some (.d (.int tot)),x6,x7,none,none,none]/\S=o'::R) ⟨o3,0,none,none,hp3,rfl,rfl⟩ (by
   rintro i z τ S hz ⟨o',tot,x6,x7,hp',rfl,rfl⟩;obtain⟨nm,wt,en,ew,rfl⟩:=zQ hz;obtain⟨p0,p1⟩:=gn.dom nm (JG en);have gw:=g.all _ (p8 p0 p1);have hat:=js p0 p1;generalize wss.getD nm.toNat []=vs at gw hat;have w0:=gw.pos;have w1:=gw.le;obtain⟨c,o4,c0,c1,hp4,e4⟩:=bu (R:=R) (m:=(vs.length:Int)) hp' (by omega) (by omega);obtain⟨v,ev,mv⟩:=fG (ns:=vs) (i:=c) c0 c1;have lv:=gw.lim v mv;refine⟨_,_,.nx,_,_,by walk_at"mx";rfl,by
    walk_at"mx";unfold ao;erw[dz hat];erw[dz hat,show af vs=.tup (vs.map D.int)from rfl];erw[IA,e4];erw[dz ev];erw[qT (qX (by omega) (by omega))];rfl,.inl rfl,True.intro,o4,_,_,_,hp4,rfl,rfl⟩)
 erw[e5];obtain⟨a,oa,a0,a1,hpa,ea⟩:=bu (R:=R) (m:=5) hp5 (by decide) (by decide);obtain⟨u,eu,_⟩:=fG (ns:=[0,0,1,-4,9]) (i:=a) a0 (by simpa using a1);erw[ea];erw[iH (show atI [D.int 0,D.int 0,D.int 1,D.int (-4),D.int 9] a=some (.int u)from eu)];generalize hlo:(if(if tot+u<99 then tot+u else 99) > -99 then(if tot+u<99 then tot+u else 99)else -99)=lo;have blo:-99<=lo/\lo<=99:=by
  rw[<-hlo];split<;>split at *<;>omega
 obtain⟨b,ob,b0,b1,hpb,eb⟩:=bu (R:=R) (m:=5) hpa (by decide) (by decide);obtain⟨v,ev,mv⟩:=fG (ns:=[0,0,1,2,7]) (i:=b) b0 (by simpa using b1);have hv:0<=v:=by
  simp only[IL,Jt,Ky]at mv;omega
 erw[eb];erw[iH (show atI [D.int 0,D.int 0,D.int 1,D.int 2,D.int 7] b=some (.int v)from ev)];generalize hhi:(if lo+v<99 then lo+v else 99)=hi;have bhi:lo<=hi/\hi<=99:=by
  rw[<-hhi];split<;>omega
 obtain⟨c,oc,c0,c1,hpc,ec⟩:=bu (R:=R) (m:=6) hpb (by decide) (by decide);erw[ec];by_cases hc:c=0
 ·erw[IV hc];obtain⟨d,od,d0,d1,hpd,ed⟩:=bu (R:=R) (m:=199) hpc (by decide) (by decide);erw[ed];obtain⟨e,oe,f0,f1,hpe,ee⟩:=bu (R:=R) (m:=100-(d-99)) hpd (by omega) (by omega);erw[ee];exact⟨ns,ws,d-99,d-99+e,oe,gn,⟨hw',hlim,by omega⟩,hpe,by rw[cO,cS];rfl⟩
 ·erw[IW hc];exact⟨ns,ws,lo,hi,oc,gn,⟨hw',hlim,by omega⟩,hpc,by rw[cO,cS];rfl⟩
theorem yv{ns cs:List Int}{lo hi:Int}{S:Sto}(g:GoodC ns cs lo hi):jI [.d (ax ns cs lo hi)] S=.ok (.d (.bl true)) S:=by
 unfold jI;rw[cN];unfold p7;walk_at"mx";erw[xV];erw[vJ];erw[f9 g.lim];rw[vJ];walk_at"my";rw[gb];walk_at"my";erw[g.len];erw[AY];erw[z_];erw[wx g.span];rw[aO]
theorem Dk{ns cs:List Int}{lo hi:Int}{S:Sto}(g:GoodC ns cs lo hi):df [.d (ax ns cs lo hi)] S=.ok (.d (.bl true)) S:=by
 unfold df;rw[cN];unfold gj;walk_at"mx";erw[rT];erw[zJ];erw[yR];erw[yv g];rw[aO]
theorem wB{ns cs:List Int}{lo hi:Int}{k:Nat}{S:Sto}(g:eA k ns)(gl:GoodC ns cs lo hi)(hk:k<=4):iG [.d (ax ns cs lo hi)] S=.ok (.d (.bl true)) S:=by
 unfold iG;rw[cN];unfold nX;walk_at"mx";erw[show isT "tuple" (ax ns cs lo hi)=true from rfl];erw[xV];erw[show decide ((5:Int)<2)=false from rfl];erw[gb];erw[tj g hk];erw[Dk gl];rw[aO]
theorem uX{wss:List (List Int)}{n m:Int}{ns cs:List Int}{lo hi:Int}{S:Sto}(gs:b8 n m wss)(hn:n<=4)(hm:m<=4)(g:eA wss.length ns)(gl:GoodC ns cs lo hi):lN [.d (ao wss),.d (ax ns cs lo hi)] S=.ok (.d .non) S:=by
 have:=gs.le;have e1:eR [.d (ao wss),.d (ax ns cs lo hi)] S=.ok (.d (.bl true)) S:=by
  unfold eR;rw[dD];unfold ki;walk_at"mx";erw[wB g gl (by omega)];rw[pE (show _=kh [some (.d (ao wss)),some (.d (ax ns cs lo hi))] S from rfl) (xs:=ns.map D.int) (S1:=S) (by walk_at"mx";rw[gb];rfl) (λ_=>.bl true) (by
   intro x hx S;obtain⟨v,hv,rfl⟩:=J4.mp hx;have:=g.dom v hv;unfold ao;walk_at"mx";rw[IA,IV this.2])]
  walk_at"mx";erw[all_true];rw[aO]
 have e2:∀x,fQ [.d (ao wss),.d (ax ns cs lo hi),x] S=.ok (.d .non) S:=λx=>by
  unfold fQ;rw[d8];unfold kP;walk_at"mx";erw[e1];rw[jy,jq,JW]
 unfold lN;rw[dD];unfold va;walk_at"mx";erw[qG gs hn hm];erw[e2];rw[jy,jq,JW]
theorem lJ{wss:List (List Int)}{n m:Int}{ns cs:List Int}{lo hi:Int}{S:Sto}(gs:b8 n m wss)(hn:n<=4)(hm:m<=4)(g:eA wss.length ns)(gl:GoodC ns cs lo hi):ef [.d (ao wss),.d (ax ns cs lo hi),.d (.str "sum")] S=.ok (.d .non) S:=by
 unfold ef;rw[d8];unfold lH;walk_at"mx";erw[uX gs hn hm g gl];erw[rT];rw[jy,jq,JW]
noncomputable def kO(f cs:List Int):Nat->Int
 |0=>0
 |n+1=>kO f cs n+f.getD n 0*cs.getD n 0
theorem pO{f g cs:List Int}:∀n,(∀j,j<n->f.getD j 0=g.getD j 0)->kO f cs n=kO g cs n
 |0,_=>rfl
 |n+1,h=>by
  rw[kO,kO,pO n λj hj=>h j (by omega),h n (by omega)]
theorem pP{f:List Int}{w:Int}{j:Nat}(h:j<f.length):(f++[w]).getD j 0=f.getD j 0:=by
 rw[Iz,Iz,Jb h]
theorem rJ{f:List Int}{w:Int}{n:Nat}(h:f.length=n):(f++[w]).getD n 0=w:=by
 rw[Iz,Jd (by omega),h,Mk];rfl
noncomputable def st2(c q:Int)(f:List Int)(acc:List Way)(ws:List Int):List Way:=ws.foldl (λa w=>iW a (q+w*c) (f++[w])) acc
noncomputable def st1(c:Int)(ws:List Int)(acc W:List Way):List Way:=W.foldl (λa x=>st2 c x.1 x.2 a ws) acc
theorem vB(P:Way->Prop){c q:Int}{f ws:List Int}{acc:List Way}(h0:∀x∈acc,P x)(h:∀w∈ws,P (q+w*c,f++[w])):∀x∈st2 c q f acc ws,P x:=
 gY (λa=>∀x∈a,P x) ws acc h0 λa w hw ha x hx=>(Aq hx).elim (ha x) λe=>e▸h w hw
theorem uQ(P:Way->Prop){c:Int}{ws:List Int}{acc W:List Way}(h0:∀x∈acc,P x)(h:∀x∈W,∀w∈ws,P (x.1+w*c,x.2++[w])):∀x∈st1 c ws acc W,P x:=
 gY (λa=>∀x∈a,P x) W acc h0 λa x hx ha=>vB P ha (h x hx)
theorem ze{c q:Int}{f ws:List Int}{acc:List Way}(h:(bj acc).Nodup):(bj (st2 c q f acc ws)).Nodup:=gY (λa=>(bj a).Nodup) ws acc h λ_ _ _ h=>Ds h
theorem yV{c:Int}{ws:List Int}{acc W:List Way}(h:(bj acc).Nodup):(bj (st1 c ws acc W)).Nodup:=gY (λa=>(bj a).Nodup) W acc h λ_ _ _ h=>ze h
noncomputable def b7(cs:List Int)(wss:List (List Int))(ns:List Int):Nat->List Way
 |0=>[(0,[])]
 |i+1=>st1 (cs.getD i 0) (wss.getD (ns.getD i 0).toNat []) [] (b7 cs wss ns i)
noncomputable def E7(cs:List Int)(wss:List (List Int))(ns:List Int)(i:Nat):List Int:=sortI (bj (b7 cs wss ns i))
structure GV(cs:List Int)(wss:List (List Int))(ns:List Int)(i:Nat)(x:Way):Prop where
 len:x.2.length=i
 mem:∀j,j<i->x.2.getD j 0∈wss.getD (ns.getD j 0).toNat []
 led:x.1=kO x.2 cs i
 lim:-27*(i:Int)<=x.1/\x.1<=27*i
theorem uG{w c:Int}(h1:-9<=w/\w<=9)(h2:-3<=c/\c<=3):-27<=w*c/\w*c<=27:=by
 have:c=-3\/c=-2\/c=-1\/c=0\/c=1\/c=2\/c=3:=by omega
 rcases this with rfl |rfl |rfl |rfl |rfl |rfl |rfl<;>omega
theorem qo{wss:List (List Int)}{n m v w:Int}(gs:b8 n m wss)(h:w∈wss.getD v.toNat []):-9<=w/\w<=9:=by
 by_cases q:v.toNat<wss.length
 ·refine(gs.all _ ?_).lim w h;rw[Iz,H0 q];exact JE q
 ·rw[Iz,Jq (by omega)]at h;cases h
theorem jE{cs:List Int}{i:Nat}(h:∀c∈cs,-3<=c/\c<=3):-3<=cs.getD i 0/\cs.getD i 0<=3:=by
 by_cases q:i<cs.length
 ·rw[Iz,H0 q];exact h _ (JE q)
 ·rw[Iz,Jq (by omega)];decide
theorem iJ{cs:List Int}{wss:List (List Int)}{ns:List Int}{n m:Int}(gs:b8 n m wss)(hc:∀c∈cs,-3<=c/\c<=3):∀i,(∀x∈b7 cs wss ns i,GV cs wss ns i x)/\(bj (b7 cs wss ns i)).Nodup
 |0=>⟨λx hx=>by
   rw[IQ.mp hx];exact⟨rfl,λj hj=>by omega,rfl,by decide⟩,by simp[b7,bj]⟩
 |i+1=>by
  obtain⟨ih,_⟩:=iJ (ns:=ns) gs hc i;refine⟨uQ _ (by simp) λx hx w hw=>?_,yV (by simp[bj])⟩;obtain⟨h1,h2,h3,h4⟩:=ih x hx;refine⟨by simp[h1],λj hj=>?_,?_,?_⟩
  ·by_cases q:j<i
   ·rw[pP (by omega)];exact h2 j q
   ·have e:j=i:=by omega
    subst e;rw[rJ h1];exact hw
  ·show x.1+w*cs.getD i 0=kO (x.2++[w]) cs (i+1);rw[kO,rJ h1,h3,pO (f:=x.2++[w]) (g:=x.2) i λj hj=>pP (by omega)]
  ·have:=uG (qo gs hw) (jE (i:=i) hc);show -27*((i+1:Nat):Int)<=x.1+w*cs.getD i 0/\x.1+w*cs.getD i 0<=27*((i+1:Nat):Int);omega
theorem rQ{l:List Int}(h:l.Nodup)(hb:∀x∈l,-108<=x/\x<=108):l.length<=217:=by
 have:=tG (a:=-108) (b:=108) (mZ h) λx hx=>hb x ((lr l x).mp hx);rw[fW]at this;omega
theorem tU{cs:List Int}{wss:List (List Int)}{ns:List Int}{n m:Int}(gs:b8 n m wss)(hc:∀c∈cs,-3<=c/\c<=3){i:Nat}(hi:i<=4):(bj (b7 cs wss ns i)).length<=217:=by
 obtain⟨h1,h2⟩:=iJ (ns:=ns) gs hc i;refine rQ h2 λx hx=>?_;obtain⟨y,hy,rfl⟩:=J4.mp hx;have:=(h1 y hy).lim;omega
noncomputable def bI(cs:List Int)(wss:List (List Int))(ns:List Int)(n:Nat):List (List Int):=(IP n).map (E7 cs wss ns)
theorem vQ{cs:List Int}{wss:List (List Int)}{ns:List Int}{n:Nat}:bI cs wss ns (n+1)=bI cs wss ns n++[E7 cs wss ns n]:=by unfold bI;rw[Oh,JN];rfl
theorem pW{ns cs:List Int}{lo hi q w:Int}{k:Nat}{S:Sto}(hk:k<cs.length)(hc:∀c∈cs,-3<=c/\c<=3):cn [.d (ax ns cs lo hi),.d (.int (k:Nat)),.d (.int q),.d (.int w)] S=.ok (.d (.lst [.int (q+w*cs.getD k 0)])) S:=by
 have:=jE (i:=k) hc;unfold cn;rw[nB];unfold i_;walk_at"mx";erw[vJ];erw[pk hk];erw[qT (qX (by omega) (by omega))];rw[aO]
theorem rF{ns cs:List Int}{lo hi q:Int}{S:Sto}:bQ [.d (ax ns cs lo hi),.d (.int q)] S=.ok (.d (.bl (decide (lo<=q)&&decide (q<=hi)))) S:=by
 unfold bQ;rw[dD];unfold iS;walk_at"mx";erw[AY];by_cases h:lo<=q
 ·erw[IV h];erw[z_];rw[aO,Q0]
 ·erw[IW h];rw[aO,Qt]
theorem Bl{wss:List (List Int)}{ns cs:List Int}{lo hi:Int}{W acc:List Way}{S:Sto}{k:Nat}{q w:Int}{f:List Int}{x8:Option Vl}(hk:k<cs.length)(hc:∀c∈cs,-3<=c/\c<=3)(hnd:(bj W).Nodup)(hq:(q,f)∈W)(ha:(bj acc).Nodup)(hb:∀z∈bj acc,-108<=z/\z<=108)(hf:f.length<=60) :
  ∃y8,jD [some (.d (ao wss)),some (.d (ax ns cs lo hi)),some (.d (.int (k:Nat))),some (.fd (W.map wyD)),some (.fn "sums_onward"),some (.r S.length),some (.d (.int q)),some (.d (.int w)),x8] (S++[.dct (acc.map wyD)])=.ok (.nx,[some (.d (ao wss)),some (.d (ax ns cs lo hi)),some (.d (.int (k:Nat))),some (.fd (W.map wyD)),some (.fn "sums_onward"),some (.r S.length),some (.d (.int q)),some (.d (.int w)),y8]) (S++[.dct ((iW acc (q+w*cs.getD k 0) (f++[w])).map wyD)]):=by
 have hl4:=rQ ha hb;generalize hp:q+w*cs.getD k 0=p;obtain⟨τ',S',e,hI⟩:=dj (show _=jD [some (.d (ao wss)),some (.d (ax ns cs lo hi)),some (.d (.int (k:Nat))),some (.fd (W.map wyD)),some (.fn "sums_onward"),some (.r S.length),some (.d (.int q)),some (.d (.int w)),x8] (S++[.dct (acc.map wyD)])from rfl) (S1:=S++[.dct (acc.map wyD)]) (items:=[Vl.d (.int p)]) (gd:=none) (by
   erw[lq,v_ (nm:="sums_onward") (F:=cn) rfl LW];rw[pW hk hc,hp];walk_at"mx")
  (λi τ S'=>∃y8,τ=[some (.d (ao wss)),some (.d (ax ns cs lo hi)),some (.d (.int (k:Nat))),some (.fd (W.map wyD)),some (.fn "sums_onward"),some (.r S.length),some (.d (.int q)),some (.d (.int w)),y8]/\S'=S++[.dct ((if i=0 then acc else iW acc p (f++[w])).map wyD)]) ⟨x8,rfl,rfl⟩ (by
   rintro i z τ S' hz ⟨y8,rfl,rfl⟩;cases i with
   |succ i=>cases hz
   |zero=>
    cases hz;rw[Iw rfl];refine⟨[some (.d (ao wss)),some (.d (ax ns cs lo hi)),some (.d (.int (k:Nat))),some (.fd (W.map wyD)),some (.fn "sums_onward"),some (.r S.length),some (.d (.int q)),some (.d (.int w)),some (.d (.int p))],S++[.dct (acc.map wyD)],.nx,_,_,by walk_at"mx",Ee (S1:=S++[.dct (acc.map wyD)]) (S2:=S++[.dct (acc.map wyD)]) (S3:=S++[.dct (acc.map wyD)]) (zd:=af (f++[w])) (yd:=.int p) (k:=.inl p) (n:=S.length) (kvs:=acc.map wyD) (by
     walk_at"mx";erw[Fd (k:=.inl q) rfl (w6 hnd hq)];unfold af;rw[tu (by simp;omega)];rw[show [D.int w]=[w].map D.int from rfl,<-JN]) (by walk_at"mx") (by walk_at"mx") rfl yN (by rw[IA];unfold bj at hl4;rw[IA]at hl4;omega),.inl rfl,True.intro,_,rfl,?_⟩
    rw[uH,D6];rfl)
 obtain⟨y8,rfl,rfl⟩:=hI;exact⟨y8,e⟩
theorem Bk{wss:List (List Int)}{ns cs:List Int}{lo hi:Int}{W acc:List Way}{S:Sto}{k:Nat}{q:Int}{f:List Int}{x7 x8:Option Vl}(hk:k<ns.length)(hl:cs.length=ns.length)(hc:∀c∈cs,-3<=c/\c<=3)(hdm:∀n∈ns,0<=n/\n<(wss.length:Int))(hnd:(bj W).Nodup)(hq:(q,f)∈W)(ha:(bj acc).Nodup)(hb:∀z∈bj acc,-108<=z/\z<=108)(hs:∀w∈wss.getD (ns.getD k 0).toNat [],-108<=q+w*cs.getD k 0/\q+w*cs.getD k 0<=108)(hf:f.length<=60) :
  ∃y7 y8,jL [some (.d (ao wss)),some (.d (ax ns cs lo hi)),some (.d (.int (k:Nat))),some (.fd (W.map wyD)),some (.fn "sums_onward"),some (.r S.length),some (.d (.int q)),x7,x8] (S++[.dct (acc.map wyD)])=.ok (.nx,[some (.d (ao wss)),some (.d (ax ns cs lo hi)),some (.d (.int (k:Nat))),some (.fd (W.map wyD)),some (.fn "sums_onward"),some (.r S.length),some (.d (.int q)),y7,y8]) (S++[.dct ((st2 (cs.getD k 0) q f acc (wss.getD (ns.getD k 0).toNat [])).map wyD)]):=by
 have hnm:ns.getD k 0∈ns:=by rw[Iz,H0 hk];exact JE hk
 have hdn:=hdm _ hnm;generalize hW:wss.getD (ns.getD k 0).toNat []=ws at hs;obtain⟨τ',S',e,y7,y8,rfl,rfl⟩:=dj (show _=jL [some (.d (ao wss)),some (.d (ax ns cs lo hi)),some (.d (.int (k:Nat))),some (.fd (W.map wyD)),some (.fn "sums_onward"),some (.r S.length),some (.d (.int q)),x7,x8] (S++[.dct (acc.map wyD)])from rfl) (S1:=S++[.dct (acc.map wyD)]) (items:=ws.map λw=>Vl.d (.int w)) (gd:=none) (by
   walk_at"mx";erw[gb];rw[pk hk];unfold ao;walk_at"mx";rw[dz (js hdn.1 hdn.2),hW];unfold af;walk_at"mx";rw[cw])
  (λi τ S'=>∃y7 y8,τ=[some (.d (ao wss)),some (.d (ax ns cs lo hi)),some (.d (.int (k:Nat))),some (.fd (W.map wyD)),some (.fn "sums_onward"),some (.r S.length),some (.d (.int q)),y7,y8]/\S'=S++[.dct ((st2 (cs.getD k 0) q f acc (ws.take i)).map wyD)]) ⟨x7,x8,rfl,rfl⟩ (by
   rintro i z τ S' hz ⟨y7,y8,rfl,rfl⟩;rw[IU]at hz;cases hp:ws[i]? with
   |none=>rw[hp]at hz;cases hz
   |some w=>
    rw[hp]at hz;cases hz;have hlim:∀z∈bj (st2 (cs.getD k 0) q f acc (ws.take i)),-108<=z/\z<=108:=λz hz=>by
     obtain⟨x,hx,rfl⟩:=J4.mp hz;exact vB (λx=>-108<=x.1/\x.1<=108) (λx hx=>hb x.1 (List.mem_map_of_mem hx)) (λw hw=>hs w (JD hw)) x hx
    obtain⟨y8',e3⟩:=Bl (wss:=wss) (ns:=ns) (cs:=cs) (lo:=lo) (hi:=hi) (S:=S) (k:=k) (w:=w) (x8:=y8) (by omega) hc hnd hq (ze (c:=cs.getD k 0) (q:=q) (f:=f) (ws:=ws.take i) ha) hlim hf;refine⟨_,_,.nx,_,_,by walk_at"mx",e3,.inl rfl,True.intro,some (.d (.int w)),y8',rfl,?_⟩;rw[take_snoc hp];unfold st2;rw[NL];rfl)
 refine⟨y7,y8,?_⟩;rw[e,IA,JW]
theorem wG{wss:List (List Int)}{ns cs:List Int}{lo hi:Int}{W:List Way}{S:Sto}{k:Nat}(hk:k<ns.length)(hl:cs.length=ns.length)(hc:∀c∈cs,-3<=c/\c<=3)(hdm:∀n∈ns,0<=n/\n<(wss.length:Int))(hnd:(bj W).Nodup)(hs:∀x∈W,∀w∈wss.getD (ns.getD k 0).toNat [],-108<=x.1+w*cs.getD k 0/\x.1+w*cs.getD k 0<=108)(hf:∀x∈W,x.2.length<=60) :
  iL [.d (ao wss),.d (ax ns cs lo hi),.d (.int (k:Nat)),.fd (W.map wyD),.fn "sums_onward"] S=.ok (.fd ((st1 (cs.getD k 0) (wss.getD (ns.getD k 0).toNat []) [] W).map wyD)) S:=by
 unfold iL;rw[sP];unfold ni;obtain⟨τ',S',e,y6,y7,y8,rfl,rfl⟩:=dj (show _=nD [some (.d (ao wss)),some (.d (ax ns cs lo hi)),some (.d (.int (k:Nat))),some (.fd (W.map wyD)),some (.fn "sums_onward"),some (.r S.length),none,none,none] (S++[.dct []])from rfl) (S1:=S++[.dct []]) (items:=W.map λx=>Vl.d (.int x.1)) (gd:=none) (by
   unfold rW;rw[show aa 3 [some (Vl.d (ao wss)),some (.d (ax ns cs lo hi)),some (.d (.int (k:Nat))),some (.fd (W.map wyD)),some (.fn "sums_onward"),some (.r S.length),none,none,none] (S++[.dct []])=.ok (.fd (W.map wyD)) (S++[.dct []])from rfl,aQ];dsimp only;rw[JT];rfl)
  (λi τ S'=>∃y6 y7 y8,τ=[some (.d (ao wss)),some (.d (ax ns cs lo hi)),some (.d (.int (k:Nat))),some (.fd (W.map wyD)),some (.fn "sums_onward"),some (.r S.length),y6,y7,y8]/\S'=S++[.dct ((st1 (cs.getD k 0) (wss.getD (ns.getD k 0).toNat []) [] (W.take i)).map wyD)]) ⟨none,none,none,rfl,rfl⟩ (by
   rintro i z τ S' hz ⟨y6,y7,y8,rfl,rfl⟩;rw[IU]at hz;cases hp:W[i]? with
   |none=>rw[hp]at hz;cases hz
   |some x=>
    rw[hp]at hz;cases hz;have hx:=JG hp;have hlim:∀z∈bj (st1 (cs.getD k 0) (wss.getD (ns.getD k 0).toNat []) [] (W.take i)),-108<=z/\z<=108:=λz hz=>by
     obtain⟨x,hx,rfl⟩:=J4.mp hz;exact uQ (λx=>-108<=x.1/\x.1<=108) (by simp) (λx hx w hw=>hs x (JD hx) w hw) x hx
    obtain⟨y7',y8',e3⟩:=Bk (wss:=wss) (ns:=ns) (cs:=cs) (lo:=lo) (hi:=hi) (S:=S) (k:=k) (q:=x.1) (f:=x.2) (x7:=y7) (x8:=y8) hk hl hc hdm hnd hx (yV (c:=cs.getD k 0) (ws:=wss.getD (ns.getD k 0).toNat []) (W:=W.take i) (by simp[bj])) hlim (hs x hx) (hf x hx);refine⟨_,_,.nx,_,_,by walk_at"mx",e3,.inl rfl,True.intro,_,_,_,rfl,?_⟩;rw[take_snoc hp];unfold st1;rw[NL];rfl)
 rw[IA,JW]at e;walk_at"mx";erw[E1];erw[e];erw[vI (R:=[])];rw[FU]
theorem Cj{W:List Way}{S:Sto}(h:(bj W).length<301):k8 301 [.fd (W.map wyD)] S=.ok (.d (.lst ((sortI (bj W)).map D.int))) S:=by
 unfold k8;dsimp only;rw[xB];dsimp only;rw[Iw h]
theorem Bm{wss:List (List Int)}{ns cs:List Int}{lo hi n m:Int}{S:Sto}{x6 x7:Option Vl}(gs:b8 n m wss)(hdm:∀n∈ns,0<=n/\n<(wss.length:Int))(g:GoodC ns cs lo hi)(h4:ns.length<=4) :
  ∃y6,fP [some (.d (ao wss)),some (.d (ax ns cs lo hi)),some (.fn "sums_onward"),some (.fn "is_sum_asked"),some (.fd ((b7 cs wss ns 0).map wyD)),some (.r S.length),x6,x7] (S++[.lst ((bI cs wss ns 1).map af)])=.ok (.nx,[some (.d (ao wss)),some (.d (ax ns cs lo hi)),some (.fn "sums_onward"),some (.fn "is_sum_asked"),some (.fd ((b7 cs wss ns ns.length).map wyD)),some (.r S.length),y6,x7]) (S++[.lst ((bI cs wss ns (ns.length+1)).map af)]):=by
 obtain⟨τ',S',e,y6,rfl,rfl⟩:=dj (show _=fP [some (.d (ao wss)),some (.d (ax ns cs lo hi)),some (.fn "sums_onward"),some (.fn "is_sum_asked"),some (.fd ((b7 cs wss ns 0).map wyD)),some (.r S.length),x6,x7] (S++[.lst ((bI cs wss ns 1).map af)])from rfl) (S1:=S++[.lst ((bI cs wss ns 1).map af)]) (items:=(IP ns.length).map λi=>Vl.d (.int (i:Nat))) (gd:=none) (by
   walk_at"mx";rw[gb];walk_at"my";rw[jH (by omega),Jh])
  (λi τ S'=>∃y6,τ=[some (.d (ao wss)),some (.d (ax ns cs lo hi)),some (.fn "sums_onward"),some (.fn "is_sum_asked"),some (.fd ((b7 cs wss ns i).map wyD)),some (.r S.length),y6,x7]/\S'=S++[.lst ((bI cs wss ns (i+1)).map af)]) ⟨x6,rfl,rfl⟩ (by
   rintro i z τ S' hz ⟨y6,rfl,rfl⟩;obtain⟨hi',rfl⟩:=gK hz;obtain⟨g1,g2⟩:=iJ (ns:=ns) gs g.lim i;have hlen:(bI cs wss ns (i+1)).length=i+1:=by simp[bI]
   have hf4:=tU (ns:=ns) gs g.lim (i:=i+1) (by omega);refine⟨_,_,.nx,_,_,by walk_at"mx";rfl,by
    walk_at"mx";rw[wG hi' g.len g.lim hdm g2 (λx hx w hw=>by
     have h1:=(g1 x hx).lim;have h2:=uG (qo gs hw) (jE (i:=i) g.lim);omega) (λx hx=>by have:=(g1 x hx).len;omega)]
    walk_at"mx";erw[show st1 (cs.getD i 0) (wss.getD (ns.getD i 0).toNat []) [] (b7 cs wss ns i)=b7 cs wss ns (i+1)from rfl,Cj (by omega)];erw[oE (by rw[IA];omega)];rfl,.inl rfl,True.intro,_,rfl,?_⟩
   rw[vQ (n:=i+1),JN];rfl)
 refine⟨y6,?_⟩;rw[e,gL]
theorem z9{wss:List (List Int)}{ns cs:List Int}{lo hi n m:Int}{S:Sto}{x6 x7:Option Vl}(gs:b8 n m wss)(hnd:ns.Nodup)(g:GoodC ns cs lo hi)(h4:ns.length<=4) :
  (∃y7,(∀x∈b7 cs wss ns ns.length,¬(lo<=x.1/\x.1<=hi))/\eo [some (.d (ao wss)),some (.d (ax ns cs lo hi)),some (.fn "sums_onward"),some (.fn "is_sum_asked"),some (.fd ((b7 cs wss ns ns.length).map wyD)),some (.r S.length),x6,x7] (S++[.lst ((bI cs wss ns (ns.length+1)).map af)])=.ok (.nx,[some (.d (ao wss)),some (.d (ax ns cs lo hi)),some (.fn "sums_onward"),some (.fn "is_sum_asked"),some (.fd ((b7 cs wss ns ns.length).map wyD)),some (.r S.length),x6,y7]) (S++[.lst ((bI cs wss ns (ns.length+1)).map af)])) \/
  ∃x τ' R,x∈b7 cs wss ns ns.length/\(lo<=x.1/\x.1<=hi)/\eo [some (.d (ao wss)),some (.d (ax ns cs lo hi)),some (.fn "sums_onward"),some (.fn "is_sum_asked"),some (.fd ((b7 cs wss ns ns.length).map wyD)),some (.r S.length),x6,x7] (S++[.lst ((bI cs wss ns (ns.length+1)).map af)])=.ok (.rt (.d (.tup [.str "can",af (iN wss ns x.2)])),τ') (S++R):=by
 obtain⟨g1,g2⟩:=iJ (ns:=ns) gs g.lim ns.length;generalize hP:(bI cs wss ns (ns.length+1)).map af=P;generalize hW:b7 cs wss ns ns.length=W at g1 g2;rcases Dn (show _=eo [some (.d (ao wss)),some (.d (ax ns cs lo hi)),some (.fn "sums_onward"),some (.fn "is_sum_asked"),some (.fd (W.map wyD)),some (.r S.length),x6,x7] (S++[.lst P])from rfl) (λv S'=>∃x R,x∈W/\(lo<=x.1/\x.1<=hi)/\v=.d (.tup [.str "can",af (iN wss ns x.2)])/\S'=S++R) (S1:=S++[.lst P]) (items:=W.map λx=>Vl.d (.int x.1)) (gd:=none) (by
   unfold rW;rw[show aa 4 [some (Vl.d (ao wss)),some (.d (ax ns cs lo hi)),some (.fn "sums_onward"),some (.fn "is_sum_asked"),some (.fd (W.map wyD)),some (.r S.length),x6,x7] (S++[.lst P])=.ok (.fd (W.map wyD)) (S++[.lst P])from rfl,aQ];dsimp only;rw[JT];rfl)
  (λi τ S'=>∃y7,(∀x∈W.take i,¬(lo<=x.1/\x.1<=hi))/\τ=[some (.d (ao wss)),some (.d (ax ns cs lo hi)),some (.fn "sums_onward"),some (.fn "is_sum_asked"),some (.fd (W.map wyD)),some (.r S.length),x6,y7]/\S'=S++[.lst P]) ⟨x7,by simp,rfl,rfl⟩ (by
   rintro i z τ S' hz ⟨y7,hno,rfl,rfl⟩;rw[IU]at hz;cases hp:W[i]? with
   |none=>rw[hp]at hz;cases hz
   |some x=>
    rw[hp]at hz;cases hz;have hx:=JG hp;have ec:fq [("is_sum_asked",bQ)] 3 (ab (aa 1) (ab (aa 7) aj)) [some (.d (ao wss)),some (.d (ax ns cs lo hi)),some (.fn "sums_onward"),some (.fn "is_sum_asked"),some (.fd (W.map wyD)),some (.r S.length),x6,some (.d (.int x.1))] (S++[.lst P])=.ok (.d (.bl (decide (lo<=x.1)&&decide (x.1<=hi)))) (S++[.lst P]):=by
     erw[v_ (nm:="is_sum_asked") (F:=bQ) rfl LW];erw[rF]
    rw[<-Bool.decide_and]at ec;by_cases he:lo<=x.1/\x.1<=hi
    ·rw[IV he]at ec;refine⟨[some (.d (ao wss)),some (.d (ax ns cs lo hi)),some (.fn "sums_onward"),some (.fn "is_sum_asked"),some (.fd (W.map wyD)),some (.r S.length),x6,some (.d (.int x.1))],S++[.lst P],.rt (.d (.tup [.str "can",af (iN wss ns x.2)])),_,S++[.lst P]++[.dead],by walk_at"mx",by
      walk_at"mx";erw[ec];erw[gb];erw[Fd (k:=.inl x.1) rfl (w6 g2 (show(x.1,x.2)∈W from hx))];erw[Hq hnd (by omega)];rw[show(S++[Ob.lst P]++[Ob.dct ((ns.zip x.2).map pairD)])=(S++[Ob.lst P])++[Ob.dct ((ns.zip x.2).map pairD)]from rfl];erw[vI (S:=S++[Ob.lst P]) (R:=[])];erw[ox gs];erw[Ct];rfl,.inr ⟨_,rfl,x,[.lst P,.dead],hx,he,rfl,by simp⟩⟩
    ·rw[IW he]at ec;refine⟨_,_,.nx,_,_,by walk_at"mx";rfl,by
      walk_at"mx";erw[ec];rfl,.inl ⟨.inl rfl,True.intro,_,?_,rfl,rfl⟩⟩
     intro y hy;rw[take_snoc hp]at hy;rcases Jk.mp hy with q |q
     ·exact hno y q
     ·rw[IQ.mp q];exact he)with⟨τ',S',e,y7,hno,rfl,rfl⟩ |⟨v,τ',S',e,x,R,hx,he,rfl,rfl⟩
 ·rw[IA,JW]at hno;exact .inl ⟨y7,hno,e⟩
 ·exact .inr ⟨x,τ',R,hx,he,e⟩
theorem my{wss:List (List Int)}{ns cs:List Int}{lo hi n m:Int}{S:Sto}(gs:b8 n m wss)(hnd:ns.Nodup)(hdm:∀n∈ns,0<=n/\n<(wss.length:Int))(g:GoodC ns cs lo hi)(h4:ns.length<=4) :
  ((∀x∈b7 cs wss ns ns.length,¬(lo<=x.1/\x.1<=hi))/\dc [.d (ao wss),.d (ax ns cs lo hi),.fn "sums_onward",.fn "is_sum_asked"] S=.ok (.pr (.str "no") S.length) (S++[.lst ((bI cs wss ns (ns.length+1)).map af)])) \/
  ∃x,x∈b7 cs wss ns ns.length/\(lo<=x.1/\x.1<=hi)/\dc [.d (ao wss),.d (ax ns cs lo hi),.fn "sums_onward",.fn "is_sum_asked"] S=.ok (.d (.tup [.str "can",af (iN wss ns x.2)])) S:=by
 have e0:dc [.d (ao wss),.d (ax ns cs lo hi),.fn "sums_onward",.fn "is_sum_asked"] S=leave S (ay fP (ay eo (aR (xN mkP (ab (xC (.str "no")) (ab (aa 5) aj))))) [some (.d (ao wss)),some (.d (ax ns cs lo hi)),some (.fn "sums_onward"),some (.fn "is_sum_asked"),some (.fd ((b7 cs wss ns 0).map wyD)),some (.r (S++[Ob.dead]).length),none,none] ((S++[Ob.dead])++[.lst ((bI cs wss ns 1).map af)])):=by
  unfold dc;rw[nB];unfold mn;walk_at"mx";erw[Gw];erw[vI (R:=[])];rfl
 obtain⟨y6,e1⟩:=Bm (S:=S++[.dead]) (x6:=none) (x7:=none) gs hdm g h4;rcases z9 (S:=S++[.dead]) (x6:=y6) (x7:=none) gs hnd g h4 with⟨y7,hno,e2⟩ |⟨x,τ',R,hx,he,e2⟩
 ·refine .inl ⟨hno,?_⟩;erw[e0];erw[e1];erw[e2];erw[show(S++[Ob.dead]).length=S.length+1 by simp,Fz];rw[Eu]
 ·refine .inr ⟨x,hx,he,?_⟩;erw[e0];erw[e1];erw[e2];rw[cO,Ja,OH]
theorem xm:if1 (.ok (!b) S) (aR (xC (.bl false))) aX τ=.ok ((if b then .nx else .rt (.d (.bl false))),τ) S:=by cases b<;>rfl
theorem pat{p:List (List Int)}{j:Nat}(h:j<p.length):oIx (.d (.lst (p.map af))) (.d (.int (j:Int))) S=.ok (.d (af (p.getD j []))) S:=iH (mX (by rw[IU,H0 h,Iz,H0 h];rfl))
theorem FC{p:List (List Int)}{i:Nat}(h:i+1<p.length):oIx (.d (.lst (p.map af))) (.d (.int ((i:Int)+1))) S=.ok (.d (af (p.getD (i+1) []))) S:=pat (j:=i+1) h
theorem Er{p:List (List Int)}(h:0<p.length):oIx (.d (.lst (p.map af))) (.d (.int 0)) S=.ok (.d (af (p.getD 0 []))) S:=pat (j:=0) h
theorem HF{p:List (List Int)}{n:Nat}(h:p.length=n+1):oIx (.d (.lst (p.map af))) (.d (.int (-1))) S=.ok (.d (af (p.getD n []))) S:=iH (by
 rw[jA (by rw[IA];exact h),IU,H0 (by omega),Iz,H0 (by omega)];rfl)
noncomputable def lW(c:Int)(W a b:List Int):Bool:=a.all λq=>W.all λw=>decide (q+w*c∈b)
noncomputable def AH(lo hi:Int)(l:List Int):Bool:=l.all λq=>!(decide (lo<=q)&&decide (q<=hi))
noncomputable def b9(wss:List (List Int))(ns cs:List Int)(lo hi:Int)(p:List (List Int)):Bool:=decide (p.length=ns.length+1)&&(decide (0∈p.getD 0 [])&&((p.all λs=>decide (s.Pairwise (· <·)))&&(((IP ns.length).all λi=>lW (cs.getD i 0) (wss.getD (ns.getD i 0).toNat []) (p.getD i []) (p.getD (i+1) []))&&AH lo hi (p.getD ns.length []))))
theorem DB{lo hi:Int}{vss:List (List Int)}{p:List (List Int)}{i:Nat}(hin:i<ns.length)(hpl:p.length=ns.length+1)(g:GoodC ns cs lo hi)(hdm:∀n∈ns,0<=n/\n<(vss.length:Int)) :
  dP [.d (ao vss),.d (ax ns cs lo hi),.d (.int (i:Nat)),.d (.lst (p.map af)),.fn "sums_onward"] S=.ok (.d (.bl (lW (cs.getD i 0) (vss.getD (ns.getD i 0).toNat []) (p.getD i []) (p.getD (i+1) [])))) S:=by
 have glen:=g.len;have hnm:ns.getD i 0∈ns:=by rw[Iz,H0 hin];exact JE hin
 have hdn:=hdm _ hnm;unfold dP;rw[sP];unfold iA;walk_at"mx";obtain⟨τ',_,e3⟩:=gG (show _=iQ [some (.d (ao vss)),some (.d (ax ns cs lo hi)),some (.d (.int (i:Nat))),some (.d (.lst (p.map af))),some (.fn "sums_onward"),none,none] S from rfl) (d:=λq:Int=>Vl.d (.int q)) (xs:=p.getD i []) (by
   walk_at"mx";rw[pat (by omega)];unfold af;walk_at"mx";rw[cw]) (λq=>(vss.getD (ns.getD i 0).toNat []).all λw=>decide (q+w*cs.getD i 0∈p.getD (i+1) []))
  (λτ=>∃x5 x6,τ=[some (.d (ao vss)),some (.d (ax ns cs lo hi)),some (.d (.int (i:Nat))),some (.d (.lst (p.map af))),some (.fn "sums_onward"),x5,x6]) ⟨none,none,rfl⟩ (by
   rintro q hq τ ⟨x5,x6,rfl⟩;obtain⟨τ',⟨y6,rfl⟩,e⟩:=gG (show _=iM [some (.d (ao vss)),some (.d (ax ns cs lo hi)),some (.d (.int (i:Nat))),some (.d (.lst (p.map af))),some (.fn "sums_onward"),some (.d (.int q)),x6] S from rfl) (d:=λw:Int=>Vl.d (.int w)) (xs:=vss.getD (ns.getD i 0).toNat []) (by
     walk_at"mx";erw[gb];erw[pk hin];unfold ao;rw[dz (js hdn.1 hdn.2)];unfold af;walk_at"mx";rw[cw]) (λw=>decide (q+w*cs.getD i 0∈p.getD (i+1) []))
    (λτ=>∃x6,τ=[some (.d (ao vss)),some (.d (ax ns cs lo hi)),some (.d (.int (i:Nat))),some (.d (.lst (p.map af))),some (.fn "sums_onward"),some (.d (.int q)),x6]) ⟨x6,rfl⟩ (by
     rintro w hw τ ⟨x6,rfl⟩;have e2:=eP (show _=iP [some (.d (ao vss)),some (.d (ax ns cs lo hi)),some (.d (.int (i:Nat))),some (.d (.lst (p.map af))),some (.fn "sums_onward"),some (.d (.int q)),some (.d (.int w))] S from rfl) (d:=D.int) (g:=λz=>D.bl (decide (z∈p.getD (i+1) []))) (xs:=[q+w*cs.getD i 0]) (S1:=S) (by
       erw[lq,v_ (nm:="sums_onward") (F:=cn) rfl LW];rw[pW (by omega) g.lim];walk_at"mx") (λ_=>true) (λ_ _ _=>rfl) (λz hz _ S=>by
       walk_at"mx";rw[FC (by omega)];walk_at"my")
     rw[J8.mpr (λ_ _=>rfl)]at e2;refine⟨[some (.d (ao vss)),some (.d (ax ns cs lo hi)),some (.d (.int (i:Nat))),some (.d (.lst (p.map af))),some (.fn "sums_onward"),some (.d (.int q)),some (.d (.int w))],[some (.d (ao vss)),some (.d (ax ns cs lo hi)),some (.d (.int (i:Nat))),some (.d (.lst (p.map af))),some (.fn "sums_onward"),some (.d (.int q)),some (.d (.int w))],by walk_at"mx",⟨_,rfl⟩,?_⟩;walk_at"mx";erw[e2];erw[show dX [.d (.lst [D.bl (decide (q+w*cs.getD i 0∈p.getD (i+1) []))])] S=.ok (.d (.bl (decide (q+w*cs.getD i 0∈p.getD (i+1) [])))) S from(ix (l:=[q+w*cs.getD i 0]) (f:=λz=>decide (z∈p.getD (i+1) []))).trans (by simp)];rw[xm])
   exact⟨_,_,by walk_at"mx",⟨_,_,rfl⟩,e⟩)
 rw[e3];show _=L2.R.ok (Vl.d (D.bl ((p.getD i []).all λq=>(vss.getD (ns.getD i 0).toNat []).all λw=>decide (q+w*cs.getD i 0∈p.getD (i+1) [])))) S;generalize((p.getD i []).all λq=>(vss.getD (ns.getD i 0).toNat []).all λw=>decide (q+w*cs.getD i 0∈p.getD (i+1) []))=bb;cases bb with
 |false=>
  erw[IF (by decide)];rw[aO]
 |true=>
  erw[Iw rfl];rw[aO]
theorem FV{lo hi:Int}{vss:List (List Int)}{p:List (List Int)}(hr:∀s∈p,s.length<=300)(g:GoodC ns cs lo hi)(hdm:∀n∈ns,0<=n/\n<(vss.length:Int))(h4:ns.length<=4) :
  fh [.d (ao vss),.d (ax ns cs lo hi),.d (.lst (p.map af)),.fn "sums_onward",.fn "is_sum_asked"] S=.ok (.d (.bl (b9 vss ns cs lo hi p))) S:=by
 unfold fh;rw[sP];unfold j_;walk_at"mx";rw[gb];walk_at"my";rw[show isT "list" (.lst (p.map af))=true from rfl];walk_at"my";by_cases hl:p.length=ns.length+1
 ·erw[IV (show((p.length:Nat):Int)=(ns.length:Int)+1 by omega)];have e1:=eP (show _=kj [some (.d (ao vss)),some (.d (ax ns cs lo hi)),some (.d (.lst (p.map af))),some (.fn "sums_onward"),some (.fn "is_sum_asked"),some (.d (.int (ns.length:Nat)))] S from rfl) (d:=af) (g:=λs=>.bl (decide (s.Pairwise (· <·)))) (xs:=p) (S1:=S) (by
    walk_at"mx";rw[JT];rfl) (λ_=>true) (λ_ _ _=>rfl) (λs hm _ S=>by
    walk_at"mx";rw[kr (by have:=hr s hm;omega)];walk_at"mx")
  rw[J8.mpr (λ_ _=>rfl)]at e1;erw[e1];erw[ix];cases q2:(p.all λs=>decide (s.Pairwise (· <·)))with
  |false=>
   walk_at"mx";rw[aO];unfold b9;rw[q2];simp
  |true=>
   walk_at"mx";rw[Er (by omega)];walk_at"my";by_cases h0:(0:Int)∈p.getD 0 []
   ·erw[IV h0];have e2:=eP (show _=kf [some (.d (ao vss)),some (.d (ax ns cs lo hi)),some (.d (.lst (p.map af))),some (.fn "sums_onward"),some (.fn "is_sum_asked"),some (.d (.int (ns.length:Nat)))] S from rfl) (d:=λi:Nat=>D.int (i:Nat)) (g:=λi=>.bl (lW (cs.getD i 0) (vss.getD (ns.getD i 0).toNat []) (p.getD i []) (p.getD (i+1) []))) (xs:=IP ns.length) (S1:=S) (by
      walk_at"mx";rw[jH (by omega),Jh]) (λ_=>true) (λ_ _ _=>rfl) (λi hi' _ S=>by
      have hin:=JO.mp hi';walk_at"mx";rw[DB hin hl g hdm];walk_at"mx")
    rw[J8.mpr (λ_ _=>rfl)]at e2;erw[e2];erw[ix];cases q3:((IP ns.length).all λi=>lW (cs.getD i 0) (vss.getD (ns.getD i 0).toNat []) (p.getD i []) (p.getD (i+1) []))with
    |false=>
     walk_at"mx";rw[aO];unfold b9;rw[q3];simp
    |true=>
     walk_at"mx";have e3:=eP (show _=kg [some (.d (ao vss)),some (.d (ax ns cs lo hi)),some (.d (.lst (p.map af))),some (.fn "sums_onward"),some (.fn "is_sum_asked"),some (.d (.int (ns.length:Nat)))] S from rfl) (d:=D.int) (g:=λq=>.bl (decide (lo<=q)&&decide (q<=hi))) (xs:=p.getD ns.length []) (S1:=S) (by
       walk_at"mx";rw[pat (by omega)];unfold af;walk_at"mx";rw[cw]) (λ_=>true) (λ_ _ _=>rfl) (λq _ _ S=>by
       erw[v_ (nm:="is_sum_asked") (F:=bQ) rfl LW];rw[rF];walk_at"mx")
     rw[J8.mpr (λ_ _=>rfl)]at e3;erw[e3];erw[Fg];rw[aO];unfold b9 AH;rw[q2,q3,IV hl,IV h0,<-List.not_any_eq_all_not];simp
   ·erw[IW h0];rw[aO];unfold b9;rw[IW h0];simp
 ·erw[IW (show¬((p.length:Nat):Int)=(ns.length:Int)+1 by omega)];rw[aO];unfold b9;rw[IW hl];simp
theorem mD{lo hi:Int}{vss:List (List Int)}{p:List (List Int)}(gs:b8 4 4 vss)(gn:eA vss.length ns)(g:GoodC ns cs lo hi)(hr:∀s∈p,s.length<=300):dr [.d (ao vss),.d (ax ns cs lo hi),.d (.lst (p.map af))] S=.ok (.d (.bl (b9 vss ns cs lo hi p))) S:=by
 have gl:=gn.le;have h4:=gs.le;unfold dr;rw[d8];unfold lG;walk_at"mx";erw[lJ gs (by decide) (by decide) gn g];erw[FV hr g gn.dom (by omega)];rw[aO]
theorem vY{lo hi:Int}{vss:List (List Int)}{p:List (List Int)}(gs:b8 4 4 vss)(gn:eA vss.length ns)(g:GoodC ns cs lo hi)(hr:∀s∈p,s.length<=300):fj [.d (ao vss),.d (ax ns cs lo hi),.d (.lst (p.map af))] S=.ok (.d (.bl (b9 vss ns cs lo hi p))) S:=by
 unfold fj;rw[d8];unfold mm
 simp? [uX gs (by decide) (by decide) gn g,rT,zJ,yR,show decide ((Jo "sum":Str)=Jo "sum")=true by decide,mD gs gn g hr,aO]
theorem CI{s:List Int}(hl:s.length<=300):iC [.d (af s)] S=.ok (.d (.bl (decide (s.Pairwise (· <·))))) S:=by
 unfold iC;rw[cN];unfold oh;walk_at"mx";erw[ints_list];erw[tX (ns:=s) rfl hl];erw[w_ (by rw[D.depth,jY];decide),ql,decide_eq_decide.mpr (zZ (ps:=s))];rw[aO]
theorem u_{lo hi:Int}{wss:List (List Int)}{k:Nat}(hk:k<ns.length)(g:GoodC ns cs lo hi)(hdm:∀n∈ns,0<=n/\n<(wss.length:Int)):fZ [.d (ao wss),.d (ax ns cs lo hi),.d (.int (k:Nat)),.d (.int q)] S=.ok (.d (.lst (((wss.getD (ns.getD k 0).toNat []).map λw=>q+w*cs.getD k 0).map D.int))) S:=by
 have hl:=g.len;have hnm:ns.getD k 0∈ns:=by rw[Iz,H0 hk];exact JE hk
 have hdn:=hdm _ hnm;have:=jE (i:=k) g.lim;generalize hW:wss.getD (ns.getD k 0).toNat []=ws;unfold fZ;rw[nB];unfold og;have e:=eP (show _=ng [some (.d (ao wss)),some (.d (ax ns cs lo hi)),some (.d (.int (k:Nat))),some (.d (.int q)),some (.d (af ws))] S from rfl) (d:=D.int) (g:=λw=>D.int (q+w*cs.getD k 0)) (xs:=ws) (S1:=S) (by
  unfold af;walk_at"mx";rw[cw]) (λ_=>true) (λw _ S=>rfl) (λw _ _ S=>by
  simp? [vJ,pk (S:=S) (show k<cs.length by omega)]
  rw[qT (qX (by omega) (by omega))];walk_at"mx")
 rw[J8.mpr (λ_ _=>rfl)]at e
 simp? [gb,pk (S:=S) hk,show oIx (.d (ao wss)) (.d (.int (ns.getD k 0))) S=.ok (.d (af ws)) S from by rw[<-hW];exact dz (js hdn.1 hdn.2),rT,show decide ((Jo "sum":Str)=Jo "sum")=true by decide,e,aO]
 rw[JT];rfl
theorem Gf{lo hi:Int}{wss:List (List Int)}{p:List (List Int)}(hr:∀s∈p,s.length<=300)(g:GoodC ns cs lo hi)(hdm:∀n∈ns,0<=n/\n<(wss.length:Int))(h4:ns.length<=4) :
  cG [.d (ao wss),.d (ax ns cs lo hi),.d (.lst (p.map af))] S=.ok (.d (.bl (b9 wss ns cs lo hi p))) S:=by
 unfold cG;rw[d8];unfold gp;walk_at"mx";rw[gb];walk_at"my";by_cases hl:p.length=ns.length+1
 ·erw[IV (show((p.length:Nat):Int)=(ns.length:Int)+1 by omega)];rw[Er (by omega)];walk_at"my";by_cases h0:(0:Int)∈p.getD 0 []
  ·erw[IV h0];have e1:=eP (show _=gi [some (.d (ao wss)),some (.d (ax ns cs lo hi)),some (.d (.lst (p.map af))),none,none] S from rfl) (d:=af) (g:=λs=>.bl (decide (s.Pairwise (· <·)))) (xs:=p) (S1:=S) (by
     walk_at"mx";rw[JT];rfl) (λ_=>true) (λ_ _ _=>rfl) (λs hm _ S=>by simp? [CI (hr s hm)])
   rw[J8.mpr (λ_ _=>rfl)]at e1;erw[e1];erw[ix];cases q2:(p.all λs=>decide (s.Pairwise (· <·)))with
   |false=>
    walk_at"mx";rw[aO];unfold b9;rw[q2];simp
   |true=>
    walk_at"mx";obtain⟨τ',⟨y3,y4,rfl⟩,e3⟩:=gG (show _=gg [some (.d (ao wss)),some (.d (ax ns cs lo hi)),some (.d (.lst (p.map af))),none,none] S from rfl) (d:=λi:Nat=>Vl.d (.int (i:Nat))) (xs:=IP ns.length) (by
      walk_at"mx";rw[gb];walk_at"my";rw[jH (by omega),Jh]) (λi=>lW (cs.getD i 0) (wss.getD (ns.getD i 0).toNat []) (p.getD i []) (p.getD (i+1) []))
     (λτ=>∃x3 x4,τ=[some (.d (ao wss)),some (.d (ax ns cs lo hi)),some (.d (.lst (p.map af))),x3,x4]) ⟨none,none,rfl⟩ (by
      rintro i hi' τ ⟨x3,x4,rfl⟩;have hin:=JO.mp hi';obtain⟨τ',⟨y4,rfl⟩,e⟩:=gG (show _=gh [some (.d (ao wss)),some (.d (ax ns cs lo hi)),some (.d (.lst (p.map af))),some (.d (.int (i:Nat))),x4] S from rfl) (d:=λq:Int=>Vl.d (.int q)) (xs:=p.getD i []) (by
        walk_at"mx";rw[pat (by omega)];unfold af;walk_at"mx";rw[cw]) (λq=>(wss.getD (ns.getD i 0).toNat []).all λw=>decide (q+w*cs.getD i 0∈p.getD (i+1) []))
       (λτ=>∃x4,τ=[some (.d (ao wss)),some (.d (ax ns cs lo hi)),some (.d (.lst (p.map af))),some (.d (.int (i:Nat))),x4]) ⟨x4,rfl⟩ (by
        rintro q hq τ ⟨x4,rfl⟩;have e2:=eP (show _=gr [some (.d (ao wss)),some (.d (ax ns cs lo hi)),some (.d (.lst (p.map af))),some (.d (.int (i:Nat))),some (.d (.int q))] S from rfl) (d:=D.int) (g:=λz=>.bl (decide (z∈p.getD (i+1) []))) (xs:=(wss.getD (ns.getD i 0).toNat []).map λw=>q+w*cs.getD i 0) (S1:=S) (by
          simp? [u_ hin g hdm]
          rw[cw]) (λ_=>true) (λ_ _ _=>rfl) (λz _ _ S=>by
          walk_at"mx";rw[FC (by omega)];walk_at"my")
        rw[J8.mpr (λ_ _=>rfl)]at e2;refine⟨[some (.d (ao wss)),some (.d (ax ns cs lo hi)),some (.d (.lst (p.map af))),some (.d (.int (i:Nat))),some (.d (.int q))],[some (.d (ao wss)),some (.d (ax ns cs lo hi)),some (.d (.lst (p.map af))),some (.d (.int (i:Nat))),some (.d (.int q))],by walk_at"mx",⟨_,rfl⟩,?_⟩;walk_at"mx";erw[e2];erw[ix,NV];rw[xm];rfl)
      exact⟨_,_,by walk_at"mx",⟨_,_,rfl⟩,e⟩)
    rw[e3];cases q3:((IP ns.length).all λi=>lW (cs.getD i 0) (wss.getD (ns.getD i 0).toNat []) (p.getD i []) (p.getD (i+1) []))with
    |false=>
     erw[IF (by decide)];rw[aO];unfold b9;rw[q3];simp
    |true=>
     erw[Iw rfl];erw[rT];have e5:=eP (show _=gq [some (.d (ao wss)),some (.d (ax ns cs lo hi)),some (.d (.lst (p.map af))),y3,y4] S from rfl) (d:=D.int) (g:=D.int) (xs:=p.getD ns.length []) (S1:=S) (by
      walk_at"mx";rw[HF hl];unfold af;walk_at"mx";rw[cw]) (λq=>decide (lo<=q)&&decide (q<=hi)) (λq _ S=>by
      walk_at"mx";erw[AY];by_cases h:lo<=q
      ·erw[IV h];erw[z_];simp
      ·erw[IW h];simp) (λe _ _ S=>by walk_at"mx")
     erw[e5];erw[w_ (by rw[D.depth,jY];decide),An,t7];rw[aO];unfold b9 AH;rw[q2,q3,IV hl,IV h0,show((p.getD ns.length []).filter λq=>decide (lo<=q)&&decide (q<=hi)).isEmpty=(p.getD ns.length []).all λq=>!(decide (lo<=q)&&decide (q<=hi))from ?_]
     ·simp
     ·generalize p.getD ns.length []=l
      induction l with
      |nil=>rfl
      |cons x l ih=>
       rw[MN,Lj];cases decide (lo<=x)&&decide (x<=hi)
       ·exact ih
       ·rfl
  ·erw[IW h0];rw[aO];unfold b9;rw[IW h0];simp
 ·erw[IW (show¬((p.length:Nat):Int)=(ns.length:Int)+1 by omega)];rw[aO];unfold b9;rw[IW hl];simp
noncomputable def cv(ns:List Int):D:=.lst (ns.map D.int)
theorem AE{S J:Sto}{fs:List (List Int)}{n:Nat}{X:Ob}(h:fs.length=n+1):oIx (.r S.length) (.d (.int (-1))) (S++Ob.lst (fs.map cv)::J++[X])=.ok (.d (cv (fs.getD n []))) (S++Ob.lst (fs.map cv)::J++[X]):=lU (xs:=fs.map cv) (by simp) (by
 rw[jA (n:=n) (by rw[IA];exact h),IU,H0 (show n<fs.length by omega),Iz,H0 (show n<fs.length by omega)];rfl)
theorem yz{S J:Sto}{x:Ob}:(S++x::J)[S.length]?=some x:=by simp
theorem vA{S J:Sto}{x y:Ob}:(S++x::J++[y])[S.length]?=some x:=by simp
theorem AV{lo hi:Int}{wss:List (List Int)}{S:Sto}(h4:∀ws∈wss,ws.length<=4)(g:GoodC ns cs lo hi)(hdm:∀n∈ns,0<=n/\n<(wss.length:Int))(hn:ns.length<=4) :
  ∃p:List (List Int),p.length=ns.length+1/\(∀s∈p,s.length<=256)/\eY [.d (ao wss),.d (ax ns cs lo hi)] S=.ok (.d (.lst (p.map af))) S:=by
 unfold eY;rw[dD];unfold mH;walk_at"mx";rw[show(S++[Ob.lst [D.lst [D.int 0]]])=S++Ob.lst (([[0]]:List (List Int)).map cv) :: []from rfl];obtain⟨τ',S',e,x3,x4,x5,fs,J,rfl,rfl,hl,hg,_⟩:=dj (show _=mI [some (.d (ao wss)),some (.d (ax ns cs lo hi)),some (.r S.length),none,none,none] (S++Ob.lst (([[0]]:List (List Int)).map cv) :: [])from rfl) (S1:=S++Ob.lst (([[0]]:List (List Int)).map cv) :: []) (items:=(IP ns.length).map λi=>Vl.d (.int (i:Nat))) (gd:=none) (by
   walk_at"mx";rw[gb];walk_at"my";rw[jH (by omega),Jh])
  (λi τ S'=>∃(x3 x4 x5:Option Vl)(fs:List (List Int))(J:Sto),τ=[some (.d (ao wss)),some (.d (ax ns cs lo hi)),some (.r S.length),x3,x4,x5]/\S'=S++Ob.lst (fs.map cv)::J/\fs.length=i+1/\(∀s∈fs,s.length<=256)/\(fs.getD i []).length<=4 ^ i) ⟨none,none,none,[[0]],[],rfl,rfl,rfl,λs h=>by rw[IQ.mp h];decide,by decide⟩ (by
   rintro i z τ S' hz ⟨x3,x4,x5,fs,J,rfl,rfl,hl,hg,hb⟩;obtain⟨hin,rfl⟩:=gK hz;have hnm:ns.getD i 0∈ns:=by rw[Iz,H0 hin];exact JE hin
   have hdn:=hdm _ hnm;have hw:(wss.getD (ns.getD i 0).toNat []).length<=4:=h4 _ (p8 hdn.1 hdn.2);have hpow:(4:Nat) ^ i*4<=256:=by
    have:i<=3:=by omega
    match i,this with
    |0,_ |1,_ |2,_ |3,_=>decide
   obtain⟨τ',S',e,y5,ls,rfl,rfl,hll⟩:=dj (show _=ml [some (.d (ao wss)),some (.d (ax ns cs lo hi)),some (.r S.length),some (.d (.int (i:Nat))),some (.r (S++Ob.lst (fs.map cv)::J).length),x5] (S++Ob.lst (fs.map cv)::J++[.lst []])from rfl) (S1:=S++Ob.lst (fs.map cv)::J++[.lst []]) (items:=(fs.getD i []).map λq=>Vl.d (.int q)) (gd:=none) (by
     walk_at"mx";rw[AE hl];unfold cv;walk_at"mx";rw[cw])
    (λj τ S'=>∃(x5:Option Vl)(ls:List Int),τ=[some (.d (ao wss)),some (.d (ax ns cs lo hi)),some (.r S.length),some (.d (.int (i:Nat))),some (.r (S++Ob.lst (fs.map cv)::J).length),x5]/\S'=S++Ob.lst (fs.map cv)::J++[.lst (ls.map D.int)]/\ls.length<=j*4) ⟨x5,[],rfl,rfl,by simp⟩ (by
     rintro j z τ S' hz ⟨x5,ls,rfl,rfl,hll⟩;rw[IU]at hz;cases q:(fs.getD i [])[j]? with
     |none=>rw[q]at hz;cases hz
     |some v=>
      rw[q]at hz;cases hz;have hj:j<(fs.getD i []).length:=(IJ.mp q).1;have hj4:j*4<=4 ^ i*4:=OT 4 (by omega);refine⟨_,_,.nx,_,_,eX,?_,.inl rfl,True.intro,some (.d (.int v)),ls++(wss.getD (ns.getD i 0).toNat []).map λw=>v+w*cs.getD i 0,rfl,rfl,by rw[IH,IA];omega⟩
      simp? [mS,u_ hin g hdm]
      rw[EB (xs:=ls.map D.int) (ys:=((wss.getD (ns.getD i 0).toNat []).map λw=>v+w*cs.getD i 0).map D.int) (by rw[IA,IA,IA];omega)]
      simp? [su,JN])
   rw[IA]at hll;have hl4:(fs.getD i []).length*4<=4 ^ i*4:=OT 4 hb;have hsu:=fX ls;refine⟨_,_,.nx,_,S++Ob.lst ((fs++[bh ls]).map cv)::(J++[.lst (ls.map D.int)]),eX,?_,.inl rfl,True.intro,some (.d (.int (i:Nat))),some (.r (S++Ob.lst (fs.map cv)::J).length),y5,fs++[bh ls],J++[.lst (ls.map D.int)],rfl,rfl,by rw[IH,Ji,hl],λs hs=>?_,?_⟩
   ·simp? [e]
    rw[vA]
    simp? [tX (x:=.r (S++Ob.lst (fs.map cv)::J).length) (S:=S++Ob.lst (fs.map cv)::J++[.lst (ls.map D.int)]) (ns:=ls) (vZ mS) (by omega)]
    erw[vA];erw[oE (by rw[IA];omega)];simp[cv]
   ·rcases Jk.mp hs with h |h
    ·exact hg s h
    ·rw[IQ.mp h];omega
   ·rw[Iz,Jd (by omega),show i+1-fs.length=0 by omega];show(bh ls).length<=4 ^ (i+1);rw[RF];omega)
 rw[gL]at hl;erw[e];have e3:=Ap (show _=mj [some (.d (ao wss)),some (.d (ax ns cs lo hi)),some (.r S.length),x3,x4,x5] (S++Ob.lst (fs.map cv)::J)from rfl) (d:=cv) (g:=af) (xs:=fs) (S1:=S++Ob.lst (fs.map cv)::J) (by
   rw[HC (S1:=S++Ob.lst (fs.map cv)::J) (by walk_at"mx") yz,JT];rfl) yz (λ_=>true) (λs hs S=>rfl) (λs hm _ S=>by
   unfold cv;walk_at"mx";rfl)
 rw[J8.mpr (λ_ _=>rfl)]at e3;refine⟨fs,hl,hg,?_⟩;erw[e3];rw[cO];simp
theorem AO{xs:List D}:cF xs (some (-1)) none=xs.drop (xs.length-1):=by
 unfold cF;rw[gX];have e:HT.sIx xs.length 0 (some (-1))=xs.length-1:=by
  unfold HT.sIx
  first |(dsimp only;split<;>omega) |(simp;omega) |omega
 rw[e,Jf (by simp)]
theorem zS{xs:List D}:cF xs none (some (-1))=xs.dropLast:=by
 unfold cF;rw[gX,Kl,Pt,List.dropLast_eq_take];congr 1;unfold HT.sIx
 first |(dsimp only;split<;>omega) |(simp;omega) |omega
theorem Et{L:List (List Int)}{i:Int}{S:Sto}(h0:0<=i)(h1:i<(L.length:Int)):∃s,s∈L/\oIx (.d (.lst (L.map af))) (.d (.int i)) S=.ok (.d (af s)) S:=by
 obtain⟨k,rfl⟩:=K2 h0;have hk:k<L.length:=by omega
 refine⟨L.getD k [],?_,pat hk⟩;rw[Iz,H0 hk];exact JE hk
theorem gZ{s t:List Int}{S:Sto}(h:s.length+t.length<=100000):aI (.d (af s)) (.d (af t)) S=.ok (.d (af (s++t))) S:=by
 unfold af;rw[tu (by simpa using h),JN]
theorem Cs{s:List Int}{S:Sto}:oSl (.d (af s)) (some (-1)) none S=.ok (.d (af (s.drop (s.length-1)))) S:=by
 unfold af;rw[l_,AO,IA,MG]
theorem CD{s:List Int}{S:Sto}:oSl (.d (af s)) none (some (-1)) S=.ok (.d (af s.dropLast)) S:=by
 unfold af;rw[l_,zS,List.map_dropLast]
theorem AL{s:List Int}{S:Sto}:pv (.d (af s)) (.d (.int (-1))) S=.ok (.d (af s.reverse)) S:=by
 unfold af;rw[BU,List.map_reverse]
theorem kH{a b:List (List Int)}{S:Sto}(h:a.length+b.length<=100000):aI (.d (.lst (a.map af))) (.d (.lst (b.map af))) S=.ok (.d (.lst ((a++b).map af))) S:=by
 rw[yB (by simpa using h),JN]
theorem vM{p:List (List Int)}{k:Nat}:cF (p.map af) none (some (k:Int))=(p.take k).map af:=by rw[rm,MF]
theorem xA{p:List (List Int)}{k:Nat}:cF (p.map af) (some (k:Int)) none=(p.drop k).map af:=by rw[rO,MG]
theorem o8{p:List (List Int)}{k:Nat}:cF (p.map af) (some ((k:Int)+1)) none=(p.drop (k+1)).map af:=xA (k:=k+1)
theorem Ho{s:List Int}{k:Nat}{S:Sto}:oSl (.d (af s)) none (some (k:Int)) S=.ok (.d (af (s.take k))) S:=by
 unfold af;rw[l_,rm,MF]
theorem pJ{s:List Int}{k:Nat}{S:Sto}:oSl (.d (af s)) (some (k:Int)) none S=.ok (.d (af (s.drop k))) S:=by
 unfold af;rw[l_,rO,MG]
theorem B7{s:List Int}{a b:Nat}{S:Sto}:oSl (.d (af s)) (some (a:Int)) (some (b:Int)) S=.ok (.d (af ((s.drop a).take (b-a)))) S:=by
 unfold af;rw[l_,yQ,MF,MG]
theorem ssI{s:List Int}(h:s.length<=300):iu 301 (.d (af s)) S=.ok (.d (.lst ((bh s).map D.int))) S:=tX (ns:=s) rfl h
theorem FP{a:List (List Int)}{s:List Int}(h:a.length<=1000):aI (.d (.lst (a.map af))) (.d (.lst [af s])) S=.ok (.d (.lst ((a++[s]).map af))) S:=kH (b:=[s]) (by rw[Ji];omega)
theorem xU{p:List (List Int)}{b:Nat}{R:Sto}(hp:Pen o)(h0:0<p.length)(h1:p.length<=50)(h2:∀s∈p,s.length<=b)(h3:61<=b)(h4:b<=290) :
  ∃(q:List (List Int))(o':Ob),p.length<=q.length+1/\q.length<=p.length+1/\(∀s∈q,s.length<=b+2)/\Pen o'/\bC [.r 0,.d (.lst (p.map af))] (o::R)=.ok (.d (.lst (q.map af))) (o'::R):=by
 unfold bC;rw[dD];unfold iq;obtain⟨a,o1,a0,a1,hp1,e1⟩:=bu (R:=R) (m:=(p.length:Int)) hp (by omega) (by omega);obtain⟨k,rfl⟩:=K2 a0;have hk:k<p.length:=by omega
 have hsm:p.getD k []∈p:=by rw[Iz,H0 hk];exact JE hk
 have hix:=λS=>pat (S:=S) hk;generalize p.getD k []=s at hsm hix;have hs:=h2 s hsm;obtain⟨t1,o2,t10,t11,hp2,e2⟩:=bu (R:=R) (m:=9) hp1 (by decide) (by decide);obtain⟨x,o3,x0,x1,hp3,e3⟩:=bu (R:=R) (m:=(s.length:Int)+1) hp2 (by omega) (by omega);obtain⟨y,o4,y0,y1,hp4,e4⟩:=bu (R:=R) (m:=(s.length:Int)+1) hp3 (by omega) (by omega);obtain⟨x,rfl⟩:=K2 x0;obtain⟨y,rfl⟩:=K2 y0;obtain⟨kd,o5,kd0,kd1,hp5,e5⟩:=bu (R:=R) (m:=13) hp4 (by decide) (by decide);have hx:x<=s.length:=by omega
 have hy:y<=s.length:=by omega
 have b1:aI (.d (af s)) (.d (.tup [.int (t1-4)])) (o2::R)=.ok (.d (af (s++[t1-4]))) (o2::R):=gZ (t:=[t1-4]) (by rw[Ji];omega);have b2:aI (.d (af s)) (.d (.tup [.int (10 ^ J5 20),.int (-10 ^ J5 20)])) (o2::R)=.ok (.d (af (s++[10 ^ J5 20,-10 ^ J5 20]))) (o2::R):=gZ (t:=[10 ^ J5 20,-10 ^ J5 20]) (by show s.length+2<=100000;omega);have c1:iu 301 (.d (af (s++[t1-4]))) (o2::R)=_:=ssI (by rw[IH,Ji];omega);have c2:iu 301 (.d (af (s++[10 ^ J5 20,-10 ^ J5 20]))) (o2::R)=_:=ssI (by rw[IH];show s.length+2<=300;omega);have d1:oSl (.d (af s)) (some 1) none (o2::R)=.ok (.d (af (s.drop 1))) (o2::R):=pJ (k:=1);have d2:aI (.d (af s)) (.d (af (s.drop (s.length-1)))) (o2::R)=.ok (.d (af (s++s.drop (s.length-1)))) (o2::R):=gZ (by rw[Jc];omega);have l1:(s.take y).length<=s.length:=by rw[IY];omega
 have l2:((s.drop x).take (x+1-x)).length<=1:=by rw[IY];omega
 have l3:((s.drop x).take (x+2-x)).length<=2:=by rw[IY];omega
 have f1:oSl (.d (af s)) (some ((x:Nat):Int)) (some ((x:Int)+1)) (o4::R)=.ok (.d (af ((s.drop x).take (x+1-x)))) (o4::R):=B7 (b:=x+1);have f2:aI (.d (af (s.take y))) (.d (af ((s.drop x).take (x+1-x)))) (o4::R)=.ok (.d (af (s.take y++(s.drop x).take (x+1-x)))) (o4::R):=gZ (by omega);have f3:aI (.d (af (s.take y++(s.drop x).take (x+1-x)))) (.d (af (s.drop y))) (o4::R)=.ok (.d (af (s.take y++(s.drop x).take (x+1-x)++s.drop y))) (o4::R):=gZ (by rw[IH,Jc];omega);have g1:oSl (.d (af s)) (some ((x:Nat):Int)) (some ((x:Int)+2)) (o4::R)=.ok (.d (af ((s.drop x).take (x+2-x)))) (o4::R):=B7 (b:=x+2);have g2:aI (.d (af (s.take x))) (.d (af ((s.drop x).take (x+2-x)).reverse)) (o4::R)=.ok (.d (af (s.take x++((s.drop x).take (x+2-x)).reverse))) (o4::R):=gZ (by rw[IY,K4];omega);have g3:oSl (.d (af s)) (some ((x:Int)+2)) none (o4::R)=.ok (.d (af (s.drop (x+2)))) (o4::R):=pJ (k:=x+2);have g4:aI (.d (af (s.take x++((s.drop x).take (x+2-x)).reverse))) (.d (af (s.drop (x+2)))) (o4::R)=.ok (.d (af (s.take x++((s.drop x).take (x+2-x)).reverse++s.drop (x+2)))) (o4::R):=gZ (by rw[IH,IY,K4,Jc];omega);have hL:aI (.d (.lst [af (s.drop 1),af s.dropLast,af s.reverse,af (s++s.drop (s.length-1)),.tup ((bh (s++[t1-4])).map D.int),.tup ((bh (s++[10 ^ J5 20,-10 ^ J5 20])).map D.int),.tup [],af s])) (.d (.lst [af (s.take y++(s.drop x).take (x+1-x)++s.drop y),af (s.take x++((s.drop x).take (x+2-x)).reverse++s.drop (x+2))])) (o4::R) =
   .ok (.d (.lst ([s.drop 1,s.dropLast,s.reverse,s++s.drop (s.length-1),bh (s++[t1-4]),bh (s++[10 ^ J5 20,-10 ^ J5 20]),[],s,s.take y++(s.drop x).take (x+1-x)++s.drop y,s.take x++((s.drop x).take (x+2-x)).reverse++s.drop (x+2)].map af))) (o4::R):=kH (a:=[s.drop 1,s.dropLast,s.reverse,s++s.drop (s.length-1),bh (s++[t1-4]),bh (s++[10 ^ J5 20,-10 ^ J5 20]),[],s]) (b:=[s.take y++(s.drop x).take (x+1-x)++s.drop y,s.take x++((s.drop x).take (x+2-x)).reverse++s.drop (x+2)]) (by show 8+2<=100000;decide)
 generalize hLL:([s.drop 1,s.dropLast,s.reverse,s++s.drop (s.length-1),bh (s++[t1-4]),bh (s++[10 ^ J5 20,-10 ^ J5 20]),[],s,s.take y++(s.drop x).take (x+1-x)++s.drop y,s.take x++((s.drop x).take (x+2-x)).reverse++s.drop (x+2)]:List (List Int))=L at hL;have hLl:L.length=10:=by rw[<-hLL];rfl
 have hLs:∀v∈L,v.length<=b+2:=by
  intro v hv;rw[<-hLL]at hv;have u1:=fX (s++[t1-4]);have u2:=fX (s++[10 ^ J5 20,-10 ^ J5 20]);rw[IH]at u1 u2;have u3:[t1-4].length=1:=rfl;have u4:([10 ^ J5 20,-10 ^ J5 20]:List Int).length=2:=rfl;simp only[IL,Jt,Ky]at hv;rcases hv with rfl |rfl |rfl |rfl |rfl |rfl |rfl |rfl |rfl |rfl
  ·rw[Jc];omega
  ·rw[OS];omega
  ·rw[K4];omega
  ·rw[IH,Jc];omega
  ·omega
  ·omega
  ·exact KN _
  ·omega
  ·rw[IH,IH,IY,Jc];omega
  ·rw[IH,IH,IY,K4,Jc];omega
 have lt:(p.take k).length=k:=by rw[IY];omega
 have ld:(p.drop (k+1)).length=p.length-(k+1):=Jc;have big:∀(v:List Int)(m:Nat),v.length<=b+2->∀z∈p.take k++[v]++p.drop m,z.length<=b+2:=by
  intro v m hv z hz;rcases Jk.mp hz with hz |hz
  ·rcases Jk.mp hz with hz |hz
   ·have:=h2 z (JD hz);omega
   ·rw[IQ.mp hz];exact hv
  ·have:=h2 z (JP hz);omega
 simp? [yD,IA,e1,hix,e2,b1,c1,rg (S:=o2::R) (i:=10) (j:=20) ⟨by decide,by decide,by decide⟩,b2,c2,d1,CD,AL,Cs,d2,dC,e3,e4,Ho,f1,f2,pJ,f3,g1,g2,g3,g4,hL,e5]
 have n1:∀v:List Int,(p.take k++[v]++p.drop (k+1)).length=k+1+(p.length-(k+1)):=λv=>by rw[IH,IH,lt,Ji,ld]
 have hadd:∀v:List Int,aI (.d (.lst ((p.take k++[v]).map af))) (.d (.lst ((p.drop (k+1)).map af))) (o5::R)=.ok (.d (.lst ((p.take k++[v]++p.drop (k+1)).map af))) (o5::R):=λv=>kH (by rw[IH,lt,Ji,ld];omega);have hone:∀v:List Int,aI (.d (.lst ((p.take k).map af))) (.d (.lst [af v])) (o5::R)=.ok (.d (.lst ((p.take k++[v]).map af))) (o5::R):=λv=>FP (by omega);by_cases q0:kd=10
 ·simp? [IV q0,vM,o8,kH (S:=o5::R) (a:=p.take k) (b:=p.drop (k+1)) (by rw[lt,ld];omega),cO,cS]
  refine⟨p.take k++p.drop (k+1),o5,by rw[IH,lt,ld];omega,by rw[IH,lt,ld];omega,λz hz=>?_,hp5,rfl⟩;rcases Jk.mp hz with hz |hz
  ·have:=h2 z (JD hz);omega
  ·have:=h2 z (JP hz);omega
 ·by_cases q1:kd=11
  ·simp? [IW q0,IV q1,vM,xA,hone,kH (S:=o5::R) (a:=p.take k++[s]) (b:=p.drop k) (by rw[IH,lt,Ji,Jc];omega),cO,cS]
   exact⟨p.take k++[s]++p.drop k,o5,by rw[IH,IH,lt,Ji,Jc];omega,by rw[IH,IH,lt,Ji,Jc];omega,big s k (by omega),hp5,rfl⟩
  ·by_cases q2:kd=12
   ·have et:fTR [.d (.int (-30)),.d (.int 31)] (o5::R)=.ok (.d (af ((IP 61).map λi=>-30+((i:Nat):Int)))) (o5::R):=by
     unfold fTR;dsimp only;rw[Iw (by decide)];unfold af;rw[JT];rfl
    simp? [IW q0,IW q1,IV q2,vM,et,o8,hone,hadd,cO,cS]
    exact⟨_,o5,by rw[n1];omega,by rw[n1];omega,big _ (k+1) (by rw[IA,KD];omega),hp5,rfl⟩
   ·obtain⟨v,hv,ev⟩:=Et (L:=L) (i:=kd) (S:=o5::R) kd0 (by rw[hLl];omega)
    simp? [IW q0,IW q1,IW q2,vM,ev,o8,hone,hadd,cO,cS]
    exact⟨_,o5,by rw[n1];omega,by rw[n1];omega,big v (k+1) (hLs v hv),hp5,rfl⟩
theorem wq{wss:List (List Int)}{ns cs:List Int}{lo hi n m:Int}{S:Sto}(gs:b8 n m wss)(hn:n<=4)(hm:m<=4)(gn:eA wss.length ns)(g:GoodC ns cs lo hi) :
  (eN [.d (ao wss),.d (ax ns cs lo hi)] S=.ok (.pr (.str "no") S.length) (S++[.lst ((bI cs wss ns (ns.length+1)).map af)])) \/
  ∃f,eN [.d (ao wss),.d (ax ns cs lo hi)] S=.ok (.d (.tup [.str "can",af f])) S:=by
 have h4:=gs.le;have gl:=gn.le;have e0:eN [.d (ao wss),.d (ax ns cs lo hi)] S=leave S (rt1 (dc [.d (ao wss),.d (ax ns cs lo hi),.fn "sums_onward",.fn "is_sum_asked"] S) [some (.d (ao wss)),some (.d (ax ns cs lo hi))]):=by
  unfold eN;rw[dD];unfold nv;walk_at"mx";erw[lJ gs hn hm gn g];rcases my (S:=S) gs gn.nd gn.dom g (by omega)with⟨_,e⟩ |⟨x,_,_,e⟩
  ·rw[e];rfl
  ·erw[e]
 rcases my (S:=S) gs gn.nd gn.dom g (by omega)with⟨hno,e⟩ |⟨x,hx,he,e⟩
 ·refine .inl ?_;erw[e0,e];rw[DA (R:=[])]
 ·refine .inr ⟨iN wss ns x.2,?_⟩;erw[e0,e];rw[aO]
noncomputable def aJ(q:List (List Int)):D:=.lst (q.map af)
theorem ne_self{p:List (List Int)}:oNe (.d (aJ p)) (.d (aJ p)) S=.ok (.d (.bl false)) S:=by
 unfold aJ;rw[Fo (by rw[D.depth];have:=nK p;omega),D.iD];rfl
noncomputable abbrev Ca:=List (List Int)×List Int×List Int×Int×Int
noncomputable def caD(c:Ca):D:=.tup [ao c.1,ax c.2.1 c.2.2.1 c.2.2.2.1 c.2.2.2.2]
def el(c:Ca):Prop:=b8 4 4 c.1/\eA c.1.length c.2.1/\GoodC c.2.1 c.2.2.1 c.2.2.2.1 c.2.2.2.2
theorem Gx{lo hi:Int}{p:List (List Int)}(hs:∀s∈p,s.length<=300)(gs:b8 4 4 vss)(gn:eA vss.length ns)(g:GoodC ns cs lo hi) :
  ∃v1,tI [x0,x1,x2,x3,x4,x5,x6,x7,x8,x9,y0,y1,y2,y3,y4,y5,some (.d (aJ p)),some (.d (ao vss)),some (.d (ax ns cs lo hi)),some (.d (aJ p)),some (.d (.bl (b9 vss ns cs lo hi p))),z1] S=.ok (.nx,[x0,x1,x2,x3,x4,x5,x6,x7,x8,x9,y0,y1,y2,y3,y4,y5,some (.d (aJ p)),some (.d (ao vss)),some (.d (ax ns cs lo hi)),some (.d (aJ p)),some (.d (.bl (b9 vss ns cs lo hi p))),v1]) S:=by
 have e1:dr [.d (ao vss),.d (ax ns cs lo hi),.d (aJ p)] S=_:=mD gs gn g hs;have e2:fj [.d (ao vss),.d (ax ns cs lo hi),.d (aJ p)] S=_:=vY gs gn g hs;have e3:=ne_self (S:=S) (p:=p);generalize b9 vss ns cs lo hi p=r at e1 e2 ⊢;generalize aJ p=d at e1 e2 e3 ⊢;obtain⟨τ',⟨v1,rfl⟩,e⟩:=gG (show _=tI [x0,x1,x2,x3,x4,x5,x6,x7,x8,x9,y0,y1,y2,y3,y4,y5,some (.d d),some (.d (ao vss)),some (.d (ax ns cs lo hi)),some (.d d),some (.d (.bl r)),z1] S from rfl) (d:=λb:Bool=>Vl.d (.bl b)) (xs:=[r,r]) (by simp? [e1,e2]) (λ_=>true)
  (λτ=>∃v1,τ=[x0,x1,x2,x3,x4,x5,x6,x7,x8,x9,y0,y1,y2,y3,y4,y5,some (.d d),some (.d (ao vss)),some (.d (ax ns cs lo hi)),some (.d d),some (.d (.bl r)),v1]) ⟨_,rfl⟩ (by
   rintro b hb τ ⟨v1,rfl⟩;obtain rfl:b=r:=by simpa using hb
   refine⟨_,_,eX,⟨some (.d (.bl b)),rfl⟩,?_⟩
   simp? [show isT "bool" (D.bl b)=true from rfl,e3,IV (rfl:b=b)])
 refine⟨v1,?_⟩;rw[e,K5.mpr (λ_ _=>rfl)];rfl
theorem F8{p:List (List Int)}{w1 w2 w3:Ca}(hs:∀s∈p,s.length<=300)(g1:el w1)(g2:el w2)(g3:el w3)(hL:b6 (xN mkL (ab (xN mkT (ab (aa 3) (ab (aa 4) aj))) (ab (xN mkT (ab (aa 5) (ab (aa 4) aj))) (ab (xN mkT (ab (aa 3) (ab (aa 11) aj))) aj)))) [x0,x1,x2,x3,x4,x5,x6,x7,x8,x9,y0,y1,y2,y3,y4,y5,some (.d (aJ p)),y7,y8,y9,z0,z1] S=.ok ⟨[w1,w2,w3].map λc=>Vl.d (caD c),none⟩ S) :
  ∃u7 u8 u9 v0 v1,sD [x0,x1,x2,x3,x4,x5,x6,x7,x8,x9,y0,y1,y2,y3,y4,y5,some (.d (aJ p)),y7,y8,y9,z0,z1] S=.ok (.nx,[x0,x1,x2,x3,x4,x5,x6,x7,x8,x9,y0,y1,y2,y3,y4,y5,some (.d (aJ p)),u7,u8,u9,v0,v1]) S:=by
 obtain⟨τ',⟨u7,u8,u9,v0,v1,rfl⟩,e⟩:=gG (show _=sD [x0,x1,x2,x3,x4,x5,x6,x7,x8,x9,y0,y1,y2,y3,y4,y5,some (.d (aJ p)),y7,y8,y9,z0,z1] S from rfl) (d:=λc=>Vl.d (caD c)) (xs:=[w1,w2,w3]) hL (λ_=>true)
  (λτ=>∃u7 u8 u9 v0 v1,τ=[x0,x1,x2,x3,x4,x5,x6,x7,x8,x9,y0,y1,y2,y3,y4,y5,some (.d (aJ p)),u7,u8,u9,v0,v1]) ⟨_,_,_,_,_,rfl⟩ (by
   rintro c hm τ ⟨u7,u8,u9,v0,v1,rfl⟩;have gc:el c:=by
    simp only[IL,Jt,Ky]at hm;rcases hm with rfl |rfl |rfl<;>assumption
   obtain⟨gs,gn,g⟩:=gc;have h4:=gs.le;have hl:=gn.le;have e1:cG [.d (ao c.1),.d (ax c.2.1 c.2.2.1 c.2.2.2.1 c.2.2.2.2),.d (aJ p)] S=_:=Gf hs g gn.dom (by omega);obtain⟨w,e2⟩:=Gx (S:=S) (x0:=x0) (x1:=x1) (x2:=x2) (x3:=x3) (x4:=x4) (x5:=x5) (x6:=x6) (x7:=x7) (x8:=x8) (x9:=x9) (y0:=y0) (y1:=y1) (y2:=y2) (y3:=y3) (y4:=y4) (y5:=y5) (z1:=v1) hs gs gn g;refine⟨[x0,x1,x2,x3,x4,x5,x6,x7,x8,x9,y0,y1,y2,y3,y4,y5,some (.d (aJ p)),some (.d (ao c.1)),some (.d (ax c.2.1 c.2.2.1 c.2.2.2.1 c.2.2.2.2)),u9,v0,v1],_,by unfold caD;walk_at"mx",⟨some (.d (ao c.1)),some (.d (ax c.2.1 c.2.2.1 c.2.2.2.1 c.2.2.2.2)),some (.d (aJ p)),some (.d (.bl (b9 c.1 c.2.1 c.2.2.1 c.2.2.2.1 c.2.2.2.2 p))),w,rfl⟩,?_⟩;rw[Iw rfl]
   simp? [show jS [.d (aJ p)] S=.ok (.d (aJ p)) S from rfl,e1]
   exact e2)
 refine⟨u7,u8,u9,v0,v1,?_⟩;rw[e,K5.mpr (λ_ _=>rfl)];rfl
theorem Ga{lo hi lo' hi':Int}{ps:List (List (List Int))}(hn:S[n]?=some (.lst (ps.map aJ)))(hs:∀p∈ps,∀s∈p,s.length<=300)(g1:el (wss,ns,cs,lo,hi))(g2:el (vss,ns,cs,lo,hi))(g3:el (wss,ns,cs,lo',hi')) :
  ∃u6 u7 u8 u9 v0 v1,kX [x0,x1,x2,some (.d (ao wss)),some (.d (ax ns cs lo hi)),some (.d (ao vss)),x6,x7,x8,x9,y0,some (.d (ax ns cs lo' hi')),y2,some (.r n),y4,y5,y6,y7,y8,y9,z0,z1] S=.ok (.nx,[x0,x1,x2,some (.d (ao wss)),some (.d (ax ns cs lo hi)),some (.d (ao vss)),x6,x7,x8,x9,y0,some (.d (ax ns cs lo' hi')),y2,some (.r n),y4,y5,u6,u7,u8,u9,v0,v1]) S:=by
 obtain⟨τ',S',e,u6,u7,u8,u9,v0,v1,rfl,rfl⟩:=dj (show _=kX [x0,x1,x2,some (.d (ao wss)),some (.d (ax ns cs lo hi)),some (.d (ao vss)),x6,x7,x8,x9,y0,some (.d (ax ns cs lo' hi')),y2,some (.r n),y4,y5,y6,y7,y8,y9,z0,z1] S from rfl) (S1:=S) (items:=ps.map λp=>Vl.d (aJ p)) (gd:=some (n,.lst (ps.map aJ))) (by
   erw[lq];erw[hn];rw[JT];rfl)
  (λi τ S'=>∃u6 u7 u8 u9 v0 v1,τ=[x0,x1,x2,some (.d (ao wss)),some (.d (ax ns cs lo hi)),some (.d (ao vss)),x6,x7,x8,x9,y0,some (.d (ax ns cs lo' hi')),y2,some (.r n),y4,y5,u6,u7,u8,u9,v0,v1]/\S'=S) ⟨_,_,_,_,_,_,rfl,rfl⟩ (by
   rintro i z τ S' hz ⟨u6,u7,u8,u9,v0,v1,rfl,rfl⟩;rw[IU]at hz;cases q:ps[i]? with
   |none=>rw[q]at hz;cases hz
   |some p=>
    rw[q]at hz;cases hz;obtain⟨a7,a8,a9,b0,b1,e⟩:=F8 (S:=S') (x0:=x0) (x1:=x1) (x2:=x2) (x3:=some (.d (ao wss))) (x4:=some (.d (ax ns cs lo hi))) (x5:=some (.d (ao vss))) (x6:=x6) (x7:=x7) (x8:=x8) (x9:=x9) (y0:=y0) (y1:=some (.d (ax ns cs lo' hi'))) (y2:=y2) (y3:=some (.r n)) (y4:=y4) (y5:=y5) (y7:=u7) (y8:=u8) (y9:=u9) (z0:=v0) (z1:=v1) (hs p (JG q)) g1 g2 g3 (by walk_at"mx";rfl);exact⟨_,_,.nx,_,_,by walk_at"mx",e,.inl rfl,hn,_,_,_,_,_,_,rfl,rfl⟩)
 exact⟨_,_,_,_,_,_,e⟩
def gT(b:Nat)(ps:List (List (List Int))):Prop:=∀p∈ps,p.length<=20/\∀s∈p,s.length<=b
theorem sM(h:gT b ps)(h1:q.length<=20)(h2:∀s∈q,s.length<=b):gT b (ps++[q]):=by
 intro p hp;rcases Jk.mp hp with z |z
 ·exact h p z
 ·rw[IQ.mp z];exact⟨h1,h2⟩
theorem uN{T:Sto}{ps:List (List (List Int))}{q:List (List Int)}(hT:T[m]?=some (.lst (ps.map aJ)))(hl:ps.length<=100):fi (m+1) (ps.map aJ) (aJ q) (o::T)=.ok (.d .non) (o::T.set m (.lst ((ps++[q]).map aJ))):=by
 rw[oE (by rw[IA];omega),List.set_cons_succ,JN];rfl
theorem zI{T:Sto}(hT:T[m]?=some x):(T.set m y)[m]?=some y:=by
 rw[MA,Iw rfl,Iw (IJ.mp hT).1]
theorem GB{T:Sto}{ps:List (List (List Int))}{p:List (List Int)}(hp:Pen o)(hT:T[m]?=some (.lst (ps.map aJ)))(hl:ps.length<=4)(hs:gT 258 ps)(h2:2<=p.length)(h5:p.length<=5)(hb:∀s∈p,s.length<=256) :
  ∃(o':Ob)(T':Sto)(rest:List (List (List Int)))(q:List (List Int))(u5:Option Vl),Pen o'/\T'[m]?=some (.lst ((rest++[q]).map aJ))/\rest.length<=10/\gT 258 (rest++[q])/\1<=q.length /\
   kR [x0,some (.r 0),x2,x3,x4,x5,x6,x7,x8,x9,y0,y1,some (.d (aJ p)),some (.r (m+1)),y4,y5,y6,y7,y8,y9,z0,z1] (o::T)=.ok (.nx,[x0,some (.r 0),x2,x3,x4,x5,x6,x7,x8,x9,y0,y1,some (.d (aJ p)),some (.r (m+1)),y4,u5,y6,y7,y8,y9,z0,z1]) (o'::T'):=by
 obtain⟨τ',S',e,o',T',ps',u5,hp',rfl,rfl,hT',hl',hs',hq⟩:=dj (show _=kR [x0,some (.r 0),x2,x3,x4,x5,x6,x7,x8,x9,y0,y1,some (.d (aJ p)),some (.r (m+1)),y4,y5,y6,y7,y8,y9,z0,z1] (o::T)from rfl) (S1:=o::T) (gd:=none) (items:=(IP 6).map λi=>Vl.d (.int (i:Nat))) (by walk_at"mx";rw[jH (by decide)];rfl)
  (λi τ S'=>∃(o':Ob)(T':Sto)(ps':List (List (List Int)))(u5:Option Vl),Pen o'/\τ=[x0,some (.r 0),x2,x3,x4,x5,x6,x7,x8,x9,y0,y1,some (.d (aJ p)),some (.r (m+1)),y4,u5,y6,y7,y8,y9,z0,z1]/\S'=o'::T'/\T'[m]?=some (.lst (ps'.map aJ))/\ps'.length<=4+i/\gT 258 ps'/\(0<i->∃rest q,ps'=rest++[q]/\1<=q.length)) ⟨o,T,ps,_,hp,rfl,rfl,hT,by omega,hs,λh=>absurd h (by decide)⟩ (by
   rintro i z τ S' hz ⟨o',T',ps',u5,hp',rfl,rfl,hT',hl',hs',hq⟩;obtain⟨hi6,rfl⟩:=gK hz;obtain⟨q,o2,q1,q2,q3,hp2,e2⟩:=xU (R:=T') (b:=256) hp' (p:=p) (by omega) (by omega) hb (by decide) (by decide);have e2:bC [.r 0,.d (aJ p)] (o'::T')=.ok (.d (aJ q)) (o2::T'):=e2;refine⟨_,_,.nx,_,o2::T'.set m (.lst ((ps'++[q]).map aJ)),eX,?_,.inl rfl,trivial,o2,T'.set m (.lst ((ps'++[q]).map aJ)),ps'++[q],some (.d (.int (i:Nat))),hp2,rfl,rfl,zI hT',by rw[IH,Ji];omega,sM hs' (by omega) q3,λ_=>⟨ps',q,rfl,by omega⟩⟩
   simp? [hT',e2,uN hT' (show ps'.length<=100 by omega)])
 obtain⟨rest,q,rfl,h1⟩:=hq (by simp);rw[gL,IH,Ji]at hl';exact⟨o',T',rest,q,u5,hp',hT',by omega,hs',h1,e⟩
theorem zU(sc:List Int):wH [.sc sc] []=.ok (.d (.bl true)) []:=by
 unfold wH;rw[cN];unfold xI;obtain⟨o,hp,e0⟩:=CH sc;obtain⟨τ',S',e,o',R',x2,x3,x4,x5,x6,x7,x8,x9,y0,y1,y2,y3,y4,y5,y6,y7,y8,y9,z0,z1,hp',rfl,rfl⟩:=dj (show _=ye [some (.sc sc),some (.r 0),none,none,none,none,none,none,none,none,none,none,none,none,none,none,none,none,none,none,none,none] [o]from rfl) (S1:=[o]) (items:=(IP 6).map λi=>Vl.d (.int (i:Nat))) (gd:=none) (by walk_at"mx";rw[jH (by decide)];rfl)
  (λi τ S'=>∃(o':Ob)(R':Sto)(x2 x3 x4 x5 x6 x7 x8 x9 y0 y1 y2 y3 y4 y5 y6 y7 y8 y9 z0 z1:Option Vl),Pen o'/\τ=[some (.sc sc),some (.r 0),x2,x3,x4,x5,x6,x7,x8,x9,y0,y1,y2,y3,y4,y5,y6,y7,y8,y9,z0,z1]/\S'=o'::R') ⟨o,[],_,_,_,_,_,_,_,_,_,_,_,_,_,_,_,_,_,_,_,_,hp,rfl,rfl⟩ (by
   rintro i z τ S' hz ⟨o',R,x2,x3,x4,x5,x6,x7,x8,x9,y0,y1,y2,y3,y4,y5,y6,y7,y8,y9,z0,z1,hp',rfl,rfl⟩;obtain⟨hi6,rfl⟩:=gK hz;obtain⟨o1,hp1,e1⟩:=Cf (R:=R) hp';have hmod:0<=(i:Int) % 3/\(i:Int) % 3<3:=by omega
   obtain⟨c,ec,hcm⟩:=fG (ns:=[2,3,1]) (i:=(i:Int) % 3) hmod.1 (by simpa using hmod.2);have hc:0<c/\c<=4:=by
    simp only[IL,Jt,Ky]at hcm;rcases hcm with rfl |rfl |rfl<;>decide
   obtain⟨wss,o2,gs,hp2,e2⟩:=Bf (R:=R) (names:=4) (most:=c) hp1 (by decide) (by decide) hc.1 (by omega);have gs4:=uR gs (by decide) hc.2;have hl4:=gs4.le;obtain⟨ns,cs,lo,hi,o3,gn,g,hp3,e3⟩:=Ck (R:=R) hp2 gs4 (by decide) (by decide);obtain⟨vss,o4,gv,hvl,hp4,e4⟩:=zt (R:=R) (wss:=wss) hp3 gs.pos (by omega);have gv4:b8 4 4 vss:=uR gv (by omega) (by omega);have gnl:=gn.le;have gsp:=g.span;rw[show SO D.int [2,3,1]=[D.int 2,D.int 3,D.int 1]from rfl]at ec;obtain⟨p,hpl,hps,e5⟩:=AV (S:=o4::R) (wss:=wss) (λws hw=>by have:=(gs4.all ws hw).le;omega) g gn.dom (by omega);have e5:eY [.d (ao wss),.d (ax ns cs lo hi)] (o4::R)=.ok (.d (aJ p)) (o4::R):=e5;have hps2:gT 258 [p,[],[[0]]]:=by
    intro q hq;simp only[IL,Jt,Ky]at hq;rcases hq with rfl |rfl |rfl
    ·exact⟨by omega,λs hs=>by have:=hps s hs;omega⟩
    ·exact⟨by decide,by simp⟩
    ·exact⟨by decide,by simp⟩
   have g1:el (wss,ns,cs,lo,hi):=⟨gs4,gn,g⟩;have g2:el (vss,ns,cs,lo,hi):=⟨gv4,by rw[show vss.length=wss.length from hvl];exact gn,g⟩;have g3:el (wss,ns,cs,(if lo-2 > -99 then lo-2 else -99),(if hi+2<99 then hi+2 else 99)):=⟨gs4,gn,g.len,g.lim,by dsimp only;split<;>split<;>omega⟩;generalize hlo':(if lo-2 > -99 then lo-2 else -99)=lo' at g3;generalize hhi':(if hi+2<99 then hi+2 else 99)=hi' at g3;have rest:∀(T:Sto)(ps:List (List (List Int)))(w tl:Option Vl),T[R.length]?=some (.lst (ps.map aJ))->ps.length<=4->gT 258 ps->∃(o':Ob)(R':Sto)(u5 u6 u7 u8 u9 v0 v1:Option Vl),Pen o'/\ay kR (ay (cK (xLm fi (aa 13) (aA bC (ab (aa 1) (ab (xOp oIx (aa 13) (xUn cX (xC (.int 1)))) aj))))) kX)
     [some (.sc sc),some (.r 0),some (.d (.int (i:Nat))),some (.d (ao wss)),some (.d (ax ns cs lo hi)),some (.d (ao vss)),w,some (.d (af ns)),some (.d (af cs)),some (.d (.int lo)),some (.d (.int hi)),some (.d (ax ns cs lo' hi')),some (.d (aJ p)),some (.r (R.length+1)),tl,y5,y6,y7,y8,y9,z0,z1] (o4::T) =
     .ok (.nx,[some (.sc sc),some (.r 0),some (.d (.int (i:Nat))),some (.d (ao wss)),some (.d (ax ns cs lo hi)),some (.d (ao vss)),w,some (.d (af ns)),some (.d (af cs)),some (.d (.int lo)),some (.d (.int hi)),some (.d (ax ns cs lo' hi')),some (.d (aJ p)),some (.r (R.length+1)),tl,u5,u6,u7,u8,u9,v0,v1]) (o'::R'):=by
    intro T ps w tl hT hl hs;obtain⟨o5,T',ls,q,u5,hp5,hT',hl',hs',h1,e6⟩:=GB (x0:=some (.sc sc)) (x2:=some (.d (.int (i:Nat)))) (x3:=some (.d (ao wss))) (x4:=some (.d (ax ns cs lo hi))) (x5:=some (.d (ao vss))) (x6:=w) (x7:=some (.d (af ns))) (x8:=some (.d (af cs))) (x9:=some (.d (.int lo))) (y0:=some (.d (.int hi))) (y1:=some (.d (ax ns cs lo' hi'))) (y4:=tl) (y5:=y5) (y6:=y6) (y7:=y7) (y8:=y8) (y9:=y9) (z0:=z0) (z1:=z1) hp4 hT hl hs (by have:=gn.pos;omega) (by omega) hps;have hqm:=hs' q (by simp);obtain⟨r,o6,r1,r2,r3,hp6,e7⟩:=xU (R:=T') (b:=258) hp5 (p:=q) (by omega) (by omega) hqm.2 (by decide) (by decide);have e7:bC [.r 0,.d (aJ q)] (o5::T')=.ok (.d (aJ r)) (o6::T'):=e7;have hix:oIx (.r (R.length+1)) (.d (.int (-1))) (o5::T')=.ok (.d (aJ q)) (o5::T'):=lU (xs:=(ls++[q]).map aJ) (by rw[Mr];exact hT') (by
     rw[jA (n:=ls.length) (by rw[IA,IH,Ji]),IU,Jd (IB _),Mk];rfl)
    have hs2:∀p∈ls++[q]++[r],∀s∈p,s.length<=300:=by
     intro p hp s hm;rcases Jk.mp hp with z |z
     ·have:=(hs' p z).2 s hm;omega
     ·rw[IQ.mp z]at hm;have:=r3 s hm;omega
    obtain⟨u6,u7,u8,u9,v0,v1,e8⟩:=Ga (S:=o6::T'.set R.length (.lst ((ls++[q]++[r]).map aJ))) (n:=R.length+1) (ps:=ls++[q]++[r]) (x0:=some (.sc sc)) (x1:=some (.r 0)) (x2:=some (.d (.int (i:Nat)))) (x6:=w) (x7:=some (.d (af ns))) (x8:=some (.d (af cs))) (x9:=some (.d (.int lo))) (y0:=some (.d (.int hi))) (y2:=some (.d (aJ p))) (y4:=tl) (y5:=u5) (y6:=y6) (y7:=y7) (y8:=y8) (y9:=y9) (z0:=z0) (z1:=z1) (by rw[Mr];exact zI hT') hs2 g1 g2 g3;refine⟨o6,T'.set R.length (.lst ((ls++[q]++[r]).map aJ)),u5,u6,u7,u8,u9,v0,v1,hp6,?_⟩
    simp? [e6,hT',hix,e7,uN (ps:=ls++[q]) (q:=r) (o:=o6) hT' (by rw[IH,Ji];omega),e8]
   have hun:∀τ S,gTu 5 (gCo (gNm 6) (gCo (gNm 7) (gCo (gNm 8) (gCo (gNm 9) (gCo (gNm 10) gN0))))) (.d (ax ns cs lo hi)) τ S=.ok (((((τ.set 6 (some (.d (.str "sum")))).set 7 (some (.d (af ns)))).set 8 (some (.d (af cs)))).set 9 (some (.d (.int lo)))).set 10 (some (.d (.int hi)))) S:=λτ S=>rfl;have hmk:∀S,mkT [.d (.str "sum"),.d (af ns),.d (af cs),.d (.int lo'),.d (.int hi')] S=.ok (.d (ax ns cs lo' hi')) S:=λS=>rfl;have hml:mkM [.d (aJ p),.d (.lst []),.d (.lst [.tup [.int 0]])] (o4::R)=.ok (.r (R.length+1)) (o4::(R++[.lst ([p,[],[[0]]].map aJ)])):=rfl;generalize hrest:ay kR (ay (cK (xLm fi (aa 13) (aA bC (ab (aa 1) (ab (xOp oIx (aa 13) (xUn cX (xC (.int 1)))) aj))))) kX)=rst at rest;rcases wq (S:=o4::(R++[.lst ([p,[],[[0]]].map aJ)])) gs4 (by decide) (by decide) gn g with ec' |⟨f,ec'⟩
   ·have hpd:∀s∈bI cs wss ns (ns.length+1),s.length<=258:=by
     intro s hs;obtain⟨k,hk,rfl⟩:=J4.mp hs;have hk:=JO.mp hk;have:=tU (ns:=ns) gs4 g.lim (i:=k) (by omega);show(sortI (bj (b7 cs wss ns k))).length<=258;rw[fW];omega
    obtain⟨o7,R7,u5,u6,u7,u8,u9,v0,v1,hp7,e9⟩:=rest (R++[.lst (([p,[],[[0]]]++[bI cs wss ns (ns.length+1)]).map aJ),.dead]) ([p,[],[[0]]]++[bI cs wss ns (ns.length+1)]) (some (.d (.str "no"))) (some (.r (R.length+2))) (by simp) (by show 4<=4;decide) (sM hps2 (by unfold bI;rw[IA,KD];omega) hpd);refine⟨_,_,.nx,_,o7::R7,eX,?_,.inl rfl,True.intro,o7,R7,some (.d (.int (i:Nat))),some (.d (ao wss)),some (.d (ax ns cs lo hi)),some (.d (ao vss)),some (.d (.str "no")),some (.d (af ns)),some (.d (af cs)),some (.d (.int lo)),some (.d (.int hi)),some (.d (ax ns cs lo' hi')),some (.d (aJ p)),some (.r (R.length+1)),some (.r (R.length+2)),u5,u6,u7,u8,u9,v0,v1,hp7,rfl,rfl⟩
    simp? [e1,rf (S:=o1::R) (i:=(i:Int)) (j:=3) (by decide),iH ec,e2,e3,e4,hun,wy,wL,hlo',hhi',hmk,e5]
    rw[show(o4::(R++[Ob.lst [aJ p,D.lst [],D.lst [D.tup [D.int 0]]]]))=o4::(R++[.lst ([p,[],[[0]]].map aJ)])from rfl,ec',show o4::(R++[Ob.lst ([p,[],[[0]]].map aJ)])++[.lst ((bI cs wss ns (ns.length+1)).map af)]=o4::(R++[.lst ([p,[],[[0]]].map aJ),.lst ((bI cs wss ns (ns.length+1)).map af)]) by simp,show(o4::(R++[Ob.lst ([p,[],[[0]]].map aJ)])).length=R.length+2 by simp];rw[qZ,lZ,show∀(τ:Nv)(S:Sto),rp (gCo (gNm 6) (gCo (gNm 14) gN0)) (.pr (.str "no") (R.length+2)) τ S=.ok ((τ.set 6 (some (.d (.str "no")))).set 14 (some (.r (R.length+2)))) S fromλ_ _=>rfl]
    simp? [show decide ((Jo "no":Str)=Jo "no")=true by decide]
    rw[show frz (.r (R.length+2)) (o4::(R++[Ob.lst [aJ p,aJ [],aJ [[0]]],Ob.lst ((bI cs wss ns (ns.length+1)).map af)]))=.ok (.d (aJ (bI cs wss ns (ns.length+1)))) (o4::(R++[Ob.lst [aJ p,aJ [],aJ [[0]]],.dead])) by
     rw[Gk (xs:=(bI cs wss ns (ns.length+1)).map af) (by simp)];simp[aJ],BE,Ai,BP,oE (by show 3<100000;decide),zL,BJ]
    walk_at"mx";exact e9
   ·obtain⟨o7,R7,u5,u6,u7,u8,u9,v0,v1,hp7,e9⟩:=rest (R++[.lst ([p,[],[[0]]].map aJ)]) [p,[],[[0]]] (some (.d (.str "can"))) (some (.d (af f))) (by simp) (by show 3<=4;decide) hps2;refine⟨_,_,.nx,_,o7::R7,eX,?_,.inl rfl,True.intro,o7,R7,some (.d (.int (i:Nat))),some (.d (ao wss)),some (.d (ax ns cs lo hi)),some (.d (ao vss)),some (.d (.str "can")),some (.d (af ns)),some (.d (af cs)),some (.d (.int lo)),some (.d (.int hi)),some (.d (ax ns cs lo' hi')),some (.d (aJ p)),some (.r (R.length+1)),some (.d (af f)),u5,u6,u7,u8,u9,v0,v1,hp7,rfl,rfl⟩
    simp? [e1,rf (S:=o1::R) (i:=(i:Int)) (j:=3) (by decide),iH ec,e2,e3,e4,hun,wy,wL,hlo',hhi',hmk,e5]
    rw[show(o4::(R++[Ob.lst [aJ p,D.lst [],D.lst [D.tup [D.int 0]]]]))=o4::(R++[.lst ([p,[],[[0]]].map aJ)])from rfl,ec',qZ,lZ,show∀(τ:Nv)(S:Sto),rp (gCo (gNm 6) (gCo (gNm 14) gN0)) (.d (.tup [.str "can",af f])) τ S=.ok ((τ.set 6 (some (.d (.str "can")))).set 14 (some (.d (af f)))) S fromλ_ _=>rfl]
    simp? [show decide ((Jo "can":Str)=Jo "no")=false by decide]
    exact e9)
 simp? [e0,e]
 rfl
noncomputable def top(i:Nat):Stmt:=PySem.Challenge.pw_wishstrike_k21_which_sums_show_it.main.body.getD i (.Pass ⟨0,0,0,0⟩)
structure Txt(K:Iy)(mg:Str->Option Value):Prop where
 is_whole:Df K mg "is_whole" (top 5)
 is_within:Df K mg "is_within" (top 6)
 are_within:Df K mg "are_within" (top 7)
 are_rising:Df K mg "are_rising" (top 8)
 are_unlike:Df K mg "are_unlike" (top 9)
 is_span:Df K mg "is_span" (top 11)
 are_names:Df K mg "are_names" (top 12)
 is_sum:Df K mg "is_sum" (top 18)
 is_of_its_kind:Df K mg "is_of_its_kind" (top 21)
 are_worths:Df K mg "are_worths" (top 23)
 is_stand:Df K mg "is_stand" (top 24)
 is_wish:Df K mg "is_wish" (top 25)
 filling_with:Df K mg "filling_with" (top 26)
 is_wish_of:Df K mg "is_wish_of" (top 27)
 need_stand:Df K mg "need_stand" (top 28)
 need_wish:Df K mg "need_wish" (top 29)
 need:Df K mg "need" (top 30)
 need_kind:Df K mg "need_kind" (top 31)
 step_on:Df K mg "step_on" (top 33)
 walk_can:Df K mg "walk_can" (top 34)
 leads_within:Df K mg "leads_within" (top 35)
 walk_paper:Df K mg "walk_paper" (top 36)
 sums_onward:Df K mg "sums_onward" (top 38)
 is_sum_asked:Df K mg "is_sum_asked" (top 39)
 sum_can:Df K mg "sum_can" (top 40)
 sum_paper:Df K mg "sum_paper" (top 41)
 is_paper:Df K mg "is_paper" (top 65)
 l_spread:Df K mg "_law_spread" (top 67)
 l_open:Df K mg "_law_open" (top 68)
 l_anew:Df K mg "_law_anew" (top 69)
 l_take:Df K mg "_law_take" (top 70)
 l_worths:Df K mg "_law_worths" (top 71)
 l_stand:Df K mg "_law_stand" (top 72)
 l_some_names:Df K mg "_law_some_names" (top 73)
 l_wish_of:Df K mg "_law_wish_of" (top 77)
 l_rises:Df K mg "_law_rises" (top 78)
 l_steps:Df K mg "_law_steps" (top 79)
 l_layers_right:Df K mg "_law_layers_right" (top 80)
 l_layers:Df K mg "_law_layers" (top 81)
 l_bent_layers:Df K mg "_law_bent_layers" (top 82)
 l_beside:Df K mg "_law_beside" (top 83)
 law:Df K mg "law" (top 84)
 z_ValueError:mg "ValueError"=none
 z_all:mg "all"=none
 z_any:mg "any"=none
 z_bool:mg "bool"=none
 z_dict:mg "dict"=none
 z_enumerate:mg "enumerate"=none
 z_int:mg "int"=none
 z_isinstance:mg "isinstance"=none
 z_len:mg "len"=none
 z_list:mg "list"=none
 z_max:mg "max"=none
 z_min:mg "min"=none
 z_range:mg "range"=none
 z_set:mg "set"=none
 z_sorted:mg "sorted"=none
 z_sum:mg "sum"=none
 z_tuple:mg "tuple"=none
 z_zip:mg "zip"=none
theorem fb:bootBuiltins "all"=some (.builtin "all"):=by decide+kernel
theorem Ef:bootBuiltins "any"=some (.builtin "any"):=by decide+kernel
theorem uU:bootBuiltins "bool"=some (.type "bool"):=by decide+kernel
theorem CF:bootBuiltins "dict"=some (.type "dict"):=by decide+kernel
theorem D5:bootBuiltins "int"=some (.type "int"):=by decide+kernel
theorem bq:bootBuiltins "len"=some (.builtin "len"):=by decide+kernel
theorem jk:bootBuiltins "list"=some (.type "list"):=by decide+kernel
theorem zv:bootBuiltins "max"=some (.builtin "max"):=by decide+kernel
theorem rZ:bootBuiltins "min"=some (.builtin "min"):=by decide+kernel
theorem kI:bootBuiltins "set"=some (.type "set"):=by decide+kernel
theorem eM:bootBuiltins "sorted"=some (.builtin "sorted"):=by decide+kernel
theorem bZ:bootBuiltins "tuple"=some (.type "tuple"):=by decide+kernel
theorem DG:bootBuiltins "zip"=some (.type "zip"):=by decide+kernel
section
variable{P:Program}{w:World}{K:Iy}{mg:Str->Option Value}
theorem xj(T:Txt K mg):OkE P w K mg 1 "_law_open" ["script"] j8:=by
 refine bt ["script","cells","k","cell"] T.l_open λ_ _ _ _ _ _ _ _ hr q=>?_;exact(aq (aH q (bP jK we T.z_list jk (ae (zK (rv 0) b4 (bw ah)) ai)))
 (aq (bV (Bi rfl T.z_enumerate (zK (rv 0) (bw ah) (bw ah))) (lE (bO (aF q) (bO (aF q) gJ))) (au (h9 (az aD aC (aE (rv 1) (az dJ (bE _) (rv 2) ah)) (rv 3)) (lF (rv 1) (az dJ (bE _) (rv 2) ah) oN ja))))
 (au (aG (gO (ae (ow (rv 1)) (ae ah (ae ah ai))))))))
theorem uz(T:Txt K mg):OkE P w K mg 1 "_law_spread" ["cell","at"] eV:=by
 refine bt ["cell","at","one","two","three"] T.l_spread λ_ _ _ _ _ _ _ _ hr q=>?_;exact(aq (bg (bf FY (bL _) (rv 0) (az nC (bE _) ah ah)) (au (aG (rv 0))) aT)
 (aq (aH q (az dJ (bE _) (az aD aC (az aD aC (az dk (bE _) (az dJ (bE _) (rv 0) ah) ah) (az dk (bE _) (rv 1) ah)) ah) ah))
 (aq (aH q (az dJ (bE _) (az aD aC (az aD aC (az dk (bE _) (rv 2) (rv 2)) (az dk (bE _) (rv 1) ah)) (az dJ (bE _) (rv 0) ah)) ah))
 (aq (aH q (az dJ (bE _) (az aD aC (az aD aC (az dk (bE _) (rv 3) (rv 3)) (az dk (bE _) (rv 2) ah)) ah) ah))
 (au (aG (az aD aC (az dk (bE _) (az aD aC (az dk (bE _) (rv 2) ah) (rv 3)) ah) (rv 4))))))))
theorem a_(T:Txt K mg):OkE P w K mg 2 "_law_take" ["pen","many"] aZ:=by
 refine bt ["pen","many","at","cell","found"] T.l_take λ_ _ _ _ _ _ _ _ hr q=>?_;exact(aq (bg (bf oo (bL _) (aE (rv 0) ah) (rv 1)) (aq (aH q (aE (rv 0) ah))
 (aq (aH q ah)
 (aq (bg (bf oo (bL _) (rv 2) (aB aN aU T.z_len bq (ae (aE (rv 0) ah) ai))) (au (aH q (aE (aE (rv 0) ah) (rv 2)))) (au (bg (bf BY (bL _) (aB aN aU T.z_len bq (ae (aE (rv 0) ah) ai)) ah) (au (aH q (az dJ (bE _) (aE (aE (rv 0) ah) (az dJ (bE _) (az aD aC (az dk (bE _) (rv 2) ah) ah) (aB aN aU T.z_len bq (ae (aE (rv 0) ah) ai)))) (az aD aC (az nC (bE _) ah ah) (rv 2))))) aT)))
 (aq (h9 (az aD aC (rv 2) ah) (lF (rv 0) ah oN ja))
 (au (h9 (av (uz T) hr (ae (rv 3) (ae (rv 2) ai))) (lF (rv 0) ah oN ja))))))) aT)
 (aq (aH q (az dJ (bE _) (aE (rv 0) ah) (rv 1)))
 (aq (h9 (az Cp (bE _) (aE (rv 0) ah) (rv 1)) (lF (rv 0) ah oN ja))
 (au (aG (rv 4))))))
theorem mE(T:Txt K mg):OkE P w K mg 3 "_law_worths" ["pen","most","near"] eS:=by
 refine bt ["pen","most","near","found","k","worth"] T.l_worths λ_ _ _ _ _ _ _ _ hr q=>?_;have hu:=hr.units;exact(aq (aH q (gO ai))
 (aq (bV (cQ rfl T.z_range (ae (az aD aC ah (av (a_ T) hr (ae (rv 0) (ae (rv 1) ai)))) ai)) (aF q) (aq (aH q (az aD aC (rv 2) (av (a_ T) hr (ae (rv 0) (ae ah ai)))))
 (aq (bg (bf (bF hu) bG (av (a_ T) hr (ae (rv 0) (ae ah ai))) ah) (au (aH q (az ft (fu _) (av (a_ T) hr (ae (rv 0) (ae ah ai))) ah))) aT)
 (au (bg (bf (oY hu) oW (rv 5) (rv 3)) (au (cz (je (rv 3) (rv 5)))) aT)))))
 (au (aG (bP bU cf T.z_tuple bZ (ae (aB wu xy T.z_sorted eM (ae (rv 3) ai)) ai))))))
theorem wF(T:Txt K mg):OkE P w K mg 4 "_law_stand" ["pen","names","most"] iR:=by
 refine bt ["pen","names","most","near"] T.l_stand λ_ _ _ _ _ _ _ _ hr q=>?_;refine'(aq (aH q (az ft (fu _) (av (a_ T) hr (ae (rv 0) (ae ah ai))) ah))
 (au (aG (bP bU cf T.z_tuple bZ (ae (cI b_ ["name","pen","names","most","near"] q (cQ rfl T.z_range (ae (az aD aC ah (av (a_ T) hr (ae (rv 0) (ae (rv 1) ai)))) ai)) ?g0 rt0 ?e0) ai)))))
 (case g0=>intro _ _ _ _ q;exact(aF q))
 (case e0=>intro _ _ _ _;exact(av (mE T) hr (ae (rv 1) (ae (rv 3) (ae (rv 4) ai)))))
theorem y_(T:Txt K mg):OkE P w K mg 1 "_law_anew" ["pen"] jO:=by
 refine bt ["pen"] T.l_anew λ_ _ _ _ _ _ _ _ hr q=>?_;exact(aq (h9 ah (lF (rv 0) ah oN ja))
 (au (aG (rv 0))))
theorem oM(T:Txt K mg):OkE P w K mg 3 "_law_some_names" ["pen","stand"] dQ:=by
 refine bt ["pen","stand","left","many"] T.l_some_names λ_ _ _ _ _ _ _ _ hr q=>?_;refine'(aq (aH q (qI rfl rfl T.z_list rfl T.z_range jk (ae (aB aN aU T.z_len bq (ae (rv 1) ai)) ai)))
 (aq (aH q (az aD aC ah (av (a_ T) hr (ae (rv 0) (ae (aB aN aU T.z_len bq (ae (rv 2) ai)) ai)))))
 (aq (bg (bf BY (bL _) (av (a_ T) hr (ae (rv 0) (ae ah ai))) ah) (au (aH q (aB aN aU T.z_len bq (ae (rv 2) ai)))) aT)
 (au (aG (bP bU cf T.z_tuple bZ (ae (cI b_ ["k","pen","stand","left","many"] q (cQ rfl T.z_range (ae (rv 3) ai)) ?g0 rt0 ?e0) ai)))))))
 (case g0=>intro _ _ _ _ q;exact(aF q))
 (case e0=>intro _ _ _ _;exact(BD PySem.F.slot_list_pop PySem.F.type_list_pop Ax AZ (rv 3) (av (a_ T) hr (ae (rv 1) (ae (aB aN aU T.z_len bq (ae (rv 3) ai)) ai)))))
theorem tN(T:Txt K mg):OkE P w K mg 4 "_law_wish_of" ["pen","stand","kind"] fO:=by
 refine bt ["pen","stand","kind","names","weights","total","name","weight","low","high","ends"] T.l_wish_of λ_ _ _ _ _ _ _ _ hr q=>?_;have hu:=hr.units;refine'(aq (aH q (av (oM T) hr (ae (rv 0) (ae (rv 1) ai))))
 (aq (bg (bf (bF hu) bG (rv 2) ah) cp aT)
 (aq (bg (bf (bF hu) bG (rv 2) ah) cp aT)
 (aq (bg (bf (bF hu) bG (rv 2) ah) (aq (aH q (bP bU cf T.z_tuple bZ (ae (cI b_ ["name","pen","stand","kind","names","weights","total","~6","weight","low","high","ends"] q (bH (rv 3)) ?g0 rt0 ?e0) ai)))
 (aq (aH q ah)
 (aq (bV (E3 rfl T.z_zip (ae (rv 3) (ae (rv 4) ai))) (lE (bO (aF q) (bO (aF q) gJ))) (au (aH q (az aD aC (rv 5) (az dk (bE _) (rv 7) (aE (aE (rv 1) (rv 6)) (av (a_ T) hr (ae (rv 0) (ae (aB aN aU T.z_len bq (ae (aE (rv 1) (rv 6)) ai)) ai)))))))))
 (aq (aH q (aB (qu rfl) rC T.z_max zv (ae (c_ cH cb ah) (ae (aB (kE rfl) mN T.z_min rZ (ae ah (ae (az aD aC (rv 5) (aE (cE (ae ah (ae ah (ae ah (ae (c_ cH cb ah) (ae ah ai)))))) (av (a_ T) hr (ae (rv 0) (ae ah ai))))) ai))) ai))))
 (aq (aH q (aB (kE rfl) mN T.z_min rZ (ae ah (ae (az aD aC (rv 8) (aE (cE (ae ah (ae ah (ae ah (ae ah (ae ah ai)))))) (av (a_ T) hr (ae (rv 0) (ae ah ai))))) ai))))
 (aq (bg (bf (bF hu) bG (av (a_ T) hr (ae (rv 0) (ae ah ai))) ah) (aq (aH q (az ft (fu _) (av (a_ T) hr (ae (rv 0) (ae ah ai))) ah))
 (au (aH q (az aD aC (rv 8) (av (a_ T) hr (ae (rv 0) (ae (az ft (fu _) ah (rv 8)) ai))))))) aT)
 (au (aG (di (ae cB (ae (rv 3) (ae (rv 4) (ae (rv 8) (ae (rv 9) ai)))))))))))))) aT)
 cp))))
 (case g0=>intro _ _ _ _ q;exact(aF q))
 (case e0=>intro _ _ _ _;exact(az ft (fu _) (av (a_ T) hr (ae (rv 1) (ae ah ai))) ah))
theorem ug(T:Txt K mg):OkE P w K mg 4 "_law_beside" ["pen","stand"] gE:=by
 refine bt ["pen","stand","near"] T.l_beside λ_ _ _ _ _ _ _ _ hr q=>?_;refine'(aq (aH q (az ft (fu _) (av (a_ T) hr (ae (rv 0) (ae ah ai))) ah))
 (au (aG (bP bU cf T.z_tuple bZ (ae (cI b_ ["name","pen","stand","near"] q (bH (rv 1)) ?g0 rt0 ?e0) ai)))))
 (case g0=>intro _ _ _ _ q;exact(aF q))
 (case e0=>intro _ _ _ _;exact(av (mE T) hr (ae (rv 1) (ae ah (ae (rv 3) ai)))))
theorem nQ(T:Txt K mg):OkE P w K mg 1 "_law_steps" ["stand","wish","at","here"] fZ:=by
 refine bt ["stand","wish","at","here","worths"] T.l_steps λ_ _ _ _ _ _ _ _ hr q=>?_;have hu:=hr.units;refine'(aq (aH q (aE (rv 0) (aE (aE (rv 1) ah) (rv 2))))
 (aq (bg (bf (bF hu) bG (aE (rv 1) ah) cB) (au (aG (cI b_ ["worth","stand","wish","at","here","worths"] q (bH (rv 4)) ?g0 rt0 ?e0))) aT)
 cp))
 (case g0=>intro _ _ _ _ q;exact(aF q))
 (case e0=>intro _ _ _ _;exact(az aD aC (rv 4) (az dk (bE _) (rv 0) (aE (aE (rv 2) ah) (rv 3)))))
theorem ux(T:Txt K mg):OkE P w K mg 2 "_law_layers" ["stand","wish"] eY:=by
 refine bt ["stand","wish","layers","at","more","here"] T.l_layers λ_ _ _ _ _ _ _ _ hr q=>?_;refine'(aq (aH q (gO (ae (cE (ae ah ai)) ai)))
 (aq (bV (cQ rfl T.z_range (ae (aB aN aU T.z_len bq (ae (aE (rv 1) ah) ai)) ai)) (aF q) (aq (aH q (gO ai))
 (aq (bV (bH (aE (rv 2) (c_ cH cb ah))) (aF q) (au (cz (BD PySem.F.slot_list_extend PySem.F.type_list_extend C2 zo (rv 4) (av (nQ T) hr (ae (rv 0) (ae (rv 1) (ae (rv 3) (ae (rv 5) ai)))))))))
 (au (cz (je (rv 2) (oB jm (by decide) rfl rfl T.z_sorted rfl T.z_set eM kI (rv 4))))))))
 (au (aG (cI b_ ["layer","stand","wish","layers","at","more","here"] q (bH (rv 2)) ?g0 rt0 ?e0)))))
 (case g0=>intro _ _ _ _ q;exact(aF q))
 (case e0=>intro _ _ _ _;exact(bP bU cf T.z_tuple bZ (ae (rv 0) ai)))
theorem uC(T:Txt K mg):OkE P w K mg 1 "is_whole" ["thing"] gA:=by
 refine bt ["thing"] T.is_whole λ_ _ _ _ _ _ _ _ hr q=>?_;exact(au (aG (dg (dE T.z_isinstance T.z_int D5 (rv 0)) (eW (zk (dE T.z_isinstance T.z_bool uU (rv 0)))))))
theorem ie(T:Txt K mg):OkE P w K mg 2 "is_within" ["thing","low","high"] du:=by
 refine bt ["thing","low","high"] T.is_within λ_ _ _ _ _ _ _ _ hr q=>?_;exact(au (aG (dg (av (uC T) hr (ae (rv 0) ai)) (eW (j6 dO (bL _) dO (bL _) (rv 1) (rv 0) (rv 2))))))
theorem f_(T:Txt K mg):OkE P w K mg 3 "are_within" ["thing","low","high"] cW:=by
 refine bt ["thing","low","high"] T.are_within λ_ _ _ _ _ _ _ _ hr q=>?_;refine'(au (aG (dg (dE T.z_isinstance T.z_tuple bZ (rv 0)) (eW (aB (cP rfl) c8 T.z_all fb (ae (cI b_ ["part","thing","low","high"] q (bH (rv 0)) ?g0 rt0 ?e0) ai))))))
 (case g0=>intro _ _ _ _ q;exact(aF q))
 (case e0=>intro _ _ _ _;exact(av (ie T) hr (ae (rv 0) (ae (rv 2) (ae (rv 3) ai)))))
theorem kz(T:Txt K mg):OkE P w K mg 1 "are_rising" ["things"] dB:=by
 refine bt ["things"] T.are_rising λ_ _ _ _ _ _ _ _ hr q=>?_;refine'(au (aG (aB (cP rfl) c8 T.z_all fb (ae (cI b_ ["at","things"] q (yn rfl T.z_range (ae ah (ae (aB aN aU T.z_len bq (ae (rv 0) ai)) ai))) ?g0 rt0 ?e0) ai))))
 (case g0=>intro _ _ _ _ q;exact(aF q))
 (case e0=>intro _ _ _ _;exact(eZ oo (bL _) (aE (rv 1) (az ft (fu _) (rv 0) ah)) (aE (rv 1) (rv 0))))
theorem qK(T:Txt K mg):OkE P w K mg 4 "are_worths" ["thing"] fw:=by
 refine bt ["thing"] T.are_worths λ_ _ _ _ _ _ _ _ hr q=>?_;exact(au (aG (dg (av (f_ T) hr (ae (rv 0) (ae (c_ cH cb ah) (ae ah ai)))) (dg (j6 dO (bL _) dO (bL _) ah (aB aN aU T.z_len bq (ae (rv 0) ai)) ah) (eW (av (kz T) hr (ae (rv 0) ai)))))))
theorem ub(T:Txt K mg):OkE P w K mg 5 "is_stand" ["thing"] gB:=by
 refine bt ["thing"] T.is_stand λ_ _ _ _ _ _ _ _ hr q=>?_;refine'(aq (bg (RW.rt (iE (c5 (c6 (dE T.z_isinstance T.z_tuple bZ (rv 0)))) (hU (c5 (rq dO (bL _) dO (bL _) ah (aB aN aU T.z_len bq (ae (rv 0) ai)) ah))))) (au (aG dR)) aT)
 (au (aG (aB (cP rfl) c8 T.z_all fb (ae (cI b_ ["part","thing"] q (bH (rv 0)) ?g0 rt0 ?e0) ai)))))
 (case g0=>intro _ _ _ _ q;exact(aF q))
 (case e0=>intro _ _ _ _;exact(av (qK T) hr (ae (rv 0) ai)))
theorem qO(T:Txt K mg):OkE P w K mg 6 "need_stand" ["stand"] eT:=by
 refine bt ["stand"] T.need_stand λ_ _ _ _ _ _ _ _ hr q=>?_;exact(au (bg (c5 (c6 (av (ub T) hr (ae (rv 0) ai)))) (au mT) aT))
theorem qM(T:Txt K mg):OkE P w K mg 1 "are_unlike" ["things"] fB:=by
 refine bt ["things"] T.are_unlike λ_ _ _ _ _ _ _ _ hr q=>?_;have hu:=hr.units;exact(au (aG (eZ (bF hu) bG (F2 rfl rfl T.z_len rfl T.z_set bq kI (rv 0)) (aB aN aU T.z_len bq (ae (rv 0) ai)))))
theorem tK(T:Txt K mg):OkE P w K mg 4 "are_names" ["thing"] fN:=by
 refine bt ["thing"] T.are_names λ_ _ _ _ _ _ _ _ hr q=>?_;exact(au (aG (dg (av (f_ T) hr (ae (rv 0) (ae ah (ae ah ai)))) (dg (j6 dO (bL _) dO (bL _) ah (aB aN aU T.z_len bq (ae (rv 0) ai)) ah) (eW (av (qM T) hr (ae (rv 0) ai)))))))
theorem wm(T:Txt K mg):OkE P w K mg 3 "is_span" ["low","high","least","most"] iI:=by
 refine bt ["low","high","least","most"] T.is_span λ_ _ _ _ _ _ _ _ hr q=>?_;exact(au (aG (dg (av (ie T) hr (ae (rv 0) (ae (rv 2) (ae (rv 3) ai)))) (dg (av (ie T) hr (ae (rv 1) (ae (rv 2) (ae (rv 3) ai)))) (eW (eZ dO (bL _) (rv 0) (rv 1)))))))
theorem yK(T:Txt K mg):OkE P w K mg 4 "is_sum" ["wish"] jI:=by
 refine bt ["wish"] T.is_sum λ_ _ _ _ _ _ _ _ hr q=>?_;have hu:=hr.units;exact(aq (bg (RW.rt (iE (bf (jl hu) i9 (aB aN aU T.z_len bq (ae (rv 0) ai)) ah) (hU (c5 (c6 (av (f_ T) hr (ae (aE (rv 0) ah) (ae (c_ cH cb ah) (ae ah ai))))))))) (au (aG dR)) aT)
 (au (aG (dg (eZ (bF hu) bG (aB aN aU T.z_len bq (ae (aE (rv 0) ah) ai)) (aB aN aU T.z_len bq (ae (aE (rv 0) ah) ai))) (eW (av (wm T) hr (ae (aE (rv 0) ah) (ae (aE (rv 0) ah) (ae (c_ cH cb ah) (ae ah ai))))))))))
theorem me(T:Txt K mg):OkE P w K mg 5 "is_of_its_kind" ["wish"] df:=by
 refine bt ["wish","word"] T.is_of_its_kind λ_ _ _ _ _ _ _ _ hr q=>?_;have hu:=hr.units;exact(aq (aH q (aE (rv 0) ah))
 (aq (bg (bf (bF hu) bG (rv 1) cB) cp aT)
 (aq (bg (bf (bF hu) bG (rv 1) cB) cp aT)
 (aq (bg (bf (bF hu) bG (rv 1) cB) (au (aG (av (yK T) hr (ae (rv 0) ai)))) aT)
 cp))))
theorem wb(T:Txt K mg):OkE P w K mg 6 "is_wish" ["thing"] iG:=by
 refine bt ["thing"] T.is_wish λ_ _ _ _ _ _ _ _ hr q=>?_;exact(aq (bg (RW.rt (iE (c5 (c6 (dE T.z_isinstance T.z_tuple bZ (rv 0)))) (hU (bf oo (bL _) (aB aN aU T.z_len bq (ae (rv 0) ai)) ah)))) (au (aG dR)) aT)
 (au (aG (dg (av (tK T) hr (ae (aE (rv 0) ah) ai)) (eW (av (me T) hr (ae (rv 0) ai)))))))
theorem qC(T:Txt K mg):OkE P w K mg 7 "is_wish_of" ["stand","thing"] eR:=by
 refine bt ["stand","thing"] T.is_wish_of λ_ _ _ _ _ _ _ _ hr q=>?_;refine'(au (aG (dg (av (wb T) hr (ae (rv 1) ai)) (eW (aB (cP rfl) c8 T.z_all fb (ae (cI b_ ["name","stand","thing"] q (bH (aE (rv 1) ah)) ?g0 rt0 ?e0) ai))))))
 (case g0=>intro _ _ _ _ q;exact(aF q))
 (case e0=>intro _ _ _ _;exact(eZ oo (bL _) (rv 0) (aB aN aU T.z_len bq (ae (rv 1) ai))))
theorem rl(T:Txt K mg):OkE P w K mg 8 "need_wish" ["stand","wish","number"] fQ:=by
 refine bt ["stand","wish","number"] T.need_wish λ_ _ _ _ _ _ _ _ hr q=>?_;exact(au (bg (c5 (c6 (av (qC T) hr (ae (rv 0) (ae (rv 1) ai))))) (au mT) aT))
theorem vq(T:Txt K mg):OkE P w K mg 9 "need" ["stand","wish"] lN:=by
 refine bt ["stand","wish"] T.need λ_ _ _ _ _ _ _ _ hr q=>?_;exact(aq (cz (av (qO T) hr (ae (rv 0) ai)))
 (au (cz (av (rl T) hr (ae (rv 0) (ae (rv 1) (ae ah ai)))))))
theorem lI(T:Txt K mg):OkE P w K mg 10 "need_kind" ["stand","wish","word"] ef:=by
 refine bt ["stand","wish","word"] T.need_kind λ_ _ _ _ _ _ _ _ hr q=>?_;have hu:=hr.units;exact(aq (cz (av (vq T) hr (ae (rv 0) (ae (rv 1) ai))))
 (au (bg (bf (jl hu) i9 (aE (rv 1) ah) (rv 2)) (au mT) aT)))
theorem jj(T:Txt K mg):OkE P w K mg 1 "sums_onward" ["wish","at","place","worth"] cn:=by
 refine bt ["wish","at","place","worth"] T.sums_onward λ_ _ _ _ _ _ _ _ hr q=>?_;exact(au (aG (cE (ae (az aD aC (rv 2) (az dk (bE _) (rv 3) (aE (aE (rv 0) ah) (rv 1)))) ai))))
theorem wD(T:Txt K mg):OkE P w K mg 2 "step_on" ["stand","wish","at","ways","onward"] iL:=by
 refine bt ["stand","wish","at","ways","onward","further","place","worth","reached"] T.step_on λ_ _ _ _ _ _ _ _ hr q=>?_;have hu:=hr.units;exact(aq (aH q Dw)
 (aq (bV (xZ (rv 3)) (aF q) (au (bV (bH (aE (rv 0) (aE (aE (rv 1) ah) (rv 2)))) (aF q) (au (bV (bH (jZ (l6 (jj T) om) hr (ae (rv 1) (ae (rv 2) (ae (rv 6) (ae (rv 7) ai)))))) (aF q) (au (DD hu (rv 5) (rv 8) (az aD aC (B9 hu (rv 3) (rv 6)) (di (ae (rv 7) ai))))))))))
 (au (aG (ow (rv 5))))))
theorem iO(T:Txt K mg):OkE P w K mg 1 "is_sum_asked" ["wish","place"] bQ:=by
 refine bt ["wish","place"] T.is_sum_asked λ_ _ _ _ _ _ _ _ hr q=>?_;exact(au (aG (j6 dO (bL _) dO (bL _) (aE (rv 0) ah) (rv 1) (aE (rv 0) ah))))
theorem oJ(T:Txt K mg):OkE P w K mg 1 "filling_with" ["stand","chosen"] dM:=by
 refine bt ["stand","chosen"] T.filling_with λ_ _ _ _ _ _ _ _ hr q=>?_;have hu:=hr.units;refine'(au (aG (bP bU cf T.z_tuple bZ (ae (cI b_ ["name","worths","stand","chosen"] q (Am rfl T.z_enumerate (rv 0)) ?g0 rt0 ?e0) ai))))
 (case g0=>intro _ _ _ _ q;exact(lE (bO (aF q) (bO (aF q) gJ))))
 (case e0=>intro _ _ _ _;exact(Dr hu (rv 3) (rv 0) (aE (rv 1) ah)))
theorem uj(T:Txt K mg):OkE P w K mg 3 "walk_can" ["stand","wish","onward","is_end"] dc:=by
 refine bt ["stand","wish","onward","is_end","ways","paper","at","place"] T.walk_can λ_ _ _ _ _ _ _ _ hr q=>?_;have hu:=hr.units;exact(aq (aH q (ow (C4 (CO ah (di ai) DL))))
 (aq (aH q (gO (ae (di (ae ah ai)) ai)))
 (aq (bV (cQ rfl T.z_range (ae (aB aN aU T.z_len bq (ae (aE (rv 1) ah) ai)) ai)) (aF q) (aq (aH q (av (wD T) hr (ae (rv 0) (ae (rv 1) (ae (rv 6) (ae (rv 4) (ae (rv 2) ai)))))))
 (au (cz (je (rv 5) (bP bU cf T.z_tuple bZ (ae (aB (vH jm (by decide) rfl) vL T.z_sorted eM (ae (rv 4) ai)) ai)))))))
 (aq (bV (xZ (rv 4)) (aF q) (au (bg (c6 (jZ (l6 (iO T) om) hr (ae (rv 1) (ae (rv 7) ai)))) (au (aG (vd (ae cB (ae (av (oJ T) hr (ae (rv 0) (ae (ow (wV rfl rfl T.z_dict rfl T.z_zip CF DG (ae (aE (rv 1) ah) (ae (B9 hu (rv 4) (rv 7)) ai)))) ai))) ai))))) aT)))
 (au (aG (vd (ae cB (ae (rv 5) ai)))))))))
theorem wA(T:Txt K mg):OkE P w K mg 11 "sum_can" ["stand","wish"] eN:=by
 refine bt ["stand","wish"] T.sum_can λ_ _ _ _ _ _ _ _ hr q=>?_;exact(aq (cz (av (lI T) hr (ae (rv 0) (ae (rv 1) (ae cB ai)))))
 (au (aG (av (uj T) hr (ae (rv 0) (ae (rv 1) (ae (nR T.sums_onward) (ae (nR T.is_sum_asked) ai))))))))
theorem gS(T:Txt K mg):OkE P w K mg 3 "_law_bent_layers" ["pen","paper"] bC:=by
 refine bt ["pen","paper","at","layer","more","far","some","k","to","kind"] T.l_bent_layers λ_ _ _ _ _ _ _ _ hr q=>?_;have hu:=hr.units;exact(aq (aH q (av (a_ T) hr (ae (rv 0) (ae (aB aN aU T.z_len bq (ae (rv 1) ai)) ai))))
 (aq (aH q (aE (rv 1) (rv 2)))
 (aq (aH q (bP bU cf T.z_tuple bZ (ae (oB jm (by decide) rfl rfl T.z_sorted rfl T.z_set eM kI (az aD aC (rv 3) (di (ae (az ft (fu _) (av (a_ T) hr (ae (rv 0) (ae ah ai))) ah) ai)))) ai)))
 (aq (aH q (bP bU cf T.z_tuple bZ (ae (oB jm (by decide) rfl rfl T.z_sorted rfl T.z_set eM kI (az aD aC (rv 3) (di (ae (az nC (bE _) ah ah) (ae (c_ cH cb (az nC (bE _) ah ah)) ai))))) ai)))
 (aq (aH q (cE (ae (cm (rv 3) (bw ah) b4) (ae (cm (rv 3) b4 (bw (c_ cH cb ah))) (ae (yX (rv 3) (c_ cH cb ah)) (ae (az aD aC (rv 3) (cm (rv 3) (bw (c_ cH cb ah)) b4)) (ae (rv 4) (ae (rv 5) (ae (di ai) (ae (rv 3) ai))))))))))
 (aq (aH q (av (a_ T) hr (ae (rv 0) (ae (az aD aC (aB aN aU T.z_len bq (ae (rv 3) ai)) ah) ai))))
 (aq (aH q (av (a_ T) hr (ae (rv 0) (ae (az aD aC (aB aN aU T.z_len bq (ae (rv 3) ai)) ah) ai))))
 (aq (aH q (az aD aC (rv 6) (cE (ae (az aD aC (az aD aC (cm (rv 3) b4 (bw (rv 8))) (cm (rv 3) (bw (rv 7)) (bw (az aD aC (rv 7) ah)))) (cm (rv 3) (bw (rv 8)) b4)) (ae (az aD aC (az aD aC (cm (rv 3) b4 (bw (rv 7))) (yX (cm (rv 3) (bw (rv 7)) (bw (az aD aC (rv 7) ah))) (c_ cH cb ah))) (cm (rv 3) (bw (az aD aC (rv 7) ah)) b4)) ai)))))
 (aq (aH q (av (a_ T) hr (ae (rv 0) (ae ah ai))))
 (aq (bg (bf (bF hu) bG (rv 9) ah) (au (aG (az aD aC (cm (rv 1) b4 (bw (rv 2))) (cm (rv 1) (bw (az aD aC (rv 2) ah)) b4)))) aT)
 (aq (bg (bf (bF hu) bG (rv 9) ah) (au (aG (az aD aC (az aD aC (cm (rv 1) b4 (bw (rv 2))) (cE (ae (rv 3) ai))) (cm (rv 1) (bw (rv 2)) b4)))) aT)
 (aq (bg (bf (bF hu) bG (rv 9) ah) (au (aG (az aD aC (az aD aC (cm (rv 1) b4 (bw (rv 2))) (cE (ae (um rfl rfl T.z_tuple rfl T.z_range bZ (ae (c_ cH cb ah) (ae ah ai))) ai))) (cm (rv 1) (bw (az aD aC (rv 2) ah)) b4)))) aT)
 (au (aG (az aD aC (az aD aC (cm (rv 1) b4 (bw (rv 2))) (cE (ae (aE (rv 6) (rv 9)) ai))) (cm (rv 1) (bw (az aD aC (rv 2) ah)) b4))))))))))))))))
theorem wU(T:Txt K mg):OkE P w K mg 1 "_law_rises" ["numbers"] iC:=by
 refine bt ["numbers"] T.l_rises λ_ _ _ _ _ _ _ _ hr q=>?_;have hu:=hr.units;exact(au (aG (eZ (bF hu) bG (bP jK pQ T.z_list jk (ae (rv 0) ai)) (oB jm (by decide) rfl rfl T.z_sorted rfl T.z_set eM kI (rv 0)))))
theorem mi(T:Txt K mg):OkE P w K mg 2 "_law_layers_right" ["stand","wish","paper"] cG:=by
 refine bt ["stand","wish","paper","at","here"] T.l_layers_right λ_ _ _ _ _ _ _ _ hr q=>?_;have hu:=hr.units;refine'(aq (bg (RW.rt (iE (bf (jl hu) i9 (aB aN aU T.z_len bq (ae (rv 2) ai)) (az aD aC (aB aN aU T.z_len bq (ae (aE (rv 1) ah) ai)) ah)) (hU (bf (oY hu) oW ah (aE (rv 2) ah))))) (au (aG dR)) aT)
 (aq (bg (c5 (c6 (aB (cP rfl) c8 T.z_all fb (ae (cI b_ ["layer","stand","wish","paper","at","here"] q (bH (rv 2)) ?g0 rt0 ?e0) ai)))) (au (aG dR)) aT)
 (aq (bV (cQ rfl T.z_range (ae (aB aN aU T.z_len bq (ae (aE (rv 1) ah) ai)) ai)) (aF q) (au (bV (bH (aE (rv 2) (rv 3))) (aF q) (au (bg (c5 (c6 (aB (cP rfl) c8 T.z_all fb (ae (cI b_ ["there","stand","wish","paper","at","here"] q (bH (av (nQ T) hr (ae (rv 0) (ae (rv 1) (ae (rv 3) (ae (rv 4) ai)))))) ?g1 rt0 ?e1) ai)))) (au (aG dR)) aT)))))
 (aq (bg (bf (bF hu) bG (aE (rv 1) ah) cB) (au (aG (eZ (bF hu) bG (cI b_ ["total","stand","wish","paper","at","here"] q (bH (aE (rv 2) (c_ cH cb ah))) ?g2 ?t2 ?e2) (cE ai)))) aT)
 cp))))
 (case g0=>intro _ _ _ _ q;exact(aF q))
 (case e0=>intro _ _ _ _;exact(av (wU T) hr (ae (rv 0) ai)))
 (case g1=>intro _ _ _ _ q;exact(aF q))
 (case e1=>intro _ _ _ _;exact(eZ (yT hu) yI (rv 0) (aE (rv 3) (az aD aC (rv 4) ah))))
 (case g2=>intro _ _ _ _ q;exact(aF q))
 (case t2=>intro _ _ _ _;exact(CB (rq dO (bL _) dO (bL _) (aE (rv 2) ah) (rv 0) (aE (rv 2) ah))))
 (case e2=>intro _ _ _ _;exact(rv 0))
theorem nG(T:Txt K mg):OkE P w K mg 2 "leads_within" ["stand","wish","at","paper","onward"] dP:=by
 refine bt ["stand","wish","at","paper","onward","place","worth"] T.leads_within λ_ _ _ _ _ _ _ _ hr q=>?_;have hu:=hr.units;refine'(aq (bV (bH (aE (rv 3) (rv 2))) (aF q) (au (bV (bH (aE (rv 0) (aE (aE (rv 1) ah) (rv 2)))) (aF q) (au (bg (c5 (c6 (aB (cP rfl) c8 T.z_all fb (ae (cI b_ ["reached","stand","wish","at","paper","onward","place","worth"] q (bH (jZ (l6 (jj T) om) hr (ae (rv 1) (ae (rv 2) (ae (rv 5) (ae (rv 6) ai)))))) ?g0 rt0 ?e0) ai)))) (au (aG dR)) aT)))))
 (au (aG dR)))
 (case g0=>intro _ _ _ _ q;exact(aF q))
 (case e0=>intro _ _ _ _;exact(eZ (yT hu) yI (rv 0) (aE (rv 4) (az aD aC (rv 3) ah))))
theorem qJ(T:Txt K mg):OkE P w K mg 3 "walk_paper" ["stand","wish","paper","onward","is_end"] fh:=by
 refine bt ["stand","wish","paper","onward","is_end","many"] T.walk_paper λ_ _ _ _ _ _ _ _ hr q=>?_;have hu:=hr.units;refine'(aq (aH q (aB aN aU T.z_len bq (ae (aE (rv 1) ah) ai)))
 (aq (bg (RW.rt (iE (c5 (c6 (dE T.z_isinstance T.z_list jk (rv 2)))) (hU (bf (jl hu) i9 (aB aN aU T.z_len bq (ae (rv 2) ai)) (az aD aC (rv 5) ah))))) (au (aG dR)) aT)
 (aq (bg (RW.rt (iE (c5 (c6 (aB (cP rfl) c8 T.z_all fb (ae (cI b_ ["places","stand","wish","paper","onward","is_end","many"] q (bH (rv 2)) ?g0 rt0 ?e0) ai)))) (hU (bf (oY hu) oW ah (aE (rv 2) ah))))) (au (aG dR)) aT)
 (aq (bg (c5 (c6 (aB (cP rfl) c8 T.z_all fb (ae (cI b_ ["at","stand","wish","paper","onward","is_end","many"] q (cQ rfl T.z_range (ae (rv 5) ai)) ?g1 rt0 ?e1) ai)))) (au (aG dR)) aT)
 (au (aG (zk (aB (zu rfl) Ah T.z_any Ef (ae (cI b_ ["place","stand","wish","paper","onward","is_end","many"] q (bH (aE (rv 2) (rv 5))) ?g2 rt0 ?e2) ai)))))))))
 (case g0=>intro _ _ _ _ q;exact(aF q))
 (case e0=>intro _ _ _ _;exact(av (kz T) hr (ae (rv 0) ai)))
 (case g1=>intro _ _ _ _ q;exact(aF q))
 (case e1=>intro _ _ _ _;exact(av (nG T) hr (ae (rv 1) (ae (rv 2) (ae (rv 0) (ae (rv 3) (ae (rv 4) ai)))))))
 (case g2=>intro _ _ _ _ q;exact(aF q))
 (case e2=>intro _ _ _ _;exact(jZ (l6 (iO T) om) hr (ae (rv 2) (ae (rv 0) ai))))
theorem kZ(T:Txt K mg):OkE P w K mg 11 "sum_paper" ["stand","wish","paper"] dr:=by
 refine bt ["stand","wish","paper"] T.sum_paper λ_ _ _ _ _ _ _ _ hr q=>?_;exact(aq (cz (av (lI T) hr (ae (rv 0) (ae (rv 1) (ae cB ai)))))
 (au (aG (av (qJ T) hr (ae (rv 0) (ae (rv 1) (ae (rv 2) (ae (nR T.sums_onward) (ae (nR T.is_sum_asked) ai)))))))))
theorem ud(T:Txt K mg):OkE P w K mg 12 "is_paper" ["stand","wish","paper"] fj:=by
 refine bt ["stand","wish","paper","word"] T.is_paper λ_ _ _ _ _ _ _ _ hr q=>?_;have hu:=hr.units;exact(aq (cz (av (vq T) hr (ae (rv 0) (ae (rv 1) ai))))
 (aq (aH q (aE (rv 1) ah))
 (aq (bg (bf (bF hu) bG (rv 3) cB) cp aT)
 (aq (bg (bf (bF hu) bG (rv 3) cB) cp aT)
 (aq (bg (bf (bF hu) bG (rv 3) cB) (au (aG (av (kZ T) hr (ae (rv 0) (ae (rv 1) (ae (rv 2) ai)))))) aT)
 (aq (bg (bf (bF hu) bG (rv 3) cB) cp aT)
 cp))))))
theorem DY(T:Txt K mg):OkE P w K mg 13 "law" ["script"] wH:=by
 refine bt ["script","pen","turn","stand","wish","other","word","names","weights","low","high","second","made_here","papers","told","k","paper","one","again","handed","due","found"] T.law λ_ _ _ _ _ _ _ _ hr q=>?_;have hu:=hr.units;exact(aq (aH q (av (xj T) hr (ae (rv 0) ai)))
 (aq (bV (cQ rfl T.z_range (ae ah ai)) (aF q) (aq (aH q (av (wF T) hr (ae (av (y_ T) hr (ae (rv 1) ai)) (ae ah (ae (aE (cE (ae ah (ae ah (ae ah ai)))) (az dJ (bE _) (rv 2) ah)) ai)))))
 (aq (aH q (av (tN T) hr (ae (rv 1) (ae (rv 3) (ae ah ai)))))
 (aq (aH q (av (ug T) hr (ae (rv 1) (ae (rv 3) ai))))
 (aq (h9 (rv 4) (lE (bO (aF q) (bO (aF q) (bO (aF q) (bO (aF q) (bO (aF q) gJ)))))))
 (aq (aH q (di (ae (rv 6) (ae (rv 7) (ae (rv 8) (ae (aB (qu rfl) rC T.z_max zv (ae (c_ cH cb ah) (ae (az ft (fu _) (rv 9) ah) ai))) (ae (aB (kE rfl) mN T.z_min rZ (ae ah (ae (az aD aC (rv 10) ah) ai))) ai)))))))
 (aq (aH q (av (ux T) hr (ae (rv 3) (ae (rv 4) ai))))
 (aq (aH q (gO (ae (rv 12) (ae (cE ai) (ae (cE (ae (di (ae ah ai)) ai)) ai)))))
 (aq (h9 (av (wA T) hr (ae (rv 3) (ae (rv 4) ai))) (CC (bO (aF q) (bO (aF q) gJ))))
 (aq (bg (bf (bF hu) bG (rv 6) cB) (au (cz (je (rv 13) (ow (rv 14))))) aT)
 (aq (bV (cQ rfl T.z_range (ae ah ai)) (aF q) (au (cz (je (rv 13) (av (gS T) hr (ae (rv 1) (ae (rv 12) ai)))))))
 (aq (cz (je (rv 13) (av (gS T) hr (ae (rv 1) (ae (aE (rv 13) (c_ cH cb ah)) ai)))))
 (au (bV (bH (rv 13)) (aF q) (au (bV (bH (cE (ae (di (ae (rv 3) (ae (rv 4) ai))) (ae (di (ae (rv 5) (ae (rv 4) ai))) (ae (di (ae (rv 3) (ae (rv 11) ai))) ai))))) (lE (bO (aF q) (bO (aF q) gJ))) (aq (aH q (bP jK pQ T.z_list jk (ae (rv 16) ai)))
 (aq (aH q (av (mi T) hr (ae (rv 17) (ae (rv 18) (ae (rv 16) ai)))))
 (au (bV (bH (cE (ae (av (kZ T) hr (ae (rv 17) (ae (rv 18) (ae (rv 19) ai)))) (ae (av (ud T) hr (ae (rv 17) (ae (rv 18) (ae (rv 19) ai)))) ai)))) (aF q) (au (bg (RW.rt (iE (c5 (c6 (dE T.z_isinstance T.z_bool uU (rv 21)))) (iE (bf (jl hu) i9 (rv 21) (rv 20)) (hU (bf (jl hu) i9 (rv 19) (rv 16)))))) (au (aG dR)) aT))))))))))))))))))))))
 (au (aG dR))))
end
end My
namespace PySem.W.Fast
def tw4888378528349388772:=()
def tw16189939448113489711:=()
def tw10157320003483351196:=()
def tw17088309867896137986:=()
def tw14769623395041950890:=()
def tw13721936153578221211:=()
def tw14124462868822081674:=()
def tw18068722935739475411:=()
def tw15301480446518289842:=()
def tw14020854601319431605:=()
def tw9538814031967713263:=()
def tw2760168838450544302:=()
def tw5999830749716615056:=()
def tw7643931456296624868:=()
def tw7761882016924875786:=()
def tw2723399323272532415:=()
def tw16019493293052674132:=()
def tw1862526170742199644:=()
def tw16221541252999869461:=()
def tw10886686334877624183:=()
def tw8006966456036960809:=()
def tw8345874015372478207:=()
def tw13709511367980258723:=()
def tw16462034240134125170:=()
def tw4831942179595289142:=()
def tw16639963833960257443:=()
def tw3358067470560330755:=()
def tw6853360020414249299:=()
def tw6995579312414935570:=()
def tw8997778793824309749:=()
def tw16431601666885021242:=()
def tw5675326463613758012:=()
def tw12054893369725626780:=()
def tw444750980552381043:=()
def tw16918500991388607218:=()
def tw15049858490063463321:=()
def tw11723213628100448686:=()
def tw9103767122675292311:=()
def tw6517208284400883563:=()
def tw7461259841806317883:=()
def tw1349618468062595247:=()
def tw9361665379657140797:=()
def tw18119111375641211542:=()
def tw11628514246223465917:=()
def tw10353237218172452159:=()
def tw8699334087123244777:=()
def tw12435917329649144730:=()
def tw15017955365983485257:=()
def tw4764918690677499212:=()
def tw12583543240543244269:=()
def tw16078813143904372171:=()
def tw991658526801457999:=()
def tw9574760291684775777:=()
def tw3924672097535616834:=()
def tw3537235223713801767:=()
def tw12595917941910486327:=()
def tw9576284043981800686:=()
def tw8663114354874687800:=()
def tw16123187548959442108:=()
def tw12524066558883044352:=()
def tw13215391938278234146:=()
def tw12049475995113690745:=()
def tw2852545268292056328:=()
def tw5187434422477737732:=()
def tw8946410956135919759:=()
def tw16848894828763255960:=()
def tw466407347613314495:=()
def tw9319937736594269785:=()
def tw10131881524460689741:=()
def tw2572408944542412584:=()
def tw13084940478368943475:=()
def tw17012237651712021360:=()
def tw287338567466955258:=()
def tw16902824432292145494:=()
def tw16234491539277161395:=()
def tw13317469868956739139:=()
def tw6202102945644687771:=()
def tw4915484160883582778:=()
def tw14316180527800375569:=()
def tw11527851667428520228:=()
def tw5536747860892268254:=()
def tw11881245141770141195:=()
def tw9674332092659736738:=()
def tw2519409995398100725:=()
def tw1264618649025193154:=()
def tw8150980840211742901:=()
def tw11086172567116256480:=()
def tw6516616958718356526:=()
def tw12486473565844285410:=()
def tw17687331358903825960:=()
def tw8167088659119074337:=()
def tw17475731350201487518:=()
def tw11497754524905328216:=()
def tw1164384910218717333:=()
def tw7073679047375893010:=()
def tw14038512203580011656:=()
def tw13761738924160745966:=()
def tw16164644453977684234:=()
def tw17802836769123703364:=()
def tw3114376648110824970:=()
def tw12775099832149710912:=()
def tw18102463684159652464:=()
def tw8013625254915186010:=()
def tw812180208715338738:=()
def tw5052233223829139635:=()
def tw13701660562743402941:=()
def tw3571359346218451153:=()
def tw16347177508580965782:=()
def tw18222316955524691700:=()
def tw15378828822593217456:=()
def tw8113588826337069384:=()
def tw7996988036850239797:=()
def tw5666295493988894319:=()
def tw11333998446748908974:=()
def tw11894156928364369997:=()
def tw9727931550205140532:=()
def tw3123706630835504523:=()
def tw7840388959339541010:=()
def tw4941066469167256839:=()
def tw9489844121508151791:=()
def tw1600013970356709567:=()
def tw15073437723471948991:=()
def tw5936193003303334891:=()
def tw15293219469458366132:=()
def tw470760302708825908:=()
def tw8158066900462242907:=()
def tw2846243656550684722:=()
def tw10544459702876094812:=()
def tw6490291051273471894:=()
def tw2250302142915812053:=()
def tw5227106399835807172:=()
def tw12210260558898052863:=()
def tw2861558693499916056:=()
def tw15855405523950455040:=()
def tw13854246634496359091:=()
def tw4651808374781084259:=()
def tw9280333159047433030:=()
def tw6163588069905340079:=()
def tw8647455610357097834:=()
def tw16190901373358366791:=()
def tw8925744142089100692:=()
def tw16077464343777984832:=()
def tw7864051014037860147:=()
def tw13192524902946240448:=()
def tw17852863645894070798:=()
def tw8916665834004236612:=()
def tw14764035183548813203:=()
def tw11463371816910683579:=()
def tw14794915660857301557:=()
def tw766346742344674501:=()
def tw8794426472912877114:=()
def tw13927385537278466871:=()
def tw14968771423664526309:=()
def tw16329703004090495701:=()
def tw3504486143931594238:=()
def tw18050118660848010286:=()
def tw11769144548262117651:=()
def tw8729480924510847160:=()
def tw6872842417595399980:=()
def tw10734102968001269748:=()
def tw4420422118507453338:=()
def tw7569602863604359075:=()
def tw11936359837037951297:=()
def tw8121384061777676410:=()
def tw1387682201011070845:=()
def tw13382528049100398339:=()
def tw830291947165025265:=()
def tw16326216842398335025:=()
def tw2977478206120330544:=()
def tw3159382115341667609:=()
def tw7509630537430008039:=()
def tw16901547169916854221:=()
def tw15619444393819841099:=()
def tw11841764341814335490:=()
def tw7441666782974608899:=()
def tw15346200771851629860:=()
def tw6357882031098578667:=()
def tw1896233064136918658:=()
def tw8271657755812723371:=()
def tw12264388587884537531:=()
def tw7907855805551439922:=()
def tw3691972966017888207:=()
def tw6008019442199150178:=()
def tw3610214931190886874:=()
def tw11327433343541228618:=()
def tw9112835300535384867:=()
def tw14028565372241401897:=()
def tw9588387774763278596:=()
def tw17199239176200506606:=()
def tw15893697000178986676:=()
def tw4660849467571103839:=()
def tw4735791055387309172:=()
def tw17715751620227491298:=()
def tw14740487425097717384:=()
def tw18292063392811800514:=()
def tw13160894091709427938:=()
def tw18440333570788730911:=()
def tw6617701317556741393:=()
def tw338477738877232085:=()
def tw15656230246595543064:=()
def tw5900421668889963950:=()
def tw1270638394000596844:=()
def tw11703054368022108751:=()
def tw10882860971935316185:=()
def tw9682217189708836398:=()
def tw18295188280697039002:=()
def tw16868302435006778640:=()
def tw9607969578340194746:=()
def tw6810317037369382554:=()
def tw3377064468107824300:=()
def tw15030840218437051487:=()
def tw6566488251701124938:=()
def tw14225551434166760629:=()
def tw10338342976487463300:=()
def tw8936955508368797427:=()
def tw394356686940135594:=()
def tw1711377463129216250:=()
def tw11140748189900080967:=()
def tw17398642815117642948:=()
def tw15187198031357790595:=()
def tw709578111924749342:=()
def tw3697279327330675127:=()
def tw16728575571733206409:=()
def tw7035444796600198799:=()
def tw6129526666589178866:=()
def tw15708224628180211216:=()
def tw13202613914530622136:=()
def tw11717690738897473764:=()
def tw15773852793252881097:=()
def tw9666818072576045757:=()
def tw12917001212397964324:=()
def tw11559008831060289140:=()
def tw1009777965992307801:=()
def tw9138350401547411519:=()
def tw7962498081247982577:=()
def tw605594918331654649:=()
def tw14017934176899664771:=()
def tw12564042923229982502:=()
def tw11681844006520451227:=()
def tw7737621128473273956:=()
def tw13525413602095893435:=()
def tw5176627075652965658:=()
def tw18379622450622431044:=()
def tw17722866278858316044:=()
def tw10752228034700633748:=()
def tw4518901454811309843:=()
def tw7662300396995685971:=()
def tw7613039698792103635:=()
def tw16554479598893205850:=()
def tw16162779469202293620:=()
def tw1602798945964193835:=()
def tw14339427466529653405:=()
def tw9721463929987117672:=()
def tw6385193315997793794:=()
def tw5544035149560403876:=()
def tw16215552704492028753:=()
def tw16368213851796785175:=()
def tw15874431596497584591:=()
def tw7355313070417393059:=()
def tw18391071166379544110:=()
def tw17466102781326677618:=()
def tw6078855799574851938:=()
def tw16465404688976886298:=()
def tw5355364061362562147:=()
def tw6107969483573138951:=()
def tw16916311179707687080:=()
def tw7712973815244649640:=()
def tw12063040725730191554:=()
def tw17087755469064342298:=()
def tw13478921116925928760:=()
def tw5637942167846645197:=()
def tw4479919435258309516:=()
def tw14723622525370697780:=()
def tw10372621127373021565:=()
def tw5739426859170934462:=()
def tw17319777777954065440:=()
def tw4318812704706602579:=()
def tw8844998725215913393:=()
def tw3493365269855793981:=()
def tw1886688848162803322:=()
def tw14844092636862796520:=()
def tw10147629317053717347:=()
def tw12865772522018422215:=()
def tw4734892746375539009:=()
def tw11351679052399329563:=()
def tw5965799150078707572:=()
def tw3862870842340934578:=()
def tw12613911603208643309:=()
def tw4331518607322080670:=()
def tw4546748610356543495:=()
def tw11461299248073552636:=()
def tw7544857768242768796:=()
def tw14406773581230275021:=()
def tw9306434633712390895:=()
def tw9999229233677472313:=()
def tw8589591667449454788:=()
def tw939886458833732911:=()
def tw12763317655121057829:=()
def tw2904002167202087110:=()
def tw13677421707074635906:=()
def tw13065913751447747462:=()
def tw5852788828056493339:=()
def tw16342614692247161563:=()
def tw14579415073519367176:=()
def tw12947669656483765465:=()
def tw12880625927613070876:=()
def tw12361766732729221548:=()
def tw11631971734863096164:=()
def tw8541608747420912573:=()
def tw5589707638685665870:=()
def tw17808319661299950533:=()
def tw12795838187587696812:=()
def tw12356249572962580750:=()
def tw15099461124729986965:=()
def tw3231860752677303137:=()
def tw8775201502508906954:=()
def tw5640425784869085313:=()
def tw15451664073099183531:=()
def tw8246113618823547038:=()
def tw5985832452281992974:=()
def tw13988081358183070581:=()
def tw3983521097746479927:=()
def tw18407325852181052067:=()
def tw16505982127634475252:=()
def tw2814146889667072845:=()
def tw15668243123452078999:=()
def tw11989143330945965439:=()
def tw9897197382775503463:=()
def tw9671295954056157670:=()
def tw9571086029255096729:=()
def tw951549982084540147:=()
def tw9475774743961702687:=()
def tw9449157384590528807:=()
def tw9426018581135503406:=()
def tw9294587947904436226:=()
def tw9247655664863205728:=()
def tw912459454176430374:=()
def tw9111223755138992550:=()
def tw9099680553884487592:=()
def tw8547246212994783766:=()
def tw8465296942918572181:=()
def tw8288616696701300650:=()
def tw8238530964143514097:=()
def tw8007427693733470406:=()
def tw7590423370992598497:=()
def tw7346917021528545863:=()
def tw7137702372240798311:=()
def tw7020878714673714709:=()
def tw6945986332370541455:=()
def tw6893689986114538736:=()
def tw6843744200871748285:=()
def tw6756798207430957636:=()
def tw6666748867478241213:=()
def tw6589655429229422405:=()
def tw6335259897061804666:=()
def tw6317023790316272686:=()
def tw631493728093931924:=()
def tw6202752651376068178:=()
def tw5571153269406231519:=()
def tw5470961085622329013:=()
def tw5440191578804720461:=()
def tw5429291036865783761:=()
def tw5062797611720132147:=()
def tw4881507559898682601:=()
def tw4857176028460507306:=()
def tw4722593188435026321:=()
def tw4580317805549763464:=()
def tw4465761983965463337:=()
def tw4439548371740451801:=()
def tw4399203139012565009:=()
def tw3868042409579461538:=()
def tw3663740657702372795:=()
def tw3277256102021218255:=()
def tw2885710045883798703:=()
def tw284857246362113769:=()
def tw2809473551149278785:=()
def tw2381219011691631858:=()
def tw2208513447404984093:=()
def tw2183385436953313081:=()
def tw216606696267242142:=()
def tw2129158375303399452:=()
def tw2122135172173174509:=()
def tw2007830697312802293:=()
def tw196492078745468285:=()
def tw18288981263167995188:=()
def tw18235717556534926527:=()
def tw18165490480306248161:=()
def tw18022527329387576067:=()
def tw17944031702766253850:=()
def tw1793895513165099735:=()
def tw17688130729704430775:=()
def tw17686053457888526482:=()
def tw17655600067463269518:=()
def tw17468033527184068217:=()
def tw17446116221653431391:=()
def tw17287784475589508985:=()
def tw17272111062408555274:=()
def tw17208661529796995931:=()
def tw17003681683065633611:=()
def tw16921230569405494969:=()
def tw16887669079250011359:=()
def tw16837435547963831373:=()
def tw16519314620795018009:=()
def tw16442435583882227791:=()
def tw16380152893175292948:=()
def tw16281703678107232938:=()
def tw15971938643642469295:=()
def tw15847509540253107340:=()
def tw1567222769148541081:=()
def tw15584553412485107551:=()
def tw15524788743177035856:=()
def tw15491623257697751568:=()
def tw14970592361750950542:=()
def tw1477204154937789764:=()
def tw14707846088224568631:=()
def tw14707102311744467048:=()
def tw14682774136865825757:=()
def tw14547560266212557177:=()
def tw14444150768368957261:=()
def tw14304467343655051967:=()
def tw14008589465175941528:=()
def tw14006228427015558155:=()
def tw13716772619683433903:=()
def tw13617149747219200299:=()
def tw13538530595537146953:=()
def tw13507131092622291471:=()
def tw13240822711830428526:=()
def tw13007273889989918949:=()
def tw12964212622803271222:=()
def tw12892837378512063139:=()
def tw12833954002939903322:=()
def tw12518705606548342777:=()
def tw1248650356480107602:=()
def tw12464888290578747393:=()
def tw12315891854796957218:=()
def tw12230479135747482848:=()
def tw12061992066450215500:=()
def tw12037363651726459246:=()
def tw12036169123683336762:=()
def tw12009735856420767464:=()
def tw1191247618416342040:=()
def tw11773945777734336747:=()
def tw11672513382022276732:=()
def tw11340906327269270613:=()
def tw11309734138100043596:=()
def tw11051544960264002374:=()
def tw1078006780843817969:=()
def tw10387386313585017718:=()
def tw10378926036140572667:=()
def tw10265301166252957774:=()
end PySem.W.Fast
namespace My
open PySem L2
noncomputable def vU(K:Iy):Sp:=λvs H Q _=>∃(l:Addr)(ns:List Int),vs=[.ref l]/\SqL K H l (ns.map V.int)/\ns.length<=63/\∀H',Q (.bl true) H'
theorem all_mk{l:PySem.W.OpenLaw}{w:World}{K:Iy}{mg:Str->Option Value}{fa:Addr}(hfa:mg "law"=some (.ref fa))(T:Txt K mg) :
  ∃fd:FuncData,(∀(s:Shared)(v:Value),BindsTo s fd ⟨[v],[]⟩ [("script",v)])/\∀base:Heap,K.In base->base.Ns mainGlobals mg->dG l.prog w K mg base CX0 13 fa fd ["script"] (vU K):=by
 obtain⟨f,fd,m,kp,b,F⟩:=DY (P:=l.prog) (w:=w) T;have e2:f=fa:=(QX (Jj (hfa.symm.trans m))).symm;subst e2;refine⟨fd,λs v=>.of_eq (b [v] rfl),λbase _ _=>(F base).imp λvs H Q E h=>?_⟩;obtain⟨l,ns,rfl,hS,hl,hQ⟩:=h;refine⟨λ_=>l,[],[.sc ns],⟨λn o h=>(by cases h),λn m o o' h=>(by cases h)⟩,.cons ⟨l,rfl,SqL.mono (λb o h=>bM h (by rintro⟨n,o',e,_⟩;cases e)) hS⟩ .nil,?_⟩;rw[zU ns];intro b μ' H' st r;cases r;exact hQ H'
theorem walk{l:PySem.W.OpenLaw}{q:Program}{loose:List Str}{XP:(Str->Option Value)->Heap->Prop}{YP:World->Heap->Prop}{d:DefRec}{K:Params->Iy}(hn:l.most=some 63)(hdf:d.params.defaults=[])
  (hY:∀(w:World)(h:Heap),YP w h->(K w.params).In h)
  (F:∀(w:World)(mg:Str->Option Value)(fa:Addr)(h:Heap),(K w.params).In h->h.Ns mainGlobals mg->mg d.name=some (.ref fa) ->
   ∃fd:FuncData,(∀(s:Shared)(u:Value),BindsTo s fd ⟨[u],[]⟩ [("script",u)])/\∀base:Heap,(K w.params).In base->base.Ns mainGlobals mg->dG l.prog w (K w.params) mg base CX0 13 fa fd ["script"] (vU (K w.params))) :
  QP q loose XP YP l.row.toRowW d [] (λf vs=>Qb f vs):=
 L2.C9 (n:=63) (k:=13) (x:="script") (CX:=λ_=>CX0) (sp:=λw=>vU (K w.params)) hn (by decide) hdf ⟨rfl,by decide,by decide⟩ hY F (λ_ _ a ns hl _ hS=>⟨a,ns,rfl,hS,hl,λ_=>rfl⟩) λ_ _ _ _ _ z=>z
end My
open PySem PySem.W PyProof.Rows
set_option maxRecDepth 100000 in
set_option maxHeartbeats 0 in
theorem PySem.Challenge.cw_wishstrike_k21_which_sums_show_it_holds : PySem.Challenge.rw_wishstrike_k21_which_sums_show_it.Holds := by
  w_on;o_law;k_head;(case hw=>w_witness2)
  k_fill
  refine My.walk (l:=PySem.Challenge.rw_wishstrike_k21_which_sums_show_it) rfl rfl (λw h Y=>PySem.W.kIn_of Y) ?F
  case F=>
    intro w mg fa h KX G hmg
    refine' My.all_mk hmg ?T
    (case T=>constructor<;>first |(refine' PySem.W.mg_none_of KX G ?z;(case z=>k_is)) |(refine' L2.G9 KX G ?a ?l ?c ?k;(case a=>k_is);(case l=>k_is);(case c=>k_is);(case k=>k_is)))
#print axioms PySem.Challenge.cw_wishstrike_k21_which_sums_show_it_holds
