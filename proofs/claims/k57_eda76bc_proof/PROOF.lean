import PyProof.Rows.All
import Wide.All
import OpenK.AllK
import Wide.FinOn
import Lean
import PyProof.EqAt
import PyProof.EqKinds
import PyProof.TupleCall
import PySem.Challenge.RW_wishstrike_k57_texts_judged
abbrev gV:=@decide_eq_false
abbrev NQ:=@decide_eq_true
abbrev NT:=@if_pos
abbrev N1:=@if_neg
abbrev Oc:=@of_decide_eq_true
abbrev OZ:=@congrArg
abbrev O6:=@or_false
abbrev O8:=@beq_eq_false_iff_ne
abbrev O_:=@beq_iff_eq
abbrev PX:=@decide_eq_true_eq
abbrev PZ:=@beq_false_of_ne
abbrev P8:=@decide_eq_decide
abbrev Se:=@if_true
abbrev Sx:=@ne_true_of_eq_false
abbrev SA:=@if_false
open Array renaming length_toList→Om,getElem?_toList→OY,getElem?_eq_getElem→Pk,getElem?_eq_some_iff→Qp,mem_toList_iff→Qs,getD→QS,getD_eq_getD_getElem?→Q9,size_setIfInBounds→Ry,getInternal_eq_getElem→SE,getElem?_setIfInBounds→SF,replicate→T5,filterMap→T6,toList_filterMap→Ub,getElem?_eq_none→Uc,toList→UZ,foldl_toList→U7,forIn_toList→U_,size_append→Vv,mem_filter→VI,size_map→Wj
open Bool renaming and_eq_true→N3,false_ne_true→Od,false_and→OM,eq_iff_iff→OW,and_false→OX,true_and→O1,or_eq_true→Ph,false_eq_true→Rv,not_eq_true→Sa,not_true→Tc,noConfusion→TN,false_or→UN,or_false→WB,and_true→WQ
open Classical renaming byContradiction→Rp
open False renaming elim→Qc
open Iff renaming rfl→Vf
open Int renaming toNat_natCast→OQ,emod_lt_of_pos→P_,emod_nonneg→Qm,eq_ofNat_of_zero_le→RN,le_refl→VC
open Lean renaming mkIdent→Xv
open List renaming length_map→tv,mem_cons→NU,getElem?_eq_getElem→NV,size_toArray→NX,range→NY,getElem?_eq_some_iff→NZ,map_cons→N4,mem_singleton→N6,getD_eq_getElem?_getD→N8,length_cons→N9,replicate→N_,mem_append_right→Oe,mem_map→Of,mem_cons_of_mem→Oh,all_eq_true→Oi,not_mem_nil→Oj,mem_range→Ol,mem_cons_self→Oq,filterMap_cons→Ot,map_map→Ov,getElem?_map→Ow,getElem?_append_left→Oy,mem_append→Oz,getElem?_append_right→OA,lookup_cons→OC,mem_of_getElem?→OE,length_take→OL,length_append→ON,mem_append_left→OR,pairwise_cons→OV,map_nil→O7,getElem?_toArray→Pa,getElem?_eq_none→Pb,all_cons→Pg,zip_cons_cons→Pj,zip_nil_left→Pn,nodup_cons→Pr,getElem?_replicate→Pu,take_of_length_le→Py,getElem_mem→PM,mem_iff_getElem→PV,length_replicate→P9,pairwise_iff_getElem→Qa,length_set→Qe,mem_of_mem_take→Qg,getElem?_set_self→Qi,mem_iff_getElem?→Qj,take_append_drop→Qk,map_append→Ql,append_assoc→Qq,getElem?_set_ne→Qr,mem_of_mem_drop→Qv,nodup_nil→Qz,any_cons→QN,map_take→QO,mem_filterMap→QP,getElem?_take→QU,drop_of_length_le→QY,eq_nil_of_length_eq_zero→QZ,length_range→Q3,take_left→Q7,take_length→Rc,append_nil→Rm,of_mem_zip→Rn,filterMap_map→Ru,all_map→Rw,getElem?_cons_zero→RK,eraseIdx_cons_succ→RL,getElem?_cons_succ→RM,reverse_cons→RP,getElem?_set→RX,nodup_append→RY,length→R0,findIdx?→R5,map_drop→R6,any_eq_true→R9,filterMap_append→Sg,lookup_cons_self→Sh,mem_filter→Si,pairwise_append→Sm,find?_cons→Sr,getElem?_range→Sv,length_reverse→Sw,map_congr_left→Sy,getElem?_drop→SI,find?_eq_none→SO,length_eraseIdx_of_lt→S_,perm_ext_iff_of_nodup→Ta,take_add_one→Tg,mem_of_find?_eq_some→To,drop_eq_getElem_cons→Tq,length_drop→Tu,nodup_range→TC,forIn_cons→T4,length_nil→T7,range_succ_eq_map→T_,length_pos_of_mem→Ud,drop_eq_nil_of_le→Ug,length_singleton→Ul,getElem_toArray→UA,any_map→Vc,any_eq_false→Vi,ext_getElem?→Vr,lookup→VB,zipIdx_cons→VF,any_toArray→VH,cons_ne_nil→VM,getElem_map→VN,map_reverse→VO,zipIdx_nil→VS,range_succ→VT,find?_some→VV,foldl_cons→VX,forIn_nil→Wg
open List.Nodup renaming length_le_of_subset→VU,mem_erase_iff→Xn
open List.Pairwise renaming filter→X9,and→YA,map→YB
open List.Perm renaming append_left→Ur,of_eq→VW
open Nat renaming le_refl→NW,le_trans→N7,ne_of_lt→Og,lt_of_lt_of_le→Oo,zero_le→Pc,lt_irrefl→Pf,le_of_lt→PJ,le_add_right→P7,ne_of_gt→Qd,le_of_eq→Qf,mod_lt→RH,le_succ→R3,min_eq_right→Sd,min_eq_left→Ss,add_left_cancel→Su,lt_of_lt_of_eq→SJ,lt_succ_of_lt→Tf,le_of_not_lt→Tw,lt_of_not_le→TB,zero_add→TK,eq_zero_of_not_pos→Ue,lt_of_succ_lt_succ→Uj,mul_le_mul_right→UB,min_self→U6,sub_self→U8,lt_trichotomy→Vs,strongRecOn→V5,lt_or_ge→Xr,sub_zero→Xu,succ_mul→Xw,not_lt→X8
open Ne renaming symm→PD
open Option renaming map_eq_some_iff→PC,isSome_iff_exists→QB,getD_none→QF,getD_some→QH,bind_eq_some_iff→QK,map_some→QV,bind_some→TL,map→X_
open Option.some renaming inj→Ou
open Prod renaming snd→TF
open Prod.mk renaming inj→QX
open PyProof.Rows renaming callWith_type1→OH,slot_tuple_getitem→Pe,callWith_builtin1→QQ,listItems_at→TJ,subscriptTail_builtinR→T9,Call_→Uw,Subscript_→Uy,entry_tuple_getitem→UP,args_tuple_getitem→U1,tail_any→VE,boot_range→VP,entry_list_sort→V4,slicePart_none→Wf,list_sort_tree→Wo,slot_list_sort→Wq,args_list_sort→Wr,test_link→Wt,tupleItemsOf_→Wz,sortedAll_old→WI,listUpdate_at→WN,slice_from_eq→WR,ite_ff→Xj,ite_tt→Xk
open PyProof.Rows.F renaming plain_set_update_loop→Pw,entry_set_update_loop→QJ
open PyProof.Rows.IsTup renaming new→Wu
open PySem renaming wpAny_bind→ar,wpAny_pure→NP,wpAny_ite_false→N0,wpAny_setState_of→Ox,wpAny_holding→OF,wpAny_field→OS,wpAny_call_entry→O0,wpAny_callSpecial?_slot→O2,wpAny_truthy_bool→O3,wpAny_newObj_type→O4,mem_of_lookup→O9,wpAny_mono→Pm,wpAny_Call_Name_kw→Pt,wpAny_setField_rec→PL,wpAny_seqItems→PQ,wpAny_ite_true→PU,codeAny_builtin→PY,wpAny_typeOf→P0,wpAny_isInstance→P6,intText?→QA,wpAny_getItem_str_slice→QL,wpAny_of_eq→QW,wpAny_setField→Q4,wpAny_isSame_ref_self→Q6,wpAny_askSetting→Rb,wpAny_execs_nil→Rj,wpAny_passesOwn→Rk,wpAny_eqBool_tuple→Rz,typeIs_str→RC,call_meets→RF,wpAny_pyIter_list→RU,sizeLine_eq→RZ,wpAny_Call_method_late→R4,wpAny_pyIter_zip→R_,wpAny_updateSeq_pair→Sk,codeAny_call_builtin→Sn,post_val_or_str→So,wpAny_Constant_int→SH,wpAny_pyIter_tuple→SN,wpAny_onRaise→SX,wpAny_attempt→SY,plainId_quiet→S8,wpAny_rule→Tj,wpAny_letOwnedTupleGo_zip→Tn,wpAny_execs_cons→Tr,codeAny_mono→Ts,noFill_tuple_add→Tt,wpAny_getItem_list_slice→Tv,wpAny_comprehension_free→Tz,wpAny_forIn_list→TH,meets_dict_get_default→Ui,hashByValue_scannable→Um,wpAny_runValue→Up,builtinLookup_eq_fast→Uq,wpAny_eqIsQuiet_tuple→Us,wpAny_Name→Uu,wpAny_loadName_local→Uv,wpAny_call→Ux,wpAny_standAt→UC,seq_tuple_add→UD,evalPart_none→UE,wpAny_newList→UK,concat_meets→U0,seqIndex_neg→U3,wpAny_pyHash_tuple→Va,wpAny_assign_Name→Vg,wpAny_Assign_Name→Vh,wpAny_sequenceKey→Vm,slot_list_getitem→Vn,wpAny_pyIter_enum→Vo,wpAny_pyIter_slot→Vt,wpAny_storeSet_of→Vu,wpAny_Call_method→Vw,seqIndex_of→Vy,wpAny_throw→Vz,wpAny_letGo→VA,display_done_str→VL,call→VR,codeAny_of_tree→VZ,typeLookup_type→V1,wpAny_specialOf→V2,wpAny_Dict_walk→V7,isSubtype_stop→Wh,isSubtype_type→Wl,entryFor_alias→Wm,wpAny_fieldsOf→Wn,putSet_of→Wv,rangeSize_one→Wx,intBits_le_64→Wy,evalPart_some→WA,call_list_seq→WC,wpAny_handled→WG,wpAny_update'→WK,signature?_of→WM,strKind→WO,Within→W7
open PySem.Around renaming under_plainId→Qw
open PySem.Builtin.Frozenset renaming newClass→S9,updateFrom→Wk,isAnySet→WL,sizeOf→Xp,slot0→Xx
open PySem.Builtin.List renaming listTooLong→QG,listExtendWith→Q_,listLengthHint→SR
open PySem.Builtin.Range renaming rangeSize→TR
open PySem.Builtin.Slice renaming slicePlaces→Qt,sliceAdjust→Ro,sliceApplied→SV,slicePartIndex→We,sliceFields→W5
open PySem.Builtin.SmallTypes renaming nextOf→OP,ownedTupleIsFree→PR,ownedTupleHandOut→Rx
open PySem.Builtin.Str renaming occurrences→Xy
open PySem.Builtin.Tuple renaming tupleExact→QE,tupleItemsOf→SW,tupleIsExact→S0,tupleHashOf→W6
open PySem.Calls renaming evalArgs_plain→Px,callWith_builtin→Pz,spliced_cons→PK,Name_function_global→Rf,spliced_nil→Te,call_function_entry→Tp,loadGlobal_global→TQ,call_len_list→UO,Constant_str→UY
open PySem.Challenge renaming rw_wishstrike_k57_texts_judged→QM,pw_wishstrike_k57_texts_judged→T1
open PySem.Code renaming quiet_builtin→SQ
open PySem.Data.seq renaming inj→Xq
open PySem.EntryCells renaming newEntry→UU
open PySem.EqMixed renaming eq_bool_str→WV,eq_str_bool→WW,ne_bool_str→W3,ne_str_bool→W4,eq_int_str→Xa,eq_str_int→Xc,ne_int_str→Xg,ne_str_int→Xi
open PySem.EqNone renaming eq_none_none→WS,eq_none_bool→WT,eq_bool_none→WU,ne_none_none→WY,ne_none_bool→WZ,ne_bool_none→W2,eq_none_int→W8,eq_none_str→W9,eq_int_none→W_,eq_str_none→Xb,ne_none_int→Xd,ne_none_str→Xe,ne_int_none→Xf,ne_str_none→Xh
open PySem.F renaming slot_str_split→OT,type_str_split→OU,slot_str_join→PF,type_str_join→PH,slot_tuple_iterator_next→Qo,called_set→QI,slot_dict_get→Q8,args_tuple_add_2→Rt,entry_tuple_add→RJ,slot_tuple_add→R1,slot_zip_next→Sl,args_tuple_iterator_next_1→SD,entry_tuple_iterator_next→SM,args_str_split_2→SS,typeOf_object_class→SU,excBase_ValueError→Tb,entry_str_split→Ti,slot_str_split→TM,plainAttrs_list→TU,plainAttrs_dict→TV,args_dict_get_3→TX,slot_list_index→TY,entry_dict_get→Uh,type_dict_get→Ut,args_list_extend_2→Uz,entry_list_extend→UR,slot_list_extend→U5,args_zip_next_1→Vq,entry_zip_next→VG,plain_set_new→V0,slot_set_iter→V3
open PySem.Heap renaming get?_push_of_some→NR,lt_size→N2,get?_push_size→N5,SameBut→OD,get?_update_self→Pp,get?_update_other→P4,size_push→Qy,ExtBut→Ua
open PySem.Heap.DictOf renaming new→V8
open PySem.Heap.IsSliceOf renaming new→U2
open PySem.Heap.SameBut renaming update→Pl,refl→Yz
open PySem.IsRange renaming new→Xz
open PySem.Manifest renaming sig_set_iterator→Rq,signature?→UT
open PySem.Obj renaming mapSeq→Qu,data_mapFields→QR,putSet→QT,mapFields→R8,isFreed_of_fields→Sf,cls_mapFields→Vp
open PySem.Paired renaming length→Ww
open PySem.SeqAt renaming EqAt→RD,notIn_tupleAt→UQ,notIn_listAt→U4,in_listAt→VQ,list_indexAt→Xt
open PySem.SeqAt.EqAt renaming of_in1→RQ,of_refs→SK,same→T3,int_str→UW,str_int→UX,none_tuple→XC,bool_tuple→XD,tuple_list→XH,tuple_none→XJ,tuple_bool→XM,list_tuple→XN,none_bool→XR,bool_none→XU,bool_bool→XW,none_list→XY,bool_list→XZ,int_tuple→X1,str_tuple→X2,tuple_int→X3,tuple_str→X4,list_none→X5,list_bool→X6,none_int→Yc,none_str→Yd,bool_int→Ye,bool_str→Yf,int_none→Yg,int_bool→Yh,str_none→Yi,str_bool→Yj,int_list→Yk,str_list→Yl,list_int→Ym,list_str→Yn,int_int→Yt,str_str→Yu
open PySem.SeqAt.RcAt renaming lists_lengths→Xl,tuple_str→Ya,none_str→Yp,bool_str→Yq,list_str→Yr,int_str→Yw,str_str→Yx,tuples→Yy,lists→YC
open PySem.SeqAt.RcNeAt renaming lists_lengths→WH,tuples→Yo,lists→Yv
open PySem.SetTable renaming bits→Oa,turns→OB,runEnd→OI,leap→OK,sizeAbove→OO,insertAt→Pd,below→PB,grown→Q5,advance→Ra,sameMemory→Rh,layClean→RV,tooFull→Sb,fill→S7,fresh→Uo,slot→UG,fits→UH,probeStart→US,gaveWay→VJ,relaid→VY,laid→WJ,has→Xm,put→Xo
open PySem.SetTable.below renaming go→Th
open PySem.SetTable.layClean renaming free→OJ
open PySem.SetTable.probe renaming go→OG
open PySem.Shared renaming TypeIs→UI,heap→XB
open PySem.Spec renaming countIn→Xs
open PySem.Str renaming length_append→O5,ofString→Po,join→Qh,cps_append→Ws,empty→Ys
open PySem.StrLaws renaming glued_eq_join→Qn,partsBetween_eq→TZ,join_split→Ve,partsFrom→Vx,seqIndex_nonneg→Wa
open PySem.Value renaming isInt→PN,isStrOf→P5,isInt_shape→Q0,scannable→V6
open PySem.Value.ref renaming inj→R7
open PySem.W renaming Frag→NO,kia_one→Pq,hideAll→Qb,keepIn→Qx,fnOf→QC,hideAll_get→Rg,hideAll_none→Sj,codeIn→Sz,of_hideAll→SG,methodObj→Td,instObj→T2,cellsFrom_some→T8,lookIn→Uk,mg_of→UL,excIn→UM,nsIn→Vb,looks_findIn→Vd,kitx_list→Vj,kitx_dict→Vk,plainGet→VD,KeysLit→V9,mapOf_K→V_,findIn→Wb,kitOne→Wc,WalkO→WD
open PySem.W.KF renaming slot_gs→Yb
open PySem.W.KIN renaming call_text→XQ
open PySem.W.Looks renaming ld→YD
open PySem.W.WShape renaming has→XX
open PySem.Walks renaming list→X7
open PySem.pickOrder renaming go→U9
open String renaming ofList→UJ
set_option Elab.async false
set_option compiler.extract_closed false
set_option linter.all false
set_option maxRecDepth 100000
local macro_rules | `(⋯) => `(by omega)
namespace L2
open PySem PySem.Spec PyProof.Rows
abbrev Key:=Sum Int Str
def FE:Key->Value->Bool
 | .inl k,v=>PN k v
 | .inr x,v=>P5 x v
def Nn(w:World):Key->Int
 | .inl k=>hashInt k
 | .inr x=>hashStr w x
theorem dk:∀{k:Key}{v:Value},FE k v=true->(∃i t,k=Sum.inl i/\v=Value.int i t)\/(∃x t,k=Sum.inr x/\v=Value.str x t)
 | .inl i,v,h=>by
  obtain⟨t,e⟩:=Q0 (k:=i) (v:=v) h;exact .inl ⟨i,t,rfl,e⟩
 | .inr x,v,h=>by
  obtain⟨t,e⟩:=Value.isStrOf_shape (x:=x) (v:=v) h;exact .inr ⟨x,t,rfl,e⟩
theorem Ib(a b:Int):decide ((Sum.inl a:Key)=Sum.inl b)=(a==b):=by
 by_cases e:a=b
 ·subst e;simp
 ·have h:¬(Sum.inl a:Key)=Sum.inl b:=λq=>e (Sum.inl.inj q);rw[gV h];exact(O8.mpr e).symm
theorem Iw(a b:Str):decide ((Sum.inr a:Key)=Sum.inr b)=decide (a=b):=by
 by_cases e:a=b
 ·subst e;simp
 ·have h:¬(Sum.inr a:Key)=Sum.inr b:=λq=>e (Sum.inr.inj q);rw[gV h,gV e]
theorem HM(a:Int)(b:Str):decide ((Sum.inl a:Key)=Sum.inr b)=false:=gV (λq=>nomatch q)
theorem HP(a:Str)(b:Int):decide ((Sum.inr a:Key)=Sum.inl b)=false:=gV (λq=>nomatch q)
def tw(prog:Program)(w:World):PySem.KeyKind prog w Key where
 is:=FE
 hash:=Nn w
 inj:=λv a b ha hb=>by
  rcases dk ha with⟨i,t,rfl,rfl⟩ |⟨x,t,rfl,rfl⟩
  ·rcases dk hb with⟨j,u,rfl,e⟩ |⟨y,u,rfl,e⟩
   ·injection e with e1 _;rw[e1]
   ·exact nomatch e
  ·rcases dk hb with⟨j,u,rfl,e⟩ |⟨y,u,rfl,e⟩
   ·exact nomatch e
   ·injection e with e1 _;rw[e1]
 byValue:=λk v h=>by
  rcases dk h with⟨i,t,rfl,rfl⟩ |⟨x,t,rfl,rfl⟩<;>rfl
 pyHash:=λhv h=>by
  rcases dk hv with⟨i,t,rfl,rfl⟩ |⟨x,t,rfl,rfl⟩
  ·exact wpAny_pyHash_int h
  ·exact wpAny_pyHash_str h
 eqBool:=λhu hv h=>by
  rcases dk hu with⟨i,t,rfl,rfl⟩ |⟨x,t,rfl,rfl⟩
  ·rcases dk hv with⟨j,u,rfl,rfl⟩ |⟨y,u,rfl,rfl⟩
   ·rw[Ib]at h;exact wpAny_eqBool_int h
   ·rw[HM]at h;exact UW i t y u _ _ _ _ h
  ·rcases dk hv with⟨j,u,rfl,rfl⟩ |⟨y,u,rfl,rfl⟩
   ·rw[HP]at h;exact UX x t j u _ _ _ _ h
   ·rw[Iw]at h;exact wpAny_eqBool_str h
 «strs»:=λk x t v h=>by
  rcases dk h with⟨i,u,rfl,e⟩ |⟨y,u,rfl,e⟩
  ·exact nomatch e
  ·injection e with e1 _;subst e1;cases v<;>rfl
inductive V where
 |non |bl (b:Bool) |int (i:Int) |str (x:Str) |byt (b:Array UInt8) |flt (b:UInt64) |ref (a:Addr) |ty (n:String)
 deriving DecidableEq
def RelV:V->Value->Prop
 | .non,u=>u=Value.none
 | .bl b,u=>u=Value.bool b
 | .int i,u=>∃t,u=Value.int i t
 | .str x,u=>∃t,u=Value.str x t
 | .byt b,u=>∃t,u=Value.bytes b t
 | .flt b,u=>∃t,u=Value.float b t
 | .ref a,u=>u=Value.ref a
 | .ty n,u=>u=Value.type n
abbrev Vals:List V->List Value->Prop:=Paired RelV
theorem Vals.length{xs:List V}{us:List Value}(r:Vals xs us):xs.length=us.length:=Ww r
theorem Vals.get:∀{xs:List V}{us:List Value}{i:Nat}{x:V},Vals xs us->xs[i]?=some x->∃u,us[i]?=some u/\RelV x u
 |_,_,_,_,.nil,e=>by simp at e
 |_,_,0,_,.cons r _,e=>by simp at e;subst e;exact⟨_,rfl,r⟩
 |_,_,i+1,x,.cons _ t,e=>by
  obtain⟨u,h1,h2⟩:=Vals.get (i:=i) (x:=x) t (by simpa using e);exact⟨u,by simpa using h1,h2⟩
theorem Vals.set{x:V}{u:Value}(r:RelV x u):∀{xs:List V}{us:List Value}(i:Nat),Vals xs us->Vals (xs.set i x) (us.set i u)
 |_,_,_,.nil=>.nil
 |_,_,0,.cons _ t=>.cons r t
 |_,_,i+1,.cons q t=>.cons q (Vals.set r i t)
theorem Vals.append:∀{xs ys:List V}{us ws:List Value},Vals xs us->Vals ys ws->Vals (xs++ys) (us++ws)
 |_,_,_,_,.nil,s=>s
 |_,_,_,_,.cons r t,s=>.cons r (Vals.append t s)
theorem Vals.take:∀{xs:List V}{us:List Value}(n:Nat),Vals xs us->Vals (xs.take n) (us.take n)
 |_,_,0,_=>.nil
 |_,_,_+1,.nil=>.nil
 |_,_,n+1,.cons r t=>.cons r (Vals.take n t)
theorem Vals.drop:∀{xs:List V}{us:List Value}(n:Nat),Vals xs us->Vals (xs.drop n) (us.drop n)
 |_,_,0,r=>r
 |_,_,_+1,.nil=>.nil
 |_,_,n+1,.cons _ t=>Vals.drop n t
def D5:Option V->Option Value->Prop
 |some v,some u=>RelV v u
 |none,none=>True
 |_,_=>False
def KV{z:Type}:List (z×V)->List (z×Value)->Prop:=Paired λ(p:z×V)(q:z×Value)=>p.1=q.1/\RelV p.2 q.2
def kV:Key->V
 | .inl i=>.int i
 | .inr x=>.str x
inductive HO where
 |lst (xs:List V)
 |tup (xs:List V)
 |dK (kvs:List (Key×V)) |dT (kvs:List (List Key×V))
 |set (S:Int->Bool) (n:Nat)
 |ins (C dx:Addr) (fs:List (Str×V))
 |own (x:Addr)
 |xd (fs:List (Str×V))
 |met (f x:Addr)
 |rng (lo hi:Int)
 |frz (o:Obj) (u:HO)
 |tbl (ps:Array Value)
 |ext (φ:Heap->Prop)
abbrev Hp:=Addr->Option HO
def upd(H:Hp)(a:Addr)(o:HO):Hp:=λb=>if b=a then some o else H b
theorem cV{H:Hp}{a:Addr}{o:HO}:upd H a o a=some o:=by unfold upd;rw[NT rfl]
theorem bf{H:Hp}{a b:Addr}{o:HO}(h:b≠a):upd H a o b=H b:=by unfold upd;rw[N1 h]
theorem bJ{H:Hp}{a b:Addr}{o:HO}(h:H a=some o)(h':H b=none):a≠b:=by
 intro e;subst e;rw[h]at h';cases h'
section
variable(P:Program)(w:World)
def cR(H:Hp)(h:Heap)(a:Addr):HO->Prop
 | .lst xs=>xs.length<=sizeLine/\∃(its:List Value)(n:Nat),Vals xs its/\h.get? a=some { cls:=.type "list",data:=.seq its.toArray n }
 | .tup xs=>xs.length<=sizeLine/\∃its:List Value,Vals xs its/\IsTup h a its.toArray
 | .dK kvs=>kvs.length<=sizeLine/\(a==sysModules)=false/\∃vs,KV kvs vs/\h.DictOf (tw P w) a vs
 | .dT kvs=>kvs.length<=sizeLine/\(a==sysModules)=false/\∃xs:List (List Key×Addr×Value),
   Paired (λ(p:List Key×V)(q:List Key×Addr×Value)=>p.1=q.1/\H q.2.1=some (.tup (p.1.map kV))/\RelV p.2 q.2.2) kvs xs /\
   ∃o es ep,h.get? a=some o/\o.ExactDict/\o.data=.dict es ep/\es.toList=xs.map (entryOfKey (tupleKind (tw P w)))/\(xs.map (·.1)).Nodup
 | .set S n=>h.SetOf (intKind P w) a S n
 | .ins C dx fs=>H dx=some (.own a)/\fs.length<=1000/\dx≠a/\h.get? a=some (T2 C dx) /\
   ∃mA,h.Ns1 dx mA/\(∀f,D5 (fs.lookup f) (mA f))/\W7 mA (fs.map (·.1))
 | .own _=>∃o,h.get? a=some o
 | .xd fs=>∃mA,h.Ns1 a mA/\∀f,D5 (fs.lookup f) (mA f)
 | .rng lo hi=>∃t u v,h.get? a=some { cls:=.type "range",data:=.fields #[.int lo t,.int hi u,.int 1 v] }
 | .frz o u=>h.get? a=some o/\cR H h a u
 | .tbl ps=>h.get? a=some { cls:=.none,data:=.fields ps }
 | .met f x=>h.get? a=some (Td (.ref f) (.ref x))
 | .ext φ=>φ h/\(∃o,h.get? a=some o)/\∀h1 h2:Heap,φ h1->(∀o,h1.get? a=some o->h2.get? a=some o)->φ h2
def HOk(H:Hp)(h:Heap):Prop:=∀a o,H a=some o->cR P w H h a o
end
section
variable{P:Program}{w:World}{H H':Hp}{h h':Heap}{a:Addr}{o:HO}
theorem cR.lt(x:cR P w H h a o):a<h.objs.size:=by
 cases o with
 |lst xs=>obtain⟨_,_,_,_,e⟩:=x;exact N2 e
 |tup xs=>obtain⟨_,_,_,p⟩:=x;exact p.lt
 |dK kvs=>obtain⟨_,_,_,_,o,_,_,e,_⟩:=x;exact N2 e
 |dT kvs=>obtain⟨_,_,_,_,o,_,_,e,_⟩:=x;exact N2 e
 |set S n=>obtain⟨o,_,_,_,e,_⟩:=x;exact N2 e
 |ins C dx fs=>obtain⟨_,_,_,e,_⟩:=x;exact N2 e
 |own y=>obtain⟨_,e⟩:=x;exact N2 e
 |xd fs=>obtain⟨_,⟨_,_,_,e,_⟩,_⟩:=x;exact N2 e
 |rng lo hi=>obtain⟨_,_,_,e⟩:=x;exact N2 e
 |frz ob u=>obtain⟨e,_⟩:=x;exact N2 e
 |tbl ps=>exact N2 (show h.get? a=some _ from x)
 |met f y=>exact N2 (show h.get? a=some _ from x)
 |ext φ=>obtain⟨_,⟨_,e⟩,_⟩:=x;exact N2 e
theorem Paired.KD{α m:Type}{F G:α->m->Prop}:∀{l₁:List α}{l₂:List m},Paired F l₁ l₂->(∀a b,F a b->G a b)->Paired G l₁ l₂
 |_,_,.nil,_=>.nil
 |_,_,.cons r t,f=>.cons (f _ _ r) (Paired.KD t f)
theorem cR.ma(x:cR P w H h a o)(k:∀b u,(b=a\/H b=some (.own a))->h.get? b=some u->h'.get? b=some u)
  (ho:∀b,H b=some (.own a)->H' b=some (.own a)) (ht:∀b xs,H b=some (.tup xs)->H' b=some (.tup xs)):cR P w H' h' a o:=by
 induction o with
 |lst xs=>obtain⟨z,its,n,r,e⟩:=x;exact⟨z,its,n,r,k _ _ (.inl rfl) e⟩
 |tup xs=>obtain⟨z,its,r,ob,e,c⟩:=x;exact⟨z,its,r,ob,k _ _ (.inl rfl) e,c⟩
 |dK kvs=>obtain⟨z,y,vs,r,ob,es,ep,e,c⟩:=x;exact⟨z,y,vs,r,ob,es,ep,k _ _ (.inl rfl) e,c⟩
 |dT kvs=>
  obtain⟨z,y,xs,r,ob,es,ep,e,c⟩:=x;exact⟨z,y,xs,Paired.KD r λp q z=>⟨z.1,ht _ _ z.2.1,z.2.2⟩,ob,es,ep,k _ _ (.inl rfl) e,c⟩
 |set S n=>obtain⟨ob,es,ep,t,e,c⟩:=x;exact⟨ob,es,ep,t,k _ _ (.inl rfl) e,c⟩
 |ins C dx fs=>
  obtain⟨d,z,ne,e,mA,⟨od,es,ep,e2,c⟩,r⟩:=x;exact⟨ho _ d,z,ne,k _ _ (.inl rfl) e,mA,⟨od,es,ep,k _ _ (.inr d) e2,c⟩,r⟩
 |own y=>obtain⟨ob,e⟩:=x;exact⟨ob,k _ _ (.inl rfl) e⟩
 |xd fs=>obtain⟨mA,⟨od,es,ep,e,c⟩,r⟩:=x;exact⟨mA,⟨od,es,ep,k _ _ (.inl rfl) e,c⟩,r⟩
 |rng lo hi=>obtain⟨t,u,v,e⟩:=x;exact⟨t,u,v,k _ _ (.inl rfl) e⟩
 |frz ob u ih=>obtain⟨e,q⟩:=x;exact⟨k _ _ (.inl rfl) e,ih q⟩
 |tbl ps=>
  have e:h.get? a=some { cls:=.none,data:=.fields ps }:=x;show h'.get? a=some { cls:=.none,data:=.fields ps };exact k a _ (.inl rfl) e
 |met f y=>
  have e:h.get? a=some (Td (.ref f) (.ref y)):=x;show h'.get? a=some (Td (.ref f) (.ref y));exact k a _ (.inl rfl) e
 |ext φ=>obtain⟨p,⟨o,e⟩,st⟩:=x;exact⟨st _ _ p λo q=>k _ _ (.inl rfl) q,⟨o,k _ _ (.inl rfl) e⟩,st⟩
theorem HOk.lt(x:HOk P w H h)(e:H a=some o):a<h.objs.size:=(x a o e).lt
theorem HOk.fresh(x:HOk P w H h)(e:h.objs.size<=a):H a=none:=by
 cases q:H a with
 |none=>rfl
 |some u=>exact absurd (Oo (x.lt q) e) (Pf _)
theorem HOk.kept(x:HOk P w H h)(k:∀b u,h.get? b=some u->h'.get? b=some u):HOk P w H h':=λa o e=>
 (x a o e).ma (λb u _ q=>k b u q) (λ_ q=>q) λ_ _ q=>q
theorem HOk.laid(x:HOk P w H h)(k:∀b u,h.get? b=some u->h'.get? b=some u)(hp:h.objs.size<=a)(new:cR P w (upd H a o) h' a o):HOk P w (upd H a o) h':=λb u e=>by
 have hn:=x.fresh hp;by_cases hb:b=a
 ·subst hb;rw[cV]at e;cases e;exact new
 ·rw[bf hb]at e;exact(x b u e).ma (λc v _ q=>k c v q) (λc q=>by rw[bf (bJ q hn)];exact q) λc xs q=>by rw[bf (bJ q hn)];exact q
end
def Rd(H:Hp)(a:Addr)(u:HO):Prop:=H a=some u\/∃o,H a=some (.frz o u)
theorem Rd.ok{P:Program}{w:World}{H:Hp}{h:Heap}{a:Addr}{u:HO}(r:Rd H a u)(x:HOk P w H h):cR P w H h a u:=by
 rcases r with r |⟨o,r⟩
 ·exact x a u r
 ·obtain⟨_,q⟩:=x a _ r;exact q
def Mut:Option HO->Prop
 |some (.lst _)=>True
 |some (.dK _)=>True
 |some (.dT _)=>True
 |some (.set _ _)=>True
 |some (.ins _ _ _)=>True
 |some (.ext _)=>True
 |_=>False
section
variable{P:Program}{w:World}{H:Hp}{h h':Heap}{x e:Addr}{o':HO}
theorem HOk.write(ok:HOk P w H h)(mu:Mut (H x))(he:e=x\/H e=some (.own x))(k:∀b u,b≠e->h.get? b=some u->h'.get? b=some u)(heo:∃u,h'.get? e=some u)
  (new:cR P w (upd H x o') h' x o'):HOk P w (upd H x o') h':=λb u q=>by
 have nown:∀c y,H c=some (.own y)->c≠x:=λc y r z=>by subst z;rw[r]at mu;exact mu
 have ntup:∀c xs,H c=some (.tup xs)->c≠x:=λc xs r z=>by subst z;rw[r]at mu;exact mu
 by_cases hb:b=x
 ·subst hb;rw[cV]at q;cases q;exact new
 ·rw[bf hb]at q;by_cases hbe:b=e
  ·have q':H b=some (.own x):=by
    rcases he with z |z
    ·exact absurd (hbe.trans z) hb
    ·rw[hbe];exact z
   rw[q]at q';cases q';obtain⟨v,hv⟩:=heo;exact⟨v,by rw[hbe];exact hv⟩
  ·refine(ok b u q).ma (λc v hc r=>k c v ?_ r) (λc r=>by rw[bf (nown c b r)];exact r) λc xs r=>by rw[bf (ntup c xs r)];exact r
   rcases hc with rfl |hc
   ·exact hbe
   ·rintro rfl;rcases he with z |z
    ·exact nown c b hc z
    ·rw[hc]at z;cases z;exact hb rfl
end
structure Un(fs ex:List Addr)(H H':Hp)(h h':Heap):Prop where
 keep:∀b o,h.get? b=some o->H b=none->b∉fs->b∉ex->h'.get? b=some o
 slot:∀b o,h.get? b=some o->H b=none->b∈fs->b∉ex->∃sl,h'.get? b=some { o with slots:=sl }
 free:∀b o,h.get? b=some o->H b=none->b∉ex->H' b=none
 there:∀b o,h.get? b=some o->b∉ex->∃o',h'.get? b=some o'
 tups:∀b xs,H b=some (.tup xs)->H' b=some (.tup xs)
 frzs:∀b o u,H b=some (.frz o u)->H' b=some (.frz o u)
 tbls:∀b ps,H b=some (.tbl ps)->∃more,H' b=some (.tbl (ps++more))
section
variable{fs fs' ex ex':List Addr}{H H1 H2:Hp}{h h1 h2 h':Heap}{a x e:Addr}{o:HO}
theorem Un.any(u:Un fs ex H H1 h h1){b:Addr}{ob:Obj}(q:h.get? b=some ob)(n:H b=none)(hx:b∉ex):∃sl,h1.get? b=some { ob with slots:=sl }:=by
 by_cases hb:b∈fs
 ·exact u.slot b ob q n hb hx
 ·exact⟨ob.slots,u.keep b ob q n hb hx⟩
theorem Un.kept(k:∀b u,h.get? b=some u->h'.get? b=some u):Un fs ex H H h h':=
 ⟨λb ob q _ _ _=>k b ob q,λb ob q _ _ _=>⟨ob.slots,k b ob q⟩,λ_ _ _ n _=>n,λb ob q _=>⟨ob,k b ob q⟩,λ_ _ q=>q,λ_ _ _ q=>q,λ_ ps q=>⟨#[],by rw[q];simp⟩⟩
theorem Un.refl:Un fs ex H H h h:=Un.kept λ_ _ q=>q
theorem Un.laid(k:∀b u,h.get? b=some u->h'.get? b=some u)(hp:h.objs.size<=a)(hn:H a=none):Un fs ex H (upd H a o) h h' where
 keep:=λb u q _ _ _=>k b u q
 slot:=λb u q _ _ _=>⟨u.slots,k b u q⟩
 free:=λb u q n _=>by rw[bf (Og (Oo (N2 q) hp))];exact n
 there:=λb u q _=>⟨u,k b u q⟩
 tups:=λb xs q=>by rw[bf (bJ q hn)];exact q
 frzs:=λb u xs q=>by rw[bf (bJ q hn)];exact q
 tbls:=λb ps q=>⟨#[],by rw[bf (bJ q hn),q];simp⟩
theorem Un.write(mu:Mut (H x))(he:e=x\/H e=some (.own x))(k:∀b u,b≠e->h.get? b=some u->h'.get? b=some u)(heo:∃u,h'.get? e=some u):Un fs ex H (upd H x o) h h':=by
 have hx:∀b,H b=none->b≠x:=λb n z=>by subst z;rw[n]at mu;exact mu
 have hb:∀b,H b=none->b≠e:=λb n z=>by
  subst z;rcases he with r |r
  ·exact hx b n r
  ·rw[n]at r;cases r
 have hm:∀b u,H b=some u->¬Mut (some u)->b≠x:=λb u q nm z=>by subst z;rw[q]at mu;exact nm mu
 refine⟨λb u q n _ _=>k b u (hb b n) q,λb u q n _ _=>⟨u.slots,k b u (hb b n) q⟩,λb u q n _=>by rw[bf (hx b n)];exact n,λb u q _=>?_,
  λb xs q=>by rw[bf (hm b _ q λz=>z)];exact q,λb u xs q=>by rw[bf (hm b _ q λz=>z)];exact q,λb ps q=>⟨#[],by rw[bf (hm b _ q λz=>z),q];simp⟩⟩
 by_cases hbe:b=e
 ·subst hbe;exact heo
 ·exact⟨u,k b u hbe q⟩
end
def trk(h:Heap)(H:Hp):List Addr:=(NY h.objs.size).filter λa=>(H a).isSome
def nF(h:Heap)(H:Hp):Heap:=Qb h (trk h H)
theorem Bc(h:Heap)(H:Hp):(nF h H).objs.size=h.objs.size:=PySem.W.hideAll_size _ _
theorem Dz{h:Heap}{H:Hp}{b:Addr}{o:Obj}(e:h.get? b=some o)(n:H b=none):(nF h H).get? b=some o:=
 Rg _ e λhm=>by
  have q:(H b).isSome=true:=(Si.mp hm).2;rw[n]at q;simp at q
theorem Gw{h:Heap}{H:Hp}{b:Addr}{o:Obj}(e:(nF h H).get? b=some o):h.get? b=some o/\H b=none:=by
 have e':h.get? b=some o:=SG (trk h H) e;refine⟨e',?_⟩;cases q:H b with
 |none=>rfl
 |some x=>
  have hm:b∈trk h H:=Si.mpr ⟨Ol.mpr (N2 e'),by simp[q]⟩;have z:(nF h H).get? b=none:=Sj (trk h H) hm;rw[z]at e;cases e
def Hi(g h:Heap)(L:Addr):List (Addr×Obj):=(NY h.objs.size).filterMap λa=>if a=L\/(g.get? a).isSome=true then none else(h.get? a).map λo=>(a,o)
def rest(g h:Heap)(L d:Addr):List (Addr×Obj):=(Hi g h L).filter λp=>decide (p.1≠d)
structure Mod(K:NO)(mg:Str->Option Value)(base:Heap):Prop where
 kin:K.In base
 glob:base.Ns mainGlobals mg
 blt:∃mb,base.Ns builtinsNs mb/\∀x:Str,x≠"__name__"->mb x=bootBuiltins x
 nolimit:base.NoLimit
structure Cx where
 prog:Program
 w:World
 K:NO
 mg:Str->Option Value
 base:Heap
 A:Around
 N:List Str
 s₀:Shared
 H₀:Hp
 env:Env
 outer:List Env
 stack:List Env
 ex:List Addr
 fn:Str->Bool
 calm:Bool
 pn:List (Addr×Obj)
 xe:Value->Shared->Prop
def frs(l:List Env):List Addr:=l.filterMap (·.frame)
abbrev Cx.fs(X:Cx):List Addr:=frs X.outer
def Vis(sc:Scope)(x:Str):Prop:=sc.names.lookup x=some .local\/sc.names.lookup x=some .cell\/sc.names.lookup x=some .free
def Loc(sc:Scope)(x:Str):Prop:=sc.names.lookup x=some .local\/sc.names.lookup x=some .cell
def Look(env:Env)(h:Heap)(m:Str->Option Value)(x:Str)(u:Value):Prop:=
 (env.kindOf x=some .local/\m x=some u)\/((env.kindOf x=some .cell\/env.kindOf x=some .free)/\∃c,env.cells.lookup x=some c/\h.IsCell c (some u))
structure Cx.Ok(X:Cx):Prop where
 mod:Mod X.K X.mg X.base
 kind:X.env.scope.kind=.function
 glob:X.env.globals=mainGlobals
 blt:X.env.builtins=builtinsNs
 above:X.s₀.heap.objs.size<=X.env.locals
 inj:∀x y c,X.env.cells.lookup x=some c->X.env.cells.lookup y=some c->x=y
 has:∀x,(X.env.kindOf x=some .cell\/X.env.kindOf x=some .free)->∃c,X.env.cells.lookup x=some c
 cab:∀x c,X.fn x=true->X.env.cells.lookup x=some c->X.s₀.heap.objs.size<=c
 hd:X.calm=true->X.A.handled=none
 frames:X.A.frames=some X.stack
 stk:X.stack=X.outer\/(X.stack=X.env::X.outer/\X.env.frame=some X.env.locals)
 exf:∀b∈X.ex,b≠X.env.locals/\∀x c,X.env.cells.lookup x=some c->c≠b
 bs:∀b o,X.base.get? b=some o->X.s₀.heap.get? b=some o/\X.H₀ b=none
 bsz:X.base.objs.size<=X.s₀.heap.objs.size
 noex:∀b o,X.base.get? b=some o->b∉X.ex
 exfs:∀b∈X.ex,b∉X.fs
 iK:X.s₀.heap.FunFrames X.base X.outer
 frf:∀b∈X.fs,X.H₀ b=none
structure Inv(X:Cx)(pins:List (Addr×Obj))(σ:List (Option V))(H:Hp)(s:Shared):Prop where
 ok:X.Ok
 os:s.os=X.s₀.os
 bare:AllBare s.gens
 base:Un X.fs X.ex X.H₀ H X.s₀.heap s.heap
 loc:∃m,s.heap.Ns X.env.locals m/\∀(i:Nat)(x:Str)(v:V),X.N[i]?=some x->σ[i]?=some (some v)->Vis X.env.scope x->∃u,RelV v u/\Look X.env s.heap m x u
 cell:∀x c,X.env.cells.lookup x=some c->∃v,s.heap.IsCell c v
 free:H X.env.locals=none
 freeC:∀x c,X.env.cells.lookup x=some c->H c=none
 pin:∀p∈X.pn++pins,s.heap.get? p.1=some p.2/\H p.1=none/\p.1≠X.env.locals/\p.1∉X.fs/\∀v,p.2.data≠.cell v
 hok:HOk X.prog X.w H s.heap
 len:σ.length=X.N.length
section
variable{X:Cx}{pins:List (Addr×Obj)}{σ:List (Option V)}{H H':Hp}{s:Shared}{h':Heap}
theorem Cx.Ok.Ny(ok:X.Ok){b:Addr}{o:Obj}(e:X.base.get? b=some o):b∉X.fs:=λhb=>by
 have:=(ok.iK.mem hb).1;rw[e]at this;cases this
theorem Inv.bs(I:Inv X pins σ H s):∀b o,X.base.get? b=some o->s.heap.get? b=some o/\H b=none:=λb o e=>
 ⟨I.base.keep b o (I.ok.bs b o e).1 (I.ok.bs b o e).2 (I.ok.Ny e) (I.ok.noex b o e),I.base.free b o (I.ok.bs b o e).1 (I.ok.bs b o e).2 (I.ok.noex b o e)⟩
theorem Inv.bk(I:Inv X pins σ H s):∀b o,X.base.get? b=some o->s.heap.get? b=some o:=λb o e=>(I.bs b o e).1
theorem Inv.mod(I:Inv X pins σ H s):Mod X.K X.mg X.base:=I.ok.mod
theorem Inv.kIn(I:Inv X pins σ H s):X.K.In s.heap:=I.ok.mod.kin.keeps I.bk
theorem Inv.lt(I:Inv X pins σ H s):X.env.locals<s.heap.objs.size:=let⟨_,hn,_⟩:=I.loc;hn.lt
theorem Inv.sz(I:Inv X pins σ H s):X.s₀.heap.objs.size<=s.heap.objs.size:=N7 I.ok.above (PJ I.lt)
theorem Inv.Dp(I:Inv X pins σ H s){a:Addr}(h:s.heap.objs.size<=a):a∉X.fs:=λhb=>by
 obtain⟨_,o,ho,_⟩:=I.ok.iK.mem hb;exact absurd (Oo (N2 ho) (N7 I.sz h)) (Pf _)
theorem Inv.cne(I:Inv X pins σ H s):∀x c,X.env.cells.lookup x=some c->c≠X.env.locals:=λx c e z=>by
 obtain⟨v,o,ho,hd⟩:=I.cell x c e;obtain⟨m,⟨o',es,ep,ho',hd',_⟩,_⟩:=I.loc;rw[z,ho']at ho;cases ho;rw[hd']at hd;cases hd
theorem Inv.iK(I:Inv X pins σ H s):s.heap.FunFrames X.base X.outer:=by
 have all:∀(l:List Env),(∀b∈frs l,b∈X.fs)->X.s₀.heap.FunFrames X.base l->s.heap.FunFrames X.base l:=by
  intro l
  induction l with
  |nil=>intro _ _;trivial
  |cons env r ih=>
   intro hs hl;obtain⟨hk,⟨L,o,hf,hn,ho,hd⟩,hr⟩:=hl;have hL:L∈X.fs:=hs L (by unfold frs;rw[Ot,hf];exact Oq);obtain⟨sl,e⟩:=I.base.slot L o ho (I.ok.frf L hL) hL λz=>I.ok.exfs L z hL;exact⟨hk,⟨L,_,hf,hn,e,hd⟩,ih (λb hb=>hs b (by unfold frs;rw[Ot,hf];exact Oh _ hb)) hr⟩
 exact all X.outer (λ_ hb=>hb) I.ok.iK
theorem Inv.stack(I:Inv X pins σ H s):s.heap.FunFrames X.base X.stack:=by
 rcases I.ok.stk with e |⟨e,hf⟩
 ·rw[e];exact I.iK
 ·rw[e];obtain⟨m,hn,_⟩:=I.loc;refine .cons (by rw[I.ok.kind];decide) hf hn ?_ I.iK;exact Heap.get?_none_of_le (N7 I.ok.bsz I.ok.above)
theorem Inv.mx(I:Inv X pins σ H s):∀b∈frs X.stack,b∈X.env.locals::X.fs:=λb hb=>by
 rcases I.ok.stk with e |⟨e,hf⟩
 ·rw[e]at hb;exact Oh _ hb
 ·rw[e]at hb;unfold frs at hb;rw[Ot,hf]at hb;exact hb
theorem Inv.tG(I:Inv X pins σ H s):∀b∈frs X.stack,H b=none:=λb hb=>by
 rcases NU.mp (I.mx b hb)with e |hb
 ·rw[e];exact I.free
 ·obtain⟨_,o,ho,_⟩:=I.ok.iK.mem hb;exact I.base.free b o ho (I.ok.frf b hb) λz=>I.ok.exfs b z hb
theorem Inv.step{g':Array GenState}{t':Nat}{d':Drawn}{ch:List Addr}(I:Inv X pins σ H s)
  (hch:∀b∈ch,(b∈X.ex\/X.s₀.heap.objs.size<=b)/\b≠X.env.locals/\(∀x c,X.env.cells.lookup x=some c->c≠b)/\∀p∈X.pn++pins,p.1≠b)
  (keep:∀b o,b≠X.env.locals->b∉X.fs->b∉ch->s.heap.get? b=some o->H b=none->h'.get? b=some o)
  (slot:∀b o,b≠X.env.locals->b∈X.fs->b∉ch->s.heap.get? b=some o->H b=none->∃sl,h'.get? b=some { o with slots:=sl }) (free:∀b o,b∉ch->s.heap.get? b=some o->H b=none->H' b=none)
  (there:∀b o,b∉ch->s.heap.get? b=some o->∃o',h'.get? b=some o')
  (tups:∀b xs,H b=some (.tup xs)->H' b=some (.tup xs)) (frzs:∀b o u,H b=some (.frz o u)->H' b=some (.frz o u)) (tbls:∀b ps,H b=some (.tbl ps)->∃more,H' b=some (.tbl (ps++more)))
  (ns:∀m,s.heap.Ns X.env.locals m->h'.Ns X.env.locals m) (hok:HOk X.prog X.w H' h') (hg:AllBare g') :
  Inv X pins σ H' { s with heap:=h',gens:=g',drawn:=d',toks:=t' }:=by
 have neL:∀b o,X.s₀.heap.get? b=some o->b≠X.env.locals:=λb o e=>Og (Oo (N2 e) I.ok.above);have neC:∀b o,X.s₀.heap.get? b=some o->b∉X.ex->b∉ch:=λb o e hx hb=>by
  rcases(hch b hb).1 with z |z
  ·exact hx z
  ·exact absurd (Oo (N2 e) z) (Pf _)
 have cellK:∀x c,X.env.cells.lookup x=some c->∀v,s.heap.IsCell c v->h'.IsCell c v:=λx c e v ⟨o,ho,hd⟩=>by
  have nch:c∉ch:=λz=>(hch c z).2.2.1 x c e rfl;by_cases hc:c∈X.fs
  ·obtain⟨sl,q⟩:=slot c o (I.cne x c e) hc nch ho (I.freeC x c e);exact⟨_,q,hd⟩
  ·exact⟨o,keep c o (I.cne x c e) hc nch ho (I.freeC x c e),hd⟩
 refine⟨I.ok,I.os,hg,⟨λb o e n hb hx=>?_,λb o e n hb hx=>?_,λb o e n hx=>?_,λb o e hx=>?_,λb xs e=>tups b xs (I.base.tups b xs e),λb o xs e=>frzs b o xs (I.base.frzs b o xs e),λb ps e=>?_⟩,?_,λx c e=>?_,?_,λx c e=>?_,λp hp=>?_,hok,I.len⟩
 ·exact keep b o (neL b o e) hb (neC b o e hx) (I.base.keep b o e n hb hx) (I.base.free b o e n hx)
 ·obtain⟨sl,e1⟩:=I.base.slot b o e n hb hx;obtain⟨sl',e2⟩:=slot b _ (neL b o e) hb (neC b o e hx) e1 (I.base.free b o e n hx);exact⟨sl',e2⟩
 ·obtain⟨o',e1⟩:=I.base.there b o e hx;exact free b o' (neC b o e hx) e1 (I.base.free b o e n hx)
 ·obtain⟨o',e1⟩:=I.base.there b o e hx;exact there b o' (neC b o e hx) e1
 ·obtain⟨m1,e1⟩:=I.base.tbls b ps e;obtain⟨m2,e2⟩:=tbls b _ e1;exact⟨m1++m2,by rw[e2,Array.append_assoc]⟩
 ·obtain⟨m,hn,hl⟩:=I.loc;refine⟨m,ns m hn,λi x v e1 e2 e3=>?_⟩;obtain⟨u,r,l⟩:=hl i x v e1 e2 e3;refine⟨u,r,?_⟩;rcases l with l |⟨k,c,e,z⟩
  ·exact .inl l
  ·exact .inr ⟨k,c,e,cellK x c e _ z⟩
 ·obtain⟨v,z⟩:=I.cell x c e;exact⟨v,cellK x c e v z⟩
 ·obtain⟨m,⟨o,_,_,ho,_⟩,_⟩:=I.loc;exact free _ o (λz=>(hch _ z).2.1 rfl) ho I.free
 ·obtain⟨v,o,ho,hd⟩:=I.cell x c e;exact free c o (λz=>(hch c z).2.2.1 x c e rfl) ho (I.freeC x c e)
 ·obtain⟨e,n,ne,nf,d⟩:=I.pin p hp;have nch:p.1∉ch:=λz=>(hch p.1 z).2.2.2 p hp rfl;exact⟨keep p.1 p.2 ne nf nch e n,free p.1 p.2 nch e n,ne,nf,d⟩
theorem Inv.un{t':Nat}(I:Inv X pins σ H s)(u:Un X.fs [] H H' s.heap h')(hok:HOk X.prog X.w H' h'):Inv X pins σ H' { s with heap:=h',toks:=t' }:=by
 obtain⟨m,⟨o,es,ep,ho,r⟩,_⟩:=id I.loc;obtain⟨sl,hL⟩:=u.any ho I.free (by simp);exact I.step (g':=s.gens) (d':=s.drawn) (ch:=[]) (λ_ z=>nomatch z) (λb o _ hb _ e n=>u.keep b o e n hb (by simp)) (λb o _ hb _ e n=>u.slot b o e n hb (by simp)) (λb o _ e n=>u.free b o e n (by simp)) (λb o _ e=>u.there b o e (by simp)) u.tups u.frzs u.tbls (λm' hm=>by
  obtain⟨o',es',ep',ho',r'⟩:=hm;rw[ho]at ho';cases ho';exact⟨_,es',ep',hL,r'⟩) hok I.bare
theorem Inv.call{g':Array GenState}{t':Nat}{d':Drawn}{ch:List Addr}(I:Inv X pins σ H s)(u:Un (frs X.stack) ch H H' s.heap h')(hok:HOk X.prog X.w H' h')(hg:AllBare g')
  (hch:∀b∈ch,(b∈X.ex\/X.s₀.heap.objs.size<=b)/\b≠X.env.locals/\(∀x c,X.env.cells.lookup x=some c->c≠b)/\∀p∈X.pn++pins,p.1≠b) :
  Inv X pins σ H' { s with heap:=h',gens:=g',drawn:=d',toks:=t' }:=by
 obtain⟨m,⟨o,es,ep,ho,r⟩,_⟩:=id I.loc;obtain⟨sl,hL⟩:=u.any ho I.free λz=>(hch _ z).2.1 rfl;exact I.step (ch:=ch) hch (λb o hL hb hc e n=>u.keep b o e n (λz=>(NU.mp (I.mx b z)).elim hL hb) hc) (λb o _ _ hc e n=>u.any e n hc) (λb o hc e n=>u.free b o e n hc) (λb o hc e=>u.there b o e hc) u.tups u.frzs u.tbls (λm' hm=>by
  obtain⟨o',es',ep',ho',r'⟩:=hm;rw[ho]at ho';cases ho';exact⟨_,es',ep',hL,r'⟩) hok hg
theorem Inv.turned{t':Nat}{it:Addr}(I:Inv X pins σ H s)(k:∀b o,b≠it->s.heap.get? b=some o->h'.get? b=some o)(hn:H it=none)(hL:it≠X.env.locals)
  (h1:it∈X.ex\/X.s₀.heap.objs.size<=it) (h2:∀x c,X.env.cells.lookup x=some c->c≠it) (h3:∀p∈X.pn++pins,p.1≠it):Inv X pins σ H { s with heap:=h',toks:=t' }:=by
 have nit:∀b u,H b=some u->b≠it:=λb u e z=>by rw[z,hn]at e;cases e
 refine I.step (g':=s.gens) (d':=s.drawn) (ch:=[it]) (λb hb=>?_) (λb o _ _ hc e _=>k b o (λz=>hc (by simp[z])) e) (λb o _ _ hc e _=>⟨o.slots,k b o (λz=>hc (by simp[z])) e⟩) (λ_ _ _ _ n=>n)
  (λb o hc e=>⟨o,k b o (λz=>hc (by simp[z])) e⟩) (λ_ _ e=>e) (λ_ _ _ e=>e) (λb ps e=>⟨#[],by rw[e];simp⟩) (λm hm=>?_) (λb u e=>?_) I.bare
 ·have e:b=it:=by simpa using hb
  subst e;exact⟨h1,hL,h2,h3⟩
 ·obtain⟨o,es,ep,ho,r⟩:=hm;exact⟨o,es,ep,k _ o (PD hL) ho,r⟩
 ·refine(I.hok b u e).ma (λc v hc q=>k c v ?_ q) (λ_ q=>q) λ_ _ q=>q;rcases hc with z |z
  ·rw[z];exact nit b u e
  ·exact nit c _ z
theorem Inv.tok(I:Inv X pins σ H s)(t:Nat):Inv X pins σ H { s with toks:=t }:=I.un (h':=s.heap) (t':=t) Un.refl I.hok
theorem Inv.kept{t':Nat}(I:Inv X pins σ H s)(k:∀b u,s.heap.get? b=some u->h'.get? b=some u):Inv X pins σ H { s with heap:=h',toks:=t' }:=I.un (Un.kept k) (I.hok.kept k)
theorem Inv.laid{a:Addr}{o:HO}{t':Nat}(I:Inv X pins σ H s)(k:∀b u,s.heap.get? b=some u->h'.get? b=some u)(hp:s.heap.objs.size<=a)(new:cR X.prog X.w (upd H a o) h' a o) :
  Inv X pins σ (upd H a o) { s with heap:=h',toks:=t' }:=I.un (Un.laid k hp (I.hok.fresh hp)) (I.hok.laid k hp new)
theorem Inv.write{x e:Addr}{o:HO}{t':Nat}(I:Inv X pins σ H s)(mu:Mut (H x))(he:e=x\/H e=some (.own x))(k:∀b u,b≠e->s.heap.get? b=some u->h'.get? b=some u)(heo:∃u,h'.get? e=some u)
  (new:cR X.prog X.w (upd H x o) h' x o):Inv X pins σ (upd H x o) { s with heap:=h',toks:=t' }:=I.un (Un.write mu he k heo) (I.hok.write mu he k heo new)
theorem Inv.weak{σ':List (Option V)}(I:Inv X pins σ H s)(hl:σ'.length=σ.length)(w:∀(i:Nat) v,σ'[i]?=some (some v)->σ[i]?=some (some v)):Inv X pins σ' H s:=
 ⟨I.ok,I.os,I.bare,I.base,let⟨m,hn,hl'⟩:=I.loc;⟨m,hn,λi x v e1 e2 e3=>hl' i x v e1 (w i v e2) e3⟩,I.cell,I.free,I.freeC,I.pin,I.hok,hl.trans I.len⟩
theorem Inv.tT{pins':List (Addr×Obj)}(I:Inv X pins σ H s)(h:∀p∈pins',s.heap.get? p.1=some p.2/\H p.1=none/\p.1≠X.env.locals/\p.1∉X.fs/\∀v,p.2.data≠.cell v):Inv X pins' σ H s:=
 ⟨I.ok,I.os,I.bare,I.base,I.loc,I.cell,I.free,I.freeC,λp hp=>(Oz.mp hp).elim (λz=>I.pin p (OR _ z)) (h p),I.hok,I.len⟩
theorem wO{N:List Str}(hN:N.Nodup){i j:Nat}{x:Str}(a:N[i]?=some x)(b:N[j]?=some x):i=j:=by
 obtain⟨h1,e1⟩:=NZ.mp a;obtain⟨h2,e2⟩:=NZ.mp b;exact(List.getElem_inj hN).mp (e1.trans e2.symm)
theorem BY{M:Model}{A:Around}{E:Value->Shared->Prop}{i:Nat}{x:Str}{v:V}{u:Value}{Q:Unit->Shared->Prop}(I:Inv X pins σ H s)(hN:X.N.Nodup)(hi:X.N[i]?=some x)(hx:Loc X.env.scope x)(r:RelV v u)
  (h:∀s',Inv X pins (σ.set i (some v)) H s'->(∃a,OD a s.heap s'.heap/\(a=X.env.locals\/X.env.cells.lookup x=some a))->Q () s') (hf:X.fn x=true\/X.env.scope.names.lookup x=some .local:=by first |exact .inl rfl |exact .inr rfl |assumption):wpAny M A (storeName X.env x u) Q E s:=by
 obtain⟨m,hn,hl⟩:=id I.loc;have hcls:(X.env.scope.kind == .class||(X.env.scope.kind == .module&&X.env.locals != X.env.globals))=false:=by rw[I.ok.kind];rfl
 have hiσ:i<σ.length:=by rw[I.len];exact(NZ.mp hi).1
 have cne:=I.cne;have tracked:∀{a:Addr}{h':Heap},(∃o,s.heap.get? a=some o/\H a=none)->OD a s.heap h'->HOk X.prog X.w H h':=λ{a h'} ha hs b ob e=>by
  obtain⟨_,_,hfree⟩:=ha;refine(I.hok b ob e).ma (λc w' hc q=>(hs.2 c ?_).trans q) (λ_ q=>q) λ_ _ q=>q;rintro rfl;rcases hc with rfl |hc
  ·rw[hfree]at e;cases e
  ·rw[hfree]at hc;cases hc
 rcases hx with hk |hk
 ·refine wpAny_storeName_local hk hn (λh' hn' hs=>?_) hcls;obtain⟨oL,_,_,hoL,_⟩:=id hn;refine h _ ⟨I.ok,I.os,I.bare,⟨λb o e n hb hx=>?_,λb o e n hb hx=>?_,I.base.free,λb o e hx=>?_,I.base.tups,I.base.frzs,I.base.tbls⟩,⟨_,hn',λj y v' e1 e2 e3=>?_⟩,λy c e=>?_,I.free,I.freeC,λp hp=>?_,tracked ⟨oL,hoL,I.free⟩ hs,by simpa using I.len⟩ ⟨_,hs,.inl rfl⟩
  ·exact(hs.2 b (Og (Oo (N2 e) I.ok.above))).trans (I.base.keep b o e n hb hx)
  ·obtain⟨sl,e1⟩:=I.base.slot b o e n hb hx;exact⟨sl,(hs.2 b (Og (Oo (N2 e) I.ok.above))).trans e1⟩
  ·obtain⟨o',e1⟩:=I.base.there b o e hx;exact⟨o',(hs.2 b (Og (Oo (N2 e) I.ok.above))).trans e1⟩
  ·by_cases hj:j=i
   ·subst hj;rw[hi]at e1;cases e1;rw[Qi hiσ]at e2;cases e2;exact⟨u,r,.inl ⟨hk,by simp⟩⟩
   ·rw[Qr (PD hj)]at e2;obtain⟨u',r',q⟩:=hl j y v' e1 e2 e3;refine⟨u',r',?_⟩;rcases q with⟨k,e⟩ |⟨k,c,e,z⟩
    ·refine .inl ⟨k,?_⟩;have:y≠x:=λe=>hj (wO hN e1 (e▸hi));simp[this,e]
    ·exact .inr ⟨k,c,e,z.sameBut hs (cne y c e)⟩
  ·obtain⟨w',z⟩:=I.cell y c e;exact⟨w',z.sameBut hs (cne y c e)⟩
  ·obtain⟨e,n,ne,nf,d⟩:=I.pin p hp;exact⟨(hs.2 p.1 ne).trans e,n,ne,nf,d⟩
 ·have hfn:X.fn x=true:=by
   rcases hf with z |z
   ·exact z
   ·rw[z]at hk;cases hk
  obtain⟨c,hc⟩:=I.ok.has x (.inl hk);obtain⟨w',z⟩:=I.cell x c hc;refine wpAny_storeName_cell I.ok.kind hk hc z (λh' hc' hs=>?_);obtain⟨oc,hoc,hocd⟩:=id z;refine h { s with heap:=h' } ⟨I.ok,I.os,I.bare,⟨λb o e n hb hx=>?_,λb o e n hb hx=>?_,I.base.free,λb o e hx=>?_,I.base.tups,I.base.frzs,I.base.tbls⟩,⟨m,hn.sameBut hs (PD (cne x c hc)),λj y v' e1 e2 e3=>?_⟩,λy c' e=>?_,I.free,I.freeC,λp hp=>?_,tracked ⟨oc,hoc,I.freeC x c hc⟩ hs,by simpa using I.len⟩ ⟨c,hs,.inr hc⟩
  ·exact(hs.2 b (Og (Oo (N2 e) (I.ok.cab x c hfn hc)))).trans (I.base.keep b o e n hb hx)
  ·obtain⟨sl,e1⟩:=I.base.slot b o e n hb hx;exact⟨sl,(hs.2 b (Og (Oo (N2 e) (I.ok.cab x c hfn hc)))).trans e1⟩
  ·obtain⟨o',e1⟩:=I.base.there b o e hx;exact⟨o',(hs.2 b (Og (Oo (N2 e) (I.ok.cab x c hfn hc)))).trans e1⟩
  ·by_cases hj:j=i
   ·subst hj;rw[hi]at e1;cases e1;rw[Qi hiσ]at e2;cases e2;exact⟨u,r,.inr ⟨.inl hk,c,hc,hc'⟩⟩
   ·rw[Qr (PD hj)]at e2;obtain⟨u',r',q⟩:=hl j y v' e1 e2 e3;refine⟨u',r',?_⟩;rcases q with q |⟨k,c',e,z'⟩
    ·exact .inl q
    ·refine .inr ⟨k,c',e,z'.sameBut hs ?_⟩;rintro rfl;exact hj (wO hN e1 (I.ok.inj _ _ _ e hc▸hi))
  ·by_cases hcc:c'=c
   ·subst hcc;exact⟨_,hc'⟩
   ·obtain⟨w2,z2⟩:=I.cell y c' e;exact⟨w2,z2.sameBut hs hcc⟩
  ·obtain⟨e,n,ne,nf,d⟩:=I.pin p hp;refine⟨(hs.2 p.1 ?_).trans e,n,ne,nf,d⟩;intro q;rw[q,hoc]at e;have q':oc=p.2:=Ou e;exact d w' (by rw[<-q'];exact hocd)
theorem kv{M:Model}{A:Around}{E:Value->Shared->Prop}{i:Nat}{x:Str}{v:V}{u:Value}{Q:Unit->Shared->Prop}(I:Inv X pins σ H s)(hN:X.N.Nodup)(hi:X.N[i]?=some x)(hx:Loc X.env.scope x)(r:RelV v u)
  (h:∀s',Inv X pins (σ.set i (some v)) H s'->Q () s') (hf:X.fn x=true\/X.env.scope.names.lookup x=some .local:=by first |exact .inl rfl |exact .inr rfl |assumption):wpAny M A (storeName X.env x u) Q E s:=
 BY I hN hi hx r (λs' I' _=>h s' I') hf
theorem Inv.EZ{s':Shared}{ch:List Addr}(I:Inv X pins σ H s)(ho:s'.os=s.os)(u:Un (frs X.stack) ch H H' s.heap s'.heap)(hok:HOk X.prog X.w H' s'.heap)(hg:AllBare s'.gens)
  (hch:∀b∈ch,(b∈X.ex\/X.s₀.heap.objs.size<=b)/\b≠X.env.locals/\(∀x c,X.env.cells.lookup x=some c->c≠b)/\∀p∈X.pn++pins,p.1≠b):Inv X pins σ H' s':=by
 obtain⟨h',g',d',t',o'⟩:=s';have e:o'=s.os:=ho;subst e;exact I.call (g':=g') (t':=t') (d':=d') u hok hg hch
end
abbrev XK:=Value->Option Addr->Hp->Prop
abbrev St:=List (Option V)
abbrev VK:=V->Hp->Prop
abbrev TE:=St->Hp->VK->Prop
abbrev TT:=St->Hp->(Bool->Hp->Prop)->Prop
abbrev TA:=St->Hp->(List V->Hp->Prop)->Prop
structure Ends where
 nx:St->Hp->Prop
 rt:VK
 bk:St->Hp->Prop:=λ_ _=>False
 ct:St->Hp->Prop:=λ_ _=>False
abbrev TS:=Ends->St->Hp->Prop
def EP(X:Cx)(pins:List (Addr×Obj))(σ:St)(Q:VK)(u:Value)(s':Shared):Prop:=∃v H',Inv X pins σ H' s'/\RelV v u/\Q v H'
def TP(X:Cx)(pins:List (Addr×Obj))(σ:St)(Q:Bool->Hp->Prop)(b:Bool)(s':Shared):Prop:=∃H',Inv X pins σ H' s'/\Q b H'
def AP(X:Cx)(pins:List (Addr×Obj))(σ:St)(Q:List V->Hp->Prop)(us:List Value)(s':Shared):Prop:=∃vs H',Inv X pins σ H' s'/\Vals vs us/\Q vs H'
def SP(X:Cx)(pins:List (Addr×Obj))(D:Ends)(f:Flow)(s':Shared):Prop:=
 match f with
 | .next=>∃q' H',Inv X pins q' H' s'/\D.nx q' H'
 | .brk=>∃q' H',Inv X pins q' H' s'/\D.bk q' H'
 | .cont=>∃q' H',Inv X pins q' H' s'/\D.ct q' H'
 | .ret u=>∃v q' H',Inv X pins q' H' s'/\RelV v u/\D.rt v H'
def PE(X:Cx)(e:Expr)(t:TE):Prop:=
 ∀(pins:List (Addr×Obj))(s:Shared)(σ:St)(H:Hp)(Q:VK),Inv X pins σ H s->t σ H Q->wpAny (model X.prog X.w) X.A (eval e X.env) (EP X pins σ Q) X.xe s
def PT(X:Cx)(e:Expr)(t:TT):Prop:=
 ∀(pins:List (Addr×Obj))(s:Shared)(σ:St)(H:Hp)(Q:Bool->Hp->Prop),Inv X pins σ H s->t σ H Q->wpAny (model X.prog X.w) X.A (isTrue e X.env (eval e X.env)) (TP X pins σ Q) X.xe s
def PW(X:Cx)(e:Expr)(t:TT):Prop:=
 ∀(whole:Sem Value)(pins:List (Addr×Obj))(s:Shared)(σ:St)(H:Hp)(Q:Bool->Hp->Prop),Inv X pins σ H s->t σ H Q->wpAny (model X.prog X.w) X.A (isTrue e X.env whole) (TP X pins σ Q) X.xe s
theorem PW.pt{X:Cx}{e:Expr}{t:TT}(h:PW X e t):PT X e t:=h _
def PA(X:Cx)(es:List Expr)(t:TA):Prop:=
 ∀(pos:Pos)(pins:List (Addr×Obj))(s:Shared)(σ:St)(H:Hp)(Q:List V->Hp->Prop),Inv X pins σ H s->t σ H Q->wpAny (model X.prog X.w) X.A (spliced (backTo pos (starEach es X.env))) (AP X pins σ Q) X.xe s
def PS(X:Cx)(st:Stmt)(t:TS):Prop:=
 ∀(pins:List (Addr×Obj))(s:Shared)(σ:St)(H:Hp)(D:Ends),Inv X pins σ H s->t D σ H->wpAny (model X.prog X.w) X.A (exec st X.env) (SP X pins D) X.xe s
def PSs(X:Cx)(st:List Stmt)(t:TS):Prop:=
 ∀(pins:List (Addr×Obj))(s:Shared)(σ:St)(H:Hp)(D:Ends),Inv X pins σ H s->t D σ H->wpAny (model X.prog X.w) X.A (execs st X.env) (SP X pins D) X.xe s
theorem thn{α:Type}{t:Sem α}{Q Q':α->Shared->Prop}{M:Model}{A:Around}{E:Value->Shared->Prop}{s:Shared}(h:wpAny M A t Q E s)(hQ:∀a s,Q a s->Q' a s):wpAny M A t Q' E s:=Pm h hQ λ_ _ x=>x
section
variable{X:Cx}
def NA(i:Nat):TE:=λσ H Q=>∃v,σ[i]?=some (some v)/\Q v H
def tC(v:V):TE:=λ_ H Q=>Q v H
theorem HU{i:Nat}{x:Str}{pos:Pos}(hN:X.N[i]?=some x)(hv:Vis X.env.scope x)(hd:(x==("__debug__":Str))=false:=by decide)(hcd:(x==("__classdict__":Str))=false:=by decide):PE X (.Name x pos) (NA i):=by
 intro pins s σ H Q I h;obtain⟨v,e,h⟩:=h;obtain⟨m,hn,hl⟩:=I.loc;obtain⟨u,r,l⟩:=hl i x v hN e hv;have fin:EP X pins σ Q u s:=⟨v,H,I,r,h⟩;rcases l with⟨hk,hm⟩ |⟨hk,c,hc,hcell⟩
 ·exact Uu (Uv I.ok.kind hk hn hm fin) hd
 ·rcases hk with hk |hk
  ·exact Uu (wpAny_loadName_cell I.ok.kind hk hc hcell fin) hd
  ·exact Uu (wpAny_loadName_free I.ok.kind hk hc hcell fin hcd) hd
theorem J3{i j pos}:PE X (.Constant (.int i) j pos) (tC (.int i)):=λ_ _ _ H _ I h=>SH ⟨.int i,H,I.tok _,⟨_,rfl⟩,h⟩
theorem Lc{b j pos}:PE X (.Constant (.bool b) j pos) (tC (.bl b)):=λ_ _ _ H _ I h=>Constant_bool ⟨.bl b,H,I,rfl,h⟩
theorem JV{j pos}:PE X (.Constant .none j pos) (tC .non):=λ_ _ _ H _ I h=>Constant_none ⟨.non,H,I,rfl,h⟩
theorem IK{x j pos}:PE X (.Constant (.str x) j pos) (tC (.str x)):=λ_ _ _ H _ I h=>UY ⟨.str x,H,I.tok _,⟨_,rfl⟩,h⟩
def Gl(X:Cx)(x:Str):Prop:=X.env.kindOf x=some .globalImplicit
theorem ni{E:Value->Shared->Prop}{pins:List (Addr×Obj)}{s:Shared}{σ:St}{H:Hp}{x:Str}{u:Value}{pos:Pos}{Q:Value->Shared->Prop}(I:Inv X pins σ H s)(hg:Gl X x)(hm:X.mg x=some u)(h:Q u s)
  (hd:(x==("__debug__":Str))=false:=by decide):wpAny (model X.prog X.w) X.A (eval (.Name x pos) X.env) Q E s:=
 Rf I.ok.kind hg (TQ (by rw[I.ok.glob];exact I.mod.glob.keeps I.bk) hm h) hd
theorem dH{E:Value->Shared->Prop}{pins:List (Addr×Obj)}{s:Shared}{σ:St}{H:Hp}{x:Str}{u:Value}{pos:Pos}{Q:Value->Shared->Prop}(I:Inv X pins σ H s)(hg:Gl X x)(hm:X.mg x=none)(hv:bootBuiltins x=some u)(h:Q u s)
  (hn:x≠"__name__":=by decide) (hd:(x==("__debug__":Str))=false:=by decide):wpAny (model X.prog X.w) X.A (eval (.Name x pos) X.env) Q E s:=by
 obtain⟨mb,h1,h2⟩:=I.mod.blt;exact Rf I.ok.kind hg (Calls.loadGlobal_builtin (by rw[I.ok.glob];exact I.mod.glob.keeps I.bk) hm (by rw[I.ok.blt];exact h1.keeps I.bk) ((h2 x hn).trans hv) h) hd
theorem HG{x:Str}{v:V}{u:Value}{pos:Pos}(hg:Gl X x)(hm:X.mg x=some u)(r:RelV v u)(hd:(x==("__debug__":Str))=false:=by decide):PE X (.Name x pos) (tC v):=
 λ_ _ _ H _ I h=>ni I hg hm ⟨v,H,I,r,h⟩ hd
theorem y0{x:Str}{v:V}{u:Value}{pos:Pos}(hg:Gl X x)(hm:X.mg x=none)(hv:bootBuiltins x=some u)(r:RelV v u)(hn:x≠"__name__":=by decide)(hd:(x==("__debug__":Str))=false:=by decide):PE X (.Name x pos) (tC v):=
 λ_ _ _ H _ I h=>dH I hg hm hv ⟨v,H,I,r,h⟩ hn hd
variable{a b:Expr}{ta tb:TE}{pos:Pos}
variable{tA tB':TT}{rest:List Expr}
def tOr(t u:TT):TT:=λσ H Q=>t σ H λc H1=>if c=true then Q true H1 else u σ H1 Q
def M1(t:TT):TT:=λσ H Q=>t σ H λc H1=>Q (!c) H1
theorem Kx(ha:PT X a tA):PW X (.BoolOp .Or [a] pos) tA:=by
 intro wh pins s σ H Q I h;refine isTrue_or (thn (ha pins s σ H Q I h) λc s1 e=>?_);cases c with
 |false=>exact isTrue_or_nil e
 |true=>exact e
theorem MQ(ha:PT X a tA)(hb:PW X (.BoolOp .Or (b::rest) pos) tB'):PW X (.BoolOp .Or (a::b::rest) pos) (tOr tA tB'):=by
 intro wh pins s σ H Q I h;refine isTrue_or (thn (ha pins s σ H _ I h) λc s1 ⟨H1,I1,q1⟩=>?_);cases c with
 |true=>exact⟨H1,I1,q1⟩
 |false=>exact hb wh pins s1 σ H1 Q I1 q1
theorem JF(ha:PT X a tA):PT X (.UnaryOp .Not a pos) (M1 tA):=by
 intro pins s σ H Q I h;exact isTrue_not (ha pins s σ H (λc H1=>Q (!c) H1) I h)
def LU(ta tb:TE):TE:=λσ H Q=>ta σ H λx H1=>∃c,x=.bl c/\if c=true then tb σ H1 Q else Q (.bl false) H1
def M5(ta tb:TE):TE:=λσ H Q=>ta σ H λx H1=>∃c,x=.bl c/\if c=true then Q (.bl true) H1 else tb σ H1 Q
def L7(ta:TE):TE:=λσ H Q=>ta σ H λx H1=>∃c,x=.bl c/\Q (.bl (!c)) H1
theorem HY{op}{t:TE}(h:PE X a t):PE X (.BoolOp op [a] pos) t:=λpins s σ H Q I hw=>BoolOp_one (h pins s σ H Q I hw)
theorem Km(ha:PE X a ta)(hb:PE X (.BoolOp .And (b::rest) pos) tb):PE X (.BoolOp .And (a::b::rest) pos) (LU ta tb):=by
 intro pins s σ H Q I h;refine BoolOp_and (thn (ha pins s σ H _ I h) λv s1 ⟨x,H1,I1,r1,q1⟩=>?_);obtain⟨c,rfl,q1⟩:=q1;cases r1;refine O3 ?_;cases c with
 |true=>exact hb pins s1 σ H1 Q I1 q1
 |false=>exact⟨.bl false,H1,I1,rfl,q1⟩
theorem L_(ha:PE X a ta)(hb:PE X (.BoolOp .Or (b::rest) pos) tb):PE X (.BoolOp .Or (a::b::rest) pos) (M5 ta tb):=by
 intro pins s σ H Q I h;refine BoolOp_or (thn (ha pins s σ H _ I h) λv s1 ⟨x,H1,I1,r1,q1⟩=>?_);obtain⟨c,rfl,q1⟩:=q1;cases r1;refine O3 ?_;cases c with
 |false=>exact hb pins s1 σ H1 Q I1 q1
 |true=>exact⟨.bl true,H1,I1,rfl,q1⟩
theorem Kl(ha:PE X a ta):PE X (.UnaryOp .Not a pos) (L7 ta):=by
 intro pins s σ H Q I h;refine UnaryOp_ (thn (ha pins s σ H _ I h) λv s1 ⟨x,H1,I1,r1,q1⟩=>?_);obtain⟨c,rfl,q1⟩:=q1;cases r1;exact not_of (O3 ⟨.bl (!c),H1,I1,rfl,q1⟩)
def tIf(t:TT)(ta tb:TE):TE:=λσ H Q=>t σ H λc H1=>if c=true then ta σ H1 Q else tb σ H1 Q
theorem C4{c:Expr}(hc:PT X c tA)(ha:PE X a ta)(hb:PE X b tb):PE X (.IfExp c a b pos) (tIf tA ta tb):=by
 intro pins s σ H Q I h;refine wpAny_IfExp (thn (hc pins s σ H _ I h) λd s1 ⟨H1,I1,q1⟩=>?_);cases d with
 |true=>exact ha pins s1 σ H1 Q I1 q1
 |false=>exact hb pins s1 σ H1 Q I1 q1
end
def SqL(K:NO)(H:Hp)(a:Addr)(xs:List V):Prop:=
 Rd H a (.lst xs) \/
  ∃(o:Obj)(its:Array Value)(n:Nat),K.lookup a=some o/\o.cls=.type "list"/\o.dict=none/\o.data=.seq its n/\its.size<=sizeLine/\Vals xs its.toList
def SqT(K:NO)(H:Hp)(a:Addr)(xs:List V):Prop:=
 Rd H a (.tup xs) \/
  ∃(o:Obj)(its:Array Value)(n:Nat),K.lookup a=some o/\o.cls=.type "tuple"/\o.data=.seq its n/\its.size<=sizeLine/\Vals xs its.toList
def Ni:Value->Option V
 | .none=>some .non
 | .bool b=>some (.bl b)
 | .int i _=>some (.int i)
 | .str x _=>some (.str x)
 | .bytes b _=>some (.byt b)
 | .float b _=>some (.flt b)
 | .ref a=>some (.ref a)
 | .type n=>some (.ty n)
 |_=>none
theorem RelV.abs{x:V}{u:Value}(r:RelV x u):Ni u=some x:=by
 cases x with
 |non=>cases r;rfl
 |bl _=>cases r;rfl
 |int _=>obtain⟨t,rfl⟩:=r;rfl
 |str _=>obtain⟨t,rfl⟩:=r;rfl
 |byt _=>obtain⟨t,rfl⟩:=r;rfl
 |flt _=>obtain⟨t,rfl⟩:=r;rfl
 |ref _=>cases r;rfl
 |ty _=>cases r;rfl
theorem RelV.inj{x y:V}{u:Value}(r:RelV x u)(q:RelV y u):x=y:=Ou (r.abs.symm.trans q.abs)
theorem Vals.inj:∀{xs ys:List V}{us:List Value},Vals xs us->Vals ys us->xs=ys
 |_,_,_,.nil,.nil=>rfl
 |_,_,_,.cons r t,.cons r' t'=>by rw[r.inj r',Vals.inj t t']
section
variable{X:Cx}{pins:List (Addr×Obj)}{σ:St}{H:Hp}{s:Shared}{a:Addr}{xs ys:List V}
theorem SqL.of{K:NO}(h:H a=some (.lst xs)):SqL K H a xs:=.inl (.inl h)
theorem SqT.of{K:NO}(h:H a=some (.tup xs)):SqT K H a xs:=.inl (.inl h)
theorem Inv.list(I:Inv X pins σ H s)(h:SqL X.K H a xs):∃its:List Value,Vals xs its/\PlainL s.heap a its.toArray/\xs.length<=sizeLine:=by
 rcases h with h |⟨o,its,n,hk,hc,hd,hs,hz,r⟩
 ·obtain⟨z,its,n,r,e⟩:=h.ok I.hok;exact⟨its,r,⟨_,n,e,rfl,rfl,rfl⟩,z⟩
 ·refine⟨its.toList,r,⟨o,n,I.kIn a o hk,hc,hd,by simpa using hs⟩,?_⟩;have e:=r.length;simp only[Om]at e;omega
theorem Inv.tuple(I:Inv X pins σ H s)(h:SqT X.K H a xs):∃its:List Value,Vals xs its/\IsTup s.heap a its.toArray/\xs.length<=sizeLine:=by
 rcases h with h |⟨o,its,n,hk,hc,hs,hz,r⟩
 ·obtain⟨z,its,r,p⟩:=h.ok I.hok;exact⟨its,r,p,z⟩
 ·refine⟨its.toList,r,⟨o,I.kIn a o hk,hc,n,by simpa using hs⟩,?_⟩;have e:=r.length;simp only[Om]at e;omega
theorem Inv.qX(I:Inv X pins σ H s)(h:SqL X.K H a xs)(h':SqL X.K H a ys):xs=ys:=by
 obtain⟨its,r,⟨o,n,e,_,_,d⟩,_⟩:=I.list h;obtain⟨its',r',⟨o',n',e',_,_,d'⟩,_⟩:=I.list h';rw[e]at e';cases e';rw[d]at d';injection d' with d1 _;have:its=its':=by simpa using OZ UZ d1
 subst this;exact r.inj r'
theorem Inv.uz(I:Inv X pins σ H s)(h:SqT X.K H a xs)(h':SqT X.K H a ys):xs=ys:=by
 obtain⟨its,r,⟨o,e,_,n,d⟩,_⟩:=I.tuple h;obtain⟨its',r',⟨o',e',_,n',d'⟩,_⟩:=I.tuple h';rw[e]at e';cases e';rw[d]at d';injection d' with d1 _;have:its=its':=by simpa using OZ UZ d1
 subst this;exact r.inj r'
end
abbrev Cx.md(X:Cx)(E:Value->Shared->Prop):Cx:={ X with xe:=E }
abbrev Cx.nox(X:Cx):Cx:=X.md λ_ _=>False
theorem Cx.Ok.md{X:Cx}(ok:X.Ok)(E:Value->Shared->Prop):(X.md E).Ok:=
 ⟨ok.mod,ok.kind,ok.glob,ok.blt,ok.above,ok.inj,ok.has,ok.cab,ok.hd,ok.frames,ok.stk,ok.exf,ok.bs,ok.bsz,ok.noex,ok.exfs,ok.iK,ok.frf⟩
theorem Cx.Ok.jt{X:Cx}{E:Value->Shared->Prop}(ok:(X.md E).Ok):X.Ok:=
 ⟨ok.mod,ok.kind,ok.glob,ok.blt,ok.above,ok.inj,ok.has,ok.cab,ok.hd,ok.frames,ok.stk,ok.exf,ok.bs,ok.bsz,ok.noex,ok.exfs,ok.iK,ok.frf⟩
section
variable{X:Cx}{pins:List (Addr×Obj)}{σ:St}{H:Hp}{s:Shared}{E:Value->Shared->Prop}
theorem Inv.md(I:Inv X pins σ H s)(E:Value->Shared->Prop):Inv (X.md E) pins σ H s:=⟨I.ok.md E,I.os,I.bare,I.base,I.loc,I.cell,I.free,I.freeC,I.pin,I.hok,I.len⟩
theorem Inv.jt(I:Inv (X.md E) pins σ H s):Inv X pins σ H s:=⟨I.ok.jt,I.os,I.bare,I.base,I.loc,I.cell,I.free,I.freeC,I.pin,I.hok,I.len⟩
theorem SP.jt{D:Ends}{f:Flow}{s':Shared}(h:SP (X.md E) pins D f s'):SP X pins D f s':=by
 cases f with
 |next=>obtain⟨σ',H',I,q⟩:=h;exact⟨σ',H',I.jt,q⟩
 |brk=>obtain⟨σ',H',I,q⟩:=h;exact⟨σ',H',I.jt,q⟩
 |cont=>obtain⟨σ',H',I,q⟩:=h;exact⟨σ',H',I.jt,q⟩
 |ret u=>obtain⟨v,σ',H',I,r,q⟩:=h;exact⟨v,σ',H',I.jt,r,q⟩
theorem PSs.nox{st:List Stmt}{t:TS}(h:PSs X.nox st t):PSs X st t:=λpins s σ H D I hw=>
 Pm (h pins s σ H D (I.md _) hw) (λ_ _ q=>q.jt) λ_ _ z=>Qc z
end
section
variable{X:Cx}{st:Stmt}{rest:List Stmt}{t u:TS}{e:Expr}{te:TE}{pos:Pos}
def Lg:TS:=λD σ H=>D.nx σ H
def M0(t u:TS):TS:=λD σ H=>t { D with nx:=u D } σ H
theorem FX:PSs X [] Lg:=λ_ _ σ H _ I h=>Rj ⟨σ,H,I,h⟩
theorem Dl(h1:PS X st t)(h2:PSs X rest u):PSs X (st::rest) (M0 t u):=by
 intro pins s σ H D I h;refine Tr (thn (h1 pins s σ H { D with nx:=u D } I h) λf s1 q=>?_);cases f with
 |next=>
  obtain⟨σ',H',I',q⟩:=q;exact h2 pins s1 σ' H' D I' q
 |ret v=>exact q
 |brk=>exact q
 |cont=>exact q
theorem Gr(h1:PS X st t):PSs X [st] t:=by
 intro pins s σ H D I h;refine Tr (thn (h1 pins s σ H D I h) λf s1 q=>?_);cases f with
 |next=>exact Rj q
 |ret v=>exact q
 |brk=>exact q
 |cont=>exact q
theorem Inv.quiet{pins:List (Addr×Obj)}{σ:St}{H:Hp}{s:Shared}(I:Inv X pins σ H s):interactive X.env=false:=by simp[interactive,I.ok.kind]
def MK(te:TE):TS:=λD σ H=>te σ H λ_ H1=>D.nx σ H1
theorem Gv(he:PE X e te)(hs:swapsWith e none pos.line X.env=pure false:=by rfl):PS X (.Expr e pos) (MK te):=by
 intro pins s σ H D I h;exact wpAny_Expr_any (thn (he pins s σ H _ I h) λv s1 ⟨x,H1,I1,r1,q1⟩=>⟨σ,H1,I1,q1⟩) I.quiet hs
def M4(te:TE):TS:=λD σ H=>te σ H D.rt
theorem Kg(he:PE X e te):PS X (.Return (some e) pos) (M4 te):=by
 intro pins s σ H D I h;exact wpAny_Return_some (thn (he pins s σ H _ I h) λv s1 ⟨x,H1,I1,r1,q1⟩=>⟨x,σ,H1,I1,r1,q1⟩)
def M_(c:TT)(t u:TS):TS:=λD σ H=>c σ H λb H1=>if b=true then t D σ H1 else u D σ H1
theorem Lq{c:Expr}{a b:List Stmt}{tc:TT}(hc:PT X c tc)(ha:PSs X a t)(hb:PSs X b u):PS X (.If c a b pos) (M_ tc t u):=by
 intro pins s σ H D I h;refine wpAny_If (thn (hc pins s σ H _ I h) λd s1 ⟨H1,I1,q1⟩=>?_);cases d with
 |true=>exact ha pins s1 σ H1 D I1 q1
 |false=>exact hb pins s1 σ H1 D I1 q1
end
abbrev TG:=V->St->Hp->(St->Hp->Prop)->Prop
abbrev TGs:=List V->St->Hp->(St->Hp->Prop)->Prop
def PG(X:Cx)(target:Expr)(t:TG):Prop:=
 ∀(pins:List (Addr×Obj))(s:Shared)(σ:St)(H:Hp)(v:V)(u:Value)(Q:St->Hp->Prop),Inv X pins σ H s->RelV v u->t v σ H Q ->
  wpAny (model X.prog X.w) X.A (assign target X.env u) (λ_ s'=>∃σ' H',Inv X pins σ' H' s'/\Q σ' H') X.xe s
def PGs(X:Cx)(ts:List Expr)(t:TGs):Prop:=
 ∀(pins:List (Addr×Obj))(s:Shared)(σ:St)(H:Hp)(vs:List V)(us:List Value)(Q:St->Hp->Prop),Inv X pins σ H s->Vals vs us->t vs σ H Q ->
  wpAny (model X.prog X.w) X.A (assignInOrder ((assignEach ts X.env).map (·.2)) us) (λ_ s'=>∃σ' H',Inv X pins σ' H' s'/\Q σ' H') X.xe s
abbrev wY:=V->V->V->Hp->(Hp->Prop)->Prop
def zL(X:Cx)(t:wY):Prop:=
 ∀(pins:List (Addr×Obj))(s:Shared)(σ:St)(H:Hp)(o i v:V)(ov iv u:Value)(Q:Hp->Prop),Inv X pins σ H s->RelV o ov->RelV i iv->RelV v u->t o i v H Q ->
  wpAny (model X.prog X.w) X.A (setItem ov iv u) (λ_ s'=>∃H',Inv X pins σ H' s'/\Q H') X.xe s
section
variable{X:Cx}{pos:Pos}
def FC(i:Nat):TG:=λv σ H Q=>Q (σ.set i (some v)) H
theorem GN{i:Nat}{x:Str}(hN:X.N.Nodup)(hi:X.N[i]?=some x)(hx:Loc X.env.scope x)(hf:X.fn x=true\/X.env.scope.names.lookup x=some .local:=by first |exact .inl rfl |exact .inr rfl |assumption):PG X (.Name x pos) (FC i):=by
 intro pins s σ H v u Q I r h;exact Vg (kv I hN hi hx r (λs' I'=>⟨_,H,I',h⟩) hf)
def NK:TGs:=λvs σ H Q=>vs=[]/\Q σ H
def Mp(t:TG)(u:TGs):TGs:=λvs σ H Q=>∃v r,vs=v::r/\t v σ H λσ' H'=>u r σ' H' Q
theorem Hm:PGs X [] NK:=by
 intro pins s σ H vs us Q I r h;obtain⟨e,h⟩:=h;subst e;cases r;exact assignInOrder_nil ⟨σ,H,I,h⟩
theorem Em{e:Expr}{es:List Expr}{t:TG}{u:TGs}(h1:PG X e t)(h2:PGs X es u)
  (hs:(assignEach (e::es) X.env).map (·.2)=assign e X.env::(assignEach es X.env).map (·.2):=by rfl):PGs X (e::es) (Mp t u):=by
 intro pins s σ H vs us Q I r h;obtain⟨v,vr,e1,h⟩:=h;subst e1;cases r with
 |cons r rr=>
  rw[hs];refine assignInOrder_cons (thn (h1 pins s σ H _ _ _ I r h) λ_ s1 ⟨σ1,H1,I1,q1⟩=>?_);exact h2 pins s1 σ1 H1 _ _ Q I1 rr q1
def ND(K:NO)(n:Nat)(t:TGs):TG:=λv σ H Q=>∃a xs,v=.ref a/\SqT K H a xs/\xs.length=n/\t xs σ H Q
theorem HL{es:List Expr}{k:Nat}{t:TGs}{n:Nat}(hc:X.calm=true)(h:PGs X es t)
  (hn:(assignEach es X.env).length=n:=by rfl) (hst:(assignEach es X.env).findIdx? (·.1)=none:=by rfl):PG X (.Tuple es k pos) (ND X.K n t):=by
 intro pins s σ H v u Q I r hw;obtain⟨a,xs,e1,hq,hl,hw⟩:=hw;subst e1;cases r;obtain⟨its,rv,ht,hz⟩:=I.tuple hq;refine assign_Tuple_tuple (I.ok.hd hc) ht (by simp[hn,<-hl,rv.length]) hst λh' hx=>?_;have I1:Inv X pins σ H { s with heap:=h' }:=I.kept (t':=s.toks) λb o e=>hx b o (Og (N2 e)) e;exact h pins _ σ H xs _ Q I1 (by simpa using rv) hw
def NJ(to ti:TE)(t:wY):TG:=λv σ H Q=>to σ H λo H1=>ti σ H1 λi H2=>t o i v H2 λH3=>Q σ H3
theorem KY{o i:Expr}{to ti:TE}{t:wY}(ho:PE X o to)(hi:PE X i ti)(hs:zL X t)
  (ha:∀v,assign (.Subscript o i pos) X.env v=(do
   let ov<-holding [v] (eval o X.env)
   let iv<-holding [v,ov] (eval i X.env)
   standAt pos
   holding [v,ov,iv] (setItem ov iv v)
   release [v,ov,iv] []):=by intro _;rfl):PG X (.Subscript o i pos) (NJ to ti t):=by
 intro pins s σ H v u Q I r h;rw[ha];refine ar (OF (thn (ho pins s σ H _ I h) λov s1 ⟨x,H1,I1,r1,q1⟩=>?_));refine ar (OF (thn (hi pins s1 σ H1 _ I1 q1) λiv s2 ⟨y,H2,I2,r2,q2⟩=>?_));refine ar (UC (ar (OF (thn (hs pins s2 σ H2 x y v ov iv u _ I2 r1 r2 r q2) λ_ s3 ⟨H3,I3,q3⟩=>?_))));exact wpAny_release ⟨σ,H3,I3,q3⟩
def IM(te:TE)(g:TG):TS:=λD σ H=>te σ H λx H1=>g x σ H1 D.nx
theorem Jt{tg e:Expr}{te:TE}{g:TG}(he:PE X e te)(hg:PG X tg g)(hs:swapsWithSole [tg] e pos.line X.env=pure false:=by rfl)(hw:swappedStores [tg] e X.env=pure none:=by rfl)
  (h1:(assignEach [tg] X.env).map (·.2)=[assign tg X.env]:=by rfl):PS X (.Assign [tg] e pos) (IM te g):=by
 intro pins s σ H D I h;refine wpAny_Assign_stores (thn (he pins s σ H _ I h) λv s1 ⟨x,H1,I1,r1,q1⟩=>?_) hs hw;rw[h1];exact thn (hg pins s1 σ H1 x v _ I1 r1 q1) λ_ s2 q=>q
theorem I_{i:Nat}{x:Str}{e:Expr}{te:TE}{pos':Pos}(hN:X.N.Nodup)(hi:X.N[i]?=some x)(hx:Loc X.env.scope x)(he:PE X e te)(hs:swapsWith e (some (.Name x pos')) pos.line X.env=pure false:=by rfl)(hf:X.fn x=true\/X.env.scope.names.lookup x=some .local:=by first |exact .inl rfl |exact .inr rfl |assumption) :
  PS X (.Assign [.Name x pos'] e pos) (IM te (FC i)):=by
 intro pins s σ H D I h;refine Vh (thn (he pins s σ H _ I h) λv s1 ⟨y,H1,I1,r1,q1⟩=>?_) hs;exact kv I1 hN hi hx r1 (λs2 I2=>⟨_,H1,I2,q1⟩) hf
end
structure It where
 go:Nat->Hp->Prop
 yld:Nat->Hp->V->Hp->Prop
 stop:Nat->Hp->Prop
def eZ(X:Cx)(pins:List (Addr×Obj))(H:Hp)(b:Addr):Prop:=
 H b=none/\b≠X.env.locals/\b∉X.fs/\(b∈X.ex\/X.s₀.heap.objs.size<=b)/\(∀x c,X.env.cells.lookup x=some c->c≠b)/\∀p∈X.pn++pins,p.1≠b
theorem Inv.mq{X:Cx}{pins:List (Addr×Obj)}{σ:St}{H H':Hp}{s:Shared}{b:Addr}(I:Inv X pins σ H s)(hb:s.heap.objs.size<=b)(hn:H' b=none):eZ X pins H' b:=by
 refine⟨hn,Qd (Oo I.lt hb),I.Dp hb,.inr (N7 I.sz hb),λx c e z=>?_,λp hp z=>?_⟩
 ·obtain⟨v,q⟩:=I.cell x c e;exact absurd (Oo q.lt (by rw[z];exact hb)) (Pf _)
 ·exact absurd (Oo (N2 (I.pin p hp).1) (by rw[z];exact hb)) (Pf _)
structure Turn(P:Program)(w:World)(K:NO)(tg:Expr)(J:It)(fp:List Addr)(it:Addr)(tn:Nat->Heap->Prop):Prop where
 mem:it∈fp
 obj:∀i h,tn i h->∀b∈fp,∃o,h.get? b=some o/\∀v,o.data≠.cell v
 keep:∀i h h',tn i h->(∀b∈fp,∀o,h.get? b=some o->h'.get? b=some o)->tn i h'
 item:∀(X:Cx),X.prog=P->X.w=w->X.K=K->X.calm=true->∀(i:Nat)(pins:List (Addr×Obj))(s:Shared)(σ:St)(H:Hp)(E:Value->Shared->Prop),Inv X pins σ H s->(∀b∈fp,eZ X pins H b)->tn i s.heap->J.go i H ->
  wpAny (model P w) X.A (pyNext (.ref it)) (λr s1=>∃u,r=some u /\
   wpAny (model P w) X.A (letOwnedTupleGo tg (.ref it) u) (λ_ s2=>∃x H',Inv X pins σ H' s2/\RelV x u/\J.yld i H x H'/\tn (i+1) s2.heap/\∀b∈fp,H' b=none) E s1) E s
 done:∀(X:Cx),X.prog=P->X.w=w->X.K=K->X.calm=true->∀(i:Nat)(pins:List (Addr×Obj))(s:Shared)(σ:St)(H:Hp)(E:Value->Shared->Prop),Inv X pins σ H s->(∀b∈fp,eZ X pins H b)->tn i s.heap->J.stop i H ->
  wpAny (model P w) X.A (pyNext (.ref it)) (λr s1=>r=none/\Inv X pins σ H s1) E s
 self:∀(A:Around)(i:Nat)(s:Shared)(Q:Value->Shared->Prop)(E:Value->Shared->Prop),tn i s.heap->Q (.ref it) s->wpAny (model P w) A (pyIter (.ref it)) Q E s
abbrev TI:=St->Hp->(It->Hp->Prop)->Prop
def PIE(X:Cx)(pins:List (Addr×Obj))(σ:St)(tg:Expr)(R:It->Hp->Prop)(itv:Value)(s2:Shared):Prop:=
 ∃(it:Addr)(fp:List Addr)(tn:Nat->Heap->Prop)(J:It)(H':Hp),itv=.ref it/\Inv X pins σ H' s2/\Turn X.prog X.w X.K tg J fp it tn/\tn 0 s2.heap/\(∀b∈fp,eZ X pins H' b)/\R J H'
def PI(X:Cx)(tg iter:Expr)(wi:TI):Prop:=
 ∀(pins:List (Addr×Obj))(s:Shared)(σ:St)(H:Hp)(R:It->Hp->Prop),Inv X pins σ H s->wi σ H R ->
  wpAny (model X.prog X.w) X.A (eval iter X.env) (λv s1=>wpAny (model X.prog X.w) X.A (pyIter v) (PIE X pins σ tg R) X.xe s1) X.xe s
theorem ve {M : Model} {A : Around} {E : Value → Shared → Prop} {s : Shared} {tg : Expr} {it : Addr} {u : Value} {o : Obj} {n : String} {vs : Array Value} {Q : Unit → Shared → Prop} (ho : s.heap.get? it = some o) (hc : o.cls = .type n) (hd : o.data = .fields vs)
    (hn : ["enumerate", "zip", "dict_itemiterator", "dict_reverseitemiterator", "odict_iterator", "itertools.zip_longest", "itertools.pairwise"].contains n = false) (hQ : Q () s) : wpAny M A (letOwnedTupleGo tg (.ref it) u) Q E s := by
  unfold letOwnedTupleGo;cases tg <;> first
    | exact NP hQ
    | (cases u <;> first
        | exact NP hQ
        | (refine ar (wpAny_load ho ?_)
           rw [hc, hd];show wpAny M A (if (["enumerate", "zip", "dict_itemiterator", "dict_reverseitemiterator", "odict_iterator", "itertools.zip_longest", "itertools.pairwise"].contains n && vs[0]? == some (rawInt _)) = true then _ else _) Q E s;rw [N1 (by intro h; rw [hn, OM] at h; cases h)];exact NP hQ))
def Itl(K:NO)(a:Addr):It:=
 ⟨λi H=>∃xs x,SqL K H a xs/\xs[i]?=some x,λi H x H'=>H'=H/\∀xs,SqL K H a xs->xs[i]?=some x,λi H=>∃xs,SqL K H a xs/\xs.length<=i⟩
def Itt(K:NO)(a:Addr):It:=
 ⟨λi H=>∃xs x,SqT K H a xs/\xs[i]?=some x,λi H x H'=>H'=H/\∀xs,SqT K H a xs->xs[i]?=some x,λi H=>∃xs,SqT K H a xs/\xs.length<=i⟩
def Itr(lo:Int)(n:Nat):It:=⟨λi _=>i<n,λi H x H'=>H'=H/\x=.int (lo+i),λi _=>n<=i⟩
theorem B8{P:Program}{w:World}{K:NO}{tg:Expr}(a it:Addr):Turn P w K tg (Itl K a) [it] it (λi h=>h.IsListIter it a i)where
 mem:=by simp
 obj:=λi h st b hb=>by
  have e:b=it:=by simpa using hb
  subst e;obtain⟨o,e,c,d⟩:=st;exact⟨o,e,λv z=>by rw[d]at z;cases z⟩
 keep:=λi h h' st k=>st.at λo e=>k it (by simp) o e
 item:=by
  intro X hP hw hK hc i pins s σ H E I hf st hg;subst hP hw hK;obtain⟨xs,x,hq,hx⟩:=hg;obtain⟨its,rv,p,hz⟩:=I.list hq;obtain⟨u,hu,ru⟩:=rv.get hx;obtain⟨f0,f1,f2,f3,f4,f5⟩:=hf it (by simp);refine wpAny_pyNext_list_item st p.isList (x:=u) (by simpa using hu) λh' st' sb=>?_;have I1:Inv X pins σ H { s with heap:=h' }:=I.turned (t':=s.toks) (λb o hb e=>(sb.2 b hb).trans e) f0 f1 f3 f4 f5;obtain⟨o,e,c,d⟩:=id st';exact⟨u,rfl,ve (s:={ s with heap:=h' }) e c d (by decide) ⟨x,H,I1,ru,⟨rfl,λys hy=>by rw[I.qX hy hq];exact hx⟩,st',λb hb=>(hf b hb).1⟩⟩
 done:=by
  intro X hP hw hK hc i pins s σ H E I hf st hg;subst hP hw hK;obtain⟨xs,hq,hx⟩:=hg;obtain⟨its,rv,p,hz⟩:=I.list hq;obtain⟨f0,f1,f2,f3,f4,f5⟩:=hf it (by simp);have hl:=rv.length;exact wpAny_pyNext_list_end (I.ok.hd hc) st p.isList (by simp;omega) λh' eb=>⟨rfl,I.turned (t':=s.toks) (λb o hb e=>eb b o hb e) f0 f1 f3 f4 f5⟩
 self:=λ_ _ _ _ _ st h=>wpAny_pyIter_listiter st h
theorem zJ{P:Program}{w:World}{K:NO}{tg:Expr}(a it:Addr):Turn P w K tg (Itt K a) [it] it (λi h=>h.IsTupleIter it a i)where
 mem:=by simp
 obj:=λi h st b hb=>by
  have e:b=it:=by simpa using hb
  subst e;obtain⟨o,e,c,d⟩:=st;exact⟨o,e,λv z=>by rw[d]at z;cases z⟩
 keep:=λi h h' st k=>st.at λo e=>k it (by simp) o e
 item:=by
  intro X hP hw hK hc i pins s σ H E I hf st hg;subst hP hw hK;obtain⟨xs,x,hq,hx⟩:=hg;obtain⟨its,rv,p,hz⟩:=I.tuple hq;obtain⟨u,hu,ru⟩:=rv.get hx;obtain⟨f0,f1,f2,f3,f4,f5⟩:=hf it (by simp);refine wpAny_pyNext_tuple_item st (show s.heap.IsTuple a its.toArray from p) (x:=u) (by simpa using hu) λh' st' sb=>?_;have I1:Inv X pins σ H { s with heap:=h' }:=I.turned (t':=s.toks) (λb o hb e=>(sb.2 b hb).trans e) f0 f1 f3 f4 f5;obtain⟨o,e,c,d⟩:=id st';exact⟨u,rfl,ve (s:={ s with heap:=h' }) e c d (by decide) ⟨x,H,I1,ru,⟨rfl,λys hy=>by rw[I.uz hy hq];exact hx⟩,st',λb hb=>(hf b hb).1⟩⟩
 done:=by
  intro X hP hw hK hc i pins s σ H E I hf st hg;subst hP hw hK;obtain⟨xs,hq,hx⟩:=hg;obtain⟨its,rv,p,hz⟩:=I.tuple hq;obtain⟨f0,f1,f2,f3,f4,f5⟩:=hf it (by simp);have hl:=rv.length;exact wpAny_pyNext_tuple_end (I.ok.hd hc) st (show s.heap.IsTuple a its.toArray from p) (by simp;omega) λh' eb=>⟨rfl,I.turned (t':=s.toks) (λb o hb e=>eb b o hb e) f0 f1 f3 f4 f5⟩
 self:=λ_ _ _ _ _ st h=>wpAny_pyIter_tupleiter st h
theorem AK{P:Program}{w:World}{K:NO}{tg:Expr}(it:Addr)(lo:Int)(n:Nat):Turn P w K tg (Itr lo n) [it] it (λi h=>IsRangeIter h it (lo+(i:Nat)*1) ((n:Int)-(i:Nat)) 1)where
 mem:=by simp
 obj:=λi h st b hb=>by
  have e:b=it:=by simpa using hb
  subst e;exact⟨_,st,λv z=>by
   have z':Data.fields _=Data.cell v:=z;cases z'⟩
 keep:=λi h h' st k=>k it (by simp) _ st
 item:=by
  intro X hP hw hK hc i pins s σ H E I hf st hg;subst hP hw hK;obtain⟨f0,f1,f2,f3,f4,f5⟩:=hf it (by simp);have W:=Walks.range (prog:=X.prog) (w:=X.w) (I.ok.hd hc) it lo 1 n;refine W.item i s _ _ hg st λv h' tk hv st' kk=>?_;obtain⟨t,rfl⟩:=hv;have I1:Inv X pins σ H { s with heap:=h',toks:=tk }:=I.turned (λb o hb e=>kk b o (by simpa using hb) e) f0 f1 f3 f4 f5;refine⟨_,rfl,ve (s:={ s with heap:=h',toks:=tk }) (n:="range_iterator") st' rfl rfl (by decide) ⟨.int (lo+i),H,I1,⟨t,?_⟩,⟨rfl,rfl⟩,st',λb hb=>(hf b hb).1⟩⟩;rw[Int.mul_one]
 done:=by
  intro X hP hw hK hc i pins s σ H E I hf st hg;subst hP hw hK;obtain⟨f0,f1,f2,f3,f4,f5⟩:=hf it (by simp);exact wpAny_pyNext_range_end (I.ok.hd hc) st (by have:n<=i:=hg;omega) λh' eb=>⟨rfl,I.turned (t':=s.toks) (λb o hb e=>eb b o hb e) f0 f1 f3 f4 f5⟩
 self:=λ_ _ _ _ _ st h=>wpAny_pyIter_rangeiter st h
section
variable{X:Cx}{tg:Expr}
theorem xZ{pins:List (Addr×Obj)}{σ:St}{H:Hp}{s:Shared}{R:It->Hp->Prop}{E:Value->Shared->Prop}{lo hi:Int}{t u v:Tok}{tk:Nat}(I:Inv X pins σ H s)(h1:-(2 ^ 62)<=lo)(h2:lo<2 ^ 62)(h3:-(2 ^ 62)<=hi)(h4:hi<2 ^ 62)
  (q:R (Itr lo (hi-lo).toNat) H):wpAny (model X.prog X.w) X.A (pyIter (.ref s.heap.objs.size)) (PIE X pins σ tg R) E { s with heap:=s.heap.push { cls:=.type "range",data:=.fields #[.int lo t,.int hi u,.int 1 v] },toks:=tk }:=by
 refine wpAny_pyIter_range (Xz ..) (small_one h1 h2 h3 h4) ?_;have I1:Inv X pins σ H { s with heap:=s.heap.push { cls:=.type "range",data:=.fields #[.int lo t,.int hi u,.int 1 v] },toks:=tk }:=I.kept λb o e=>NR _ e;refine⟨(s.heap.push { cls:=.type "range",data:=.fields #[.int lo t,.int hi u,.int 1 v] }).objs.size,[(s.heap.push { cls:=.type "range",data:=.fields #[.int lo t,.int hi u,.int 1 v] }).objs.size],_,_,H,rfl,
  I1.kept (t':=tk) λb o e=>NR _ e,AK _ lo (hi-lo).toNat,?_,λb hb=>?_,q⟩
 ·have e1:lo+((0:Nat):Int)*1=lo:=by simp
  have e2:(((hi-lo).toNat:Nat):Int)-((0:Nat):Int)=TR lo hi 1:=by rw[Wx];split<;>omega
  show IsRangeIter _ _ (lo+((0:Nat):Int)*1) ((((hi-lo).toNat:Nat):Int)-((0:Nat):Int)) 1;rw[e1,e2];exact N5 _ rfl
 ·have e:b=(s.heap.push { cls:=.type "range",data:=.fields #[.int lo t,.int hi u,.int 1 v] }).objs.size:=by simpa using hb
  subst e;exact I1.mq (NW _) (I1.hok.fresh (NW _))
def Li(ta:TA):TI:=λσ H R=>ta σ H λvs H1=>∃j:Int,vs=[.int j]/\-(2 ^ 62)<=j/\j<2 ^ 62/\R (Itr 0 j.toNat) H1
def MO(ta:TA):TI:=λσ H R=>ta σ H λvs H1=>∃i j:Int,vs=[.int i,.int j]/\(-(2 ^ 62)<=i/\i<2 ^ 62/\-(2 ^ 62)<=j/\j<2 ^ 62)/\R (Itr i (j-i).toNat) H1
theorem Cq{a:Expr}{ta:TA}{p pos:Pos}(hg:Gl X "range")(hm:X.mg "range"=none)(ha:PA X [a] ta)(hs:starEach [a] X.env=[(false,eval a X.env)]:=by rfl):PI X tg (.Call (.Name "range" p) [a] [] pos) (Li ta):=by
 intro pins s σ H R I h;refine Uw (dH I hg hm VP (OH (thn (ha pos pins s σ H _ I h) λus s1 ⟨vs,H1,I1,r1,q1⟩=>?_) hs rfl));obtain⟨j,e,q1,q2,q⟩:=q1;subst e;cases r1 with
 |cons r rr=>
  cases rr;obtain⟨t,rfl⟩:=r;exact call_range_1 (xZ I1 ⋯ ⋯ q1 q2 (by simpa using q))
theorem Ck{a b:Expr}{ta:TA}{p pos:Pos}(hg:Gl X "range")(hm:X.mg "range"=none)(ha:PA X [a,b] ta)(hs:starEach [a,b] X.env=[(false,eval a X.env),(false,eval b X.env)]:=by rfl)(hs2:starEach [b] X.env=[(false,eval b X.env)]:=by rfl) :
  PI X tg (.Call (.Name "range" p) [a,b] [] pos) (MO ta):=by
 intro pins s σ H R I h;refine Uw (dH I hg hm VP (OH (thn (ha pos pins s σ H _ I h) λus s1 ⟨vs,H1,I1,r1,q1⟩=>?_) (by rw[hs,hs2]) (by rw[hs2];rfl)));obtain⟨i,j,e,⟨q1,q2,q3,q4⟩,q⟩:=q1;subst e;cases r1 with
 |cons r rr=>
  cases rr with
  |cons r' rr=>
   cases rr;obtain⟨t,rfl⟩:=r;obtain⟨t',rfl⟩:=r';exact call_range_2 (xZ I1 q1 q2 q3 q4 q)
def Nk(wi:TI)(g:TG)(tb:TS):TS:=λD σ H=>wi σ H λJ H1=>∃W:Nat->Nat->St->Hp->Prop,(∃m,W 0 m σ H1)/\∀i m σ H,W i m σ H ->
 (J.stop i H/\D.nx σ H)\/(J.go i H/\∃N:St->Hp->Prop,(∀σ' H',N σ' H'->∃m',m'<m/\W (i+1) m' σ' H')/\∀x H',J.yld i H x H'->g x σ H' λσ2 H2=>tb { D with nx:=N,ct:=N,bk:=D.nx } σ2 H2)
def oY(fp:List Addr)(h:Heap):List (Addr×Obj):=fp.filterMap λb=>(h.get? b).map λo=>(b,o)
theorem h9{fp:List Addr}{h:Heap}{b:Addr}{o:Obj}(hb:b∈fp)(e:h.get? b=some o):(b,o)∈oY fp h:=QP.mpr ⟨b,hb,by rw[e];rfl⟩
theorem BE{fp:List Addr}{h:Heap}{p:Addr×Obj}(hp:p∈oY fp h):p.1∈fp/\h.get? p.1=some p.2:=by
 obtain⟨b,hb,e⟩:=QP.mp hp;cases q:h.get? b with
 |none=>rw[q]at e;cases e
 |some o=>
  rw[q]at e;have e':(b,o)=p:=Ou e;subst e';exact⟨hb,q⟩
theorem Inv.pinned{pins:List (Addr×Obj)}{σ:St}{H:Hp}{s:Shared}{fp:List Addr}(I:Inv X pins σ H s)(hf:∀b∈fp,eZ X pins H b)(ho:∀b∈fp,∃o,s.heap.get? b=some o/\∀v,o.data≠.cell v):Inv X (pins++oY fp s.heap) σ H s:=
 I.tT λp hp=>(Oz.mp hp).elim (λz=>I.pin p (Oe _ z)) λz=>by
  obtain⟨hb,e⟩:=BE z;obtain⟨f0,f1,f2,_⟩:=hf p.1 hb;obtain⟨o,e',d⟩:=ho p.1 hb;rw[e]at e';cases e';exact⟨e,f0,f1,f2,d⟩
theorem Inv.kG{pins pl:List (Addr×Obj)}{σ:St}{H:Hp}{s:Shared}(I:Inv X (pins++pl) σ H s):Inv X pins σ H s:=I.tT λp hp=>I.pin p (Oe _ (OR _ hp))
theorem IG{iter:Expr}{body:List Stmt}{wi:TI}{g:TG}{tb:TS}{pos:Pos}(hp:PassesOwn (model X.prog X.w) X.A X.env X.xe)(hc:X.calm=true)(hi:PI X tg iter wi)(hg:PG X tg g)(hb:PSs X body tb)
  (hs:∀x,foldedSetIterable iter X.env x=pure x:=by intro _;rfl):PS X (.For tg iter body [] pos) (Nk wi g tb):=by
 intro pins s σ H D I h;refine wpAny_For (thn (hi pins s σ H _ I h) λv s1 h1=>thn h1 λitv s2 h2=>?_) hs;obtain⟨it,fp,tn,J,H2,e,I2,T,st2,f2,W,⟨m0,w0⟩,turn⟩:=h2;subst e;have stat:∀{H':Hp},(∀b∈fp,H' b=none)->∀b∈fp,eZ X pins H' b:=λhn b hb=>⟨hn b hb,(f2 b hb).2⟩;refine codeAny_forLoop_any (λn s'=>∃i σ' H',Inv X pins σ' H' s'/\tn i s'.heap/\(∀b∈fp,H' b=none)/\W i n σ' H') ?_ m0 ⟨0,σ,H2,I2,st2,λb hb=>(f2 b hb).1,w0⟩;rintro n s3 ⟨i,σ3,H3,I3,st3,fr3,w3⟩;rcases turn i n σ3 H3 w3 with⟨stop,qn⟩ |⟨go,N,hN,step⟩
 ·refine Rk hp (thn (T.done X rfl rfl rfl hc i pins s3 σ3 H3 X.xe I3 (stat fr3) st3 stop) λr s4 ⟨hr,I4⟩=>?_);subst hr;exact Rj ⟨σ3,H3,I4,qn⟩
 ·refine Rk hp (thn (T.item X rfl rfl rfl hc i pins s3 σ3 H3 X.xe I3 (stat fr3) st3 go) λr s4 ⟨u,hr,h4⟩=>?_);subst hr;refine Rk hp (thn h4 λ_ s5 ⟨x,H5,I5,r5,y5,st5,fr5⟩=>?_);have I5':=I5.pinned (stat fr5) (T.obj _ _ st5);refine Rk hp (thn (hg _ s5 σ3 H5 x u _ I5' r5 (step x H5 y5)) λ_ s6 ⟨σ6,H6,I6,q6⟩=>?_);refine Rk hp (thn (hb _ s6 σ6 H6 _ I6 q6) λf s7 q7=>?_);have again:∀{σ7:St}{H7:Hp},Inv X (pins++oY fp s5.heap) σ7 H7 s7->N σ7 H7->∃m,m<n/\∃i σ' H',Inv X pins σ' H' s7/\tn i s7.heap/\(∀b∈fp,H' b=none)/\W i m σ' H':=λ{σ7 H7} I7 n7=>by
   obtain⟨m',hm,w7⟩:=hN σ7 H7 n7;refine⟨m',hm,i+1,σ7,H7,I7.kG,T.keep _ _ _ st5 λb hb o e=>(I7.pin (b,o) (Oe _ (Oe _ (h9 hb e)))).1,λb hb=>?_,w7⟩;obtain⟨o,e,d⟩:=T.obj _ _ st5 b hb;exact(I7.pin (b,o) (Oe _ (Oe _ (h9 hb e)))).2.1
  cases f with
  |next=>obtain⟨σ7,H7,I7,n7⟩:=q7;exact again I7 n7
  |cont=>obtain⟨σ7,H7,I7,n7⟩:=q7;exact again I7 n7
  |brk=>obtain⟨σ7,H7,I7,q7⟩:=q7;exact⟨σ7,H7,I7.kG,q7⟩
  |ret v=>obtain⟨x7,σ7,H7,I7,r7,q7⟩:=q7;exact⟨x7,σ7,H7,I7.kG,r7,q7⟩
end
abbrev R2:=V->V->Hp->VK->Prop
def OpR(X:Cx)(f:Value->Value->Sem Value)(r:R2):Prop:=
 ∀(pins:List (Addr×Obj))(s:Shared)(σ:St)(H:Hp)(x y:V)(v u:Value)(Q:VK),Inv X pins σ H s->RelV x v->RelV y u->r x y H Q ->
  wpAny (model X.prog X.w) X.A (f v u) (EP X pins σ Q) X.xe s
def UnR(X:Cx)(f:Value->Sem Value)(r:V->Hp->VK->Prop):Prop:=
 ∀(pins:List (Addr×Obj))(s:Shared)(σ:St)(H:Hp)(x:V)(v:Value)(Q:VK),Inv X pins σ H s->RelV x v->r x H Q ->
  wpAny (model X.prog X.w) X.A (f v) (EP X pins σ Q) X.xe s
def cG(X:Cx)(f:Value)(r:List V->Hp->VK->Prop):Prop:=
 ∀(pins:List (Addr×Obj))(s:Shared)(σ:St)(H:Hp)(xs:List V)(us:List Value)(Q:VK),Inv X pins σ H s->Vals xs us->r xs H Q ->
  wpAny (model X.prog X.w) X.A (call f us) (EP X pins σ Q) X.xe s
def M7(X:Cx)(r:V->Hp->(Bool->Hp->Prop)->Prop):Prop:=
 ∀(pins:List (Addr×Obj))(s:Shared)(σ:St)(H:Hp)(x:V)(v:Value)(Q:Bool->Hp->Prop),Inv X pins σ H s->RelV x v->r x H Q ->
  wpAny (model X.prog X.w) X.A (truthy v) (TP X pins σ Q) X.xe s
def tOp(r:R2)(ta tb:TE):TE:=λσ H Q=>ta σ H λx H1=>tb σ H1 λy H2=>r x y H2 Q
def tUn(r:V->Hp->VK->Prop)(ta:TE):TE:=λσ H Q=>ta σ H λx H1=>r x H1 Q
def rI(C:Int->Int->Prop)(g:Int->Int->V):R2:=λx y H Q=>∃i j,x=.int i/\y=.int j/\C i j/\Q (g i j) H
def rI0(g:Int->Int->V):R2:=λx y H Q=>∃i j,x=.int i/\y=.int j/\Q (g i j) H
def rU(g:Int->V):V->Hp->VK->Prop:=λx H Q=>∃i,x=.int i/\Q (g i) H
section
variable{X:Cx}{a b c:Expr}{ta tb tc:TE}{pos:Pos}
theorem DM(ha:PE X a ta)(hb:PE X b tb){pins:List (Addr×Obj)}{s:Shared}{σ:St}{H:Hp}{R:V->V->Hp->Prop}(I:Inv X pins σ H s)
  (h:ta σ H λx H1=>tb σ H1 λy H2=>R x y H2) {Q:Value->Shared->Prop} {f:Value->Value->Sem Value}
  (hf:∀v u s2 x y H2,Inv X pins σ H2 s2->RelV x v->RelV y u->R x y H2->wpAny (model X.prog X.w) X.A (f v u) Q X.xe s2) :
  wpAny (model X.prog X.w) X.A (eval a X.env) (λv s₁=>wpAny (model X.prog X.w) X.A (eval b X.env) (λu s₂=>wpAny (model X.prog X.w) X.A (f v u) Q X.xe s₂) X.xe s₁) X.xe s:=by
 refine thn (ha pins s σ H _ I h) λv s1 ⟨x,H1,I1,r1,q1⟩=>?_;refine thn (hb pins s1 σ H1 _ I1 q1) λu s2 ⟨y,H2,I2,r2,q2⟩=>?_;exact hf v u s2 x y H2 I2 r1 r2 q2
theorem La{op:Operator}{r:R2}(ho:OpR X (binaryOp op) r)(ha:PE X a ta)(hb:PE X b tb):PE X (.BinOp a op b pos) (tOp r ta tb):=by
 intro pins s σ H Q I h;exact wpAny_BinOp (DM ha hb I h λv u s2 x y H2 I2 rx ry q=>ho pins s2 σ H2 x y v u Q I2 rx ry q)
theorem MR{op:UnaryOp}{r:V->Hp->VK->Prop}(ho:UnR X (unaryOp op) r)(ha:PE X a ta):PE X (.UnaryOp op a pos) (tUn r ta):=by
 intro pins s σ H Q I h;exact UnaryOp_ (thn (ha pins s σ H _ I h) λv s1 ⟨x,H1,I1,r1,q1⟩=>ho pins s1 σ H1 x v Q I1 r1 q1)
theorem opI{f:Value->Value->Sem Value}{C:Int->Int->Prop}{g:Int->Int->Int}
  (rule:∀(i j:Int)(t u:Tok)(s:Shared)(Q:Value->Shared->Prop)(E:Value->Shared->Prop),C i j->Q (.int (g i j) s.toks) { s with toks:=s.toks+1 }->wpAny (model X.prog X.w) X.A (f (.int i t) (.int j u)) Q E s) :
  OpR X f (rI C λi j=>.int (g i j)):=by
 intro pins s σ H x y v u Q I rx ry h;obtain⟨i,j,rfl,rfl,hc,q⟩:=h;obtain⟨t,rfl⟩:=rx;obtain⟨t',rfl⟩:=ry;exact rule i j t t' s _ _ hc ⟨.int (g i j),H,I.tok _,⟨_,rfl⟩,q⟩
theorem II{f:Value->Value->Sem Value}{g:Int->Int->Int}
  (rule:∀(i j:Int)(t u:Tok)(s:Shared)(Q:Value->Shared->Prop)(E:Value->Shared->Prop),Q (.int (g i j) s.toks) { s with toks:=s.toks+1 }->wpAny (model X.prog X.w) X.A (f (.int i t) (.int j u)) Q E s) :
  OpR X f (rI0 λi j=>.int (g i j)):=by
 intro pins s σ H x y v u Q I rx ry h;obtain⟨i,j,rfl,rfl,q⟩:=h;obtain⟨t,rfl⟩:=rx;obtain⟨t',rfl⟩:=ry;exact rule i j t t' s _ _ ⟨.int (g i j),H,I.tok _,⟨_,rfl⟩,q⟩
theorem zF{f:Value->Value->Sem Value}{g:Int->Int->Bool}
  (rule:∀(i j:Int)(t u:Tok)(s:Shared)(Q:Value->Shared->Prop)(E:Value->Shared->Prop),Q (.bool (g i j)) s->wpAny (model X.prog X.w) X.A (f (.int i t) (.int j u)) Q E s) :
  OpR X f (rI0 λi j=>.bl (g i j)):=by
 intro pins s σ H x y v u Q I rx ry h;obtain⟨i,j,rfl,rfl,q⟩:=h;obtain⟨t,rfl⟩:=rx;obtain⟨t',rfl⟩:=ry;exact rule i j t t' s _ _ ⟨.bl (g i j),H,I,rfl,q⟩
def tu(i j:Int):Prop:=0<j/\j<1073741824
def tj(i j:Int):Prop:=0<=j/\j<=1000000/\i.natAbs<2 ^ 64
def nz(i j:Int):Prop:=(-(2 ^ 64)<i/\i<2 ^ 64)\/(-(2 ^ 64)<j/\j<2 ^ 64)
theorem nz.ok{i j:Int}(h:nz i j):IntMulOk i j:=by
 rcases h with⟨h1,h2⟩ |⟨h1,h2⟩
 ·exact .of_left (Wy h1 h2)
 ·exact .of_right (Wy h1 h2)
theorem KL:OpR X (binaryOp .Add) (rI0 λi j=>.int (i+j)):=II λ_ _ _ _ _ _ _ q=>add_int q
theorem iE:OpR X (binaryOp .Sub) (rI0 λi j=>.int (i-j)):=II λ_ _ _ _ _ _ _ q=>sub_int q
theorem gA:OpR X (binaryOp .Mult) (rI nz λi j=>.int (i*j)):=opI λ_ _ _ _ _ _ _ hc q=>mul_int q hc.ok
theorem y_:OpR X (binaryOp .FloorDiv) (rI tu λi j=>.int (i / j)):=opI λi j _ _ _ _ _ hc q=>by
 have h1:(0:Int)<j:=hc.1;have h2:j<1073741824:=hc.2;exact floordiv_int ⋯ (by rw[Int.fdiv_eq_ediv_of_nonneg i ⋯];exact q) (.inl (PyProof.noPylong_small ⋯))
theorem eR:OpR X (binaryOp .Mod) (rI (λ_ j=>0<j) λi j=>.int (i % j)):=opI λi j _ _ _ _ _ hc q=>by
 have h1:(0:Int)<j:=hc;exact mod_int' ⋯ (by rw[Int.fmod_eq_emod_of_nonneg i ⋯];exact q)
theorem Cm:OpR X (binaryOp .Pow) (rI tj λi j=>.int (i ^ j.toNat)):=opI λ_ _ _ _ _ _ _ hc q=>pow_int_small hc.1 hc.2.1 hc.2.2 q
theorem unI{f:Value->Sem Value}{g:Int->Int}
  (rule:∀(i:Int)(t:Tok)(s:Shared)(Q:Value->Shared->Prop)(E:Value->Shared->Prop),Q (.int (g i) s.toks) { s with toks:=s.toks+1 }->wpAny (model X.prog X.w) X.A (f (.int i t)) Q E s) :
  UnR X f (rU λi=>.int (g i)):=by
 intro pins s σ H x v Q I rx h;obtain⟨i,rfl,q⟩:=h;obtain⟨t,rfl⟩:=rx;exact rule i t s _ _ ⟨.int (g i),H,I.tok _,⟨_,rfl⟩,q⟩
theorem dO:UnR X (unaryOp .USub) (rU λi=>.int (-i)):=unI λ_ _ _ _ _ q=>neg_int q
end
def Ew:V->V->Bool
 | .non,.non=>true | .non,.int _=>true | .int _,.non=>true | .non,.bl _=>true | .bl _,.non=>true | .non,.str _=>true | .str _,.non=>true
 | .int _,.int _=>true | .bl _,.bl _=>true | .str _,.str _=>true | .byt _,.byt _=>true
 | .int _,.str _=>true | .str _,.int _=>true | .bl _,.str _=>true | .str _,.bl _=>true
 |_,_=>false
def rEq:R2:=λx y H Q=>Ew x y=true/\Q (.bl (decide (x=y))) H
def rNe:R2:=λx y H Q=>Ew x y=true/\Q (.bl (!decide (x=y))) H
theorem yV{i j:Int}:decide (V.int i=V.int j)=(i==j):=by
 rw[OW];simp
theorem BF{i j:Bool}:decide (V.bl i=V.bl j)=(i==j):=by
 rw[OW];simp
theorem yP{i j:Str}:decide (V.str i=V.str j)=(i==j):=by
 rw[OW];simp
theorem yv{i j:Array UInt8}:decide (V.byt i=V.byt j)=(i.toList==j.toList):=by
 rw[OW];cases i;cases j;simp
section
variable{X:Cx}{a b c:Expr}{ta tb tc:TE}{pos:Pos}
theorem bK{pins:List (Addr×Obj)}{σ:St}{H:Hp}{s:Shared}{Q:VK}{k k':Bool}(I:Inv X pins σ H s)(q:Q (.bl k) H)(e:k=k'):EP X pins σ Q (.bool k') s:=by
 subst e;exact⟨.bl k,H,I,rfl,q⟩
theorem Mt:OpR X (compareOp .Eq) rEq:=by
 intro pins s σ H x y v u Q I rx ry h;obtain⟨hs,q⟩:=h;cases x with
 |non=>
  cases rx;cases y with
  |non=>cases ry;exact WS (bK I q (by simp))
  |bl j=>cases ry;exact WT (bK I q (by simp))
  |int j=>obtain⟨t',rfl⟩:=ry;exact W8 (bK I q (by simp))
  |str j=>obtain⟨t',rfl⟩:=ry;exact W9 (bK I q (by simp))
  |_=>exact absurd (show false=true from hs) Od
 |bl i=>
  cases rx;cases y with
  |non=>cases ry;exact WU (bK I q (by simp))
  |bl j=>cases ry;exact eq_bool (bK I q BF)
  |str j=>obtain⟨t',rfl⟩:=ry;exact WV (bK I q (by simp))
  |_=>exact absurd (show false=true from hs) Od
 |int i=>
  obtain⟨t,rfl⟩:=rx;cases y with
  |non=>cases ry;exact W_ (bK I q (by simp))
  |int j=>obtain⟨t',rfl⟩:=ry;exact eq_int (bK I q yV)
  |str j=>obtain⟨t',rfl⟩:=ry;exact Xa (bK I q (by simp))
  |_=>exact absurd (show false=true from hs) Od
 |str i=>
  obtain⟨t,rfl⟩:=rx;cases y with
  |non=>cases ry;exact Xb (bK I q (by simp))
  |bl j=>cases ry;exact WW (bK I q (by simp))
  |int j=>obtain⟨t',rfl⟩:=ry;exact Xc (bK I q (by simp))
  |str j=>obtain⟨t',rfl⟩:=ry;exact eq_str (bK I q yP)
  |_=>exact absurd (show false=true from hs) Od
 |byt i=>
  obtain⟨t,rfl⟩:=rx;cases y with
  |byt j=>obtain⟨t',rfl⟩:=ry;exact PySem.W.eq_bytes (bK I q yv)
  |_=>exact absurd (show false=true from hs) Od
 |_=>cases y<;>exact absurd (show false=true from hs) Od
theorem Ll:OpR X (compareOp .NotEq) rNe:=by
 intro pins s σ H x y v u Q I rx ry h;obtain⟨hs,q⟩:=h;cases x with
 |non=>
  cases rx;cases y with
  |non=>cases ry;exact WY (bK I q (by simp))
  |bl j=>cases ry;exact WZ (bK I q (by simp))
  |int j=>obtain⟨t',rfl⟩:=ry;exact Xd (bK I q (by simp))
  |str j=>obtain⟨t',rfl⟩:=ry;exact Xe (bK I q (by simp))
  |_=>exact absurd (show false=true from hs) Od
 |bl i=>
  cases rx;cases y with
  |non=>cases ry;exact W2 (bK I q (by simp))
  |bl j=>cases ry;exact ne_bool (bK I q (OZ not BF))
  |str j=>obtain⟨t',rfl⟩:=ry;exact W3 (bK I q (by simp))
  |_=>exact absurd (show false=true from hs) Od
 |int i=>
  obtain⟨t,rfl⟩:=rx;cases y with
  |non=>cases ry;exact Xf (bK I q (by simp))
  |int j=>obtain⟨t',rfl⟩:=ry;exact ne_int (bK I q (OZ not yV))
  |str j=>obtain⟨t',rfl⟩:=ry;exact Xg (bK I q (by simp))
  |_=>exact absurd (show false=true from hs) Od
 |str i=>
  obtain⟨t,rfl⟩:=rx;cases y with
  |non=>cases ry;exact Xh (bK I q (by simp))
  |bl j=>cases ry;exact W4 (bK I q (by simp))
  |int j=>obtain⟨t',rfl⟩:=ry;exact Xi (bK I q (by simp))
  |str j=>obtain⟨t',rfl⟩:=ry;exact ne_str (bK I q (OZ not yP))
  |_=>exact absurd (show false=true from hs) Od
 |byt i=>
  obtain⟨t,rfl⟩:=rx;cases y with
  |byt j=>obtain⟨t',rfl⟩:=ry;exact PySem.W.ne_bytes (bK I q (OZ not yv))
  |_=>exact absurd (show false=true from hs) Od
 |_=>cases y<;>exact absurd (show false=true from hs) Od
theorem gW:OpR X (compareOp .Lt) (rI0 λi j=>.bl (decide (i<j))):=zF λ_ _ _ _ _ _ _ q=>lt_int q
theorem ef:OpR X (compareOp .LtE) (rI0 λi j=>.bl (decide (i<=j))):=zF λ_ _ _ _ _ _ _ q=>le_int q
theorem jU:OpR X (compareOp .Gt) (rI0 λi j=>.bl (decide (j<i))):=zF λ_ _ _ _ _ _ _ q=>gt_int q
theorem L4:OpR X (compareOp .GtE) (rI0 λi j=>.bl (decide (j<=i))):=zF λ_ _ _ _ _ _ _ q=>ge_int q
theorem Ie:OpR X (compareOp .Is) (λx y H Q=>y=.non/\Q (.bl (decide (x=.non))) H):=by
  intro pins s σ H x y v u Q I rx ry h;obtain⟨rfl,q⟩:=h;cases ry;refine is_none_gen (bK I q ?_);cases x<;>first
    |(cases rx;rfl)
    |(obtain⟨t,rfl⟩:=rx;rfl)
theorem F1:OpR X (compareOp .IsNot) (λx y H Q=>y=.non/\Q (.bl (!decide (x=.non))) H):=by
  intro pins s σ H x y v u Q I rx ry h;obtain⟨rfl,q⟩:=h;cases ry;refine isnot_none_gen (bK I q ?_);cases x<;>first
    |(cases rx;rfl)
    |(obtain⟨t,rfl⟩:=rx;rfl)
theorem OpR.or{f:Value->Value->Sem Value}{r r':R2}(h:OpR X f r)(h':OpR X f r'):OpR X f (λx y H Q=>r x y H Q\/r' x y H Q):=by
 intro pins s σ H x y v u Q I rx ry q;rcases q with q |q
 ·exact h pins s σ H x y v u Q I rx ry q
 ·exact h' pins s σ H x y v u Q I rx ry q
theorem A3(b:Expr){op:CmpOp}(h:op≠.In:=by decide)(h2:op≠.NotIn:=by decide):behindInMarks op b=false:=by
  have e1:(op==CmpOp.In)=false:=by cases op<;>first |rfl |exact absurd rfl h
  have e2:(op==CmpOp.NotIn)=false:=by cases op<;>first |rfl |exact absurd rfl h2
  cases b<;>simp[behindInMarks,e1,e2]
theorem Gp{op:CmpOp}{r:R2}(ho:OpR X (compareOp op) r)(ha:PE X a ta)(hb:PE X b tb)(hm:behindInMarks op b=false):PE X (.Compare a [op] [b] pos) (tOp r ta tb):=by
 intro pins s σ H Q I h;exact wpAny_Compare1 (DM ha hb I h λv u s2 x y H2 I2 rx ry q=>ho pins s2 σ H2 x y v u Q I2 rx ry q) hm
def zm(t:TE):TT:=λσ H Q=>t σ H λx H'=>∃k,x=.bl k/\Q k H'
theorem Gj{op:CmpOp}{r:R2}(ho:OpR X (compareOp op) r)(ha:PE X a ta)(hb:PE X b tb)(hm:behindInMarks op b=false):PT X (.Compare a [op] [b] pos) (zm (tOp r ta tb)):=by
 intro pins s σ H Q I h;refine wpAny_isTrue_Compare1 (thn (ha pins s σ H _ I h) λv s1 ⟨x,H1,I1,r1,q1⟩=>thn (hb pins s1 σ H1 _ I1 q1) λu s2 ⟨y,H2,I2,r2,q2⟩=>
  thn (ho pins s2 σ H2 x y v u _ I2 r1 r2 q2) λc s3 ⟨z,H3,I3,r3,k,e,q3⟩=>?_) hm
 subst e;cases r3;exact O3 ⟨H3,I3,q3⟩
def xO(r r':R2)(ta tb tc:TE):TE:=λσ H Q=>ta σ H λx H1=>tb σ H1 λy H2=>r x y H2 λz H3=>∃k,z=.bl k /\
 (if k=true then tc σ H3 λw' H4=>r' y w' H4 Q else Q (.bl false) H3)
theorem Dj{op op':CmpOp}{r r':R2}(ho:OpR X (compareOp op) r)(ho':OpR X (compareOp op') r')(ha:PE X a ta)(hb:PE X b tb)(hc:PE X c tc)
  (hm:lastMarks [op,op'] [b,c]=false:=by with_unfolding_all rfl):PE X (.Compare a [op,op'] [b,c] pos) (xO r r' ta tb tc):=by
 intro pins s σ H Q I h;refine Compare_chain (thn (ha pins s σ H _ I h) λv s1 ⟨x,H1,I1,r1,q1⟩=>chain_link (thn (hb pins s1 σ H1 _ I1 q1) λu s2 ⟨y,H2,I2,r2,q2⟩=>
  thn (ho pins s2 σ H2 x y v u _ I2 r1 r2 q2) λd s3 ⟨z,H3,I3,r3,k,e,q3⟩=>?_)) hm
 subst e;cases r3;refine O3 ?_;cases k with
 |false=>exact Xj ⟨.bl false,H3,I3,rfl,q3⟩
 |true=>exact Xk (chain_last (thn (hc pins s3 σ H3 _ I3 q3) λw' s4 ⟨z',H4,I4,r4,q4⟩=>ho' pins s4 σ H4 y z' u w' Q I4 r2 r4 q4))
theorem EE{op op':CmpOp}{r r':R2}(ho:OpR X (compareOp op) r)(ho':OpR X (compareOp op') r')(ha:PE X a ta)(hb:PE X b tb)(hc:PE X c tc)
  (hm:lastMarks [op,op'] [b,c]=false:=by with_unfolding_all rfl):PT X (.Compare a [op,op'] [b,c] pos) (zm (xO r r' ta tb tc)):=by
 intro pins s σ H Q I h;refine isTrue_chain (thn (ha pins s σ H _ I h) λv s1 ⟨x,H1,I1,r1,q1⟩=>Wt (thn (hb pins s1 σ H1 _ I1 q1) λu s2 ⟨y,H2,I2,r2,q2⟩=>
  thn (ho pins s2 σ H2 x y v u _ I2 r1 r2 q2) λd s3 ⟨z,H3,I3,r3,k,e,q3⟩=>?_)) hm
 subst e;cases r3;refine O3 ?_;cases k with
 |false=>
  obtain⟨k',e',q'⟩:=q3;cases e';exact Xj ⟨H3,I3,q'⟩
 |true=>
  refine Xk (test_last (thn (hc pins s3 σ H3 _ I3 q3) λw' s4 ⟨z',H4,I4,r4,q4⟩=>thn (ho' pins s4 σ H4 y z' u w' _ I4 r2 r4 q4) λd' s5 ⟨z2,H5,I5,r5,k2,e2,q5⟩=>?_));subst e2;cases r5;exact O3 ⟨H5,I5,q5⟩
def EB(K:NO)(x:V)(H:Hp)(k:Bool):Prop:=
 match x with
 | .non=>k=false
 | .bl b=>k=b
 | .int i=>k=(i != 0)
 | .str y=>y.length<=sizeLine/\k=((y.length:Int) != 0)
 | .byt y=>y.size<=sizeLine/\k=((y.size:Int) != 0)
 | .ref p=>(∃xs,SqL K H p xs/\k=!xs.isEmpty)\/(∃xs,SqT K H p xs/\k=!xs.isEmpty)\/∃kvs,H p=some (.dK kvs)/\k=!kvs.isEmpty
 |_=>False
theorem zA{Z:Type}{kvs:List (Z×V)}{vs:List (Z×Value)}(r:KV kvs vs):(!vs.isEmpty)=!kvs.isEmpty:=by
 cases r<;>rfl
theorem sy{xs:List V}{its:List Value}(r:Vals xs its):(!its.toArray.isEmpty)=!xs.isEmpty:=by
 cases r<;>simp
theorem kD:(sizeLine:Nat)<2 ^ 63:=by rw[RZ];decide
theorem J7:M7 X (λx H Q=>∃k,EB X.K x H k/\Q k H):=by
 intro pins s σ H x v Q I rx h;obtain⟨k,e,q⟩:=h;have hl:=kD;have hs:sizeLine=16777216:=RZ;cases x with
 |non=>
  cases rx;have e':k=false:=e;subst e';exact truthy_none ⟨H,I,q⟩
 |bl b=>
  cases rx;have e':k=b:=e;subst e';exact O3 ⟨H,I,q⟩
 |int i=>
  obtain⟨t,rfl⟩:=rx;have e':k=(i != 0):=e;subst e';exact PySem.P.truthy_int ⟨H,I,q⟩
 |str y=>
  obtain⟨t,rfl⟩:=rx;obtain⟨hy,e'⟩:y.length<=sizeLine/\k=((y.length:Int) != 0):=e;subst e';exact PySem.P.truthy_str ⋯ ⟨H,I.tok _,q⟩
 |byt y=>
  obtain⟨t,rfl⟩:=rx;obtain⟨hy,e'⟩:y.size<=sizeLine/\k=((y.size:Int) != 0):=e;subst e';exact PySem.W.truthy_bytes ⋯ ⟨H,I.tok _,q⟩
 |ref p=>
  cases rx;have e':(∃xs,SqL X.K H p xs/\k=!xs.isEmpty)\/(∃xs,SqT X.K H p xs/\k=!xs.isEmpty)\/∃kvs,H p=some (.dK kvs)/\k=!kvs.isEmpty:=e;rcases e' with⟨xs,hx,e'⟩ |⟨xs,hx,e'⟩ |⟨kvs,hx,e'⟩
  ·subst e';obtain⟨its,r,pl,hz⟩:=I.list hx;have hlen:=r.length;exact wpAny_truthy_list pl.isList (by simp only[NX];omega) ⟨H,I.tok _,by rw[sy r];exact q⟩
  ·subst e';obtain⟨its,r,pl,hz⟩:=I.tuple hx;have hlen:=r.length;exact truthy_tuple pl (by simp only[NX];omega) ⟨H,I.tok _,by rw[sy r];exact q⟩
  ·subst e';obtain⟨hz,hS,vs,r,m⟩:kvs.length<=sizeLine/\(p==sysModules)=false/\∃vs,KV kvs vs/\s.heap.DictOf (tw X.prog X.w) p vs:=I.hok p _ hx;have hlen:kvs.length=vs.length:=Ww r;exact wpAny_truthy_dict hS m ⋯ ⟨H,I.tok _,by rw[zA r];exact q⟩
 |_=>exact(show False from e).elim
theorem DF(ha:PE X a ta)(he:∀whole,isTrue a X.env whole=(do let v<-whole;standAt a.pos;holding [v] (truthy v))) :
  PT X a (λσ H Q=>ta σ H λx H'=>∃k,EB X.K x H' k/\Q k H'):=by
 intro pins s σ H Q I h;exact isTrue_plain (thn (ha pins s σ H _ I h) λv s1 ⟨x,H1,I1,r1,q1⟩=>J7 pins s1 σ H1 x v Q I1 r1 q1) (he _)
theorem AN:OpR X (binaryOp .Add) (λx y H Q=>∃i j,x=.str i/\y=.str j/\i.length+j.length<=sizeLine/\Q (.str (i++j)) H):=by
 intro pins s σ H x y v u Q I rx ry h;obtain⟨i,j,rfl,rfl,hz,q⟩:=h;obtain⟨t,rfl⟩:=rx;obtain⟨t',rfl⟩:=ry;exact add_str (λt' tk=>⟨.str (i++j),H,I.tok _,⟨_,rfl⟩,q⟩) hz
theorem vals1{x:V}{us:List Value}(r:Vals [x] us):∃u,us=[u]/\RelV x u:=by
 cases r with
 |cons r1 r2=>cases r2;exact⟨_,rfl,r1⟩
theorem vals2{x y:V}{us:List Value}(r:Vals [x,y] us):∃u w',us=[u,w']/\RelV x u/\RelV y w':=by
 cases r with
 |cons r1 r2=>
  cases r2 with
  |cons r3 r4=>cases r4;exact⟨_,_,rfl,r1,r3⟩
theorem BP(hc:X.calm=true):cG X (.builtin "max") (λxs H Q=>∃i j,xs=[.int i,.int j]/\Q (.int (if j>i then j else i)) H):=by
 intro pins s σ H xs us Q I r h;obtain⟨i,j,rfl,q⟩:=h;obtain⟨u,w',rfl,⟨t,rfl⟩,⟨t',rfl⟩⟩:=vals2 r;refine max_two_ints (I.ok.hd hc) λh' tk k=>⟨_,H,I.kept k,?_,q⟩;by_cases hj:j>i
 ·rw[NT hj,NT hj];exact⟨_,rfl⟩
 ·rw[N1 hj,N1 hj];exact⟨_,rfl⟩
theorem BR(hc:X.calm=true):cG X (.builtin "min") (λxs H Q=>∃i j,xs=[.int i,.int j]/\Q (.int (if j<i then j else i)) H):=by
 intro pins s σ H xs us Q I r h;obtain⟨i,j,rfl,q⟩:=h;obtain⟨u,w',rfl,⟨t,rfl⟩,⟨t',rfl⟩⟩:=vals2 r;refine min_two_ints (I.ok.hd hc) λh' tk k=>⟨_,H,I.kept k,?_,q⟩;by_cases hj:j<i
 ·rw[NT hj,NT hj];exact⟨_,rfl⟩
 ·rw[N1 hj,N1 hj];exact⟨_,rfl⟩
def Nz(K:NO)(x:V)(H:Hp)(n:Nat):Prop:=
 match x with
 | .str y=>y.length<=sizeLine/\n=y.length
 | .byt y=>y.size<=sizeLine/\n=y.size
 | .ref p=>(∃xs,SqL K H p xs/\n=xs.length)\/∃xs,SqT K H p xs/\n=xs.length
 |_=>False
theorem qV:cG X (.builtin "len") (λxs H Q=>∃x n,xs=[x]/\Nz X.K x H n/\Q (.int n) H):=by
 intro pins s σ H xs us Q I r h;obtain⟨x,n,rfl,e,q⟩:=h;obtain⟨u,rfl,rx⟩:=vals1 r;have hl:=kD;have hs:sizeLine=16777216:=RZ;cases x with
 |str y=>
  obtain⟨t,rfl⟩:=rx;obtain⟨hy,e'⟩:y.length<=sizeLine/\n=y.length:=e;subst e';exact len_str ⋯ ⟨.int _,H,I.tok _,⟨_,rfl⟩,q⟩
 |byt y=>
  obtain⟨t,rfl⟩:=rx;obtain⟨hy,e'⟩:y.size<=sizeLine/\n=y.size:=e;subst e';exact PySem.W.len_bytes ⋯ ⟨.int _,H,I.tok _,⟨_,rfl⟩,q⟩
 |ref p=>
  cases rx;have e':(∃xs,SqL X.K H p xs/\n=xs.length)\/∃xs,SqT X.K H p xs/\n=xs.length:=e;rcases e' with⟨xs,hx,e'⟩ |⟨xs,hx,e'⟩
  ·subst e';obtain⟨its,r',pl,hz⟩:=I.list hx;have hlen:=r'.length;exact UO pl.isList (by simp only[NX];omega) ⟨.int xs.length,H,I.tok _,⟨_,by simp only[NX];rw[hlen]⟩,q⟩
  ·subst e';obtain⟨its,r',pl,hz⟩:=I.tuple hx;have hlen:=r'.length;exact len_tuple pl (by simp only[NX];omega) ⟨.int xs.length,H,I.tok _,⟨_,by simp only[NX];rw[hlen]⟩,q⟩
 |_=>exact(show False from e).elim
end
structure Dt(h:Heap)(x dx C:Addr)(mA:Str->Option Value):Prop where
 obj:h.get? x=some (T2 C dx)
 ns:h.Ns1 dx mA
 ne:dx≠x
theorem Cp{h:Heap}{dx:Addr}{mA:Str->Option Value}(n:h.Ns1 dx mA):∃od,h.get? dx=some od/\∀name,Uk name od=some (mA name):=by
 obtain⟨o,es,ep,ho,hd,hk,_,hm⟩:=n;refine⟨o,ho,λname=>?_⟩;have e:=hm name;unfold nsFind findBy at e;rw[<-Array.find?_toList]at e;unfold Uk;rw[hd];dsimp only;split
 ·rename_i y q;rw[q]at e;exact OZ some e
 ·rename_i q;rw[q]at e;have a:es.toList.any (·.refKey)=false:=by
   rw[Vi];intro y hy;obtain⟨z,t,hkey⟩:=hk y (Qs.mp hy);simp[DictEntry.refKey,hkey]
  have a':¬es.toList.any (·.refKey)=true:=by rw[a];exact Od
  rw[N1 a'];exact OZ some e
theorem Dt.look{h:Heap}{x dx C:Addr}{mA:Str->Option Value}(I:Dt h x dx C mA):∃od,PySem.W.InstAt h x (T2 C dx) C (some od)/\∀name,Uk name od=some (mA name):=
 let⟨od,ho,hl⟩:=Cp I.ns
 ⟨od,⟨I.obj,rfl,rfl,ho⟩,hl⟩
section
variable{P:Program}{w:World}{H H':Hp}{h h':Heap}{a C dx:Addr}{fs fs':List (Str×V)}
theorem Gy(hok:HOk P w H h)(e:H a=some (.ins C dx fs)):∃mA,Dt h a dx C mA/\(∀f,D5 (fs.lookup f) (mA f))/\W7 mA (fs.map (·.1))/\fs.length<=1000/\H dx=some (.own a):=by
 obtain⟨d,z,ne,ob,mA,n,r,q⟩:=(show cR P w H h a (.ins C dx fs)from hok a _ e);exact⟨mA,⟨ob,n,ne⟩,r,q,z,d⟩
end
structure Cls(K:NO)(C:Addr):Prop where
 pg:VD K C Ys=true
 hd:PySem.W.hasDictIn K C=true
 po:PySem.W.plainOver K C=true
 sa:Wb K (.ref C) "__setattr__"=some (some (.builtin "object.__setattr__"))
theorem Cls.get{K:NO}{C:Addr}(c:Cls K C)(f:Str):VD K C f=true:=c.pg
section
variable{X:Cx}{pins:List (Addr×Obj)}{σ:St}{H:Hp}{s:Shared}{A:Around}{E:Value->Shared->Prop}{Q:Value->Shared->Prop}{c:Value}{b:Bool}
inductive i9(K:NO)(H:Hp):V->Value->Prop where
 |non:i9 K H .non (.type "NoneType")
 |bl (x:Bool):i9 K H (.bl x) (.type "bool")
 |int (i:Int):i9 K H (.int i) (.type "int")
 |str (x:Str):i9 K H (.str x) (.type "str")
 |flt (x:UInt64):i9 K H (.flt x) (.type "float")
 |lst {a:Addr} {xs:List V} (e:H a=some (.lst xs)):i9 K H (.ref a) (.type "list")
 |frz {a:Addr} {o:Obj} {xs:List V} (e:H a=some (.frz o (.lst xs))):i9 K H (.ref a) (.type "list")
 |tup {a:Addr} {xs:List V} (e:H a=some (.tup xs)):i9 K H (.ref a) (.type "tuple")
 |dK {a:Addr} {kvs:List (Key×V)} (e:H a=some (.dK kvs)):i9 K H (.ref a) (.type "dict")
 |dT {a:Addr} {kvs:List (List Key×V)} (e:H a=some (.dT kvs)):i9 K H (.ref a) (.type "dict")
 |ins {a C dx:Addr} {fs:List (Str×V)} (e:H a=some (.ins C dx fs)) (cl:Cls K C) (ha:Wb K (.ref C) "__class__"=some (some (.builtin "object.__class__")))
   (hn:PySem.W.specialIn K (.builtin "object.__class__") "__get__"=some (some (.builtin "getset_descriptor.__get__"))) (htk:PySem.W.takesIn K (.builtin "object.__class__")=some true)
   (hm:PySem.W.mroIn K C (.type "object")=some true):i9 K H (.ref a) (.ref C)
theorem CQ{x:V}{u t:Value}(I:Inv X pins σ H s)(rx:RelV x u)(ty:i9 X.K H x t)(e:Wc X.K t c=some b)(h:∀tk,Q (.bool b) { s with toks:=tk }) :
  wpAny (model X.prog X.w) A (call (.builtin "isinstance") [u,c]) Q E s:=by
 cases ty with
 |non=>cases(show u=Value.none from rx);exact Pq PySem.W.kitx_none I.kIn True.intro e (λz=>nomatch z) h
 |bl y=>cases(show u=Value.bool y from rx);exact Pq PySem.W.kitx_bool I.kIn True.intro e (λz=>nomatch z) h
 |int i=>obtain⟨t,q⟩:=(show∃t,u=Value.int i t from rx);cases q;exact Pq PySem.W.kitx_int I.kIn True.intro e (λz=>nomatch z) h
 |str y=>obtain⟨t,q⟩:=(show∃t,u=Value.str y t from rx);cases q;exact Pq PySem.W.kitx_str I.kIn True.intro e (λz=>nomatch z) h
 |flt y=>obtain⟨t,q⟩:=(show∃t,u=Value.float y t from rx);cases q;exact Pq PySem.W.kitx_float I.kIn True.intro e (λz=>nomatch z) h
 | @lst a xs ea=>
  cases(show u=Value.ref a from rx);obtain⟨_,_,n,_,h1⟩:=(show cR X.prog X.w H s.heap a (.lst xs)from I.hok a _ ea);exact Pq Vj I.kIn ⟨_,h1,rfl⟩ e (λz=>nomatch z) h
 | @frz a ob xs ea=>
  cases(show u=Value.ref a from rx);obtain⟨_,_,_,n,_,h1⟩:=(show cR X.prog X.w H s.heap a (.frz ob (.lst xs))from I.hok a _ ea);exact Pq Vj I.kIn ⟨_,h1,rfl⟩ e (λz=>nomatch z) h
 | @tup a xs ea=>
  cases(show u=Value.ref a from rx);obtain⟨_,_,_,p⟩:=(show cR X.prog X.w H s.heap a (.tup xs)from I.hok a _ ea);obtain⟨o,h1,h2,_⟩:=p;exact Pq PySem.W.kitx_tuple I.kIn ⟨o,h1,h2⟩ e (λz=>nomatch z) h
 | @dK a kvs ea=>
  cases(show u=Value.ref a from rx);obtain⟨_,_,vs,_,p⟩:=(show cR X.prog X.w H s.heap a (.dK kvs)from I.hok a _ ea);obtain⟨o,es,ep,h1,h2,_⟩:=p;exact Pq Vk I.kIn ⟨o,h1,h2.1⟩ e (λz=>nomatch z) h
 | @dT a kvs ea=>
  cases(show u=Value.ref a from rx);obtain⟨_,_,xs,_,o,es,ep,h1,h2,_⟩:=(show cR X.prog X.w H s.heap a (.dT kvs)from I.hok a _ ea);exact Pq Vk I.kIn ⟨o,h1,h2.1⟩ e (λz=>nomatch z) h
 | @ins a C dx fs ea cl ha hn htk hm=>
  cases(show u=Value.ref a from rx);obtain⟨mA,O,_⟩:=Gy I.hok ea;obtain⟨od,J,_⟩:=O.look;exact Pq (PySem.W.kitx_own (cl.get _) cl.hd ha hn htk hm) I.kIn J e (λz=>nomatch z) h
end
structure dE(k:Nat)(A:Around):Prop where
 hd:A.handled=none
 dp:A.depth+3*k+5<recursionLimit
 un:A.units+16*k+200<cLine
theorem dE.mono{j k:Nat}{A:Around}(r:dE k A)(h:j<=k):dE j A:=⟨r.hd,by have:=r.dp;omega,by have:=r.un;omega⟩
theorem dE.deeper{k:Nat}{A:Around}(r:dE (k+1) A)(env:Env):dE k (A.deeper env):=
 ⟨r.hd,by have:=r.dp;show A.depth+1+3*k+5<_;omega,by have:=r.un;show A.units+3+16*k+200<_;omega⟩
theorem dE.depth{k:Nat}{A:Around}(r:dE k A):A.depth<recursionLimit:=by have:=r.dp;omega
theorem dE.units{k:Nat}{A:Around}(r:dE k A):A.units+64<cLine:=by have:=r.un;omega
def Kb:TA:=λ_ H Q=>Q [] H
def Le(ta:TE)(tr:TA):TA:=λσ H Q=>ta σ H λx H1=>tr σ H1 λxs H2=>Q (x::xs) H2
section
variable{X:Cx}{e:Expr}{es:List Expr}{te:TE}{t:TA}{pos:Pos}
theorem iw:PA X [] Kb:=λ_ _ _ _ H Q I h=>Te ⟨[],H,I,.nil,h⟩
theorem eP(ha:PE X e te)(hr:PA X es t)(hs:starEach (e::es) X.env=(false,eval e X.env)::starEach es X.env:=by rfl):PA X (e::es) (Le te t):=by
 intro pos pins s σ H Q I h;rw[hs];show wpAny _ _ (spliced ((false,eval e X.env)::backTo pos (starEach es X.env))) _ _ s;refine PK (thn (ha pins s σ H _ I h) λu s1 ⟨x,H1,I1,r1,q1⟩=>?_);exact thn (hr pos pins s1 σ H1 _ I1 q1) λus s2 ⟨xs,H2,I2,r2,q2⟩=>⟨x::xs,H2,I2,.cons r1 r2,q2⟩
def Ng(t:TA):TE:=λσ H Q=>t σ H λxs H1=>xs.length<=sizeLine/\∀p,H1 p=none->Q (.ref p) (upd H1 p (.tup xs))
def NI(t:TA):TE:=λσ H Q=>t σ H λxs H1=>xs.length<=sizeLine/\∀p,H1 p=none->Q (.ref p) (upd H1 p (.lst xs))
theorem IC{x1}(h:PA X es t):PE X (.Tuple es x1 pos) (Ng t):=by
 intro pins s σ H Q I hq;refine wpAny_Tuple_spliced (thn (h pos pins s σ H _ I hq) λus s1 ⟨xs,H1,I1,r,z,q⟩=>⟨by rw[<-r.length];exact z,?_⟩);have hf:H1 s1.heap.objs.size=none:=I1.hok.fresh (NW _);refine⟨.ref s1.heap.objs.size,upd H1 s1.heap.objs.size (.tup xs),I1.laid (t':=s1.toks) (λb u e=>NR _ e) (NW _) ?_,rfl,q _ hf⟩;exact⟨z,us,r,⟨_,N5 _ rfl,rfl,_,rfl⟩⟩
theorem CD(h:PA X es t):PE X (.List es pos) (NI t):=by
 intro pins s σ H Q I hq;refine wpAny_List_spliced (thn (h pos pins s σ H _ I hq) λus s1 ⟨xs,H1,I1,r,z,q⟩=>⟨by rw[<-r.length];exact z,?_⟩);have hf:H1 s1.heap.objs.size=none:=I1.hok.fresh (NW _);refine⟨.ref s1.heap.objs.size,upd H1 s1.heap.objs.size (.lst xs),I1.laid (t':=s1.toks) (λb u e=>NR _ e) (NW _) ?_,rfl,q _ hf⟩;exact⟨z,us,0,r,N5 _ rfl⟩
end
abbrev Sp:=List V->Hp->VK->XK->Prop
abbrev CXT:=List Env->Hp->Shared->XK->Value->Shared->Prop
structure zu(P:Program)(w:World)(K:NO)(mg:Str->Option Value)(base:Heap)(A:Around)(outer:List Env)(s:Shared)(H:Hp):Prop where
 frames:A.frames=some outer
 mod:Mod K mg base
 bs:∀b o,base.get? b=some o->s.heap.get? b=some o/\H b=none
 bsz:base.objs.size<=s.heap.objs.size
 iK:s.heap.FunFrames base outer
 frf:∀b∈frs outer,H b=none
 hok:HOk P w H s.heap
 bare:AllBare s.gens
def CE(outer:List Env)(P:Program)(w:World)(H:Hp)(s:Shared)(Q:VK)(u:Value)(s':Shared):Prop:=
 ∃v H',s'.os=s.os/\AllBare s'.gens/\Un (frs outer) [] H H' s.heap s'.heap/\HOk P w H' s'.heap/\RelV v u/\Q v H'
def CR(CX:CXT)(outer:List Env)(P:Program)(w:World)(H:Hp)(s:Shared)(Q:VK)(E:XK)(r:Result)(s':Shared):Prop:=
 match r with
 | .ok (.ret u)=>CE outer P w H s Q u s'
 | .ok _=>False
 | .error e=>CX outer H s E e s'
structure gr(P:Program)(w:World)(K:NO)(mg:Str->Option Value)(base:Heap)(CX:CXT)(k:Nat)(f:Addr)(fd:FuncData)(ps:List Str)(sp:Sp):Prop where
 len:∀vs H Q E,sp vs H Q E->vs.length=ps.length
 run:∀(A:Around)(outer:List Env)(s:Shared)(H:Hp)(args:Args)(us:List Value)(vs:List V)(Q:VK)(E:XK),dE k A->zu P w K mg base A outer s H->BindsTo s fd args (ps.zip us)->Vals vs us->sp vs H Q E ->
  codeAny (model P w) A (.call (.ref f) args) (CR CX outer P w H s Q E) s
theorem gr.imp{P:Program}{w:World}{K:NO}{mg:Str->Option Value}{base:Heap}{CX:CXT}{k:Nat}{f:Addr}{fd:FuncData}{ps:List Str}{sp sp':Sp}(F:gr P w K mg base CX k f fd ps sp)
  (h:∀vs H Q E,sp' vs H Q E->sp vs H Q E):gr P w K mg base CX k f fd ps sp':=
 ⟨λvs H Q E q=>F.len vs H Q E (h _ _ _ _ q),λA outer s H args us vs Q E hr he hb hv hs=>F.run A outer s H args us vs Q E hr he hb hv (h _ _ _ _ hs)⟩
section
variable{X:Cx}{pins:List (Addr×Obj)}{σ:St}{H:Hp}{s s':Shared}
theorem Inv.NL(I:Inv X pins σ H s):zu X.prog X.w X.K X.mg X.base X.A X.stack s H:=
 ⟨I.ok.frames,I.ok.mod,I.bs,N7 I.ok.bsz I.sz,I.stack,I.tG,I.hok,I.bare⟩
theorem Inv.after{Q:VK}{u:Value}(I:Inv X pins σ H s)(h:CE X.stack X.prog X.w H s Q u s'):EP X pins σ Q u s':=by
 obtain⟨v,H',os,bare,un,hok,r,q⟩:=h;obtain⟨hh,g,d,t,os'⟩:=s';obtain rfl:os'=s.os:=os;exact⟨v,H',I.call (h':=hh) (g':=g) (d':=d) (t':=t) (ch:=[]) un hok bare (λb z=>absurd z (by simp)),r,q⟩
end
def E1(sp:Sp)(dvs:List V)(E:XK)(t:TA):TE:=λσ H Q=>t σ H λvs H1=>sp (vs++dvs) H1 Q E
def Binds(K:NO)(fd:FuncData)(ps:List Str)(ds:List Value):Prop:=
 ∀(s:Shared)(us:List Value),K.In s.heap->(us++ds).length=ps.length->BindsTo s fd ⟨us,[]⟩ (ps.zip (us++ds))
theorem Binds.all{K:NO}{fd:FuncData}{ps:List Str}(h:∀us:List Value,us.length=ps.length->bindArgs fd ⟨us,[]⟩=pure (ps.zip us)):Binds K fd ps []:=λs us _ hl=>by
 rw[Rm]at hl ⊢;exact .of_eq (h us hl)
def Passes(CX:CXT)(X:Cx)(E:XK):Prop:=∀(pins:List (Addr×Obj))(σ:St)(H:Hp)(s:Shared)(e:Value)(s':Shared),Inv X pins σ H s->CX X.stack H s E e s'->X.xe e s'
section
variable{X:Cx}{CX:CXT}{k:Nat}{f C:Addr}{fd:FuncData}{ps:List Str}{sp:Sp}{dvs:List V}{ds:List Value}{E:XK}{x m:Str}{p pos apos:Pos}{e o:Expr}{es:List Expr}{ta:TE}{t:TA}
theorem C3{pins:List (Addr×Obj)}{σ:St}{H:Hp}{s:Shared}{Q:VK}{us:List Value}{vs:List V}(F:gr X.prog X.w X.K X.mg X.base CX k f fd ps sp)(hr:dE k X.A)(hb:Binds X.K fd ps ds)(hd:Vals dvs ds)(hx:Passes CX X E)
  (I:Inv X pins σ H s) (r:Vals vs us) (h:sp (vs++dvs) H Q E):wpAny (model X.prog X.w) X.A (call (.ref f) us) (EP X pins σ Q) X.xe s:=by
 have r2:Vals (vs++dvs) (us++ds):=r.append hd;have hl:(us++ds).length=ps.length:=by rw[<-r2.length];exact F.len _ _ _ _ h
 refine Ux (Ts (F.run X.A X.stack s H ⟨us,[]⟩ (us++ds) (vs++dvs) Q E hr I.NL (hb s us I.kIn hl) r2 h) λr s' hq=>?_);cases r with
 |error e=>exact hx pins σ H s e s' I hq
 |ok fl=>
  cases fl with
  |ret u=>exact I.after hq
  |next=>exact Qc hq
  |brk=>exact Qc hq
  |cont=>exact Qc hq
theorem yZ(F:gr X.prog X.w X.K X.mg X.base CX k f fd ps sp)(hr:dE k X.A)(hg:Gl X x)(hm:X.mg x=some (.ref f))(hk:Qx X.K (.ref f)=true)(hb:Binds X.K fd ps ds)(hd:Vals dvs ds)(hx:Passes CX X E)
  (ha:PA X (e::es) t) (hdb:(x==("__debug__":Str))=false:=by decide) (he:starEach (e::es) X.env=(false,eval e X.env)::starEach es X.env:=by rfl) (hpl:(backTo pos (starEach es X.env)).any (·.1)=false:=by rfl) :
  PE X (.Call (.Name x p) (e::es) [] pos) (E1 sp dvs E t):=by
 intro pins s σ H Q I h;refine Pt (ni I hg hm ?_ hdb);refine PySem.W.callWith_K (h₀:=X.base) I.ok.mod.kin hk (thn (ha pos pins s σ H _ I h) λus s1 ⟨vs,H1,I1,r,q⟩=>⟨I1.kIn,?_⟩) he hpl;exact C3 F hr hb hd hx I1 r q
theorem C9(F:gr X.prog X.w X.K X.mg X.base CX k f fd ps sp)(hr:dE k X.A)(hg:Gl X x)(hm:X.mg x=some (.ref f))(hk:Qx X.K (.ref f)=true)(hb:Binds X.K fd ps ds)(hd:Vals dvs ds)(hx:Passes CX X E)
  (hdb:(x==("__debug__":Str))=false:=by decide):PE X (.Call (.Name x p) [] [] pos) (E1 sp dvs E Kb):=by
 intro pins s σ H Q I h;refine Pt (ni I hg hm ?_ hdb);exact PySem.W.callWith_K0 I.kIn hk (C3 (us:=[]) F hr hb hd hx I .nil h)
end
structure i6(N P:List Str)(sc:Scope):Prop where
 kind:sc.kind=.function
 co:sc.isCoroutine=false
 gen:sc.isGenerator=false
 nd:N.Nodup
 pre:N.take P.length=P
 par:∀x∈P,sc.names.lookup x=some .local\/sc.names.lookup x=some .cell
 nofree:∀y∈sc.names,y.2≠.free
theorem ud{kindOf:Str->Option NameKind}{x:Str}:∀{binds:List (Str×Value)}{m:Str->Option Value},(∀v,(x,v)∉binds)->bindL kindOf binds m x=m x
 | [],_,_=>rfl
 |(n,v)::r,m,h=>by
  unfold bindL;rw[ud λw hw=>h w (Oh _ hw)];split
  ·have:x≠n:=by rintro rfl;exact h v Oq
   simp[this]
  ·rfl
theorem uN{kindOf:Str->Option NameKind}{x:Str}:∀{binds:List (Str×Value)}{m:Str->Option Value},(∀v,(x,v)∉binds)->bindC kindOf binds m x=m x
 | [],_,_=>rfl
 |(n,v)::r,m,h=>by
  unfold bindC;rw[uN λw hw=>h w (Oh _ hw)];split
  ·rfl
  ·have:x≠n:=by rintro rfl;exact h v Oq
   simp[this]
theorem uv{kindOf:Str->Option NameKind}{x:Str}{v:Value}:∀{P:List Str}{vs:List Value}{i:Nat}{m:Str->Option Value},P.Nodup->P[i]?=some x->vs[i]?=some v->kindOf x=some .local ->
  bindL kindOf (P.zip vs) m x=some v
 | [],_,_,_,_,h,_,_=>by simp at h
 |_::_,[],_,_,_,_,h,_=>by simp at h
 |p::P,w::vs,0,m,nd,h1,h2,hk=>by
  simp at h1 h2;subst h1;subst h2;show bindL kindOf ((p,w)::P.zip vs) m p=_;unfold bindL;rw[ud λv hv=>(Pr.mp nd).1 (Rn hv).1,NT hk];simp
 |p::P,w::vs,i+1,m,nd,h1,h2,hk=>by
  show bindL kindOf ((p,w)::P.zip vs) m x=_;unfold bindL;exact uv (i:=i) (Pr.mp nd).2 (by simpa using h1) (by simpa using h2) hk
theorem uf{kindOf:Str->Option NameKind}{x:Str}{v:Value}:∀{P:List Str}{vs:List Value}{i:Nat}{m:Str->Option Value},P.Nodup->P[i]?=some x->vs[i]?=some v->kindOf x≠some .local ->
  bindC kindOf (P.zip vs) m x=some v
 | [],_,_,_,_,h,_,_=>by simp at h
 |_::_,[],_,_,_,_,h,_=>by simp at h
 |p::P,w::vs,0,m,nd,h1,h2,hk=>by
  simp at h1 h2;subst h1;subst h2;show bindC kindOf ((p,w)::P.zip vs) m p=_;unfold bindC;rw[uN λv hv=>(Pr.mp nd).1 (Rn hv).1,N1 hk];simp
 |p::P,w::vs,i+1,m,nd,h1,h2,hk=>by
  show bindC kindOf ((p,w)::P.zip vs) m x=_;unfold bindC;exact uf (i:=i) (Pr.mp nd).2 (by simpa using h1) (by simpa using h2) hk
def start(N:List Str)(vs:List V):St:=vs.map some++N_ (N.length-vs.length) none
def gT(CX:CXT)(P:Program)(w:World)(K:NO)(mg:Str->Option Value)(base:Heap)(N:List Str)(qual:Str)(scope:Scope)(f:Addr)(cd:Value)(A:Around)(outer:List Env)(s:Shared)(H:Hp)(E:XK):Cx where
 prog:=P
 w:=w
 K:=K
 mg:=mg
 base:=base
 A:=A.deeper (envOfC qual scope s.heap.objs.size f cd)
 N:=N
 s₀:=s
 H₀:=H
 env:=envOfC qual scope s.heap.objs.size f cd
 outer:=outer
 stack:=envOfC qual scope s.heap.objs.size f cd::outer
 ex:=[]
 calm:=true
 fn:=λ_=>true
 pn:=[]
 xe:=λe s'=>wpAny (model P w) (A.deeper (envOfC qual scope s.heap.objs.size f cd)) (leaving (envOfC qual scope s.heap.objs.size f cd) e) (λ_ s''=>CX outer H s E e s'') (λe' s''=>CX outer H s E e' s'') s'
theorem xG{sc:Scope}{n:Nat}{x:Str}(h:sc.names.lookup x=some .cell):∃c,(cellsFrom n sc.names []).lookup x=some c:=by
 have q:=T8 sc.names n [] (.inl h);exact QB.mp q
theorem Cb{CX:CXT}{P:Program}{w:World}{K:NO}{mg:Str->Option Value}{base:Heap}{N ps:List Str}{qual:Str}{scope:Scope}{f:Addr}{cd:Value}{A:Around}{outer:List Env}{s s1:Shared}{H:Hp}{E:XK}{us:List Value}{vs:List V}
  (S:i6 N ps scope) (hd:A.handled=none) (e0:zu P w K mg base A outer s H) (hl:vs.length=ps.length) (r:Vals vs us)
  (x:InCallC s s.heap.objs.size (bindL (envOfC qual scope s.heap.objs.size f cd).kindOf (ps.zip us) λ_=>none) (cellsFrom (s.heap.objs.size+1) scope.names []) (bindC (envOfC qual scope s.heap.objs.size f cd).kindOf (ps.zip us) λ_=>none) s1) :
  Inv (gT CX P w K mg base N qual scope f cd A outer s H E) [] (start N vs) H s1:=by
 have hpl:ps.length<=N.length:=by have:=OZ R0 S.pre;rw[OL]at this;omega
 obtain⟨h1,tk,rfl,hk⟩:=x.done;have noA:∀b:Addr,b∉(gT CX P w K mg base N qual scope f cd A outer s H E).ex:=λb z=>absurd (show b∈([]:List Addr)from z) (by simp);refine⟨⟨e0.mod,S.kind,rfl,rfl,NW _,λy z c h1 h2=>?_,λy hy=>?_,λy c _ h=>?_,λ_=>hd,Around.frames_deeper e0.frames,.inr ⟨rfl,rfl⟩,λb z=>absurd z (noA b),e0.bs,e0.bsz,λb _ _=>noA b,λb z=>absurd z (noA b),e0.iK,e0.frf⟩,
  rfl,e0.bare,Un.kept hk,⟨_,x.toInCall.ns,λi y v h1 h2 h3=>?_⟩,λy c h=>⟨_,x.cell y c h⟩,e0.hok.fresh (NW _),λy c h=>?_,λp hp=>absurd (show p∈([]:List (Addr×Obj))from hp) (by simp),e0.hok.kept hk,?_⟩
 ·exact name_of_addr x.apart (O9 h1) (O9 h2)
 ·have hy:scope.names.lookup y=some .cell\/scope.names.lookup y=some .free:=hy;rcases hy with hy |hy
  ·exact xG hy
  ·exact absurd rfl (S.nofree _ (O9 hy))
 ·exact PJ (x.above y c (O9 h))
 ·have hi:i<vs.length:=by
   unfold start at h2;by_cases hi:i<vs.length
   ·exact hi
   ·rw[OA (by simpa using hi)]at h2;rw[Pu]at h2;split at h2<;>cases h2
  have ha:vs[i]?=some v:=by
   unfold start at h2;rw[Oy (by simpa using hi),Ow]at h2;cases e:vs[i]? with
   |none=>rw[e]at h2;cases h2
   |some a=>rw[e]at h2;cases h2;rfl
  obtain⟨u,hu,rv⟩:=r.get ha;have hp:ps[i]?=some y:=by
   rw[<-S.pre,List.getElem?_take_of_lt ⋯];exact h1
  have ndP:ps.Nodup:=by rw[<-S.pre];exact S.nd.sublist (List.take_sublist _ _)
  refine⟨u,rv,?_⟩;rcases S.par y (OE hp)with k |k
  ·exact .inl ⟨k,uv ndP hp hu k⟩
  ·obtain⟨c,e⟩:=xG (n:=s.heap.objs.size+1) k;refine .inr ⟨.inl k,c,e,?_⟩;have q:=x.cell y c e;rw[uf ndP hp hu (by show scope.names.lookup y≠_;rw[k];decide)]at q;exact q
 ·exact e0.hok.fresh (PJ (x.above y c (O9 h)))
 ·unfold start;show _=N.length;rw[ON,tv,P9];omega
theorem Fi{CX:CXT}{P:Program}{w:World}{K:NO}{mg:Str->Option Value}{base:Heap}{k:Nat}{f:Addr}{name qual:Str}{params:Arguments}{body:List Stmt}{scope:Scope}{dV kV doc pm cdv ct oc:Value}{an od:Option Addr}
  {osl:Array (Option Value)} {N ps:List Str} {sp:Sp} (lk:K.lookup f=some ⟨oc,od,.func (QC name qual params body scope dV kV doc pm an cdv ct),osl⟩) (hcd:Sz K cdv qual=true) (S:i6 N ps scope)
  (len:∀vs H Q E,sp vs H Q E->vs.length=ps.length)
  (hbody:∀(A:Around)(outer:List Env)(s:Shared)(H:Hp)(vs:List V)(Q:VK)(E:XK),dE k (A.deeper (envOfC qual scope s.heap.objs.size f cdv))->sp vs H Q E ->
   ∃t,PSs (gT CX P w K mg base N qual scope f cdv A outer s H E) body t/\t { nx:=λ_ H'=>Q .non H',rt:=Q } (start N vs) H) :
  gr P w K mg base CX (k+1) f (QC name qual params body scope dV kV doc pm an cdv ct) ps sp:=by
 refine⟨len,λA outer s H args us vs Q E hr e0 hb r hsp=>?_⟩;have hl:=len _ _ _ _ hsp;have KX:K.In s.heap:=e0.mod.kin.keeps λb o e=>(e0.bs b o e).1;have lim:s.heap.NoLimit:=e0.mod.nolimit.keeps λb o e=>(e0.bs b o e).1;have hkind:∀y∈ps.zip us,scope.names.lookup y.1=some .local\/(scope.names.lookup y.1=some .cell/\((cellsFrom (s.heap.objs.size+1) scope.names []).lookup y.1).isSome=true):=λ⟨n,v⟩ hy=>by
  rcases S.par n (Rn hy).1 with q |q
  ·exact .inl q
  ·exact .inr ⟨q,T8 _ _ _ (.inl q)⟩
 refine codeAny_call_function hr.depth (KX _ _ lk) rfl S.co S.gen rfl (PySem.W.codeRec_of KX hcd) (hb _ _ _ _ ?_);refine wpAny_newFunctionEnv_cells S.kind hkind λenv he s1 x=>?_;subst he;refine⟨lim.keeps x.toInCall.keep,codeAny_func ?_⟩;obtain⟨t,ht,hq⟩:=hbody A outer s H vs Q E (hr.deeper _) hsp;have I:Inv (gT CX P w K mg base N qual scope f cdv A outer s H E) [] (start N vs) H s1:=Cb S hr.hd e0 hl r x;refine Pm (ht [] s1 (start N vs) H _ I hq) (λfl s' hs=>?_) λe s' hs=>hs;have fin:∀{q':St}{H':Hp}{v:V}{u:Value},Inv (gT CX P w K mg base N qual scope f cdv A outer s H E) [] q' H' s'->RelV v u->Q v H'->CE outer P w H s Q u s':=
  λ{q' H' v u} J rv q=>⟨v,H',J.os,J.bare,J.base,J.hok,rv,q⟩
 cases fl with
 |ret u=>
  obtain⟨v,q',H',J,rv,q⟩:=hs;exact fin J rv q
 |next=>
  obtain⟨q',H',J,q⟩:=hs;exact fin (v:=V.non) (u:=Value.none) J rfl q
 |brk=>
  obtain⟨_,_,_,q⟩:=hs;exact Qc q
 |cont=>
  obtain⟨_,_,_,q⟩:=hs;exact Qc q
section
variable{X:Cx}{x:Str}{p pos:Pos}{e:Expr}{es:List Expr}{t:TA}{id T:String}{r:List V->Hp->VK->Prop}
def tCB(r:List V->Hp->VK->Prop)(t:TA):TE:=λσ H Q=>t σ H λvs H1=>r vs H1 Q
theorem De(hc:cG X (.builtin id) r)(hg:Gl X x)(hm:X.mg x=none)(hv:bootBuiltins x=some (.builtin id))(ha:PA X (e::es) t)(hn:x≠"__name__":=by decide)(hdb:(x==("__debug__":Str))=false:=by decide)
  (he:starEach (e::es) X.env=(false,eval e X.env)::starEach es X.env:=by rfl) (hpl:(backTo pos (starEach es X.env)).any (·.1)=false:=by rfl):PE X (.Call (.Name x p) (e::es) [] pos) (tCB r t):=by
 intro pins s σ H Q I h;refine Pt (dH I hg hm hv ?_ hn hdb);exact QQ (thn (ha pos pins s σ H _ I h) λus s1 ⟨vs,H1,I1,r1,q1⟩=>hc pins s1 σ H1 vs us Q I1 r1 q1) he hpl
theorem A0(hc:cG X (.type T) r)(hg:Gl X x)(hm:X.mg x=none)(hv:bootBuiltins x=some (.type T))(ha:PA X (e::es) t)(hn:x≠"__name__":=by decide)(hdb:(x==("__debug__":Str))=false:=by decide)
  (he:starEach (e::es) X.env=(false,eval e X.env)::starEach es X.env:=by rfl) (hpl:(backTo pos (starEach es X.env)).any (·.1)=false:=by rfl):PE X (.Call (.Name x p) (e::es) [] pos) (tCB r t):=by
 intro pins s σ H Q I h;refine Pt (dH I hg hm hv ?_ hn hdb);exact OH (thn (ha pos pins s σ H _ I h) λus s1 ⟨vs,H1,I1,r1,q1⟩=>hc pins s1 σ H1 vs us Q I1 r1 q1) he hpl
end
end L2
namespace HT
open PySem PyProof.Rows
section
variable{prog:Program}{w:World}{A:Around}{E:Value->Shared->Prop}{s:Shared}
theorem Hc{t b:Addr}{vs ws:List Value}{Q:Value->Shared->Prop}(ht:IsTup s.heap t vs.toArray)(hb:IsTup s.heap b ws.toArray)(hv:vs≠[])
  (h1:ws=[]->Q (.ref t) s) (h2:ws≠[]->Q (.ref s.heap.objs.size) { s with heap:=s.heap.push { cls:=.type "tuple",data:=.seq (vs++ws).toArray } })
  (hsz:vs.length+ws.length<=sizeLine):wpAny (model prog w) A (binaryOp .Add (.ref t) (.ref b)) Q E s:=by
 obtain⟨⟨cls,dd,data,sl⟩,ho,hc,n,hd⟩:=id ht;obtain⟨⟨cls2,dd2,data2,sl2⟩,ho2,hc2,n2,hd2⟩:=id hb;simp only at hc hd hc2 hd2;subst hc hd hc2 hd2;have e:vs.toArray++ws.toArray=(vs++ws).toArray:=by simp
 by_cases hw:ws=[]
 ·exact U0 ⟨_,ho,rfl⟩ ⟨_,ho2,rfl⟩ Tt UD R1 RJ (Rt _ _)
   (tuple_addW1 t b vs.toArray ws.toArray n n2 dd dd2 sl sl2 (by simpa using hv) (by simp[hw])) ⟨ho,ho2,h1 hw⟩
 ·refine U0 ⟨_,ho,rfl⟩ ⟨_,ho2,rfl⟩ Tt UD R1 RJ (Rt _ _)
   (tuple_addW2 t b vs.toArray ws.toArray n n2 dd dd2 sl sl2 (by simpa using hv) (by simpa using hw) (by rw[NX,NX];exact hsz)) ⟨ho,ho2,?_⟩
  rw[e];exact h2 hw
def sIx(n d:Nat):Option Int->Nat
 |none=>d
 |some v=>if v<0 then(v+(n:Int)).toNat else min v.toNat n
theorem qZ(n d:Nat):sIx n d none=d:=rfl
theorem mM(n d k:Nat):sIx n d (some (k:Int))=min k n:=by
 show(if(k:Int)<0 then((k:Int)+(n:Int)).toNat else min (k:Int).toNat n)=min k n;rw[N1 ⋯,OQ]
theorem Iq(n d:Nat)(hd:d<=n)(o:Option Int):sIx n d o<=n:=by
 cases o with
 |none=>exact hd
 |some v=>
  show(if v<0 then(v+(n:Int)).toNat else min v.toNat n)<=n;by_cases hv:v<0
  ·rw[NT hv];omega
  ·rw[N1 hv];exact Nat.min_le_right _ _
theorem yx(v:Int)(n d:Nat):(if v<0 then max (v+(n:Int)) 0 else min v (n:Int))=((sIx n d (some v):Nat):Int):=by
 show(if v<0 then max (v+(n:Int)) 0 else min v (n:Int))=(((if v<0 then(v+(n:Int)).toNat else min v.toNat n):Nat):Int);by_cases hv:v<0
 ·simp only[NT hv];omega
 ·simp only[N1 hv];omega
theorem zR(lo hi:Option Int)(n:Nat):Ro lo hi 1 (n:Int)=(((sIx n 0 lo:Nat):Int),((sIx n n hi:Nat):Int)):=by
 have h1:¬((1:Int)<0):=by omega
 unfold Ro;simp only[h1,SA];refine Prod.ext ?_ ?_
 ·cases lo with
  |none=>rfl
  |some v=>exact yx v n 0
 ·cases hi with
  |none=>rfl
  |some v=>exact yx v n n
theorem zo(i j:Nat):Qt (i:Int) (j:Int) 1=j-i:=by
 unfold Qt;have h1:(1:Int)>0:=by omega
 simp only[h1,Se,Int.ediv_one];split<;>omega
theorem rR{v:Value}{o:Option Int}{Q:Option Int->Shared->Prop}(p:IsPart v o)(h:Q o s):wpAny (model prog w) A (We v) Q E s:=by
 cases p with
 |none=>exact Wf h
 |int i t=>exact slicePart_int h
theorem kK{sl:Addr}{vl vu:Value}{lo hi:Option Int}{n:Nat}{Q:Int×Int×Nat->Shared->Prop}(hs:s.heap.IsSliceOf sl vl vu .none)(pl:IsPart vl lo)(pu:IsPart vu hi)
  (h:Q (((sIx n 0 lo:Nat):Int),1,sIx n n hi-sIx n 0 lo) s):wpAny (model prog w) A (SV (.ref sl) (pure (n:Int))) Q E s:=by
 obtain⟨os,hos,hcs,hds⟩:=id hs;unfold SV W5;refine ar (ar (OS hos hds (x:=vl) rfl (ar (OS hos hds (x:=vu) rfl (ar (OS hos hds (x:=.none) rfl (NP ?_)))))));refine ar (Wf ?_);show wpAny _ _ (if((1:Int)==0)=true then _ else _) _ _ s;rw[N1 (by decide)];refine ar (rR pl (ar (rR pu (ar (NP ?_)))));show wpAny _ _ (match Ro lo hi 1 (n:Int)with |(lo,hi)=>pure (lo,(1:Int),Qt lo hi 1)) _ _ s;rw[zR lo hi n];show wpAny _ _ (pure (((sIx n 0 lo:Nat):Int),(1:Int),Qt ((sIx n 0 lo:Nat):Int) ((sIx n n hi:Nat):Int) 1)) _ _ s;rw[zo];exact NP h
theorem Dv(xs:Array Value)(i k:Nat):((NY k).filterMap λ(m:Nat)=>xs[((i:Int)+(m:Int)*1).toNat]?).toArray=((xs.toList.drop i).take k).toArray:=by
 have e:(λ(m:Nat)=>xs[((i:Int)+(m:Int)*1).toNat]?)=λm=>xs[i+m]?:=by
  funext m;have:((i:Int)+(m:Int)*1).toNat=i+m:=by omega
  rw[this]
 rw[e];have:=pick_run xs i k;rw[Ru]at this;have e2:((λx=>xs[x]?)∘λx=>i+x)=λm=>xs[i+m]?:=rfl;rw[e2]at this;rw[this]
theorem qz{t sl:Addr}{items:Array Value}{vl vu:Value}{lo hi:Option Int}{Q:Value->Shared->Prop}(ht:IsTup s.heap t items)(hs:s.heap.IsSliceOf sl vl vu .none)(pl:IsPart vl lo)(pu:IsPart vu hi)
    (hw:¬(sIx items.size 0 lo=0/\sIx items.size items.size hi=items.size))
    (h:Q (.ref s.heap.objs.size) { s with heap:=s.heap.push { cls:=.type "tuple",data:=.seq ((items.toList.drop (sIx items.size 0 lo)).take (sIx items.size items.size hi-sIx items.size 0 lo)).toArray } })
    (hsz:items.size<=sizeLine):wpAny (model prog w) A (getItem (.ref t) (.ref sl)) Q E s:=by
  have htake:sizeOk (.seq ((items.toList.drop (sIx items.size 0 lo)).take (sIx items.size items.size hi-sIx items.size 0 lo)).toArray):=by
    show((items.toList.drop (sIx items.size 0 lo)).take (sIx items.size items.size hi-sIx items.size 0 lo)).toArray.size<=sizeLine;rw[NX,OL,Tu,Om];omega
  have hj:sIx items.size items.size hi<=items.size:=Iq _ _ (NW _) hi;obtain⟨os,hos,hcs,hds⟩:=id hs;have hTs:s.TypeIs (.ref sl) "slice":=⟨os,hos,hcs⟩;unfold getItem
  try with_reducible refine OF ?_
  first |refine ar (NP ?_) |skip
  refine ar (Vm ht.typeIs (by decide) ?_);refine ar (O2 (name:=Po "__getitem__") ht.typeIs Pe
    (O0 Pe ht.typeIs UP ?_ (U1 _ _)))
  show wpAny _ _ (SW (.ref t)>>=_) _ _ s;refine ar (Wz ht ?_);refine ar (P0 hTs ?_);rw[NT (by decide)];refine ar (kK hs pl pu ?_);have hno:¬((((sIx items.size 0 lo:Nat):Int)==0&&(1:Int)==1&&(sIx items.size items.size hi-sIx items.size 0 lo)==items.size)=true):=by
    intro q;rw[N3,N3]at q;have q1:((sIx items.size 0 lo:Nat):Int)=0:=eq_of_beq q.1.1;have q2:sIx items.size items.size hi-sIx items.size 0 lo=items.size:=eq_of_beq q.2;exact hw ⟨by omega,by omega⟩
  show wpAny _ _ (if(((sIx items.size 0 lo:Nat):Int)==0&&(1:Int)==1&&(sIx items.size items.size hi-sIx items.size 0 lo)==items.size)=true then _ else _) _ _ s;rw[N1 hno,Dv]
  first
    |exact ar (m:=QE _) (O4 (NP ⟨_,rfl,NP h⟩) htake)
    |exact ar (m:=QE _) (O4 (ar (NP (NP ⟨_,rfl,NP h⟩))) htake)
    |exact ar (ar (m:=QE _) (O4 (NP (NP ⟨_,rfl,NP h⟩)) htake))
    |exact ar (ar (m:=QE _) (O4 (NP ⟨_,rfl,NP h⟩) htake))
end
end HT
namespace L2
open PySem PySem.Spec PyProof.Rows
abbrev TO:=St->Hp->(Option Int->Hp->Prop)->Prop
def PO(X:Cx)(e:Option Expr)(t:TO):Prop:=
 ∀(pins:List (Addr×Obj))(s:Shared)(σ:St)(H:Hp)(Q:Option Int->Hp->Prop),Inv X pins σ H s->t σ H Q ->
  wpAny (model X.prog X.w) X.A (evalPart e X.env) (λu s'=>∃o H',Inv X pins σ H' s'/\IsPart u o/\Q o H') X.xe s
def FY:TO:=λ_ H Q=>Q none H
def MI(t:TE):TO:=λσ H Q=>t σ H λx H1=>∃i,x=.int i/\Q (some i) H1
theorem intsAre_of{ns:List Int}:∀{us:List Value},Vals (ns.map V.int) us->IntsAre us ns:=by
 induction ns with
 |nil=>intro us r;rw[O7]at r;cases r;exact .nil
 |cons n ns ih=>
  intro us r;rw[N4]at r;cases r with
  |cons r1 r2=>
   obtain⟨t,e⟩:=r1;subst e;exact .cons n t (ih r2)
section
variable{X:Cx}{e:Expr}{te:TE}{lo hi:Option Expr}{tl th:TO}{pos p2:Pos}
theorem Gi:PO X none FY:=by
 intro pins s σ H Q I h;rw[UE];exact NP ⟨none,H,I,.none,h⟩
theorem HE(h:PE X e te):PO X (some e) (MI te):=by
 intro pins s σ H Q I hw;rw[WA];refine thn (h pins s σ H _ I hw) λu s1 ⟨x,H1,I1,r1,q1⟩=>?_;obtain⟨i,rfl,q⟩:=q1;obtain⟨t,rfl⟩:=r1;exact⟨some i,H1,I1,.int i t,q⟩
def SlR(X:Cx)(r:V->Option Int->Option Int->Hp->VK->Prop):Prop:=
 ∀(pins:List (Addr×Obj))(s:Shared)(σ:St)(H:Hp)(x:V)(v vl vu:Value)(lo hi:Option Int)(sl:Addr)(Q:VK),Inv X pins σ H s->RelV x v->s.heap.IsSliceOf sl vl vu .none->IsPart vl lo->IsPart vu hi->r x lo hi H Q ->
  ∃T id,typeLookup (.type T) "__getitem__"=pure (some (.builtin id))/\s.TypeIs v T/\wpAny (model X.prog X.w) X.A (getItem v (.ref sl)) (EP X pins σ Q) X.xe s
def tSl(r:V->Option Int->Option Int->Hp->VK->Prop)(te:TE)(tl th:TO):TE:=λσ H Q=>te σ H λx H1=>tl σ H1 λl H2=>th σ H2 λu H3=>r x l u H3 Q
theorem rn{r:V->Option Int->Option Int->Hp->VK->Prop}(hr:SlR X r)(he:PE X e te)(hl:PO X lo tl)(hu:PO X hi th):PE X (.Subscript e (.Slice lo hi none p2) pos) (tSl r te tl th):=by
 intro pins s σ H Q I h;refine Uy (thn (he pins s σ H _ I h) λv s1 ⟨x,H1,I1,r1,q1⟩=>?_);refine wpAny_Slice (thn (hl pins s1 σ H1 _ I1 q1) λvl s2 ⟨l,H2,I2,pl,q2⟩=>thn (hu pins s2 σ H2 _ I2 q2) λvu s3 ⟨u,H3,I3,pu,q3⟩=>?_);rw[UE];refine NP ?_;have I4:Inv X pins σ H3 { s3 with heap:=s3.heap.push { cls:=.type "slice",data:=.fields #[vl,vu,.none] } }:=I3.kept (t':=s3.toks) λb ob q=>NR _ q;obtain⟨T,id,hT,ht,hg⟩:=hr pins { s3 with heap:=s3.heap.push { cls:=.type "slice",data:=.fields #[vl,vu,.none] } } σ H3 x v vl vu l u s3.heap.objs.size Q I4 r1 (U2 ..) pl pu q3;show wpAny (model X.prog X.w) X.A (subscriptTail e (.Slice lo hi none p2) v (.ref s3.heap.objs.size)) (EP X pins σ Q) X.xe { s3 with heap:=s3.heap.push { cls:=.type "slice",data:=.fields #[vl,vu,.none] } };exact VE (ops:=[.ref s3.heap.objs.size,v]) ht hT hg (by with_unfolding_all rfl)
def kz(xs:List V)(lo hi:Option Int):List V:=(xs.drop (HT.sIx xs.length 0 lo)).take (HT.sIx xs.length xs.length hi-HT.sIx xs.length 0 lo)
theorem qM(xs:List V)(lo hi:Option Int):(kz xs lo hi).length<=xs.length:=by
 unfold kz;rw[OL,Tu];omega
def Nf(K:NO):V->Option Int->Option Int->Hp->VK->Prop:=λx lo hi H Q=>∃a xs,x=.ref a/\SqT K H a xs /\
 ¬(HT.sIx xs.length 0 lo=0/\HT.sIx xs.length xs.length hi=xs.length)/\∀p,H p=none->Q (.ref p) (upd H p (.tup (kz xs lo hi)))
theorem K1:SlR X (Nf X.K):=by
 intro pins s σ H x v vl vu lo hi sl Q I rx hs pl pu h;obtain⟨a,xs,rfl,hx,hw,q⟩:=h;cases rx;obtain⟨its,r,ht,hz⟩:=I.tuple hx;have hlen:its.toArray.size=xs.length:=by rw[NX];exact r.length.symm
 refine⟨"tuple",_,Pe.lookup,ht.typeIs,?_⟩;refine HT.qz ht hs pl pu (by rw[hlen];exact hw) ?_ (by rw[hlen];exact hz);rw[hlen];refine⟨.ref s.heap.objs.size,_,I.laid (t':=s.toks) (o:=.tup (kz xs lo hi)) (λb ob q=>NR _ q) (NW _) ?_,rfl,q _ (I.hok.fresh (NW _))⟩;exact⟨N7 (qM xs lo hi) hz,_,(r.drop (HT.sIx xs.length 0 lo)).take (HT.sIx xs.length xs.length hi-HT.sIx xs.length 0 lo),Wu _ _⟩
def LM(K:NO):R2:=λx y H Q=>∃a b xs ys,x=.ref a/\y=.ref b/\SqT K H a xs/\SqT K H b ys/\xs≠[]/\xs.length+ys.length<=sizeLine /\
 (ys=[]->Q (.ref a) H)/\(ys≠[]->∀p,H p=none->Q (.ref p) (upd H p (.tup (xs++ys))))
theorem Vals.p8{xs:List V}{us:List Value}(r:Vals xs us):us=[]↔xs=[]:=by
 cases r with
 |nil=>simp
 |cons _ _=>simp
theorem Hf:OpR X (binaryOp .Add) (LM X.K):=by
 intro pins s σ H x y v u Q I rx ry h;obtain⟨a,b,xs,ys,rfl,rfl,ha,hb,hx,hz,q1,q2⟩:=h;cases rx;cases ry;obtain⟨its,r1,p1,_⟩:=I.tuple ha;obtain⟨its2,r2,p2,_⟩:=I.tuple hb;refine HT.Hc p1 p2 (λz=>hx (r1.p8.mp z)) (λz=>⟨.ref a,H,I,rfl,q1 (r2.p8.mp z)⟩) (λz=>?_) (by rw[<-r1.length,<-r2.length];exact hz);refine⟨.ref s.heap.objs.size,_,I.laid (t':=s.toks) (o:=.tup (xs++ys)) (λb ob q=>NR _ q) (NW _) ?_,rfl,q2 (λw=>z (r2.p8.mpr w)) _ (I.hok.fresh (NW _))⟩;exact⟨by rw[ON];exact hz,_,r1.append r2,Wu _ _⟩
end
def ixN(n:Nat)(i:Int):Option Nat:=if 0<=i then(if i<n then some i.toNat else none)else if -(n:Int)<=i then some (i+n).toNat else none
def atI{α:Type}(xs:List α)(i:Int):Option α:=(ixN xs.length i).bind λj=>xs[j]?
theorem yO{n:Nat}{i:Int}{j:Nat}(h:ixN n i=some j):seqIndex? i n=some j/\j<n/\-(n:Int)<=i/\i<n:=by
 unfold ixN at h;by_cases h0:0<=i
 ·rw[NT h0]at h;by_cases h1:i<n
  ·rw[NT h1]at h;have e:i.toNat=j:=Ou h;exact⟨by rw[Vy h0 h1,e],by omega,by omega,h1⟩
  ·rw[N1 h1]at h;cases h
 ·rw[N1 h0]at h;by_cases h1:-(n:Int)<=i
  ·rw[NT h1]at h;have e:(i+n).toNat=j:=Ou h;exact⟨by rw[U3 ⋯ h1,e],by omega,h1,by omega⟩
  ·rw[N1 h1]at h;cases h
theorem tQ{α:Type}{xs:List α}{i:Int}{v:α}(h:atI xs i=some v):∃j,seqIndex? i xs.length=some j/\xs[j]?=some v/\j<xs.length/\-(xs.length:Int)<=i/\i<xs.length:=by
 unfold atI at h;cases e:ixN xs.length i with
 |none=>rw[e]at h;cases h
 |some j=>
  rw[e]at h;obtain⟨h1,h2,h3,h4⟩:=yO e;exact⟨j,h1,h,h2,h3,h4⟩
def mS(b:Expr):Prop:=∀o i,subscripted b false o i=operate [o,i] (getItem o i)
def IxR(X:Cx)(r:R2):Prop:=
 ∀(value slice:Expr)(pins:List (Addr×Obj))(s:Shared)(σ:St)(H:Hp)(x y:V)(v u:Value)(Q:VK),Inv X pins σ H s->RelV x v->RelV y u->r x y H Q ->
  subscripted slice false v u=operate [v,u] (getItem v u)->wpAny (model X.prog X.w) X.A (subscriptTail value slice v u) (EP X pins σ Q) X.xe s
section
variable{X:Cx}{a b:Expr}{ta tb:TE}{pos:Pos}
theorem FH{r:R2}(hr:IxR X r)(ha:PE X a ta)(hb:PE X b tb)(hs:mS b):PE X (.Subscript a b pos) (tOp r ta tb):=by
 intro pins s σ H Q I h;exact Uy (DM ha hb I h λv u s2 x y H2 I2 rx ry q=>hr a b pins s2 σ H2 x y v u Q I2 rx ry q (hs _ _))
def NH(K:NO):R2:=λx y H Q=>∃p xs i v,x=.ref p/\y=.int i/\SqL K H p xs/\atI xs i=some v/\Q v H
def Nq(K:NO):R2:=λx y H Q=>∃p xs i v,x=.ref p/\y=.int i/\SqT K H p xs/\atI xs i=some v/\Q v H
def Ih:R2:=λx y H Q=>∃z i c,x=.str z/\y=.int i/\z.length<=sizeLine/\atI z.cps.toList i=some c/\Q (.str ⟨#[c]⟩) H
theorem G2:IxR X (NH X.K):=by
 intro value slice pins s σ H x y v u Q I rx ry h hs;obtain⟨p,xs,i,z,rfl,rfl,hq,he,q⟩:=h;cases rx;obtain⟨t,rfl⟩:=ry;obtain⟨its,r,pl,hz⟩:=I.list hq;obtain⟨j,h1,h2,h3,h4,h5⟩:=tQ he;obtain⟨w,ew,rw'⟩:=r.get h2;have hl:=r.length;have hn:=kD;have fin:EP X pins σ Q w s:=⟨z,H,I,rw',q⟩;by_cases h0:0<=i
 ·have hj:i.toNat=j:=by
   rw[Vy h0 h5]at h1;exact Ou h1
  exact item_listR pl.isList h0 ⋯ (by rw[hj];simpa using ew) fin hs
 ·have hj:(i+(its.toArray.size:Int)).toNat=j:=by
   rw[U3 ⋯ h4]at h1;rw[NX,<-hl];exact Ou h1
  exact T9 (x:=w) pl.isList.typeIs Vn.lookup
   (wpAny_getItem_list_neg (Q:=λr s'=>r=w/\EP X pins σ Q r s') pl.isList ⋯ (by rw[NX]<;>omega) ⋯ (by rw[hj];simpa using ew) ⟨rfl,fin⟩) hs
theorem HQ:IxR X (Nq X.K):=by
 intro value slice pins s σ H x y v u Q I rx ry h hs;obtain⟨p,xs,i,z,rfl,rfl,hq,he,q⟩:=h;cases rx;obtain⟨t,rfl⟩:=ry;obtain⟨its,r,pl,hz⟩:=I.tuple hq;obtain⟨j,h1,h2,h3,h4,h5⟩:=tQ he;obtain⟨w,ew,rw'⟩:=r.get h2;have hl:=r.length;have hn:=kD;have fin:EP X pins σ Q w s:=⟨z,H,I,rw',q⟩;exact T9 (x:=w) pl.typeIs slot_tuple_getitem.lookup
  (getItem_tuple (j:=j) (Q:=λr s'=>r=w/\EP X pins σ Q r s') pl ⋯ ⋯ (by rw[NX,<-hl];exact h1) (by simpa using ew) ⟨rfl,fin⟩) hs
theorem Im:IxR X Ih:=by
 intro value slice pins s σ H x y v u Q I rx ry h hs;obtain⟨z,i,c,rfl,rfl,hz,he,q⟩:=h;obtain⟨t,rfl⟩:=rx;obtain⟨t',rfl⟩:=ry;obtain⟨j,h1,h2,h3,h4,h5⟩:=tQ he;have hl:z.cps.toList.length=z.length:=by simp[Str.length]
 rw[hl]at h1 h4 h5;have hn:=kD;exact VE (RC s z t) slot_str_getitem.lookup (getItem_str (c:=c) (by
  have e1:decide (i < -(2 ^ 63:Int))=false:=gV ⋯;have e2:decide (i>=2 ^ 63)=false:=gV ⋯;rw[e1,e2,WB]) (by rw[h1];simpa using h2) ⟨.str ⟨#[c]⟩,H,I.tok _,⟨_,rfl⟩,q⟩) hs
theorem Aj(its:List Value)(n j:Nat)(u:Value):Qu (·.setIfInBounds j u) { cls:=.type "list",data:=.seq its.toArray n }={ cls:=.type "list",data:=.seq (its.set j u).toArray n }:=by
 simp[Qu]
theorem Inv.lst{pins:List (Addr×Obj)}{σ:St}{H:Hp}{s:Shared}{p:Addr}{xs:List V}(I:Inv X pins σ H s)(h:H p=some (.lst xs)) :
  ∃(its:List Value)(n:Nat),Vals xs its/\s.heap.get? p=some { cls:=.type "list",data:=.seq its.toArray n }/\xs.length<=sizeLine:=by
 obtain⟨z,its,n,r,e⟩:=I.hok p _ h;exact⟨its,n,r,e,z⟩
theorem Inv.Jk{pins:List (Addr×Obj)}{σ:St}{H:Hp}{s:Shared}{p:Addr}{xs ys:List V}{its its':List Value}{n n':Nat}{f:Obj->Obj}(I:Inv X pins σ H s)(h:H p=some (.lst xs))
  (ho:s.heap.get? p=some { cls:=.type "list",data:=.seq its.toArray n }) (hf:f { cls:=.type "list",data:=.seq its.toArray n }={ cls:=.type "list",data:=.seq its'.toArray n' }) (r:Vals ys its') (hz:ys.length<=sizeLine) (t:Nat) :
  Inv X pins σ (upd H p (.lst ys)) { s with heap:=s.heap.update p f,toks:=t }:=by
 have e:(s.heap.update p f).get? p=some { cls:=.type "list",data:=.seq its'.toArray n' }:=by
  rw[Pp f ho (by rw[hf]<;>rfl),hf]
 refine I.write (x:=p) (e:=p) (by rw[h];trivial) (.inl rfl) (λb u hb q=>(P4 _ _ (PD hb)).trans q) ⟨_,e⟩ ?_;exact⟨hz,its',n',r,e⟩
def As:V->V->V->Hp->(Hp->Prop)->Prop:=λo i v H Q=>∃p xs k j,o=.ref p/\i=.int k/\H p=some (.lst xs)/\ixN xs.length k=some j/\Q (upd H p (.lst (xs.set j v)))
theorem set_list:zL X As:=by
 intro pins s σ H o i v ov iv u Q I ro ri rv h;obtain⟨p,xs,k,j,rfl,rfl,hp,hj,q⟩:=h;cases ro;obtain⟨t,rfl⟩:=ri;obtain⟨its,n,r,ho,hz⟩:=I.lst hp;obtain⟨h1,h2,h3,h4⟩:=yO hj;have hl:=r.length;have hn:=kD;have I':Inv X pins σ (upd H p (.lst (xs.set j v))) { s with heap:=s.heap.update p (Qu (·.setIfInBounds j u)) }:=
  I.Jk hp ho (Aj its n j u) (r.set rv j) (by rw[Qe];exact hz) s.toks
 by_cases h0:0<=k
 ·have hk:k.toNat=j:=by
   rw[Vy h0 h4]at h1;exact Ou h1
  exact PySem.W.ki_setAt ho h0 ⋯ (by rw[NX,<-hl];exact h4) (by rw[hk];exact⟨_,I',q⟩)
 ·have hk:(k+(its.toArray.size:Int)).toNat=j:=by
   rw[U3 ⋯ h3]at h1;rw[NX,<-hl];exact Ou h1
  exact PySem.W.ki_setBack ho ⋯ (by rw[NX,<-hl];exact h3) ⋯ (by rw[hk];exact⟨_,I',q⟩)
theorem we(lo hi:Option Int)(n:Nat):(sliceBounds lo hi none n).1=((HT.sIx n 0 lo:Nat):Int)/\(sliceBounds lo hi none n).2.1=((HT.sIx n n hi:Nat):Int)/\(sliceBounds lo hi none n).2.2=1:=by
 refine⟨?_,?_,rfl⟩
 ·cases lo with
  |none=>simp[sliceBounds,HT.sIx]
  |some i=>
   simp only[sliceBounds,HT.sIx,QF,show(1:Int)>0 by decide,Se];by_cases h:i<0
   ·simp only[h,Se]<;>omega
   ·simp only[h,SA]<;>omega
 ·cases hi with
  |none=>simp[sliceBounds,HT.sIx]
  |some i=>
   simp only[sliceBounds,HT.sIx,QF,show(1:Int)>0 by decide,Se];by_cases h:i<0
   ·simp only[h,Se]<;>omega
   ·simp only[h,SA]<;>omega
theorem vb(its:List Value)(lo hi:Option Int):slicePick its.toArray lo hi none=((its.drop (HT.sIx its.length 0 lo)).take (HT.sIx its.length its.length hi-HT.sIx its.length 0 lo)).toArray:=by
 obtain⟨h1,h2,h3⟩:=we lo hi its.toArray.size;unfold slicePick;rw[h1,h2,h3];simp only[sliceRange_one,pick_run,NX]<;>rfl
def Nc(K:NO):V->Option Int->Option Int->Hp->VK->Prop:=λx lo hi H Q=>∃a xs,x=.ref a/\SqL K H a xs/\∀p,H p=none->Q (.ref p) (upd H p (.lst (kz xs lo hi)))
theorem yA:SlR X (Nc X.K):=by
 intro pins s σ H x v vl vu lo hi sl Q I rx hs pl pu h;obtain⟨a,xs,rfl,hx,q⟩:=h;cases rx;obtain⟨its,r,ht,hz⟩:=I.list hx;have hlen:=r.length;refine⟨"list",_,Vn.lookup,ht.isList.typeIs,?_⟩;refine Tv ht.isList hs pl pu .none (by simp) ?_ (by rw[NX]<;>omega);rw[vb,<-hlen];refine⟨.ref s.heap.objs.size,_,I.laid (t':=s.toks) (o:=.lst (kz xs lo hi)) (λb ob q=>NR _ q) (NW _) ?_,rfl,q _ (I.hok.fresh (NW _))⟩;exact⟨N7 (qM xs lo hi) hz,_,0,(r.drop (HT.sIx xs.length 0 lo)).take (HT.sIx xs.length xs.length hi-HT.sIx xs.length 0 lo),N5 _ rfl⟩
def gG:V->Bool
 | .non=>true
 | .bl _=>true
 | .int _=>true
 | .str _=>true
 |_=>false
def eqV:V->V->Bool
 | .non,.non=>true
 | .bl a,.bl b=>a==b
 | .bl a,.int b=>(if a then 1 else 0)==b
 | .int a,.bl b=>a==(if b then 1 else 0)
 | .int a,.int b=>a==b
 | .str a,.str b=>a==b
 |_,_=>false
theorem pb{A:Around}{s:Shared}{y x:V}{u v:Value}(ry:RelV y u)(rx:RelV x v)(fy:gG y=true)(fx:gG x=true):RD A s u v (eqV y x):=by
 cases y with
 |non=>
  cases ry;cases x with
  |non=>cases rx;exact T3 _
  |bl b=>cases rx;exact XR b
  |int b=>obtain⟨t,rfl⟩:=rx;exact Yc b t
  |str b=>obtain⟨t,rfl⟩:=rx;exact Yd b t
  |_=>exact absurd (show false=true from fx) Od
 |bl a=>
  cases ry;cases x with
  |non=>cases rx;exact XU a
  |bl b=>cases rx;exact XW a b
  |int b=>obtain⟨t,rfl⟩:=rx;exact Ye a b t
  |str b=>obtain⟨t,rfl⟩:=rx;exact Yf a b t
  |_=>exact absurd (show false=true from fx) Od
 |int a=>
  obtain⟨t',rfl⟩:=ry;cases x with
  |non=>cases rx;exact Yg a t'
  |bl b=>cases rx;exact Yh a t' b
  |int b=>obtain⟨t,rfl⟩:=rx;exact Yt a t' b t
  |str b=>obtain⟨t,rfl⟩:=rx;exact UW a t' b t
  |_=>exact absurd (show false=true from fx) Od
 |str a=>
  obtain⟨t',rfl⟩:=ry;cases x with
  |non=>cases rx;exact Yi a t'
  |bl b=>cases rx;exact Yj a t' b
  |int b=>obtain⟨t,rfl⟩:=rx;exact UX a t' b t
  |str b=>obtain⟨t,rfl⟩:=rx;exact Yu a t' b t
  |_=>exact absurd (show false=true from fx) Od
 |_=>exact absurd (show false=true from fy) Od
def eqU(x:V)(u:Value):Bool:=match u with
 | .none=>eqV .non x
 | .bool b=>eqV (.bl b) x
 | .int i _=>eqV (.int i) x
 | .str z _=>eqV (.str z) x
 |_=>false
theorem CA{x y:V}{u:Value}(r:RelV y u)(f:gG y=true):eqU x u=eqV y x:=by
 cases y with
 |non=>cases r;rfl
 |bl b=>cases r;rfl
 |int i=>obtain⟨t,rfl⟩:=r;rfl
 |str z=>obtain⟨t,rfl⟩:=r;rfl
 |_=>exact absurd (show false=true from f) Od
theorem my{x:V}:∀{xs:List V}{us:List Value},Vals xs us->xs.all gG=true->us.any (eqU x)=xs.any λy=>eqV y x
 |_,_,.nil,_=>rfl
 |y::xs,u::us,.cons r t,f=>by
  rw[Pg,N3]at f;rw[QN,QN,CA r f.1,my t f.2]
theorem kn{A:Around}{s:Shared}{x:V}{v:Value}(rx:RelV x v)(fx:gG x=true):∀{xs:List V}{us:List Value},Vals xs us->xs.all gG=true->∀u∈us,RD A s u v (eqU x u)
 |_,_,.nil,_=>λu hu=>by cases hu
 |y::xs,u::us,.cons r t,f=>λu' hu=>by
  rw[Pg,N3]at f;rcases NU.mp hu with rfl |hu
  ·rw[CA r f.1];exact pb r rx f.1 fx
  ·exact kn rx fx t f.2 u' hu
def inV(x:V)(xs:List V):Bool:=xs.any λy=>eqV y x
def rIn(K:NO)(neg:Bool):R2:=λx y H Q=>∃p xs,y=.ref p/\(SqL K H p xs\/SqT K H p xs)/\gG x=true/\xs.all gG=true/\Q (.bl (if neg then !inV x xs else inV x xs)) H
theorem uL:OpR X (compareOp .In) (rIn X.K false):=by
 intro pins s σ H x y v u Q I rx ry h;obtain⟨p,xs,rfl,hq,fx,fs,q⟩:=h;cases ry;rcases hq with hq |hq
 ·obtain⟨its,r,pl,hz⟩:=I.list hq;refine VQ (eqU x) pl.isList (λw hw=>kn rx fx r fs w (by simpa using hw)) ⟨.bl _,H,I,rfl,?_⟩;rw[show its.toArray.any (eqU x)=its.any (eqU x) by simp,my r fs];exact q
 ·obtain⟨its,r,pl,hz⟩:=I.tuple hq;refine SeqAt.in_tupleAt (eqU x) pl (λw hw=>kn rx fx r fs w (by simpa using hw)) ⟨.bl _,H,I,rfl,?_⟩;rw[show its.toArray.any (eqU x)=its.any (eqU x) by simp,my r fs];exact q
theorem pL:OpR X (compareOp .NotIn) (rIn X.K true):=by
 intro pins s σ H x y v u Q I rx ry h;obtain⟨p,xs,rfl,hq,fx,fs,q⟩:=h;cases ry;rcases hq with hq |hq
 ·obtain⟨its,r,pl,hz⟩:=I.list hq;refine U4 (eqU x) pl.isList (λw hw=>kn rx fx r fs w (by simpa using hw)) ⟨.bl _,H,I,rfl,?_⟩;rw[show its.toArray.any (eqU x)=its.any (eqU x) by simp,my r fs];exact q
 ·obtain⟨its,r,pl,hz⟩:=I.tuple hq;refine UQ (eqU x) pl (λw hw=>kn rx fx r fs w (by simpa using hw)) ⟨.bl _,H,I,rfl,?_⟩;rw[show its.toArray.any (eqU x)=its.any (eqU x) by simp,my r fs];exact q
theorem xn:cG X (.builtin "len") (λxs H Q=>∃p ys,xs=[.ref p]/\(SqL X.K H p ys\/SqT X.K H p ys)/\Q (.int ys.length) H):=by
 intro pins s σ H xs us Q I r h;obtain⟨p,ys,rfl,hq,q⟩:=h;obtain⟨u,rfl,rx⟩:=vals1 r;cases rx;have hn:=kD;rcases hq with hq |hq
 ·obtain⟨its,r',pl,hz⟩:=I.list hq;have hlen:=r'.length;exact UO pl.isList (by simp only[NX]<;>omega) ⟨.int ys.length,H,I.tok _,⟨s.toks+1,by rw[NX,hlen]⟩,q⟩
 ·obtain⟨its,r',pl,hz⟩:=I.tuple hq;have hlen:=r'.length;exact len_tuple pl (by simp only[NX]<;>omega) ⟨.int ys.length,H,I.tok _,⟨s.toks+1,by rw[NX,hlen]⟩,q⟩
theorem cG.or{f:Value}{r r':List V->Hp->VK->Prop}(h:cG X f r)(h':cG X f r'):cG X f (λxs H Q=>r xs H Q\/r' xs H Q):=by
 intro pins s σ H xs us Q I rs q;rcases q with q |q
 ·exact h pins s σ H xs us Q I rs q
 ·exact h' pins s σ H xs us Q I rs q
theorem oV:cG X (.type "list") (λxs H Q=>∃p ys,xs=[.ref p]/\(SqL X.K H p ys\/SqT X.K H p ys)/\∀l,H l=none->Q (.ref l) (upd H l (.lst ys))):=by
 intro pins s σ H xs us Q I r h;obtain⟨p,ys,rfl,hq,q⟩:=h;obtain⟨u,rfl,rx⟩:=vals1 r;cases rx;have fin:∀(its:List Value),Vals ys its->ys.length<=sizeLine->∀(h':Heap)(c':Nat),(∀b o',s.heap.get? b=some o'->h'.get? b=some o') ->
   h'.get? s.heap.objs.size=some { cls:=.type "list",dict:=none,data:=.seq its.toArray c',slots:=#[] }->EP X pins σ Q (.ref s.heap.objs.size) { s with heap:=h' }:=λits r' hz h' c' kp e=>
  ⟨.ref s.heap.objs.size,_,I.laid (t':=s.toks) kp (NW _) (show cR X.prog X.w _ h' _ (.lst ys)from⟨hz,its,c',r',e⟩),rfl,q _ (I.hok.fresh (NW _))⟩
 rcases hq with hq |hq
 ·obtain⟨its,r',pl,hz⟩:=I.list hq;have hlen:=r'.length;obtain⟨o,ho,hc,n,hd⟩:=pl.isList;exact WC p (.inl rfl) ho hc hd (λh' c' kp e=>fin its r' hz h' c' kp e) (by simp only[NX]<;>omega)
 ·obtain⟨its,r',pl,hz⟩:=I.tuple hq;have hlen:=r'.length;obtain⟨o,ho,hc,n,hd⟩:=pl;exact WC p (.inr rfl) ho hc hd (λh' c' kp e=>fin its r' hz h' c' kp e) (by simp only[NX]<;>omega)
theorem og:cG X (.type "tuple") (λxs H Q=>∃p ys,xs=[.ref p]/\((SqL X.K H p ys/\∀l,H l=none->Q (.ref l) (upd H l (.tup ys)))\/(SqT X.K H p ys/\Q (.ref p) H))):=by
 intro pins s σ H xs us Q I r h;obtain⟨p,ys,rfl,h⟩:=h;obtain⟨u,rfl,rx⟩:=vals1 r;cases rx;rcases h with⟨hq,q⟩ |⟨hq,q⟩
 ·obtain⟨its,r',pl,hz⟩:=I.list hq;have hlen:=r'.length;refine call_tuple_list pl.isList (λh' kp=>?_) (by simp only[NX]<;>omega);have I1:Inv X pins σ H { s with heap:=h' }:=I.kept (t':=s.toks) kp;have I2:Inv X pins σ (upd H h'.objs.size (.tup ys)) { s with heap:=h'.push { cls:=.type "tuple",data:=.seq its.toArray } }:=
   I1.laid (t':=s.toks) (λb o e=>NR _ e) (NW _) (show cR X.prog X.w _ _ _ (.tup ys)from⟨hz,its,r',Wu _ _⟩)
  exact⟨.ref h'.objs.size,_,I2,rfl,q _ (I1.hok.fresh (NW _))⟩
 ·obtain⟨its,r',pl,hz⟩:=I.tuple hq;exact call_tuple_same pl ⟨.ref p,H,I,rfl,q⟩
def tyV(K:NO)(T:String)(x:V)(H:Hp):Prop:=match x with
 | .str _=>T="str"
 | .int _=>T="int"
 | .ref p=>(T="list"/\∃xs,SqL K H p xs)\/(T="tuple"/\∃o,K.lookup p=some o/\o.cls=.type "tuple"/\o.dict=none) \/
   (T="dict"/\((∃kvs,H p=some (.dK kvs))\/∃kvs,H p=some (.dT kvs)))\/(T="set"/\∃S n,H p=some (.set S n))
 |_=>False
theorem By{pins:List (Addr×Obj)}{σ:St}{H:Hp}{s:Shared}{T:String}{x:V}{v:Value}(I:Inv X pins σ H s)(r:RelV x v)(ty:tyV X.K T x H) :
  s.TypeIs v T/\∀a,v=.ref a->∃ob,s.heap.get? a=some ob/\ob.dict=none:=by
 cases x with
 |str z=>
  obtain⟨t,rfl⟩:=r;cases(show T="str"from ty);exact⟨RC s z t,λ_ e=>nomatch e⟩
 |int i=>
  obtain⟨t,rfl⟩:=r;cases(show T="int"from ty);exact⟨typeIs_int s i t,λ_ e=>nomatch e⟩
 |ref p=>
  cases r;rcases ty with⟨rfl,xs,hq⟩ |⟨rfl,o,hk,hc,hd⟩ |⟨rfl,hk⟩ |⟨rfl,S,n,hk⟩
  ·obtain⟨its,_,pl,_⟩:=I.list hq;refine⟨pl.isList.typeIs,λa e=>?_⟩;cases e;obtain⟨o,n,e,c,hd,_⟩:=pl;exact⟨o,e,hd⟩
  ·refine⟨⟨o,I.kIn p o hk,hc⟩,λa e=>?_⟩;cases e;exact⟨o,I.kIn _ o hk,hd⟩
  ·have z:∃o,s.heap.get? p=some o/\o.ExactDict:=by
    rcases hk with⟨kvs,hk⟩ |⟨kvs,hk⟩
    ·obtain⟨_,_,_,_,o,_,_,e,ex,_⟩:=I.hok p _ hk;exact⟨o,e,ex⟩
    ·obtain⟨_,_,_,_,o,_,_,e,ex,_⟩:=I.hok p _ hk;exact⟨o,e,ex⟩
   obtain⟨o,e,ex⟩:=z;refine⟨⟨o,e,ex.1⟩,λa e2=>?_⟩;cases e2;exact⟨o,e,ex.2.1⟩
  ·obtain⟨o,_,_,_,e,ex,_⟩:=I.hok p _ hk;refine⟨⟨o,e,ex.1⟩,λa e2=>?_⟩;cases e2;exact⟨o,e,ex.2.1⟩
 |_=>exact Qc ty
variable{o e:Expr}{es:List Expr}{to:TE}{t:TA}{name:Str}{apos cpos:Pos}{T id:String}{r:V->List V->Hp->VK->Prop}
end
def MtM(X:Cx)(id:String)(r:V->List V->Hp->VK->Prop):Prop:=
 ∀(pins:List (Addr×Obj))(s:Shared)(σ:St)(H:Hp)(x:V)(xs:List V)(v:Value)(us:List Value)(Q:VK),Inv X pins σ H s->RelV x v->Vals xs us->r x xs H Q ->
  wpAny (model X.prog X.w) X.A (call (.builtin id) (v::us)) (EP X pins σ Q) X.xe s
theorem Vals.one{x:V}{us:List Value}(h:Vals [x] us):∃u,us=[u]/\RelV x u:=by
 cases h with
 |cons r t=>cases t;exact⟨_,rfl,r⟩
theorem Vals.two{x y:V}{us:List Value}(h:Vals [x,y] us):∃u v,us=[u,v]/\RelV x u/\RelV y v:=by
 cases h with
 |cons r t=>obtain⟨u,rfl,q⟩:=Vals.one t;exact⟨_,_,rfl,r,q⟩
theorem Vals.eraseIdx:∀{xs:List V}{us:List Value}(i:Nat),Vals xs us->Vals (xs.eraseIdx i) (us.eraseIdx i)
 |_,_,_,.nil=>.nil
 |_,_,0,.cons _ t=>t
 |_,_,i+1,.cons r t=>.cons r (Vals.eraseIdx i t)
theorem Vals.reverse{xs:List V}{us:List Value}(h:Vals xs us):Vals xs.reverse us.reverse:=by
 induction h with
 |nil=>exact .nil
 |cons r t ih=>rw[RP,RP];exact Vals.append ih (.cons r .nil)
theorem uk{α:Type}:∀(l:List α)(i:Nat),(l.eraseIdx i).length<=l.length
 | [],_=>NW _
 |_::_,0=>R3 _
 |_::r,i+1=>Nat.succ_le_succ (uk r i)
section
variable{X:Cx}{pins:List (Addr×Obj)}{σ:St}{H:Hp}{s:Shared}{l b:Addr}{xs ys zs:List V}
theorem Inv.AF{its its':List Value}{n:Nat}{f:Array Value->Array Value}{t':Nat}(I:Inv X pins σ H s)(hH:H l=some (.lst xs))
  (e:s.heap.get? l=some { cls:=.type "list",data:=.seq its.toArray n }) (hf:f its.toArray=its'.toArray) (hv:Vals ys its') (hz:ys.length<=sizeLine) :
  Inv X pins σ (upd H l (.lst ys)) { s with heap:=s.heap.update l (Qu f),toks:=t' }:=by
 have q:=PySem.IsL.update e f;rw[hf]at q;refine I.write (x:=l) (e:=l) (by rw[hH];exact trivial) (.inl rfl) (λb' u hb hu=>(P4 s.heap (Qu f) (PD hb)).trans hu) ⟨_,q⟩ ?_;exact⟨hz,its',_,hv,q⟩
theorem Inv.Nb{its:List Value}{t':Nat}(I:Inv X pins σ H s)(hv:Vals ys its)(hz:ys.length<=sizeLine) :
  Inv X pins σ (upd H s.heap.objs.size (.lst ys)) { s with heap:=s.heap.push { cls:=.type "list",data:=.seq its.toArray },toks:=t' }:=
 I.laid (λ_ _ q=>NR _ q) (NW _) ⟨hz,its,0,hv,N5 _ rfl⟩
theorem Inv.fresh(I:Inv X pins σ H s):H s.heap.objs.size=none:=I.hok.fresh (NW _)
theorem Inv.rp(I:Inv X pins σ H s)(hH:H l=some (.lst xs)):xs.length<=sizeLine/\∃(its:List Value)(n:Nat),Vals xs its/\xs.length=its.length/\s.heap.get? l=some { cls:=.type "list",data:=.seq its.toArray n }:=by
 obtain⟨z,its,n,r,e⟩:=I.hok l _ hH;exact⟨z,its,n,r,r.length,e⟩
theorem xv{n:Nat}(h:n<=sizeLine):QG n=false:=by
 unfold QG;exact gV ⋯
end
section
variable{X:Cx}
def G9:V->List V->Hp->VK->Prop:=λx vs H Q=>∃l xs y,x=.ref l/\vs=[y]/\H l=some (.lst xs)/\xs.length<sizeLine/\Q .non (upd H l (.lst (xs++[y])))
theorem tW:MtM X "list.append" G9:=by
 intro pins s σ H x vs v us Q I rx rv h;obtain⟨l,xs,y,rfl,rfl,hH,hz,q⟩:=h;cases rx;obtain⟨u,rfl,ru⟩:=rv.one;obtain⟨z,its,n,r,hl,e⟩:=I.rp hH;refine RF F.slot_list_append ⟨_,e,rfl⟩ F.entry_list_append (F.args_list_append_2 _ _) (PySem.list_append l its.toArray n u (by rw[NX];omega)) ⟨e,?_⟩;refine⟨.non,_,I.AF (its':=its++[u]) hH e (by simp) (r.append (.cons ru .nil)) ?_,rfl,q⟩;rw[ON,Ul];omega
def yq:V->List V->Hp->VK->Prop:=λx vs H Q=>∃l b xs zs,x=.ref l/\vs=[.ref b]/\H l=some (.lst xs)/\H b=some (.lst zs)/\xs.length+zs.length<=sizeLine/\Q .non (upd H l (.lst (xs++zs)))
theorem AU:MtM X "list.extend" yq:=by
 intro pins s σ H x vs v us Q I rx rv h;obtain⟨l,b,xs,zs,rfl,rfl,hH,hB,hz,q⟩:=h;cases rx;obtain⟨u,rfl,ru⟩:=rv.one;cases ru;obtain⟨z,its,n,r,hl,e⟩:=I.rp hH;obtain⟨z2,its2,n2,r2,hl2,e2⟩:=I.rp hB;have hsz:its.toArray.size+its2.toArray.size<=sizeLine:=by rw[NX,NX];omega
 have hlong:¬(!its.toArray.isEmpty&&QG (its.toArray.size+its2.toArray.size))=true:=by
  rw[xv hsz,OX];exact Od
 refine RF U5 ⟨_,e,rfl⟩ UR (Uz _ _)
  (AutoSeq1.list_extend_list_list_0 l its.toArray n b its2.toArray n2 hlong (by rw[NX];omega) ⋯) ⟨e,e2,?_⟩
 refine⟨.non,_,I.AF (its':=its++its2) hH e (by simp) (r.append r2) ?_,rfl,q⟩;rw[ON];omega
def A1:V->List V->Hp->VK->Prop:=λx vs H Q=>∃l xs i k y,x=.ref l/\vs=[.int i]/\H l=some (.lst xs)/\-(2 ^ 63)<=i/\i<2 ^ 63/\seqIndex? i xs.length=some k/\xs[k]?=some y/\Q y (upd H l (.lst (xs.eraseIdx k)))
theorem DJ:MtM X "list.pop" A1:=by
 intro pins s σ H x vs v us Q I rx rv h;obtain⟨l,xs,i,k,y,rfl,rfl,hH,h1,h2,hk,hy,q⟩:=h;cases rx;obtain⟨u,rfl,ru⟩:=rv.one;obtain⟨t,rfl⟩:=ru;obtain⟨z,its,n,r,hl,e⟩:=I.rp hH;obtain⟨w,hw,rw'⟩:=r.get hy;refine RF F.slot_list_pop ⟨_,e,rfl⟩ F.entry_list_pop (F.args_list_pop_2 _ _)
  (MeetsSeq.list_pop_at l its.toArray n i t k w (fitsIndex_both h1 h2) (by rw[NX,<-hl];exact hk) (by rw[<-OY];exact hw) (by rw[NX];omega)) ⟨e,?_⟩
 refine⟨y,_,I.AF (its':=its.eraseIdx k) hH e ?_ (r.eraseIdx k) ?_,rw',q⟩
 ·show its.toArray.eraseIdxIfInBounds k=(its.eraseIdx k).toArray;rw[List.eraseIdxIfInBounds_toArray]
 ·have:=uk xs k;omega
def NB:R2:=λx y H Q=>∃l b xs zs,x=.ref l/\y=.ref b/\H l=some (.lst xs)/\H b=some (.lst zs)/\xs.length+zs.length<=sizeLine/\∀p,H p=none->Q (.ref p) (upd H p (.lst (xs++zs)))
theorem JN:OpR X (binaryOp .Add) NB:=by
 intro pins s σ H x y v u Q I rx ry h;obtain⟨l,b,xs,zs,rfl,rfl,hH,hB,hz,q⟩:=h;cases rx;cases ry;obtain⟨z,its,n,r,hl,e⟩:=I.rp hH;obtain⟨z2,its2,n2,r2,hl2,e2⟩:=I.rp hB;refine PySem.P.add_list e e2 ?_ (by rw[NX,NX];omega);have ea:its.toArray++its2.toArray=(its++its2).toArray:=by simp
 rw[ea];exact⟨.ref _,_,I.Nb (t':=s.toks) (r.append r2) (by rw[ON];omega),rfl,q _ I.fresh⟩
end
end L2
namespace Att
open PySem PySem.W PySem.Calls PyProof.Rows
theorem sj{P:Params}{h:Heap}:∀(ns:List Int)(vs:List Value),WellAll P h vs (ns.map WData.int)->IntsAre vs ns:=by
 intro ns
 induction ns with
 |nil=>
  intro vs w;rw[O7]at w;cases w;exact .nil
 |cons n ns ih=>
  intro vs w;rw[N4]at w;cases w with
  |cons a b=>
   cases a;exact .cons _ _ (ih _ b)
theorem Bd{l:OpenLaw}{n:Nat}(hn:l.most=some n){P:Params}{h:Heap}{args:List WData}{vals:List Value}
    (hpre:l.row.toRowW.claim.pre args=true) (hwl:WellAll P h vals args) :
    ∃a vs ns,vals=[Value.ref a]/\args=[WData.list (ns.map WData.int)]/\h.get? a=some { cls:=.type "list",data:=.seq vs.toArray }/\IntsAre vs ns/\ns.length<=n:=by
  have hsh:WShape.hasAll [] args [.list .int]=true:=(pre_splitW hpre).1;have hc:l.pre.holds [] { args:=args }=true:=(pre_splitW hpre).2;obtain⟨d,r,rfl,h1,h2⟩:=hasAllW_cons hsh;obtain rfl:=hasAllW_nil h2;obtain⟨xs,rfl,h3⟩:=hasW_list h1;obtain⟨ns,rfl⟩:=items_int h3;have hlen:ns.length<=n:=by
    unfold OpenLaw.pre at hc;have h4:(WTm.not (.lt (.lit (.int (n:Int))) (.len (.arg 0)))).holds [] { args:=[.list (ns.map .int)] }=true:=by
      have h4:=(holds_andW hc).1;rw[hn]at h4;exact h4
    have h5:=condW_of h4 (w_not (w_lt w_lit (w_len_list (w_arg rfl))));rw[tv]at h5;refine Tw λq=>?_;have q':(n:Int)<((ns.length:Nat):Int):=by omega
    first
      |(rw[NQ q']at h5;exact absurd h5 (by decide))
      |(simp at h5;omega)
  cases hwl with
  |cons w1 w2=>
    cases w2;cases w1 with
    |list ho hall=>exact⟨_,_,ns,rfl,rfl,ho,sj ns _ hall,hlen⟩
theorem B0(l:OpenLaw)(args:List WData):l.row.toRowW.claim.post args (.bool true) args=true:=
 postW_of (r:=l.row.toRowW) (X:=(true==true))
  (show XX [] (.bool true) .bool=true by first |rfl |decide |simp[XX,WShape.arms,WShape.armsAll])
  (show(WTm.eq .res (.lit (.bool true))).value [] { args:=args,res:=some (.bool true),after:=args }=some (.bool (true==true))from w_eq_bool (w_res rfl) w_lit) rfl
theorem yi{l:OpenLaw}{n:Nat}{q:Program}{loose:List Str}{XP:(Str->Option Value)->Heap->Prop}{YP:World->Heap->Prop}{d:DefRec}
  (hn:l.most=some n) (hdf:d.params.defaults=[])
  (call:∀(w:World)(s₀ s1:Shared)(mg mb:Str->Option Value)(fa:Addr)(o:Obj)(pm cd doc:Value)(a:Addr)(vs:List Value)(ns:List Int),
   Ground q loose [] XP w s₀ mg mb s1.heap->YP w s1.heap ->
   s1.heap.get? fa=some o->o.data=.func (docDef d.name d.params d.body d.scope pm cd doc)->s1.heap.CodeRec cd d.name->mg d.name=some (.ref fa) ->
   s1.heap.get? a=some { cls:=.type "list",data:=.seq vs.toArray }->IntsAre vs ns->ns.length<=n->s1.gens=#[] ->
   codeAny (model l.prog w) callerA (.call (.ref fa) ⟨[.ref a],[]⟩) (λr s'=>r=.ok (.ret (.bool true))/\OldK s1.heap s'.heap/\s'.os=s1.os/\AllBare s'.gens) s1) :
  WalkO q loose XP YP l.row.toRowW d [] (λf vs=>VR f vs):=by
 intro w s₀ s1 mg mb G Y fa o pm cd doc dV kV ho hd hcd hD hmg hg args vals as hpre hlay hrd hwl hlo;obtain rfl:dV=.none:=Dflts.none hD hdf;obtain rfl:kV=.none:=Dflts.noKw hD;obtain⟨a,vs,ns,rfl,rfl,hobj,hints,hlen⟩:=Bd hn hpre hwl;refine enter_call (Ts (call w s₀ s1 mg mb fa o pm cd doc a vs ns G Y ho (fd_plain hd) hcd hmg hobj hints hlen hg) λr s' hq=>?_);obtain⟨rfl,h2,h3,h4⟩:=hq;exact⟨.inl ⟨.bool true,.bool true,[],rfl,λ_=>rfl,.bool true,B0 l _,λ_=>⟨List.Pairwise.nil,λ_ hm=>(nomatch hm)⟩⟩,h2,h3,h4⟩
end Att
namespace L2
open PySem PySem.Spec PyProof.Rows
theorem js:∀{vs:List Value}{ns:List Int},IntsAre vs ns->Vals (ns.map V.int) vs
 |_,_,.nil=>.nil
 |_,_,.cons n t h=>.cons ⟨t,rfl⟩ (js h)
def Ds(H:Hp):Prop:=∀b,H b=none\/∃o xs,H b=some (.frz o (.lst xs))
theorem DS{P:Program}{w:World}{K:NO}{mg mb:Str->Option Value}{CX:CXT}{k:Nat}{fa a:Addr}{fd:FuncData}{x:Str}{sp:Sp}{s1:Shared}{vs:List Value}{ns:List Int}
  (KX:K.In s1.heap) (hns:s1.heap.Ns mainGlobals mg) (hb:s1.heap.Ns builtinsNs mb) (hbb:∀x:Str,x≠"__name__"->mb x=bootBuiltins x) (hlim:s1.heap.NoLimit) (hg:s1.gens=#[])
  (ha:s1.heap.get? a=some { cls:=.type "list",data:=.seq vs.toArray }) (hi:IntsAre vs ns) (hl:ns.length<=sizeLine) (hr:dE k callerA)
  (F:∀base:Heap,K.In base->base.Ns mainGlobals mg->gr P w K mg base CX k fa fd [x] sp) (hbind:∀(s:Shared)(u:Value),BindsTo s fd ⟨[u],[]⟩ [(x,u)])
  (hsp:∀H:Hp,Ds H->SqL K H a (ns.map V.int)->sp [.ref a] H (λv _=>v=.bl true) λ_ _ _=>False)
  (hCX:∀H e s',CX [] H s1 (λ_ _ _=>False) e s'->False) :
  codeAny (model P w) callerA (.call (.ref fa) ⟨[.ref a],[]⟩) (λr s'=>r=.ok (.ret (.bool true))/\OldK s1.heap s'.heap/\s'.os=s1.os/\AllBare s'.gens) s1:=by
 have rv:=js hi;have lenV:=hi.length;have core:∀H:Hp,Ds H->SqL K H a (ns.map V.int)->HOk P w H s1.heap->(∀b,H b≠none->b=a)->(H a≠none->K.lookup a=none) ->
   codeAny (model P w) callerA (.call (.ref fa) ⟨[.ref a],[]⟩) (λr s'=>r=.ok (.ret (.bool true))/\OldK s1.heap s'.heap/\s'.os=s1.os/\AllBare s'.gens) s1:=by
  intro H hO hS hok hA hK;have base_of:∀{b:Addr}{o:Obj},s1.heap.get? b=some o->H b=none->(nF s1.heap H).get? b=some o:=λe n=>Dz e n;have noA:∀{b:Addr}{o:Obj}{es:Array DictEntry}{ep:Nat},s1.heap.get? b=some o->o.data=.dict es ep->H b=none:=λ{b o es ep} e d=>by
   cases q:H b with
   |none=>rfl
   |some u=>
    have e':b=a:=hA b (by rw[q];simp);subst e';rw[ha]at e;cases e;have d':Data.seq vs.toArray _=Data.dict es ep:=d;cases d'
  have nsK:∀{b:Addr}{m:Str->Option Value},s1.heap.Ns b m->(nF s1.heap H).Ns b m:=λ{b m} ⟨o,es,ep,e,d,r⟩=>⟨o,es,ep,base_of e (noA e d),d,r⟩;have hKb:K.In (nF s1.heap H):=λb o e=>base_of (KX b o e) (by
   cases q:H b with
   |none=>rfl
   |some u=>
    have e':b=a:=hA b (by rw[q];simp);subst e';rw[hK (by rw[q];simp)]at e;cases e)
  have hM:Mod K mg (nF s1.heap H):=⟨hKb,nsK hns,⟨mb,nsK hb,hbb⟩,let⟨mc,h1,h2⟩:=hlim;⟨mc,nsK h1,h2⟩⟩;have e0:zu P w K mg (nF s1.heap H) callerA [] s1 H:=⟨rfl,hM,λb o e=>Gw e,Qf (Bc _ _),trivial,λb hb=>absurd (show b∈([]:List Addr)from hb) (by simp),hok,.of_eq hg⟩;refine Ts ((F _ hKb (nsK hns)).run callerA [] s1 H ⟨[.ref a],[]⟩ [.ref a] [.ref a] _ _ hr e0 (hbind s1 (.ref a)) (.cons rfl .nil) (hsp H hO hS)) λr s' h=>?_;cases r with
  |error e=>exact(hCX H e s' h).elim
  |ok fl=>
   cases fl with
   |next=>exact Qc h
   |brk=>exact Qc h
   |cont=>exact Qc h
   |ret u=>
    obtain⟨v,H',os,bare,un,hok',r',q⟩:=h;have q':v=.bl true:=q;subst q';obtain rfl:u=Value.bool true:=r';refine⟨rfl,OldK.of_keep λb o e=>?_,os,bare⟩;cases q:H b with
    |none=>exact un.keep b o e q (by intro z;exact absurd (show b∈([]:List Addr)from z) (by simp)) (by simp)
    |some u=>
     rcases hO b with z |⟨ob,xs,z⟩
     ·rw[q]at z;cases z
     ·have z2:=un.frzs b ob _ z;obtain⟨e1,_⟩:=hok b _ z;obtain⟨e2,_⟩:=hok' b _ z2;rw[e]at e1;cases e1;exact e2
 cases hk:K.lookup a with
 |some o=>
  have e:=KX a o hk;rw[ha]at e;cases e;refine core (λ_=>none) (λ_=>.inl rfl) (.inr ⟨_,vs.toArray,_,hk,rfl,rfl,rfl,by rw[NX,lenV];exact hl,by simpa using rv⟩) (λb u z=>by have z':(none:Option HO)=some u:=z;cases z') (λb z=>absurd rfl z) λz=>absurd rfl z
 |none=>
  refine core (λb=>if b=a then some (.frz { cls:=.type "list",data:=.seq vs.toArray } (.lst (ns.map V.int)))else none) (λb=>?_) (.inl (.inr ⟨{ cls:=.type "list",data:=.seq vs.toArray },NT rfl⟩)) (λb u z=>?_) (λb z=>?_) λ_=>hk
  ·by_cases hb:b=a
   ·exact .inr ⟨_,_,NT hb⟩
   ·exact .inl (N1 hb)
  ·by_cases hb:b=a
   ·have z':=(NT hb).symm.trans z;cases z';subst hb;exact⟨ha,by rw[tv];exact hl,vs,_,rv,ha⟩
   ·have z':=(N1 hb).symm.trans z;cases z'
  ·by_cases hb:b=a
   ·exact hb
   ·exact absurd (N1 hb) z
theorem HC{l:PySem.W.OpenLaw}{n k:Nat}{q:Program}{loose:List Str}{XP:(Str->Option Value)->Heap->Prop}{YP:World->Heap->Prop}{d:DefRec}{K:Params->NO}{CX:World->CXT}{sp:World->Sp}{x:Str}
  (hn:l.most=some n) (hn2:n<=sizeLine) (hdf:d.params.defaults=[]) (hr:dE k callerA)
  (hY:∀(w:World)(h:Heap),YP w h->(K w.params).In h)
  (F:∀(w:World)(mg:Str->Option Value)(fa:Addr)(h:Heap),(K w.params).In h->h.Ns mainGlobals mg->mg d.name=some (.ref fa) ->
   ∃fd:FuncData,(∀(s:Shared)(u:Value),BindsTo s fd ⟨[u],[]⟩ [(x,u)]) /\
    ∀base:Heap,(K w.params).In base->base.Ns mainGlobals mg->gr l.prog w (K w.params) mg base (CX w) k fa fd [x] (sp w))
  (hsp:∀(w:World)(H:Hp)(a:Addr)(ns:List Int),ns.length<=n->Ds H->SqL (K w.params) H a (ns.map V.int)->sp w [.ref a] H (λv _=>v=.bl true) λ_ _ _=>False)
  (hCX:∀(w:World)(H:Hp)(s:Shared)(e:Value)(s':Shared),CX w [] H s (λ_ _ _=>False) e s'->False) :
  WD q loose XP YP l.row.toRowW d [] (λf vs=>VR f vs):=by
 refine Att.yi hn hdf λw s₀ s1 mg mb fa o pm cd doc a vs ns G Y ho hd hcd hmg hobj hints hlen hg=>?_;have KX:=hY w _ Y;obtain⟨fd,hb,hF⟩:=F w mg fa _ KX G.T.g hmg;exact DS KX G.T.g G.T.b G.T.builtins G.T.nolimit hg hobj hints (N7 hlen hn2) hr hF hb (λH hO hS=>hsp w H a ns hlen hO hS) λH e s'=>hCX w H s1 e s'
def j7(s:Stmt):Arguments:=match s with
 | .FunctionDef _ a _ _ _ _ _ _ _ _=>a
 |_=>{ posonlyargs:=[],args:=[],vararg:=none,kwonlyargs:=[],kw_defaults:=[],kwarg:=none,defaults:=[] }
def eV(s:Stmt):List Stmt:=match s with
 | .FunctionDef _ _ b _ _ _ _ _ _ _=>b
 |_=>[]
def bE(s:Stmt):Scope:=match s with
 | .FunctionDef _ _ _ _ _ _ sc _ _ _=>sc
 |_=>{ kind:=.function,names:=[],isGenerator:=false,isCoroutine:=false }
abbrev CX0:CXT:=λ_ _ _ _ _ _=>False
abbrev E0:XK:=λ_ _ _=>False
theorem E2{X:Cx}:Passes CX0 X E0:=λ_ _ _ _ _ _ _ h=>h.elim
structure Fun(K:NO)(x qual:Str)(st:Stmt)(f:Addr)(fd:FuncData):Prop where
 ex:∃(oc:Value)(od:Option Addr)(kV doc pm:Value)(an:Option Addr)(cdv ct:Value)(osl:Array (Option Value)),
  fd=QC x qual (j7 st) (eV st) (bE st) .none kV doc pm an cdv ct/\K.lookup f=some ⟨oc,od,.func fd,osl⟩/\Sz K cdv qual=true
 kp:Qx K (.ref f)=true
section
variable{P:Program}{w:World}{K:NO}{mg:Str->Option Value}{base:Heap}
theorem Fun.ok{x qual:Str}{st:Stmt}{f:Addr}{fd:FuncData}{N ps:List Str}{k:Nat}{sp:Sp}(F:Fun K x qual st f fd)(S:i6 N ps (bE st))(len:∀vs H Q E,sp vs H Q E->vs.length=ps.length)
  (hbody:∀(cdv:Value)(A:Around)(outer:List Env)(s:Shared)(H:Hp)(vs:List V)(Q:VK)(E:XK),dE k (A.deeper (envOfC qual (bE st) s.heap.objs.size f cdv))->sp vs H Q E ->
   ∃t,PSs (gT CX0 P w K mg base N qual (bE st) f cdv A outer s H E).nox (eV st) t/\t { nx:=λ_ H'=>Q .non H',rt:=Q } (start N vs) H):gr P w K mg base CX0 (k+1) f fd ps sp:=by
 obtain⟨oc,od,kV,doc,pm,an,cdv,ct,osl,rfl,lk,hcd⟩:=F.ex;refine Fi lk hcd S len λA outer s H vs Q E hr hsp=>?_;obtain⟨t,h,q⟩:=hbody cdv A outer s H vs Q E hr hsp;exact⟨t,h.nox,q⟩
theorem HX{x qual:Str}{st:Stmt}{f:Addr}{oc:Value}{od an:Option Addr}{osl:Array (Option Value)}{kV doc pm cdv ct:Value}(l:K.lookup f=some ⟨oc,od,.func (QC x qual (j7 st) (eV st) (bE st) .none kV doc pm an cdv ct),osl⟩)
  (c:Sz K cdv qual=true) (k:Qx K (.ref f)=true):Fun K x qual st f (QC x qual (j7 st) (eV st) (bE st) .none kV doc pm an cdv ct):=⟨⟨oc,od,kV,doc,pm,an,cdv,ct,osl,rfl,l,c⟩,k⟩
end
theorem fP{n:Nat}(h:n<=1000):n<sizeLine:=Nat.lt_of_le_of_lt h (by decide)
def eD(H H':Hp):Prop:=∀b o,H b=some o->H' b=some o
def gu(env:Env):List (Str×NameKind)->List (Str×Addr)->List (Str×Addr)
 | [],acc=>acc
 |(n,k)::r,acc=>gu env r (if k == .free then(n,(env.cells.lookup n).getD 0)::acc else acc)
theorem k8(h:∀y∈scope.names,y.2=.free->∃c,env.cells.lookup y.1=some c):closureFor scope env=pure (gu env scope.names []):=by
 have all:∀(l:List (Str×NameKind))(acc:List (Str×Addr)),(∀y∈l,y.2=.free->∃c,env.cells.lookup y.1=some c) ->
   (forIn l acc λ(x:Str×NameKind)(r:List (Str×Addr))=>match x with
    |(name,kind)=>if(kind==NameKind.free)=true then(do let a<-cellOf env name;pure (ForInStep.yield ((name,a)::r)))else pure (ForInStep.yield r):Sem (List (Str×Addr)))=pure (gu env l acc):=by
  intro l
  induction l with
  |nil=>intro acc _;rfl
  |cons y r ih=>
   intro acc hl;obtain⟨n,k⟩:=y;have hr:∀y∈r,y.2=.free->∃c,env.cells.lookup y.1=some c:=λy hy=>hl y (Oh _ hy);rw[T4];by_cases hk:k=.free
   ·subst hk;obtain⟨c,hc⟩:=hl _ Oq rfl;have e:cellOf env n=pure c:=by unfold cellOf;rw[show env.cells.lookup n=some c from hc]
    simp only[beq_self_eq_true,Se,e,pure_bind];rw[ih _ hr];simp only[gu,beq_self_eq_true,Se,show env.cells.lookup n=some c from hc,QH]
   ·have hb:(k==NameKind.free)=false:=by simpa using hk
    simp only[hb,Rv,SA,pure_bind];rw[ih _ hr];simp only[gu,hb,Rv,SA]
 have q:=all scope.names [] h;unfold closureFor;simp only[bind_pure]at q ⊢;exact q
theorem w6:∀{l:List (Str×NameKind)}{acc:List (Str×Addr)}{x:Str}{c:Addr},(∀y∈l,y.2=.free->∃c,env.cells.lookup y.1=some c) ->
  (∀x c,(x,c)∈acc->env.cells.lookup x=some c)->(x,c)∈gu env l acc->env.cells.lookup x=some c
 | [],_,_,_,_,ha,h=>ha _ _ h
 |(n,k)::r,acc,x,c,hl,ha,h=>by
  refine w6 (l:=r) (λy hy=>hl y (Oh _ hy)) (λx c hm=>?_) h;by_cases hk:(k==NameKind.free)=true
  ·rw[NT hk]at hm;rcases NU.mp hm with e |e
   ·cases e;obtain⟨c',hc⟩:=hl _ Oq (by simpa using hk);have hc':env.cells.lookup n=some c':=hc;rw[hc'];rfl
   ·exact ha _ _ e
  ·rw[N1 hk]at hm;exact ha _ _ hm
theorem fO(hl:∀y∈l,y.2=.free->∃c,env.cells.lookup y.1=some c)(h:(gu env l []).lookup x=some c):env.cells.lookup x=some c:=
 w6 hl (λ_ _ z=>absurd z (by simp)) (O9 h)
theorem rF:∀{l:List (Str×NameKind)}{acc:List (Str×Addr)}{x:Str},((x,NameKind.free)∈l\/∃c,(x,c)∈acc)->∃c,(x,c)∈gu env l acc
 | [],_,_,h=>h.elim (λz=>absurd z (by simp)) λz=>z
 |(n,k)::r,acc,x,h=>by
  refine rF (l:=r) ?_;rcases h with h |⟨c,h⟩
  ·rcases NU.mp h with e |e
   ·cases e;exact .inr ⟨_,by rw[NT (by simp)];exact Oq⟩
   ·exact .inl e
  ·by_cases hk:(k==NameKind.free)=true
   ·exact .inr ⟨c,by rw[NT hk];exact Oh _ h⟩
   ·exact .inr ⟨c,by rw[N1 hk];exact h⟩
theorem gq:∀{l:List (Str×z)}{x:Str}{c:z},(x,c)∈l->∃c',l.lookup x=some c'
 | [],_,_,h=>nomatch h
 |(n,d)::r,x,c,h=>by
  rw[OC];cases e:x==n with
  |true=>exact⟨d,rfl⟩
  |false=>
   rcases NU.mp h with q |q
   ·cases q;simp at e
   ·exact gq q
def bP(X:Cx)(scope:Scope)(N:List Str)(C:Addr)(s:Shared)(H:Hp)(fp:List Addr):Cx:=
 { X with N:=N,s₀:=s,H₀:=H,env:=compEnvC scope (gu X.env scope.names []) C X.env,outer:=X.stack,ex:=fp,fn:=λ_=>false,pn:=[],xe:=λ_ _=>False }
structure eX(esc scope:Scope)(EN N:List Str)(k:Nat):Prop where
 kind:scope.kind=.function
 nocell:∀y∈scope.names,y.2≠.cell
 names:∀y∈scope.names,y.2=.local->scope.names.lookup y.1=some .local
 frees:∀y∈scope.names,y.2=.free->esc.names.lookup y.1=some .cell\/esc.names.lookup y.1=some .free
 len:N.length=k+EN.length
 nm:(((N.drop k).zip EN).all λp=>(decide (p.1=p.2)&&decide (scope.names.lookup p.1=some .free))||decide (scope.names.lookup p.1=none))=true
theorem dM{scope:Scope}{env:Env}{x:Str}{k:NameKind}:∀{l:List (Str×NameKind)},
  (l.map λ(n,k)=>if(k==NameKind.free&&env.scope.kind == .function&&env.kindOf n==some .cell)then(n,NameKind.cell)else(n,k)).lookup x=some k ->
  l.lookup x=some k\/(l.lookup x=some .free/\k=.cell/\env.kindOf x=some .cell)
 | [],h=>by simp at h
 |(n,k')::r,h=>by
  have ih:=@dM scope env x k r;cases hx:x==n with
  |true=>
   have e:x=n:=by simpa using hx
   subst e;by_cases hc:(k'==NameKind.free&&env.scope.kind == .function&&env.kindOf x==some .cell)=true
   ·simp only[N4,NT hc,OC,hx]at h;cases h;have hc2:(k'=.free/\env.scope.kind=.function)/\env.kindOf x=some .cell:=by simpa using hc
    exact .inr ⟨by simp[OC,hc2.1.1],rfl,hc2.2⟩
   ·simp only[N4,N1 hc,OC,hx]at h;exact .inl (by simpa[OC]using h)
  |false=>
   have h':(r.map λ(n,k)=>if(k==NameKind.free&&env.scope.kind == .function&&env.kindOf n==some .cell)then(n,NameKind.cell)else(n,k)).lookup x=some k:=by
    by_cases hc:(k'==NameKind.free&&env.scope.kind == .function&&env.kindOf n==some .cell)=true
    ·simpa only[N4,NT hc,OC,hx]using h
    ·simpa only[N4,N1 hc,OC,hx]using h
   rw[OC,hx];exact ih h'
theorem oK{scope:Scope}{env:Env}{x:Str}:∀{l:List (Str×NameKind)},l.lookup x=some .free ->
  (l.map λ(n,k)=>if(k==NameKind.free&&env.scope.kind == .function&&env.kindOf n==some .cell)then(n,NameKind.cell)else(n,k)).lookup x=some .cell \/
  (l.map λ(n,k)=>if(k==NameKind.free&&env.scope.kind == .function&&env.kindOf n==some .cell)then(n,NameKind.cell)else(n,k)).lookup x=some .free
 | [],h=>by simp at h
 |(n,k')::r,h=>by
  have ih:=@oK scope env x r;cases hx:x==n with
  |true=>
   by_cases hc:(k'==NameKind.free&&env.scope.kind == .function&&env.kindOf n==some .cell)=true
   ·exact .inl (by simp only[N4,NT hc,OC,hx])
   ·refine .inr ?_;simp only[N4,N1 hc,OC,hx];simpa only[OC,hx]using h
  |false=>
   have h':r.lookup x=some .free:=by simpa only[OC,hx]using h
   by_cases hc:(k'==NameKind.free&&env.scope.kind == .function&&env.kindOf n==some .cell)=true
   ·simpa only[N4,NT hc,OC,hx]using ih h'
   ·simpa only[N4,N1 hc,OC,hx]using ih h'
section
variable{X:Cx}{pins:List (Addr×Obj)}{σ:St}{H:Hp}{s:Shared}{scope:Scope}{N:List Str}{k:Nat}{fp:List Addr}
theorem eX.cells(S:eX X.env.scope scope X.N N k)(ok:X.Ok):∀y∈scope.names,y.2=.free->∃c,X.env.cells.lookup y.1=some c:=λy hy hf=>ok.has y.1 (S.frees y hy hf)
theorem Inv.Hg{h4:Heap}(I:Inv X pins σ H s)(S:eX X.env.scope scope X.N N k)(hf:∀b∈fp,eZ X pins H b)(hlt:∀b∈fp,b<s.heap.objs.size)(hn:h4.Ns s.heap.objs.size λ_=>none)(hk:∀b o,s.heap.get? b=some o->h4.get? b=some o) :
  Inv (bP X scope N s.heap.objs.size s H fp) [] (N_ k none++σ) H { s with heap:=h4,toks:=tk }:=by
 have hcells:=S.cells I.ok;have noA:∀p:Addr×Obj,p∈(bP X scope N s.heap.objs.size s H fp).pn++[]->False:=λp hp=>absurd (show p∈([]:List (Addr×Obj))from hp) (by simp);refine⟨⟨I.ok.mod,S.kind,I.ok.glob,I.ok.blt,NW _,λy z c h1 h2=>?_,λy hy=>?_,λy c h=>?_,I.ok.hd,I.ok.frames,.inl rfl,λb hb=>?_,I.bs,N7 I.ok.bsz I.sz,λb o e hb=>?_,λb hb hz=>?_,I.stack,I.tG⟩,
  rfl,I.bare,Un.kept hk,⟨_,hn,λi y v h1 h2 h3=>?_⟩,λy c h=>?_,I.hok.fresh (NW _),λy c h=>?_,λp hp=>(noA p hp).elim,I.hok.kept hk,?_⟩
 ·exact I.ok.inj y z c (fO hcells h1) (fO hcells h2)
 ·have hy:(relabel scope X.env).names.lookup y=some .cell\/(relabel scope X.env).names.lookup y=some .free:=hy;have hfree:scope.names.lookup y=some .free:=by
   rcases hy with q |q
   ·rcases dM (scope:=scope) q with q |⟨q,_⟩
    ·exact absurd rfl (S.nocell _ (O9 q))
    ·exact q
   ·rcases dM (scope:=scope) q with q |⟨q,z,_⟩
    ·exact q
    ·cases z
  obtain⟨c,hc⟩:=rF (env:=X.env) (l:=scope.names) (acc:=[]) (.inl (O9 hfree));exact gq hc
 ·exact absurd h (by show¬(false=true);decide)
 ·obtain⟨f0,f1,f2,f3,f4,f5⟩:=hf b hb;exact⟨Og (hlt b hb),λx c h=>f4 x c (fO hcells h)⟩
 ·obtain⟨f0,f1,f2,f3,f4,f5⟩:=hf b hb;rcases f3 with q |q
  ·exact I.ok.noex b o e q
  ·exact absurd (Oo (N2 (I.ok.bs b o e).1) q) (Pf _)
 ·obtain⟨f0,f1,f2,f3,f4,f5⟩:=hf b hb;rcases NU.mp (I.mx b hz)with z |z
  ·exact f1 z
  ·exact f2 z
 ·
  have hi:k<=i:=by
   refine Tw λq=>?_;rw[Oy (by simpa using q),Pu]at h2;split at h2<;>cases h2
  obtain⟨j,rfl⟩:=Nat.exists_eq_add_of_le hi;have h2':σ[j]?=some (some v):=by
   rw[OA (by simp)]at h2;simpa using h2
  have hy:(relabel scope X.env).names.lookup y=some .local\/(relabel scope X.env).names.lookup y=some .cell\/(relabel scope X.env).names.lookup y=some .free:=h3;have hjn:j<X.N.length:=by
   have:=(NZ.mp h2').1;rw[I.len]at this;exact this
  have hyn:N[k+j]?=some y:=h1;have hnm:=Oi.mp S.nm (y,X.N[j]) (by
   refine Qj.mpr ⟨j,?_⟩;rw[List.getElem?_zip_eq_some];exact⟨by rw[SI];exact hyn,by simp[hjn]⟩)
  have hvis:scope.names.lookup y≠none:=by
   rcases hy with q |q |q
   ·rcases dM (scope:=scope) q with q |⟨q,_⟩<;>rw[q]<;>simp
   ·rcases dM (scope:=scope) q with q |⟨q,_⟩<;>rw[q]<;>simp
   ·rcases dM (scope:=scope) q with q |⟨q,_⟩<;>rw[q]<;>simp
  have hnm2:y=X.N[j]/\scope.names.lookup y=some .free:=by
   rcases(Ph _ _).mp hnm with q |q
   ·exact⟨Oc ((N3 _ _).mp q).1,Oc ((N3 _ _).mp q).2⟩
   ·exact absurd (Oc q) hvis
  obtain⟨hyj,hfree⟩:=hnm2;have hk2:=S.frees _ (O9 hfree) rfl;have hvis2:Vis X.env.scope y:=.inr hk2;obtain⟨m,hm,hl⟩:=I.loc;obtain⟨u,ru,lk⟩:=hl j y v (by rw[hyj];simp[hjn]) h2' hvis2;refine⟨u,ru,?_⟩;rcases lk with⟨q,_⟩ |⟨_,c,hc,hcell⟩
  ·rcases hk2 with z |z
   ·exact absurd (q.symm.trans (show X.env.kindOf y=some .cell from z)) (by simp)
   ·exact absurd (q.symm.trans (show X.env.kindOf y=some .free from z)) (by simp)
  ·refine .inr ⟨oK (scope:=scope) hfree,c,?_,hcell.keeps hk⟩;obtain⟨c',hc'⟩:=rF (env:=X.env) (l:=scope.names) (acc:=[]) (.inl (O9 hfree));obtain⟨c2,hc2⟩:=gq hc';have q:=fO hcells hc2;rw[hc]at q;cases q;exact hc2
 ·obtain⟨v,q⟩:=I.cell y c (fO hcells h);exact⟨v,q.keeps hk⟩
 ·exact I.freeC y c (fO hcells h)
 ·show(N_ k none++σ).length=N.length;rw[ON,P9,S.len,I.len]
end
section
variable{prog:Program}{w:World}{A:Around}{R:Result->Shared->Prop}{s:Shared}
theorem nj{R:Value->Shared->Prop}:∀(x:Value)(s':Shared),False->notedBy (model prog w) A env R x s':=λ_ _ h=>h.elim
theorem xM(I:Nat->Shared->Prop)
  (turn:∀n s,I n s->wpAny (model prog w) A (pyNext it) (λr s1=>match r with
   |none=>R (.ok .next) s1
   |some v=>wpAny (model prog w) A (letOwnedTupleGo target it v) (λ_ s1'=>wpAny (model prog w) A (assign target env v) (λ_ s2=>
     wpAny (model prog w) A (forIn ifs true λc r=>if r=true then do let ok<-isTrue c env (eval c env);pure (ForInStep.yield ok)else pure (ForInStep.yield r)) (λok s₃=>
      if ok=true then wpAny (model prog w) A (eval elt env) (λx s4=>
       wpAny (model prog w) A (call (.builtin "list.append") [acc,x]) (λ_ s5=>∃m,m<n/\I m s5) (λ_ _=>False) s4) (notedBy (model prog w) A env λx s'=>R (.error x) s') s₃
      else∃m,m<n/\I m s₃) (λ_ _=>False) s2) (λ_ _=>False) s1') (λ_ _=>False) s1) (λ_ _=>False) s)
  (n:Nat) (h:I n s) :
  codeAny (model prog w) A (.compLoop (.ListComp elt [⟨target,iter,ifs,0⟩] scope pos) 0 it acc env) R s:=by
 refine codeAny_loop rfl I (λn s hI=>?_) n h;show wpAny _ A ((compTurn (.ListComp elt [⟨target,iter,ifs,0⟩] scope pos) 0 it acc env).onRaise (λx=>do noteFrame x env;theTreesLotGoes x)) _ _ s;refine wpAny_noted ?_;rw[compTurn_list];refine ar (UC (ar (Pm (turn n s hI) (λr s1 h₁=>?_) nj)));cases r with
 |none=>exact NP h₁
 |some v=>
  refine ar (Pm h₁ (λ_ s1' h1'=>?_) nj);refine ar (Pm h1' (λ_ s2 h₂=>ar (Pm h₂ (λok s₃ h3=>?_) nj)) nj);cases ok with
  |false=>exact NP ⟨rfl,h3⟩
  |true=>
   exact ar (ar (Pm h3 (λx s4 h₄=>ar (Pm h₄ (λ_ s5 h5=>NP (NP ⟨rfl,h5⟩)) nj)) λ_ _ q=>q))
end
def PTs(X:Cx)(ifs:List Expr)(t:TT):Prop:=
 ∀(pins:List (Addr×Obj))(s:Shared)(σ:St)(H:Hp)(Q:Bool->Hp->Prop),Inv X pins σ H s->t σ H Q ->
  wpAny (model X.prog X.w) X.A (forIn ifs true λc r=>if r=true then do let ok<-isTrue c X.env (eval c X.env);pure (ForInStep.yield ok)else pure (ForInStep.yield r)) (TP X pins σ Q) X.xe s
def M8:TT:=λ_ H Q=>Q true H
theorem GF:PTs X [] M8:=λ_ _ _ H _ I h=>wpAny_tests_nil ⟨H,I,h⟩
theorem F9(h:PT X c t):PTs X [c] t:=λpins s σ H Q I q=>wpAny_tests_one (h pins s σ H Q I q)
def LCW(J:It)(g:TG)(tt:TT)(te:TE)(k:Nat)(D:Addr)(σ:St)(H1:Hp)(Q:Hp->Prop):Prop:=
 ∃W:Nat->Nat->St->Hp->Prop,(∃m,W 0 m (N_ k none++σ) (upd H1 D (.lst [])))/\∀i m σ' H',W i m σ' H' ->
  (J.stop i H'/\Q H')\/(J.go i H'/\∃N:St->Hp->Prop,(∀σ2 H2,N σ2 H2->∃m',m'<m/\W (i+1) m' σ2 H2) /\
   ∀x H2,J.yld i H' x H2->g x σ' H2 λσ3 H3=>tt σ3 H3 λb H4=>if b=true then te σ3 H4 λv H5=>∃xs,H5 D=some (.lst xs)/\xs.length<sizeLine/\N σ3 (upd H5 D (.lst (xs++[v])))else N σ3 H4)
def KG(wi:TI)(g:TG)(tt:TT)(te:Hp->TE)(k:Nat):TE:=λσ H Q=>wi σ H λJ H1=>∀D,H1 D=none->LCW J g tt (te (upd H1 D (.lst []))) k D σ H1 λH2=>Q (.ref D) H2
def zD(X:Cx)(C:Addr)(x:Value)(s':Shared):Prop:=∃m,s'.heap.Ns C m/\∀h',OD C s'.heap h'->∀cenv:Env,cenv.locals=C->wpAny (model X.prog X.w) X.A (passOn "comprehension.variables-let-go" x cenv:Sem Value) (λ_ _=>False) X.xe { s' with heap:=h' }
def LCE(X:Cx)(scope:Scope)(N:List Str)(elt:Expr)(te:Hp->TE):Prop:=∀(pins:List (Addr×Obj))(σ:St)(C:Addr)(s3:Shared)(H3:Hp)(fp:List Addr)(pt:List (Addr×Obj))(s:Shared)(σ':St)(H':Hp)(Q:VK),s3.heap.objs.size=C->Inv X pins σ H3 s3->(∀b∈fp,eZ X pins H3 b)->(∀b∈fp,∃o,(b,o)∈pt) ->
 Inv (bP X scope N C s3 H3 fp) pt σ' H' s->te H3 σ' H' Q->wpAny (model X.prog X.w) X.A (eval elt (compEnvC scope (gu X.env scope.names []) C X.env)) (EP (bP X scope N C s3 H3 fp) pt σ' Q) (notedBy (model X.prog X.w) X.A (compEnvC scope (gu X.env scope.names []) C X.env) (zD X C)) s
theorem B2(he:∀C s H fp,PE (bP X scope N C s H fp) elt te):LCE X scope N elt λ_=>te:=λ_ _ C s3 H3 fp pt s q' H' Q _ _ _ _ I q=>Pm (he C s3 H3 fp pt s q' H' Q I q) (λ_ _ z=>z) λ_ _ z=>z.elim
def tLC(wi:TI)(g:TG)(tt:TT)(te:TE)(k:Nat):TE:=λσ H Q=>wi σ H λJ H1=>∀D,H1 D=none->LCW J g tt te k D σ H1 λH2=>Q (.ref D) H2
section
variable{X:Cx}{tg elt iter:Expr}{ifs:List Expr}{scope:Scope}{pos:Pos}{wi:TI}{g:TG}{tt:TT}{N:List Str}{k:Nat}
theorem wC{pins:List (Addr×Obj)}{σ:St}{H2:Hp}{s2:Shared}{it:Addr}{fp:List Addr}{tn:Nat->Heap->Prop}{J:It}{E:Value->Shared->Prop}{QD:Addr->Hp->Prop}{RR:Value->Addr->Result->Shared->Prop}{te:Hp->TE}
  (hc:X.calm=true) (S:eX X.env.scope scope X.N N k) (hg:∀C s H fp,PG (bP X scope N C s H fp) tg g) (ht:∀C s H fp,PTs (bP X scope N C s H fp) ifs tt) (he:LCE X scope N elt te) (hRE:∀D C x s',zD X C x s'->RR (.ref D) C (.error x) s')
  (I2:Inv X pins σ H2 s2) (T:Turn X.prog X.w X.K tg J fp it tn) (st2:tn 0 s2.heap) (f2:∀b∈fp,eZ X pins H2 b) (q:∀D,H2 D=none->LCW J g tt (te (upd H2 D (.lst []))) k D σ H2 (QD D))
  (hRR:∀(D C:Addr)(s':Shared)(H':Hp)(m:Str->Option Value),s2.heap.objs.size<C->Inv X pins σ H' s'->s'.heap.Ns C m->H' C=none->C≠X.env.locals->C∉X.fs->X.s₀.heap.objs.size<=C->(∀x c,X.env.cells.lookup x=some c->c≠C)->(∀p∈X.pn++pins,p.1≠C)->QD D H'->RR (.ref D) C (.ok .next) s') :
  wpAny (model X.prog X.w) X.A (newList []) (λacc s₃=>wpAny (model X.prog X.w) X.A (newFunctionEnv scope X.env.globals (gu X.env scope.names []) [] X.env.qual none .none (some X.env)) (λcenv s4=>
   codeAny (model X.prog X.w) X.A (.compStart (.ListComp elt [⟨tg,iter,ifs,0⟩] scope pos) 0 (.ref it) acc { cenv with scope:=relabel scope X.env }) (RR acc cenv.locals) s4) E s₃) E s2:=by
 have hD:H2 s2.heap.objs.size=none:=I2.hok.fresh (NW _);obtain⟨W,⟨m0,w0⟩,turn⟩:=q _ hD;refine O4 ?_;have I3:Inv X pins σ (upd H2 s2.heap.objs.size (.lst [])) { s2 with heap:=s2.heap.push { cls:=.type "list",dict:=none,data:=.seq ([]:List Value).toArray } }:=by
  refine I2.laid (t':=s2.toks) (λb u e=>NR _ e) (NW _) ?_;exact⟨Pc _,[],0,.nil,N5 _ rfl⟩
 have k3:∀b o,s2.heap.get? b=some o->(s2.heap.push { cls:=.type "list",dict:=none,data:=.seq ([]:List Value).toArray }).get? b=some o:=λb o e=>NR _ e;generalize hs3:({ s2 with heap:=s2.heap.push { cls:=.type "list",dict:=none,data:=.seq ([]:List Value).toArray } }:Shared)=s3 at I3 ⊢;have hsz:s3.heap.objs.size=s2.heap.objs.size+1:=by rw[<-hs3];exact Qy ..
 have k3':∀b o,s2.heap.get? b=some o->s3.heap.get? b=some o:=by rw[<-hs3];exact k3
 generalize hDe:s2.heap.objs.size=D at *;have fpD:∀b∈fp,b<D:=λb hb=>by
  obtain⟨o,e,_⟩:=T.obj _ _ st2 b hb;rw[<-hDe];exact N2 e
 have f3:∀b∈fp,eZ X pins (upd H2 D (.lst [])) b:=λb hb=>by
  refine⟨?_,(f2 b hb).2⟩;rw[bf (Og (fpD b hb))];exact(f2 b hb).1
 refine wpAny_newFunctionEnv S.nocell (by intro y hy;simp at hy) (λh4 hn4 hs4=>?_) S.kind
 try dsimp only at hn4 hs4 ⊢
 have k4:∀b o,s3.heap.get? b=some o->h4.get? b=some o:=λb o e=>hs4.extBut b o (Og (N2 e)) (NR _ e);have I4:=I3.Hg (h4:=h4) (tk:=s3.toks+0) S f3 (λb hb=>by rw[hsz];exact Tf (fpD b hb)) hn4 k4;have st4:tn 0 h4:=T.keep _ _ _ st2 λb hb o e=>k4 b o (k3' b o e);have fr4:∀b∈fp,(upd H2 D (.lst [])) b=none:=λb hb=>(f3 b hb).1;generalize hC:s3.heap.objs.size=C at *;have hX:∀(H':Hp),(∀b∈fp,H' b=none)->∀b∈fp,eZ (bP X scope N C s3 (upd H2 D (.lst [])) fp) [] H' b:=λH' hn b hb=>by
  obtain⟨g0,g1,g2,g3,g4,g5⟩:=f3 b hb;refine⟨hn b hb,?_,?_,.inl hb,?_,λp hp=>absurd (show p∈([]:List (Addr×Obj))from hp) (by simp)⟩
  ·exact Og (SJ (Tf (fpD b hb)) hsz.symm)
  ·intro z;rcases NU.mp (I3.mx b z)with z |z
   ·exact g1 z
   ·exact g2 z
  ·intro x c h;exact g4 x c (fO (S.cells I3.ok) h)
 have fin:∀(s':Shared)(σ':St)(H':Hp),Inv (bP X scope N C s3 (upd H2 D (.lst [])) fp) [] σ' H' s'->QD D H'->RR (.ref D) C (.ok .next) s':=by
  intro s' σ' H' I' qd;obtain⟨m,hm,_⟩:=id I'.loc;have IX:Inv X pins σ H' s':=by
   refine I3.EZ (s':=s') (ch:=fp) I'.os I'.base I'.hok I'.bare λb hb=>?_;obtain⟨g0,g1,g2,g3,g4,g5⟩:=f3 b hb;exact⟨g3,g1,g4,g5⟩
  have hlt:=I3.lt;rw[hC]at hlt;refine hRR D C s' H' m (SJ (Nat.lt_succ_self D) hsz.symm) IX hm I'.free (Qd hlt) (I3.Dp (Qf hC)) (N7 I3.sz (Qf hC)) (λx c e z=>?_) (λp hp z=>?_) qd
  ·obtain⟨v,hv⟩:=I3.cell x c e;have q:=hv.lt;rw[hC,z]at q;exact Pf _ q
  ·have q:=N2 (I3.pin p hp).1;rw[hC,z]at q;exact Pf _ q
 have loop:∀s₀:Shared,s₀={ s3 with heap:=h4,toks:=s3.toks+([]:List (Str×Value)).length } ->
   codeAny (model X.prog X.w) X.A (.compLoop (.ListComp elt [⟨tg,iter,ifs,0⟩] scope pos) 0 (.ref it) (.ref D) (compEnvC scope (gu X.env scope.names []) C X.env)) (RR (.ref D) C) s₀:=by
  rintro s₀ rfl;refine xM (λn s'=>∃i σ' H',Inv (bP X scope N C s3 (upd H2 D (.lst [])) fp) [] σ' H' s'/\tn i s'.heap/\(∀b∈fp,H' b=none)/\W i n σ' H') ?_ m0 ⟨0,_,_,I4,st4,fr4,w0⟩;rintro n s5 ⟨i,σ5,H5,I5,st5,fr5,w5⟩;rcases turn i n σ5 H5 w5 with⟨stop,qn⟩ |⟨go,NN,hN,step⟩
  ·refine thn (T.done (bP X scope N C s3 (upd H2 D (.lst [])) fp) rfl rfl rfl hc i [] s5 σ5 H5 _ I5 (hX _ fr5) st5 stop) λr s6 ⟨hr,I6⟩=>?_;subst hr;exact fin s6 σ5 H5 I6 qn
  ·refine thn (T.item (bP X scope N C s3 (upd H2 D (.lst [])) fp) rfl rfl rfl hc i [] s5 σ5 H5 _ I5 (hX _ fr5) st5 go) λr s6 ⟨u,hr,h6⟩=>?_;subst hr;refine thn h6 λ_ s7 ⟨x,H7,I7,r7,y7,st7,fr7⟩=>?_;have I7':=I7.pinned (hX _ fr7) (T.obj _ _ st7);have back:∀{s9:Shared}{σ9:St}{H9:Hp},Inv (bP X scope N C s3 (upd H2 D (.lst [])) fp) ([]++oY fp s7.heap) σ9 H9 s9->NN σ9 H9->∃m,m<n/\∃i σ' H',Inv (bP X scope N C s3 (upd H2 D (.lst [])) fp) [] σ' H' s9/\tn i s9.heap/\(∀b∈fp,H' b=none)/\W i m σ' H':=λ{s9 σ9 H9} I9 n9=>by
    obtain⟨m',hm,w9⟩:=hN σ9 H9 n9;refine⟨m',hm,i+1,σ9,H9,I9.kG,T.keep _ _ _ st7 λb hb o e=>(I9.pin (b,o) (Oe _ (Oe _ (h9 hb e)))).1,λb hb=>?_,w9⟩;obtain⟨o,e,d⟩:=T.obj _ _ st7 b hb;exact(I9.pin (b,o) (Oe _ (Oe _ (h9 hb e)))).2.1
   refine thn (hg C s3 _ fp _ s7 σ5 H7 x u _ I7' r7 (step x H7 y7)) λ_ s8 ⟨σ8,H8,I8,q8⟩=>?_;refine thn (ht C s3 _ fp _ s8 σ8 H8 _ I8 q8) λok s9 ⟨H9,I9,q9⟩=>?_;cases ok with
   |false=>
    rw[N1 Od]at q9;rw[N1 Od];exact back I9 q9
   |true=>
    rw[NT rfl]at q9;rw[NT rfl];refine Pm (he pins σ C s3 _ fp _ s9 σ8 H9 _ hC I3 f3 (λb hb=>by
      obtain⟨o,e,_⟩:=T.obj _ _ st7 b hb;exact⟨o,Oe _ (h9 hb e)⟩) I9 q9) (λy s10 ⟨v,H10,I10,r10,q10⟩=>?_) λx s10 z=>Pm z (λ_ _=>hRE D C x _) (λ_ _=>hRE D C _ _)
    obtain⟨xs,hD10,hz,qN⟩:=q10;refine thn (tW (X:=bP X scope N C s3 (upd H2 D (.lst [])) fp) _ s10 σ8 H10 (.ref D) [v] (.ref D) [y] (λ_ H'=>NN σ8 H') I10 rfl (.cons r10 .nil) ⟨D,xs,v,rfl,rfl,hD10,hz,qN⟩) λ_ s11 ⟨_,H11,I11,_,q11⟩=>?_;exact back I11 q11
 exact codeAny_compStart_list (loop _ rfl) (T.self _ 0 _ _ _ st4 (loop _ rfl))
theorem B9{te:Hp->TE}(hc:X.calm=true)(S:eX esc scope EN N k)(h1:X.env.scope=esc)(h2:X.N=EN)(hi:PI X tg iter wi)(hg:∀C s H fp,PG (bP X scope N C s H fp) tg g)(ht:∀C s H fp,PTs (bP X scope N C s H fp) ifs tt)(he:LCE X scope N elt te)
  (hs:∀x,foldedSetIterable iter X.env x=pure x:=by intro _;rfl):PE X (.ListComp elt [⟨tg,iter,ifs,0⟩] scope pos) (KG wi g tt te k):=by
 subst h1 h2;intro pins s σ H Q I h;rw[eval_ListComp];refine Tz (use:=none) rfl hs (k8 (S.cells I.ok)) S.kind S.names (thn (hi pins s σ H _ I h) λv s1 h1=>thn h1 λitv s2 h2=>?_);obtain⟨it,fp,tn,J,H2,e,I2,T,st2,f2,q⟩:=h2;subst e;refine wC (RR:=λacc C=>compPost (model X.prog X.w) X.A X.xe none (EP X pins σ Q) acc C) hc S hg ht he (λ_ _ _ _ z=>z) I2 T st2 f2 q ?_;intro D C s' H' m hC IX hm hn hL hF hS hcell hp qd;refine⟨m,hm,λh' sb=>?_⟩;exact⟨.ref D,H',IX.turned (t':=s'.toks) (λb o hb e=>sb.extBut b o hb e) hn hL (.inr hS) hcell hp,rfl,qd⟩
theorem LG{te:TE}(hc:X.calm=true)(S:eX esc scope EN N k)(h1:X.env.scope=esc)(h2:X.N=EN)(hi:PI X tg iter wi)(hg:∀C s H fp,PG (bP X scope N C s H fp) tg g)(ht:∀C s H fp,PTs (bP X scope N C s H fp) ifs tt)(he:∀C s H fp,PE (bP X scope N C s H fp) elt te)
  (hs:∀x,foldedSetIterable iter X.env x=pure x:=by intro _;rfl):PE X (.ListComp elt [⟨tg,iter,ifs,0⟩] scope pos) (tLC wi g tt te k):=B9 hc S h1 h2 hi hg ht (B2 he) hs
def sLC(wi:TI)(g:TG)(tt:TT)(te:TE)(k i:Nat):TS:=λD σ H=>tLC wi g tt te k σ H λv H1=>D.nx (σ.set i (some v)) H1
theorem LH{te:TE}(hN:X.N.Nodup)(hi':X.N[i]?=some y)(hy:Loc X.env.scope y)(hc:X.calm=true)(S:eX esc scope EN N k)(h1:X.env.scope=esc)(h2:X.N=EN)(hi:PI X tg iter wi)(hg:∀C s H fp,PG (bP X scope N C s H fp) tg g)(ht:∀C s H fp,PTs (bP X scope N C s H fp) ifs tt)(he:∀C s H fp,PE (bP X scope N C s H fp) elt te)
  (hsw:swapsWith (.ListComp elt [⟨tg,iter,ifs,0⟩] scope pos) (some (.Name y py)) spos.line X.env=pure true:=by rfl)
  (hs:∀x,foldedSetIterable iter X.env x=pure x:=by intro _;rfl) (hf:X.fn y=true\/X.env.scope.names.lookup y=some .local:=by first |exact .inl rfl |exact .inr rfl |assumption) :
  PS X (.Assign [.Name y py] (.ListComp elt [⟨tg,iter,ifs,0⟩] scope pos) spos) (sLC wi g tt te k i):=by
 subst h1 h2;intro pins s σ H D0 I h;rw[exec_Assign_Name_used _ _ _ _ hsw];refine ar (UC (ar ?_));show wpAny _ X.A (do let _<-comprehension (.ListComp elt [⟨tg,iter,ifs,0⟩] scope pos) scope X.env _ (newList []) false (eval iter X.env) (some (assign (.Name y py) X.env))) _ _ s;refine ar (Pm (Tz (use:=some (assign (.Name y py) X.env)) (Q:=λ_ s'=>SP X pins D0 .next s') rfl hs (k8 (S.cells I.ok)) S.kind S.names
  (thn (hi pins s σ H _ I h) λv s1 h1=>thn h1 λitv s2 h2=>?_)) (λ_ s' hq=>NP (NP hq)) λ_ _ e=>e)
 obtain⟨it,fp,tn,J,H2,e,I2,T,st2,f2,q⟩:=h2;subst e;refine wC (RR:=λacc C=>compPost (model X.prog X.w) X.A X.xe (some (assign (.Name y py) X.env)) (λ_ s'=>SP X pins D0 .next s') acc C) hc S hg ht (B2 he) (λ_ _ _ _ z=>z) I2 T st2 f2 q ?_;intro D C s' H' m hC IX hm hn hL hF hS hcell hp qd;show wpAny _ X.A (assign (.Name y py) X.env (.ref D)) _ _ _;obtain⟨o,es,ep,ho,hd,hr⟩:=id hm;have IP:Inv X (pins++[(C,o)]) σ H' s':=IX.tT λp hp=>by
  rcases Oz.mp hp with z |z
  ·exact IX.pin p (Oe _ z)
  ·obtain rfl:p=(C,o):=N6.mp z;exact⟨ho,hn,hL,hF,λv z=>by rw[hd]at z;cases z⟩
 refine Vg (kv IP hN hi' hy (v:=.ref D) (u:=.ref D) rfl (λs'' I''=>?_) hf);have hC2:=(I''.pin (C,o) (Oe _ (Oe _ (N6.mpr rfl)))).1;refine⟨m,⟨o,es,ep,hC2,hd,hr⟩,λh' sb=>?_⟩;exact⟨_,H',(I''.kG).turned (t':=s''.toks) (λb o hb e=>sb.extBut b o hb e) hn hL (.inr hS) hcell hp,qd⟩
end
inductive D where
 |non |bl (b:Bool) |int (i:Int) |str (x:Str) |tup (xs:List D) |lst (xs:List D)
mutual
def D.eqv:D->D->Bool
 | .non,.non=>true
 | .bl a,.bl b=>a==b
 | .bl a,.int b=>(if a then 1 else 0)==b
 | .int a,.bl b=>a==(if b then 1 else 0)
 | .int a,.int b=>a==b
 | .str a,.str b=>a==b
 | .tup xs,.tup ys=>D.cJ xs ys
 | .lst xs,.lst ys=>D.cJ xs ys
 |_,_=>false
def D.cJ:List D->List D->Bool
 | [],[]=>true
 |x::xs,y::ys=>D.eqv x y&&D.cJ xs ys
 |_,_=>false
end
mutual
theorem D.eqv_refl:∀d:D,D.eqv d d=true
 | .non=>rfl
 | .bl a=>by simp[D.eqv]
 | .int a=>by simp[D.eqv]
 | .str a=>by simp[D.eqv]
 | .tup xs=>by simp only[D.eqv];exact D.o9 xs
 | .lst xs=>by simp only[D.eqv];exact D.o9 xs
theorem D.o9:∀ds:List D,D.cJ ds ds=true
 | []=>rfl
 |d::ds=>by simp only[D.cJ,D.eqv_refl d,D.o9 ds,Bool.and_self]
end
mutual
def D.depth:D->Nat
 | .tup xs=>D.bY xs+1
 | .lst xs=>D.bY xs+1
 |_=>0
def D.bY:List D->Nat
 | []=>0
 |x::xs=>max (D.depth x) (D.bY xs)
end
mutual
inductive Rep(H:Hp):V->D->Prop
 |non:Rep H .non .non
 |bl (b:Bool):Rep H (.bl b) (.bl b)
 |int (i:Int):Rep H (.int i) (.int i)
 |str (x:Str):Rep H (.str x) (.str x)
 |tup {a:Addr} {vs:List V} {ds:List D}:H a=some (.tup vs)->aJ H vs ds->Rep H (.ref a) (.tup ds)
 |lst {a:Addr} {vs:List V} {ds:List D}:H a=some (.lst vs)->aJ H vs ds->Rep H (.ref a) (.lst ds)
inductive aJ(H:Hp):List V->List D->Prop
 |nil:aJ H [] []
 |cons {v:V} {d:D} {vs:List V} {ds:List D}:Rep H v d->aJ H vs ds->aJ H (v::vs) (d::ds)
end
theorem aJ.length:∀{vs:List V}{ds:List D},aJ H vs ds->vs.length=ds.length
 |_,_,.nil=>rfl
 |_,_,.cons _ t=>by simp[aJ.length t]
theorem aJ.get:∀{vs:List V}{ds:List D}{i:Nat}{v:V},aJ H vs ds->vs[i]?=some v->∃d,ds[i]?=some d/\Rep H v d
 |_,_,_,_,.nil,e=>by simp at e
 |_,_,0,_,.cons r _,e=>by simp at e;subst e;exact⟨_,rfl,r⟩
 |_,_,i+1,v,.cons _ t,e=>by
  obtain⟨d,h1,h2⟩:=aJ.get (i:=i) (v:=v) t (by simpa using e);exact⟨d,by simpa using h1,h2⟩
theorem aJ.get':∀{vs:List V}{ds:List D}{i:Nat}{d:D},aJ H vs ds->ds[i]?=some d->∃v,vs[i]?=some v/\Rep H v d
 |_,_,_,_,.nil,e=>by simp at e
 |_,_,0,_,.cons r _,e=>by simp at e;subst e;exact⟨_,rfl,r⟩
 |_,_,i+1,v,.cons _ t,e=>by
  obtain⟨d,h1,h2⟩:=aJ.get' (i:=i) (d:=v) t (by simpa using e);exact⟨d,by simpa using h1,h2⟩
theorem aJ.append:∀{vs us:List V}{ds es:List D},aJ H vs ds->aJ H us es->aJ H (vs++us) (ds++es)
 |_,_,_,_,.nil,s=>s
 |_,_,_,_,.cons r t,s=>.cons r (aJ.append t s)
theorem aJ.take:∀{vs:List V}{ds:List D}(n:Nat),aJ H vs ds->aJ H (vs.take n) (ds.take n)
 |_,_,0,_=>.nil
 |_,_,_+1,.nil=>.nil
 |_,_,n+1,.cons r t=>.cons r (aJ.take n t)
theorem aJ.drop:∀{vs:List V}{ds:List D}(n:Nat),aJ H vs ds->aJ H (vs.drop n) (ds.drop n)
 |_,_,0,r=>r
 |_,_,_+1,.nil=>.nil
 |_,_,n+1,.cons _ t=>aJ.drop n t
theorem aJ.reverse:∀{vs:List V}{ds:List D},aJ H vs ds->aJ H vs.reverse ds.reverse
 |_,_,.nil=>.nil
 |_,_,.cons r t=>by rw[RP,RP];exact(aJ.reverse t).append (.cons r .nil)
mutual
theorem Rep.mono(e:eD H H'):∀{v:V}{d:D},Rep H v d->Rep H' v d
 |_,_,.non=>.non
 |_,_,.bl b=>.bl b
 |_,_,.int i=>.int i
 |_,_,.str x=>.str x
 |_,_,.tup h r=>.tup (e _ _ h) (aJ.mono e r)
 |_,_,.lst h r=>.lst (e _ _ h) (aJ.mono e r)
theorem aJ.mono(e:eD H H'):∀{vs:List V}{ds:List D},aJ H vs ds->aJ H' vs ds
 |_,_,.nil=>.nil
 |_,_,.cons r t=>.cons (Rep.mono e r) (aJ.mono e t)
end
mutual
theorem Rep.inj:∀{v:V}{d e:D},Rep H v d->Rep H v e->d=e
 |_,_,_,.non,.non=>rfl
 |_,_,_,.bl _,.bl _=>rfl
 |_,_,_,.int _,.int _=>rfl
 |_,_,_,.str _,.str _=>rfl
 |_,_,_,.tup h r,.tup h' r'=>by rw[h]at h';cases h';rw[aJ.inj r r']
 |_,_,_,.tup h r,.lst h' r'=>by rw[h]at h';cases h'
 |_,_,_,.lst h r,.tup h' r'=>by rw[h]at h';cases h'
 |_,_,_,.lst h r,.lst h' r'=>by rw[h]at h';cases h';rw[aJ.inj r r']
theorem aJ.inj:∀{vs:List V}{ds es:List D},aJ H vs ds->aJ H vs es->ds=es
 |_,_,_,.nil,.nil=>rfl
 |_,_,_,.cons r t,.cons r' t'=>by rw[Rep.inj r r',aJ.inj t t']
end
theorem aJ.ints:∀(ns:List Int),aJ H (ns.map V.int) (ns.map D.int)
 | []=>.nil
 |n::ns=>.cons (.int n) (aJ.ints ns)
theorem aJ.qj:∀{vs:List V}{ns:List Int},aJ H vs (ns.map D.int)->vs=ns.map V.int
 | [],[],.nil=>rfl
 |v::vs,n::ns,.cons r t=>by
  cases r;rw[N4,aJ.qj t]
theorem D.du:∀(ds es:List D),D.cJ ds es=((NY (min ds.length es.length)).all (λj=>D.eqv (ds.getD j .non) (es.getD j .non))&&ds.length==es.length)
 | [],[]=>rfl
 | [],e::es=>by simp[D.cJ]
 |d::ds,[]=>by simp[D.cJ]
 |d::ds,e::es=>by
  have ih:=D.du ds es;have q:min (d::ds).length (e::es).length=min ds.length es.length+1:=by simp only[N9];omega
  rw[q,T_,Pg,Rw];have z:((d::ds).length==(e::es).length)=(ds.length==es.length):=by
   rw[OW];simp
  rw[z,D.cJ,ih,Bool.and_assoc];rfl
theorem D.j5:∀{ds:List D}{i:Nat}{d:D},ds[i]?=some d->D.depth d<=D.bY ds
 | [],_,_,e=>by simp at e
 |x::xs,0,d,e=>by
  simp at e;subst e;exact Nat.le_max_left _ _
 |x::xs,i+1,d,e=>N7 (D.j5 (ds:=xs) (i:=i) (by simpa using e)) (Nat.le_max_right _ _)
section
variable{X:Cx}
theorem xA(I:Inv X pins σ H s):∀(n:Nat)(A:Around)(x y:V)(u v:Value)(d e:D),A.units+n<cLine->D.depth d<=n->RelV x u->RelV y v->Rep H x d->Rep H y e ->
  RD A s u v (D.eqv d e):=by
 intro n
 induction n with
 |zero=>
  intro A x y u v d e hu hd ru rv rx ry;have hu':A.units<cLine:=by omega
  cases rx with
  |tup h r=>simp[D.depth]at hd
  |lst h r=>simp[D.depth]at hd
  |non=>
   cases ry with
   |tup h r=>
    cases ru;cases rv;obtain⟨its,rv,p,hz⟩:=I.tuple (SqT.of h);exact XC p hu'
   |lst h r=>
    cases ru;cases rv;obtain⟨its,rv,p,hz⟩:=I.list (SqL.of h);exact XY p.isList hu'
   |_=>simp only[D.eqv];exact pb ru rv rfl rfl
  |bl a=>
   cases ry with
   |tup h r=>
    cases ru;cases rv;obtain⟨its,rv,p,hz⟩:=I.tuple (SqT.of h);exact XD a p hu'
   |lst h r=>
    cases ru;cases rv;obtain⟨its,rv,p,hz⟩:=I.list (SqL.of h);exact XZ a p.isList hu'
   |_=>simp only[D.eqv];exact pb ru rv rfl rfl
  |int a=>
   cases ry with
   |tup h r=>
    obtain⟨t,rfl⟩:=ru;cases rv;obtain⟨its,rv,p,hz⟩:=I.tuple (SqT.of h);exact X1 a t p hu'
   |lst h r=>
    obtain⟨t,rfl⟩:=ru;cases rv;obtain⟨its,rv,p,hz⟩:=I.list (SqL.of h);exact Yk a t p.isList hu'
   |_=>simp only[D.eqv];exact pb ru rv rfl rfl
  |str a=>
   cases ry with
   |tup h r=>
    obtain⟨t,rfl⟩:=ru;cases rv;obtain⟨its,rv,p,hz⟩:=I.tuple (SqT.of h);exact X2 a t p hu'
   |lst h r=>
    obtain⟨t,rfl⟩:=ru;cases rv;obtain⟨its,rv,p,hz⟩:=I.list (SqL.of h);exact Yl a t p.isList hu'
   |_=>simp only[D.eqv];exact pb ru rv rfl rfl
 |succ n ih=>
  intro A x y u v d e hu hd ru rv rx ry;have hu':A.units<cLine:=by omega
  have items:∀{vs us:List V}{ds es:List D}{its its2:List Value},D.bY ds<=n->Vals vs its->Vals us its2->aJ H vs ds->aJ H us es ->
    ∀j(h1:j<its.toArray.size)(h2:j<its2.toArray.size),RD A.in1 s its.toArray[j] its2.toArray[j] (D.eqv (ds.getD j .non) (es.getD j .non)):=by
   intro vs us ds es its its2 hdd r1 r2 q1 q2 j h1 h2;have h1':j<its.length:=by simpa using h1
   have h2':j<its2.length:=by simpa using h2
   have l1:=r1.length;have l2:=r2.length;have m1:=q1.length;have m2:=q2.length;have e1:vs[j]?=some (vs[j]'⋯):=NV _;have e2:us[j]?=some (us[j]'⋯):=NV _;obtain⟨a1,b1,c1⟩:=r1.get e1;obtain⟨a2,b2,c2⟩:=r2.get e2;obtain⟨f1,g1,k1⟩:=q1.get e1;obtain⟨f2,g2,k2⟩:=q2.get e2;have z1:its.toArray[j]=a1:=by
    have:its[j]?=some its[j]:=NV h1';rw[b1]at this;simpa using(Ou this).symm
   have z2:its2.toArray[j]=a2:=by
    have:its2[j]?=some its2[j]:=NV h2';rw[b2]at this;simpa using(Ou this).symm
   rw[z1,z2,N8,N8,g1,g2];refine ih A.in1 _ _ _ _ _ _ ?_ (N7 (D.j5 g1) hdd) c1 c2 k1 k2;show A.units+1+n<cLine;omega
  cases rx with
  | @tup a vs ds h r=>
   obtain⟨its,rv1,p,hz⟩:=I.tuple (SqT.of h);cases ry with
   | @tup b us es h' r'=>
    cases ru;cases rv;obtain⟨its2,rv2,p2,hz2⟩:=I.tuple (SqT.of h');by_cases hab:a=b
    ·subst hab;rw[h]at h';cases h';rw[aJ.inj r' r,D.eqv_refl];exact T3 _
    ·have hdd:D.bY ds<=n:=by simp only[D.depth]at hd;omega
     have q:=SK hab (Yy (e:=λj=>D.eqv (ds.getD j .non) (es.getD j .non)) p p2 hu' (items hdd rv1 rv2 r r'));rw[NX,NX,<-rv1.length,<-rv2.length,r.length,r'.length,<-D.du]at q;simp only[D.eqv];exact q
   | @lst b us es h' r'=>
    cases ru;cases rv;obtain⟨its2,rv2,p2,hz2⟩:=I.list (SqL.of h');simp only[D.eqv];exact XH p p2.isList hu'
   |non=>cases ru;cases rv;simp only[D.eqv];exact XJ p hu'
   |bl c=>cases ru;cases rv;simp only[D.eqv];exact XM c p hu'
   |int c=>cases ru;obtain⟨t,rfl⟩:=rv;simp only[D.eqv];exact X3 c t p hu'
   |str c=>cases ru;obtain⟨t,rfl⟩:=rv;simp only[D.eqv];exact X4 c t p hu'
  | @lst a vs ds h r=>
   obtain⟨its,rv1,p,hz⟩:=I.list (SqL.of h);cases ry with
   | @lst b us es h' r'=>
    cases ru;cases rv;obtain⟨its2,rv2,p2,hz2⟩:=I.list (SqL.of h');by_cases hab:a=b
    ·subst hab;rw[h]at h';cases h';rw[aJ.inj r' r,D.eqv_refl];exact T3 _
    ·have hdd:D.bY ds<=n:=by simp only[D.depth]at hd;omega
     have l1:=rv1.length;have l2:=rv2.length;have m1:=r.length;have m2:=r'.length;by_cases hl:ds.length=es.length
     ·have q:=SK hab (YC (e:=λj=>D.eqv (ds.getD j .non) (es.getD j .non)) p.isList p2.isList (by simp;omega) hu' (items hdd rv1 rv2 r r'));have z:D.cJ ds es=(NY its.toArray.size).all λj=>D.eqv (ds.getD j .non) (es.getD j .non):=by
       rw[D.du,<-hl,U6,NX,<-l1,m1];simp
      simp only[D.eqv];rw[z];exact q
     ·have q:=SK hab (Xl p.isList p2.isList (by simp;omega) hu');have z:D.cJ ds es=false:=by
       rw[D.du];simp[hl]
      simp only[D.eqv];rw[z];exact q
   | @tup b us es h' r'=>
    cases ru;cases rv;obtain⟨its2,rv2,p2,hz2⟩:=I.tuple (SqT.of h');simp only[D.eqv];exact XN p.isList p2 hu'
   |non=>cases ru;cases rv;simp only[D.eqv];exact X5 p.isList hu'
   |bl c=>cases ru;cases rv;simp only[D.eqv];exact X6 c p.isList hu'
   |int c=>cases ru;obtain⟨t,rfl⟩:=rv;simp only[D.eqv];exact Ym c t p.isList hu'
   |str c=>cases ru;obtain⟨t,rfl⟩:=rv;simp only[D.eqv];exact Yn c t p.isList hu'
  |non=>exact RQ (ih A.in1 _ y u v _ e (by show A.units+1+n<cLine;omega) (by simp[D.depth]) ru rv .non ry)
  |bl c=>exact RQ (ih A.in1 _ y u v _ e (by show A.units+1+n<cLine;omega) (by simp[D.depth]) ru rv (.bl c) ry)
  |int c=>exact RQ (ih A.in1 _ y u v _ e (by show A.units+1+n<cLine;omega) (by simp[D.depth]) ru rv (.int c) ry)
  |str c=>exact RQ (ih A.in1 _ y u v _ e (by show A.units+1+n<cLine;omega) (by simp[D.depth]) ru rv (.str c) ry)
end
section
variable{X:Cx}
def Di:R2:=λx y H Q=>∃a b,x=.bl a/\y=.bl b/\Q (.bl (a==b)) H
def xD:R2:=λx y H Q=>∃a b,x=.bl a/\y=.bl b/\Q (.bl (a != b)) H
theorem D9:OpR X (compareOp .Is) Di:=by
 intro pins s σ H x y v u Q I rx ry h;obtain⟨a,b,rfl,rfl,q⟩:=h;cases rx;cases ry;exact is_bool ⟨.bl _,H,I,rfl,q⟩
theorem zq:OpR X (compareOp .IsNot) xD:=by
 intro pins s σ H x y v u Q I rx ry h;obtain⟨a,b,rfl,rfl,q⟩:=h;cases rx;cases ry;exact isnot_bool ⟨.bl _,H,I,rfl,q⟩
def isT(T:String):D->Bool
 | .non=>false
 | .bl _=>T== "bool" || T== "int"
 | .int _=>T== "int"
 | .str _=>T== "str"
 | .tup _=>T== "tuple"
 | .lst _=>T== "list"
def okT(T:String):Bool:=T== "bool" || T== "int" || T== "str" || T== "tuple" || T== "list"
theorem Lf{K:NO}{H:Hp}{x:V}{d:D}{T:String}(r:Rep H x d)(h:okT T=true):∃t,i9 K H x t/\Wc K t (.type T)=some (isT T d):=by
  have h5:T="bool"\/T="int"\/T="str"\/T="tuple"\/T="list":=by simpa[okT,or_assoc]using h
  cases r with
  |non=>exact⟨_,.non,by rcases h5 with e |e |e |e |e<;>subst e<;>first |rfl |kernel_rfl⟩
  |bl b=>exact⟨_,.bl b,by rcases h5 with e |e |e |e |e<;>subst e<;>first |rfl |kernel_rfl⟩
  |int i=>exact⟨_,.int i,by rcases h5 with e |e |e |e |e<;>subst e<;>first |rfl |kernel_rfl⟩
  |str x=>exact⟨_,.str x,by rcases h5 with e |e |e |e |e<;>subst e<;>first |rfl |kernel_rfl⟩
  |tup h r=>exact⟨_,.tup h,by rcases h5 with e |e |e |e |e<;>subst e<;>first |rfl |kernel_rfl⟩
  |lst h r=>exact⟨_,.lst h,by rcases h5 with e |e |e |e |e<;>subst e<;>first |rfl |kernel_rfl⟩
def MY(T:String)(te:TE):TE:=λσ H Q=>te σ H λx H1=>∃d,Rep H1 x d/\Q (.bl (isT T d)) H1
theorem CC{e:Expr}{te:TE}{nm:Str}{T:String}{p p2 pos:Pos}(hg:Gl X "isinstance")(hm:X.mg "isinstance"=none)(hg2:Gl X nm)(hm2:X.mg nm=none)(hv:bootBuiltins nm=some (.type T))(ho:okT T=true)(ha:PE X e te)
  (hn:nm≠"__name__":=by decide) (hd:(nm==("__debug__":Str))=false:=by decide) (hb:bootBuiltins "isinstance"=some (.builtin "isinstance"):=by decide+kernel)
  (he:starEach [e,.Name nm p2] X.env=(false,eval e X.env)::starEach [.Name nm p2] X.env:=by rfl) (hs2:starEach [.Name nm p2] X.env=(false,eval (.Name nm p2) X.env)::starEach [] X.env:=by rfl) (hpl:(backTo pos (starEach [.Name nm p2] X.env)).any (·.1)=false:=by rfl) :
  PE X (.Call (.Name "isinstance" p) [e,.Name nm p2] [] pos) (MY T te):=by
 intro pins s σ H Q I h;have hT:PE X (.Name nm p2) (tC (.ty T)):=y0 hg2 hm2 hv rfl hn hd;refine Pt (dH I hg hm hb ?_ (by decide) (by decide));refine QQ (thn ((eP ha (eP hT iw hs2) he) pos pins s σ H (λvs H1=>∃x d,vs=[x,.ty T]/\Rep H1 x d/\Q (.bl (isT T d)) H1) I ?_) λus s1 ⟨vs,H1,I1,r1,q1⟩=>?_) he hpl
 ·refine(show te σ H λx H1=>_ from ?_);refine cast (OZ (te σ H) ?_) h;funext x H1;refine propext ⟨λ⟨d,r,q⟩=>⟨x,d,rfl,r,q⟩,λ⟨x',d,e,r,q⟩=>?_⟩;cases e;exact⟨d,r,q⟩
 ·obtain⟨x,d,e,r,q⟩:=q1;subst e;obtain⟨u,w',rfl,ru,rw'⟩:=r1.two;obtain⟨t,ty,k⟩:=Lf (K:=X.K) r ho;cases(show w'=Value.type T from rw');exact CQ I1 ru ty k λtk=>⟨.bl _,H1,I1.tok tk,rfl,q⟩
end
section
variable{X:Cx}{pins:List (Addr×Obj)}{σ:St}{H:Hp}{s:Shared}{h':Heap}{fp:List Addr}
theorem Inv.rk(I:Inv X pins σ H s)(ha:s.heap.objs.size<=a)(hk:∀b u,b∉fp->s.heap.get? b=some u->h'.get? b=some u)(hf:∀b∈fp,eZ X pins H b)(new:cR X.prog X.w (upd H a o) h' a o) :
  Inv X pins σ (upd H a o) { s with heap:=h',toks:=t' }:=by
 have hn:H a=none:=I.hok.fresh ha;have nfp:∀b u,H b=some u->b∉fp:=λb u e z=>by
  have q:=(hf b z).1;rw[e]at q;cases q
 have hne:∀b(u:Obj),s.heap.get? b=some u->b≠a:=λb u e=>Og (Oo (N2 e) ha);refine I.step (g':=s.gens) (d':=s.drawn) (ch:=fp) (λb hb=>?_) (λb u _ _ hc e _=>hk b u hc e) (λb u _ _ hc e _=>⟨u.slots,hk b u hc e⟩) (λb u _ e n=>?_)
  (λb u hc e=>⟨u,hk b u hc e⟩) (λb xs e=>?_) (λb u xs e=>?_) (λb ps e=>⟨#[],?_⟩) (λm hm=>?_) (λb u e=>?_) I.bare
 ·obtain⟨f0,f1,f2,f3,f4,f5⟩:=hf b hb;exact⟨f3,f1,f4,f5⟩
 ·rw[bf (hne b u e)];exact n
 ·rw[bf (bJ e hn)];exact e
 ·rw[bf (bJ e hn)];exact e
 ·rw[bf (bJ e hn),e];simp
 ·obtain⟨u,es,ep,ho,r⟩:=hm;exact⟨u,es,ep,hk _ u (λz=>(hf _ z).2.1 rfl) ho,r⟩
 ·by_cases hb:b=a
  ·subst hb;rw[cV]at e;cases e;exact new
  ·rw[bf hb]at e;refine(I.hok b u e).ma (λc v hc q=>hk c v ?_ q) (λc q=>by rw[bf (bJ q hn)];exact q) λc xs q=>by rw[bf (bJ q hn)];exact q
   rcases hc with z |z
   ·rw[z];exact nfp b u e
   ·exact nfp c _ z
theorem Inv.zc(I:Inv X pins σ H s)(hk:∀b u,b∉fp->s.heap.get? b=some u->h'.get? b=some u)(hf:∀b∈fp,eZ X pins H b):Inv X pins σ H { s with heap:=h',toks:=t' }:=by
 have nfp:∀b u,H b=some u->b∉fp:=λb u e z=>by
  have q:=(hf b z).1;rw[e]at q;cases q
 refine I.step (g':=s.gens) (d':=s.drawn) (ch:=fp) (λb hb=>?_) (λb u _ _ hc e _=>hk b u hc e) (λb u _ _ hc e _=>⟨u.slots,hk b u hc e⟩) (λb u _ e n=>n)
  (λb u hc e=>⟨u,hk b u hc e⟩) (λb xs e=>e) (λb u xs e=>e) (λb ps e=>⟨#[],?_⟩) (λm hm=>?_) (λb u e=>?_) I.bare
 ·obtain⟨f0,f1,f2,f3,f4,f5⟩:=hf b hb;exact⟨f3,f1,f4,f5⟩
 ·rw[e];simp
 ·obtain⟨u,es,ep,ho,r⟩:=hm;exact⟨u,es,ep,hk _ u (λz=>(hf _ z).2.1 rfl) ho,r⟩
 ·refine(I.hok b u e).ma (λc v hc q=>hk c v ?_ q) (λ_ q=>q) λ_ _ q=>q;rcases hc with z |z
  ·rw[z];exact nfp b u e
  ·exact nfp c _ z
end
def Ite(K:NO)(l:Addr):It:=
 ⟨λi H=>∃xs x,SqL K H l xs/\xs[i]?=some x,λi H x H'=>∃p y,H p=none/\x=.ref p/\H'=upd H p (.tup [.int i,y])/\∀xs,SqL K H l xs->xs[i]?=some y,λi H=>∃xs,SqL K H l xs/\xs.length<=i⟩
theorem Ce{P:Program}{w:World}{K:NO}{es:List Expr}{kk:Nat}{tp:Pos}(l e it:Addr)(hne:e≠it) :
  Turn P w K (.Tuple es kk tp) (Ite K l) [e,it] e (λi h=>(∃old,IsEnum h e it ((i:Nat):Int) old)/\h.IsListIter it l i)where
 mem:=by simp
 obj:=λi h st b hb=>by
  obtain⟨⟨old,he⟩,hit⟩:=st;rcases NU.mp hb with z |z
  ·subst z;exact⟨_,he,λv z=>by
    have z':Data.fields _=Data.cell v:=z;cases z'⟩
  ·have z:b=it:=N6.mp z;subst z;obtain⟨o,q,_,d⟩:=hit;exact⟨o,q,λv z=>by rw[d]at z;cases z⟩
 keep:=λi h h' st k=>by
  obtain⟨⟨old,he⟩,hit⟩:=st;exact⟨⟨old,k e (by simp) _ he⟩,hit.at λo q=>k it (by simp) o q⟩
 item:=by
  intro X hP hw hK hc i pins s σ H E I hf st hg;subst hP hw hK;obtain⟨⟨old,he⟩,hit⟩:=st;obtain⟨xs,x,hq,hx⟩:=hg;obtain⟨its,rv,p,hz⟩:=I.list hq;obtain⟨u,hu,ru⟩:=rv.get hx;refine wpAny_pyNext_enum_item he hit p.isList (x:=u) (by simpa using hu) hne λh1 ho1 hit1 ht1 hz1 hk1=>?_;refine⟨_,rfl,wpAny_letOwnedTupleGo_enum (s:={ s with heap:=h1,toks:=s.toks+1 }) ho1 λh2 he2 hs2=>?_⟩;have helt:e<s.heap.objs.size:=N2 he;have ht2:h2.get? s.heap.objs.size=some { cls:=.type "tuple",data:=.seq #[.int i s.toks,u] }:=hs2.extBut _ _ (Qd helt) ht1;have k2:∀b o,b∉[e,it]->s.heap.get? b=some o->h2.get? b=some o:=λb o hb q=>by
   have hb1:b≠e:=λz=>hb (by simp[z]);have hb2:b≠it:=λz=>hb (by simp[z]);exact hs2.extBut b o hb1 (hk1 b o hb1 hb2 q)
  have I2:Inv X pins σ (upd H s.heap.objs.size (.tup [.int i,x])) { s with heap:=h2,toks:=s.toks+1 }:=by
   refine I.rk (fp:=[e,it]) (NW _) k2 hf ?_;exact⟨by show 2<=sizeLine;decide,[.int i s.toks,u],.cons ⟨_,rfl⟩ (.cons ru .nil),⟨_,ht2,rfl,_,rfl⟩⟩
  refine⟨.ref s.heap.objs.size,_,I2,rfl,⟨s.heap.objs.size,x,I.hok.fresh (NW _),rfl,rfl,λys hy=>by rw[I.qX hy hq];exact hx⟩,⟨⟨_,by simpa using he2⟩,?_⟩,λb hb=>?_⟩
  ·exact hit1.extBut hs2.extBut (PD hne)
  ·have hlt:b<s.heap.objs.size:=by
    rcases NU.mp hb with z |z
    ·rw[z];exact helt
    ·have z:b=it:=N6.mp z;subst z;obtain⟨o,q,_⟩:=hit;exact N2 q
   rw[bf (Og hlt)];exact(hf b hb).1
 done:=by
  intro X hP hw hK hc i pins s σ H E I hf st hg;subst hP hw hK;obtain⟨⟨old,he⟩,hit⟩:=st;obtain⟨xs,hq,hx⟩:=hg;obtain⟨its,rv,p,hz⟩:=I.list hq;have hl:=rv.length;obtain⟨f0,f1,f2,f3,f4,f5⟩:=hf it (by simp);exact wpAny_pyNext_enum_end (I.ok.hd hc) he hit p.isList (by simp;omega) λh' eb=>⟨rfl,I.turned (t':=s.toks) (λb o hb e=>eb b o hb e) f0 f1 f3 f4 f5⟩
 self:=λ_ _ _ _ _ st h=>by
  obtain⟨⟨old,he⟩,_⟩:=st;exact Vo he h
section
variable{prog:Program}{w:World}{A:Around}{E:Value->Shared->Prop}{s:Shared}
theorem AH(hit:s.heap.IsTupleIter it t i)(ht:s.heap.IsTuple t items)(hx:items[i]?=some x)
  (hQ:∀h',h'.IsTupleIter it t (i+1)->OD it s.heap h'->Q x { s with heap:=h' }):wpAny (model prog w) A (OP (.ref it)) Q E s:=by
 obtain⟨o,ho,hc,hd⟩:=id hit;obtain⟨ot,hot,_,nt,hdt⟩:=ht;unfold OP;refine ar (O2 (name:=Po "__next__") hit.typeIs Qo (O0 Qo hit.typeIs SM ?_ (SD _)));refine(show wpAny _ _ (field (.ref it) 0>>=_) _ _ s from ar (OS ho hd (x:=.ref t) rfl ?_));show wpAny _ _ (if(Value.ref t==Value.none)=true then _ else _) _ _ s;rw[N1 (by intro z;exact Od z)];refine(show wpAny _ _ (field (.ref it) 1>>=_) _ _ s from ar (OS ho hd (x:=.int i 0) rfl ?_));refine(show wpAny _ _ (seqItems? (.ref t)>>=_) _ _ s from ar (PQ hot hdt ?_));simp only[OQ,hx];refine ar (Q4 ho hd (by simp) (NP ⟨x,rfl,NP (hQ _ ⟨_,Pp _ ho (Sf (QR hd _)),(Vp ..).trans hc,?_⟩ (Pl ..))⟩));rw[QR hd];simp[rawInt]
theorem CM(hh:A.handled=none)(hit:s.heap.IsTupleIter it t i)(ht:s.heap.IsTuple t items)(hx:items[i]?=none)
  (hE:∀h' e,Ua it s.heap h'->(∃o,h'.get? e=some o/\o.cls=.type "StopIteration")->E (.ref e) { s with heap:=h' }):wpAny (model prog w) A (OP (.ref it)) Q E s:=by
 obtain⟨o,ho,hc,hd⟩:=id hit;obtain⟨ot,hot,_,nt,hdt⟩:=ht;unfold OP;refine ar (O2 (name:=Po "__next__") hit.typeIs Qo (O0 Qo hit.typeIs SM ?_ (SD _)));refine(show wpAny _ _ (field (.ref it) 0>>=_) _ _ s from ar (OS ho hd (x:=.ref t) rfl ?_));show wpAny _ _ (if(Value.ref t==Value.none)=true then _ else _) _ _ s;rw[N1 (by intro z;exact Od z)];refine(show wpAny _ _ (field (.ref it) 1>>=_) _ _ s from ar (OS ho hd (x:=.int i 0) rfl ?_));refine(show wpAny _ _ (seqItems? (.ref t)>>=_) _ _ s from ar (PQ hot hdt ?_));simp only[OQ,hx];refine ar (Tj (ar (Q4 ho hd (by simp) ?_)));refine(show wpAny _ _ (newExc (.type "StopIteration") []>>=_) _ _ _ from ar ?_);simp only[newExc,newTuple];refine ar (O4 (ar (m:=firstArgMember _ _) (QW (a:=Value.none) (by first |rfl |(simp only[firstArgMember];rfl)) (O4 ?_ (by size_fits)))) (by size_fits));simp only[raiseNew];refine ar (WG ?_)
 first |rw[show A.in1.handled=none from hh] |rw[hh]
 exact ar (NP (Vz (hE _ _ (((Pl ..).extBut.push _).push _) ⟨_,N5 _ rfl,rfl⟩)))
end
theorem IT(hh:A.handled=none)(it t:Addr)(hne:t≠it)(items:Array Value) :
  Draws prog w A it [it,t] items.size (λi v=>items[i]?=some v) (λi h=>h.IsTupleIter it t i/\h.IsTuple t items)where
 live:=λ_ _ st=>let⟨o,ho,_⟩:=st.1;⟨o,ho⟩
 frame:=λ_ _ _ st hk=>⟨st.1.at λo e=>hk it (by simp) o e,st.2.at λo e=>hk t (by simp) o e⟩
 item:=λi s Q E hi st hQ=>AH st.1 st.2 (x:=items[i]) (by simp[hi]) λh' a b=>hQ _ h' s.toks (by simp[hi]) ⟨a,st.2.extBut b.extBut hne⟩ b
 done:=λs Q E st hE=>CM hh st.1 st.2 (by simp) hE
structure eN(z TI TO i1 i2:Addr)(fp1 fp2:List Addr):Prop where
 TIz:TI≠z
 TOz:TO≠z
 TITO:TI≠TO
 z1:z∉fp1
 z2:z∉fp2
 TO1:TO∉fp1
 TO2:TO∉fp2
 i12:i1∉fp2
 i21:i2∉fp1
 m1:i1∈fp1
 m2:i2∈fp2
 TI1:TI≠i1
 TI2:TI≠i2
section
variable{prog:Program}{w:World}{A:Around}{E:Value->Shared->Prop}{s:Shared}{z TI TO i1 i2:Addr}{fp1 fp2:List Addr}{n1 n2 k:Nat}{P1 P2:Nat->Value->Prop}{S1 S2:Nat->Heap->Prop}{a b:Value}
theorem eN.i1z(D:eN z TI TO i1 i2 fp1 fp2):i1≠z:=λe=>D.z1 (e▸D.m1)
theorem eN.i2z(D:eN z TI TO i1 i2 fp1 fp2):i2≠z:=λe=>D.z2 (e▸D.m2)
theorem eN.TOi1(D:eN z TI TO i1 i2 fp1 fp2):TO≠i1:=λe=>D.TO1 (e▸D.m1)
theorem eN.TOi2(D:eN z TI TO i1 i2 fp1 fp2):TO≠i2:=λe=>D.TO2 (e▸D.m2)
theorem qA{a:Addr}{Q:Option Obj->Shared->Prop}(h:Q (s.heap.get? a) s):wpAny (model prog w) A (loadIfAlive a) Q E s:=
 λ_ _ _=>h
abbrev fq(h:Heap)(z TI TO:Addr)(own:Value)(fl:Bool):Prop:=h.get? z=some { cls:=.type "zip",dict:=none,data:=.fields #[own,.bool fl,.bool false,.ref TI,.ref TO],slots:=#[] }
def sk(h:Heap)(own:Value):Prop:=own=.none\/∃T:Addr,own=rawInt T/\h.get? T=none
theorem yr(hz:fq s.heap z TI TO own fl)(hf:sk s.heap own)(h:Q true s):wpAny (model prog w) A (PR (.ref z)) Q E s:=by
 unfold PR;rcases hf with rfl |⟨T,rfl,hT⟩
 ·exact ar (OS hz rfl (x:=.none) rfl (NP h))
 ·refine ar (OS hz rfl (x:=rawInt T) rfl ?_);refine(show wpAny _ _ (loadIfAlive ((T:Int)).toNat>>=_) _ _ _ from ar (qA ?_));rw[OQ,hT];exact PU rfl (NP h)
theorem BL{Q:Value->Shared->Prop}(D:eN z TI TO i1 i2 fp1 fp2)(D1:Draws prog w A i1 fp1 n1 P1 S1)(D2:Draws prog w A i2 fp2 n2 P2 S2){own:Value}{fl:Bool}(hz:fq s.heap z TI TO own fl)(hfr:sk s.heap own)(hTI:IsPair s.heap TI (.ref i1) (.ref i2))(hTO:IsPair s.heap TO a b)
  (h1:S1 k s.heap) (h2:S2 k s.heap) (l1:k<n1) (l2:k<n2)
  (hQ:∀x y h' tk,P1 k x->P2 k y->IsZip h' z TI TO (rawInt s.heap.objs.size)->IsPair h' TI (.ref i1) (.ref i2)->IsPair h' TO x y->S1 (k+1) h'->S2 (k+1) h'->IsPair h' s.heap.objs.size x y->h'.objs.size=s.heap.objs.size+1 ->
   (∀c o,c≠z->c≠TO->c≠i1->c≠i2->s.heap.get? c=some o->h'.get? c=some o)->Q (.ref s.heap.objs.size) { s with heap:=h',toks:=tk }) :
  wpAny (model prog w) A (Builtin.«zip.__next__» ⟨[.ref z],[]⟩) (λfin s'=>∃v,fin=.done (.ret v)/\Q v s') E s:=by
 refine(show wpAny _ _ (field (.ref z) 2>>=_) _ _ _ from ar (OS hz rfl (x:=.bool false) rfl ?_));refine(show wpAny _ _ (field (.ref z) 3>>=_) _ _ _ from ar (OS hz rfl (x:=.ref TI) rfl ?_));refine ar (PQ hTI rfl ?_);refine(show wpAny _ _ (PR (.ref z)>>=_) _ _ _ from ar (yr hz hfr ?_));simp only[Se];refine ar (Tj (ar (OS hz rfl (x:=.ref TO) rfl ?_)));refine ar (PL hz (by simp) λg1 hz1 e1=>?_)
 replace hz1:fq g1 z TI TO .ellipsis fl:=hz1
 replace e1:OD z s.heap g1:=e1
 refine ar ?_;simp only[VF,VS,T4,Wg];refine ar (ar (SX ?_));have q1:S1 k g1:=D1.frame _ _ _ h1 λc hc o q=>e1.extBut c o (λy=>D.z1 (y▸hc)) q;have q2:S2 k g1:=D2.frame _ _ _ h2 λc hc o q=>e1.extBut c o (λy=>D.z2 (y▸hc)) q;refine(show wpAny _ _ (OP (.ref i1)>>=_) _ _ _ from ar (D1.item k _ _ _ l1 q1 λx g2 t2 p1 q1' e2=>NP ?_))
 replace e2:OD i1 g1 g2:=e2
 have hTO2:IsPair g2 TO a b:=e2.extBut _ _ D.TOi1 (e1.extBut _ _ D.TOz hTO);refine ar (PQ hTO2 rfl (ar (Sk hTO2 λg3 hTO3 e3=>?_)))
 replace hTO3:IsPair g3 TO x b:=hTO3
 replace e3:OD TO g2 g3:=e3
 refine ar (VA (NP ?_));refine ar (ar (SX ?_));have r1:S1 (k+1) g3:=D1.frame _ _ _ q1' λc hc o q=>e3.extBut c o (λy=>D.TO1 (y▸hc)) q;have r2:S2 k g3:=D2.frame _ _ _ q2 λc hc o q=>e3.extBut c o (λy=>D.TO2 (y▸hc)) (e2.extBut c o (λy=>D.i12 (y▸hc)) q);refine(show wpAny _ _ (OP (.ref i2)>>=_) _ _ _ from ar (D2.item k _ _ _ l2 r2 λy g4 t4 p2 r2' e4=>NP ?_))
 replace e4:OD i2 g3 g4:=e4
 have hTO4:IsPair g4 TO x b:=e4.extBut _ _ D.TOi2 hTO3;refine ar (PQ hTO4 rfl (ar (Sk hTO4 λg5 hTO5 e5=>?_)))
 replace hTO5:IsPair g5 TO x y:=hTO5
 replace e5:OD TO g4 g5:=e5
 refine ar (VA (NP (NP ?_)));refine ar (PQ hTO5 rfl (ar (wpAny_newTuple ?_)));have hsz:g5.objs.size=s.heap.objs.size:=by rw[e5.1,e4.1,e3.1,e2.1,e1.1]
 have hz5:fq g5 z TI TO .ellipsis fl:=e5.extBut _ _ D.TOz.symm (e4.extBut _ _ D.i2z.symm (e3.extBut _ _ D.TOz.symm (e2.extBut _ _ D.i1z.symm hz1)));have k5:∀c o,c≠z->c≠TO->c≠i1->c≠i2->s.heap.get? c=some o->g5.get? c=some o:=λc o c1 c2 c3 c4 q=>
  e5.extBut _ _ c2 (e4.extBut _ _ c4 (e3.extBut _ _ c2 (e2.extBut _ _ c3 (e1.extBut _ _ c1 q))))
 have u1:S1 (k+1) g5:=D1.frame _ _ _ r1 λc hc o q=>e5.extBut c o (λy=>D.TO1 (y▸hc)) (e4.extBut c o (λy=>D.i21 (y▸hc)) q);have u2:S2 (k+1) g5:=D2.frame _ _ _ r2' λc hc o q=>e5.extBut c o (λy=>D.TO2 (y▸hc)) q;have hzl:z<g5.objs.size:=N2 hz5;refine(show wpAny _ _ (Rx (.ref z) (.ref g5.objs.size)>>=_) _ _ _ from ar ?_);unfold Rx;have hz6:fq (g5.push { cls:=.type "tuple",data:=.seq #[x,y] }) z TI TO .ellipsis fl:=NR _ hz5;refine ar (PL hz6 (by simp) λg7 hz7 e7=>?_)
 replace hz7:fq g7 z TI TO (rawInt g5.objs.size) fl:=hz7
 refine PL hz7 (by simp) λg8 hz8 e8=>?_
 replace hz8:IsZip g8 z TI TO (rawInt g5.objs.size):=hz8
 replace e7:OD z (g5.push { cls:=.type "tuple",data:=.seq #[x,y] }) g7:=e7
 replace e8:OD z g7 g8:=e8
 have up:∀c o,c≠z->g5.get? c=some o->g8.get? c=some o:=λc o c1 q=>e8.extBut _ _ c1 (e7.extBut _ _ c1 (NR _ q));have hT8:IsPair g8 g5.objs.size x y:=e8.extBut _ _ (Qd hzl) (e7.extBut _ _ (Qd hzl) (N5 _ rfl));have z8:g8.objs.size=g5.objs.size+1:=by rw[e8.1,e7.1,Qy]
 rw[hsz]at hz8 hT8 z8;refine NP ⟨_,rfl,?_⟩;show Q (.ref g5.objs.size) _;rw[hsz];exact hQ x y g8 _ p1 p2 hz8 (up _ _ D.TIz (k5 _ _ D.TIz D.TITO D.TI1 D.TI2 hTI)) (up _ _ D.TOz hTO5) (D1.frame _ _ _ u1 λc hc o q=>up c o (λy=>D.z1 (y▸hc)) q) (D2.frame _ _ _ u2 λc hc o q=>up c o (λy=>D.z2 (y▸hc)) q) hT8 z8
  λc o c1 c2 c3 c4 q=>up c o c1 (k5 c o c1 c2 c3 c4 q)
theorem C7(D:eN z TI TO i1 i2 fp1 fp2)(D1:Draws prog w A i1 fp1 n1 P1 S1)(D2:Draws prog w A i2 fp2 n2 P2 S2)(hz:fq s.heap z TI TO own fl)(hfr:sk s.heap own)(hTI:IsPair s.heap TI (.ref i1) (.ref i2))(hTO:IsPair s.heap TO a b)
  (h1:S1 k s.heap) (h2:S2 k s.heap) (hend:k=n1\/(k<n1/\k=n2))
  (hE:∀h' e tk,(∀c o,c≠z->c≠TO->c≠i1->c≠i2->s.heap.get? c=some o->h'.get? c=some o)->(∃o,h'.get? e=some o/\o.cls=.type "StopIteration")->E (.ref e) { s with heap:=h',toks:=tk }) :
  wpAny (model prog w) A (Builtin.«zip.__next__» ⟨[.ref z],[]⟩) Q E s:=by
 refine(show wpAny _ _ (field (.ref z) 2>>=_) _ _ _ from ar (OS hz rfl (x:=.bool false) rfl ?_));refine(show wpAny _ _ (field (.ref z) 3>>=_) _ _ _ from ar (OS hz rfl (x:=.ref TI) rfl ?_));refine ar (PQ hTI rfl ?_);refine(show wpAny _ _ (PR (.ref z)>>=_) _ _ _ from ar (yr hz hfr ?_));simp only[Se];refine ar (Tj (ar (OS hz rfl (x:=.ref TO) rfl ?_)));refine ar (PL hz (by simp) λg1 hz1 e1=>?_)
 replace hz1:fq g1 z TI TO .ellipsis fl:=hz1
 replace e1:OD z s.heap g1:=e1
 refine ar ?_;simp only[VF,VS,T4,Wg];refine ar (ar (SX ?_));have q1:S1 k g1:=D1.frame _ _ _ h1 λc hc o q=>e1.extBut c o (λy=>D.z1 (y▸hc)) q;have q2:S2 k g1:=D2.frame _ _ _ h2 λc hc o q=>e1.extBut c o (λy=>D.z2 (y▸hc)) q;rcases hend with hk |⟨hk,hk2⟩
 ·subst hk;refine(show wpAny _ _ (OP (.ref i1)>>=_) _ _ _ from ar (D1.done _ _ _ q1 λg2 e e2 he=>?_));obtain⟨oe,hoe,hce⟩:=he
  replace e2:Ua i1 g1 g2:=e2
  have hz2:fq g2 z TI TO .ellipsis fl:=e2 _ _ D.i1z.symm hz1;have hez:e≠z:=λx=>by subst x;rw[hz2]at hoe;cases hoe;simp at hce
  refine PL hz2 (by simp) λg3 _ e3=>hE g3 e _ (λc o c1 _ c3 _ q=>e3.extBut _ _ c1 (e2 _ _ c3 (e1.extBut _ _ c1 q))) ⟨oe,e3.extBut _ _ hez hoe,hce⟩
 ·subst hk2;refine(show wpAny _ _ (OP (.ref i1)>>=_) _ _ _ from ar (D1.item k _ _ _ hk q1 λx g2 t2 p1 q1' e2=>NP ?_))
  replace e2:OD i1 g1 g2:=e2
  have hTO2:IsPair g2 TO a b:=e2.extBut _ _ D.TOi1 (e1.extBut _ _ D.TOz hTO);refine ar (PQ hTO2 rfl (ar (Sk hTO2 λg3 hTO3 e3=>?_)))
  replace e3:OD TO g2 g3:=e3
  refine ar (VA (NP ?_));refine ar (ar (SX ?_));have r2:S2 k g3:=D2.frame _ _ _ q2 λc hc o q=>e3.extBut c o (λy=>D.TO2 (y▸hc)) (e2.extBut c o (λy=>D.i12 (y▸hc)) q);refine(show wpAny _ _ (OP (.ref i2)>>=_) _ _ _ from ar (D2.done _ _ _ r2 λg4 e e4 he=>?_));obtain⟨oe,hoe,hce⟩:=he
  replace e4:Ua i2 g3 g4:=e4
  have hz4:fq g4 z TI TO .ellipsis fl:=e4 _ _ D.i2z.symm (e3.extBut _ _ D.TOz.symm (e2.extBut _ _ D.i1z.symm hz1));have hez:e≠z:=λx=>by subst x;rw[hz4]at hoe;cases hoe;simp at hce
  refine PL hz4 (by simp) λg5 _ e5=>hE g5 e _ (λc o c1 c2 c3 c4 q=>e5.extBut _ _ c1 (e4 _ _ c4 (e3.extBut _ _ c2 (e2.extBut _ _ c3 (e1.extBut _ _ c1 q))))) ⟨oe,e5.extBut _ _ hez hoe,hce⟩
end
section
variable{prog:Program}{w:World}{A:Around}{E:Value->Shared->Prop}{s:Shared}{z TI TO i1 i2:Addr}{fp1 fp2:List Addr}{n1 n2 k:Nat}{P1 P2:Nat->Value->Prop}{S1 S2:Nat->Heap->Prop}{a b:Value}
theorem ug(D:eN z TI TO i1 i2 fp1 fp2)(D1:Draws prog w A.in1 i1 fp1 n1 P1 S1)(D2:Draws prog w A.in1 i2 fp2 n2 P2 S2)(hz:fq s.heap z TI TO own fl)(hfr:sk s.heap own)(hTI:IsPair s.heap TI (.ref i1) (.ref i2))(hTO:IsPair s.heap TO a b)
  (h1:S1 k s.heap) (h2:S2 k s.heap) (l1:k<n1) (l2:k<n2)
  (hQ:∀x y h' tk,P1 k x->P2 k y->IsZip h' z TI TO (rawInt s.heap.objs.size)->IsPair h' TI (.ref i1) (.ref i2)->IsPair h' TO x y->S1 (k+1) h'->S2 (k+1) h'->IsPair h' s.heap.objs.size x y->h'.objs.size=s.heap.objs.size+1 ->
   (∀c o,c≠z->c≠TO->c≠i1->c≠i2->s.heap.get? c=some o->h'.get? c=some o)->Q (some (.ref s.heap.objs.size)) { s with heap:=h',toks:=tk }) :
  wpAny (model prog w) A (pyNext (.ref z)) Q E s:=by
 have hT:s.TypeIs (.ref z) "zip":=⟨_,hz,rfl⟩;unfold pyNext;exact ar (SY (O2 (name:=Po "__next__") hT Sl (O0 Sl hT VG
  (BL D D1 D2 hz hfr hTI hTO h1 h2 l1 l2 λx y h' tk a1 a2 a3 a4 a5 a6 a7 a8 a9 a10=>NP (hQ x y h' tk a1 a2 a3 a4 a5 a6 a7 a8 a9 a10)) (Vq _))))
theorem wq(D:eN z TI TO i1 i2 fp1 fp2)(D1:Draws prog w A.in1 i1 fp1 n1 P1 S1)(D2:Draws prog w A.in1 i2 fp2 n2 P2 S2)(hz:fq s.heap z TI TO own fl)(hfr:sk s.heap own)(hTI:IsPair s.heap TI (.ref i1) (.ref i2))(hTO:IsPair s.heap TO a b)
  (h1:S1 k s.heap) (h2:S2 k s.heap) (hend:k=n1\/(k<n1/\k=n2))
  (hQ:∀h' tk,(∀c o,c≠z->c≠TO->c≠i1->c≠i2->s.heap.get? c=some o->h'.get? c=some o)->Q none { s with heap:=h',toks:=tk }):wpAny (model prog w) A (pyNext (.ref z)) Q E s:=by
 have hT:s.TypeIs (.ref z) "zip":=⟨_,hz,rfl⟩;unfold pyNext;refine ar (SY (O2 (name:=Po "__next__") hT Sl (O0 Sl hT VG
  (C7 D D1 D2 hz hfr hTI hTO h1 h2 hend λh' e tk hk he=>?_) (Vq _))))
 obtain⟨o,ho,hc⟩:=he;exact ar (P6 (T:="StopIteration") (b:=true) ⟨o,ho,hc⟩ Wh (NP (hQ _ tk hk)))
end
theorem rN(ht:∀c∈[N+4,N+2,N+3,N,N+1],t≠c)(hu:∀c∈[N+4,N+2,N+3,N,N+1],u≠c):eN (N+4) (N+2) (N+3) N (N+1) [N,t] [N+1,u]:=by
 have d:∀i j:Nat,i≠j->(N+i:Nat)≠N+j:=λi j h e=>h (Su e);have t4:=ht (N+4) (by simp);have t3:=ht (N+3) (by simp);have t1:=ht (N+1) (by simp);have u4:=hu (N+4) (by simp);have u3:=hu (N+3) (by simp);have u0:=hu N (by simp);refine⟨d 2 4 (by decide),d 3 4 (by decide),d 2 3 (by decide),λh=>?_,λh=>?_,λh=>?_,λh=>?_,λh=>?_,λh=>?_,by simp,by simp,d 2 0 (by decide),d 2 1 (by decide)⟩
 ·rcases NU.mp h with z |z
  ·exact d 4 0 (by decide) z
  ·exact t4 (N6.mp z).symm
 ·rcases NU.mp h with z |z
  ·exact d 4 1 (by decide) z
  ·exact u4 (N6.mp z).symm
 ·rcases NU.mp h with z |z
  ·exact d 3 0 (by decide) z
  ·exact t3 (N6.mp z).symm
 ·rcases NU.mp h with z |z
  ·exact d 3 1 (by decide) z
  ·exact u3 (N6.mp z).symm
 ·rcases NU.mp h with z |z
  ·exact d 0 1 (by decide) z
  ·exact u0 (N6.mp z).symm
 ·rcases NU.mp h with z |z
  ·exact d 1 0 (by decide) z
  ·exact t1 (N6.mp z).symm
section
variable{prog:Program}{w:World}{A:Around}{E:Value->Shared->Prop}{s:Shared}
theorem DK{t sl:Addr}{items:Array Value}{vl vu:Value}{lo hi:Option Int}{Q:Value->Shared->Prop}(ht:IsTup s.heap t items)(hs:s.heap.IsSliceOf sl vl vu .none)(pl:IsPart vl lo)(pu:IsPart vu hi)
    (hw:HT.sIx items.size 0 lo=0/\HT.sIx items.size items.size hi=items.size) (h:Q (.ref t) s):wpAny (model prog w) A (getItem (.ref t) (.ref sl)) Q E s:=by
  obtain⟨os,hos,hcs,hds⟩:=id hs;have hTs:s.TypeIs (.ref sl) "slice":=⟨os,hos,hcs⟩;unfold getItem
  try with_reducible refine OF ?_
  first |refine ar (NP ?_) |skip
  refine ar (Vm ht.typeIs (by decide) ?_);refine ar (O2 (name:=Po "__getitem__") ht.typeIs Pe (O0 Pe ht.typeIs UP ?_ (U1 _ _)));refine(show wpAny _ _ (SW (.ref t)>>=_) _ _ s from ar (Wz ht (ar (P0 hTs ?_))));rw[NT (by decide)];refine ar (HT.kK hs pl pu ?_);have yes:(((HT.sIx items.size 0 lo:Nat):Int)==0&&(1:Int)==1&&(HT.sIx items.size items.size hi-HT.sIx items.size 0 lo)==items.size)=true:=by
    rw[hw.1,hw.2];simp
  show wpAny _ _ (if(((HT.sIx items.size 0 lo:Nat):Int)==0&&(1:Int)==1&&(HT.sIx items.size items.size hi-HT.sIx items.size 0 lo)==items.size)=true then _ else _) _ _ s;rw[NT yes];obtain⟨o,ho,hcl,n,hd⟩:=id ht;have hT:s.TypeIs (.ref t) "tuple":=⟨o,ho,hcl⟩;have hx:wpAny (model prog w) A.in1 (S0 (.ref t)) (λb s'=>b=true/\s'=s) E s:=by
    unfold S0
    first
      |exact ar (P0 hT (NP ⟨by decide,rfl⟩))
      |(refine ar (P0 hT ?_);exact NP ⟨by simp,rfl⟩)
  refine ar (Pm hx (λb s' hb=>?_) λ_ _ x=>x);obtain⟨rfl,rfl⟩:=hb;rw[NT rfl];exact ar (Tj (NP ⟨_,rfl,NP h⟩))
theorem Hq(xs:List Value):((NY xs.length).filterMap λ(m:Nat)=>xs.toArray[(((xs.length:Nat):Int)-1+(m:Int)*(-1)).toNat]?)=xs.reverse:=by
 apply Vr;intro i;have key:∀(k:Nat),k<=xs.length->((NY k).filterMap λ(m:Nat)=>xs.toArray[(((xs.length:Nat):Int)-1+(m:Int)*(-1)).toNat]?)=xs.reverse.take k:=by
  intro k
  induction k with
  |zero=>intro _;simp
  |succ k ih=>
   intro hk;have e:(((xs.length:Nat):Int)-1+(k:Int)*(-1)).toNat=xs.length-1-k:=by omega
   rw[VT,Sg,ih ⋯,Tg];congr 1;simp only[Ot,List.filterMap_nil,e];rw[List.getElem?_reverse ⋯];have h2:xs.length-1-k<xs.length:=by omega
   simp[h2]
 rw[key xs.length (NW _),Py (by simp)]
theorem Kh{ws:List Value}(ht:IsTup s.heap t ([]:List Value).toArray)(hb:IsTup s.heap b ws.toArray)(h:Q (.ref b) s):wpAny (model prog w) A (binaryOp .Add (.ref t) (.ref b)) Q E s:=by
 obtain⟨⟨cls,dd,data,sl⟩,ho,hc,n,hd⟩:=id ht;obtain⟨⟨cls2,dd2,data2,sl2⟩,ho2,hc2,n2,hd2⟩:=id hb;simp only at hc hd hc2 hd2;subst hc hd hc2 hd2;exact U0 ⟨_,ho,rfl⟩ ⟨_,ho2,rfl⟩ Tt UD R1 RJ (Rt _ _) (tuple_addW0 t b _ _ n n2 dd dd2 sl sl2 (by simp)) ⟨ho,ho2,h⟩
end
section
variable{X:Cx}
def kE(n:Nat)(lo hi:Option Int):Prop:=HT.sIx n 0 lo=0/\HT.sIx n n hi=n
instance (n:Nat)(lo hi:Option Int):Decidable (kE n lo hi):=inferInstanceAs (Decidable (_/\_))
def LX(K:NO):V->Option Int->Option Int->Hp->VK->Prop:=λx lo hi H Q=>∃a xs,x=.ref a/\SqT K H a xs/\(kE xs.length lo hi->Q (.ref a) H)/\(¬kE xs.length lo hi->∀p,H p=none->Q (.ref p) (upd H p (.tup (kz xs lo hi))))
theorem GP:SlR X (LX X.K):=by
 intro pins s σ H x v vl vu lo hi sl Q I rx hs pl pu h;obtain⟨a,xs,rfl,hx,q1,q2⟩:=h;by_cases hw:kE xs.length lo hi
 ·cases rx;obtain⟨its,r,ht,hz⟩:=I.tuple hx;have hlen:its.toArray.size=xs.length:=by rw[NX];exact r.length.symm
  refine⟨"tuple",_,Pe.lookup,ht.typeIs,?_⟩;exact DK ht hs pl pu (by rw[hlen];exact hw) ⟨.ref a,H,I,rfl,q1 hw⟩
 ·exact K1 pins s σ H (.ref a) v vl vu lo hi sl Q I rx hs pl pu ⟨a,xs,rfl,hx,hw,q2 hw⟩
def Jn(K:NO):R2:=λx y H Q=>∃a b xs ys,x=.ref a/\y=.ref b/\SqT K H a xs/\SqT K H b ys/\xs.length+ys.length<=sizeLine /\
 (xs=[]->Q (.ref b) H)/\(xs≠[]->ys=[]->Q (.ref a) H)/\(xs≠[]->ys≠[]->∀p,H p=none->Q (.ref p) (upd H p (.tup (xs++ys))))
theorem El:OpR X (binaryOp .Add) (Jn X.K):=by
 intro pins s σ H x y v u Q I rx ry h;obtain⟨a,b,xs,ys,rfl,rfl,ha,hb,hz,q1,q2,q3⟩:=h;by_cases hx:xs=[]
 ·cases rx;cases ry;obtain⟨its,r1,p1,_⟩:=I.tuple ha;obtain⟨its2,r2,p2,_⟩:=I.tuple hb;obtain rfl:its=[]:=r1.p8.mpr hx;exact Kh p1 p2 ⟨.ref b,H,I,rfl,q1 hx⟩
 ·exact Hf pins s σ H (.ref a) (.ref b) v u Q I rx ry ⟨a,b,xs,ys,rfl,rfl,ha,hb,hx,hz,q2 hx,q3 hx⟩
def Dw:R2:=λx y H Q=>∃d e,Rep H x d/\Rep H y e/\D.depth d<=50/\((∃ds es,d=.tup ds/\e=.tup es)\/∃ds es,d=.lst ds/\e=.lst es)/\Q (.bl (D.eqv d e)) H
def EA:R2:=λx y H Q=>∃d e,Rep H x d/\Rep H y e/\D.depth d<=50/\((∃ds es,d=.tup ds/\e=.tup es)\/∃ds es,d=.lst ds/\e=.lst es)/\Q (.bl (!D.eqv d e)) H
theorem nM{A:Around}{ds es:List D}{its its2:List Value}(I:Inv X pins σ H s)(hu:A.units+64<cLine)(hd:D.bY ds<=50)(r1:Vals vs its)(r2:Vals us its2)(q1:aJ H vs ds)(q2:aJ H us es) :
  ∀j(h1:j<its.toArray.size)(h2:j<its2.toArray.size),RD A.in1 s its.toArray[j] its2.toArray[j] (D.eqv (ds.getD j .non) (es.getD j .non)):=by
 intro j h1 h2;have h1':j<its.length:=by simpa using h1
 have h2':j<its2.length:=by simpa using h2
 have l1:=r1.length;have l2:=r2.length;have e1:vs[j]?=some (vs[j]'⋯):=NV _;have e2:us[j]?=some (us[j]'⋯):=NV _;obtain⟨a1,b1,c1⟩:=r1.get e1;obtain⟨a2,b2,c2⟩:=r2.get e2;obtain⟨f1,g1,k1⟩:=q1.get e1;obtain⟨f2,g2,k2⟩:=q2.get e2;have z1:its.toArray[j]=a1:=by
  have:its[j]?=some its[j]:=NV h1';rw[b1]at this;simpa using(Ou this).symm
 have z2:its2.toArray[j]=a2:=by
  have:its2[j]?=some its2[j]:=NV h2';rw[b2]at this;simpa using(Ou this).symm
 rw[z1,z2,N8,N8,g1,g2];exact xA I 60 A.in1 _ _ _ _ _ _ (by show A.units+1+60<cLine;omega) (N7 (D.j5 g1) ⋯) c1 c2 k1 k2
theorem JU(hu:X.A.units+64<cLine):OpR X (compareOp .Eq) Dw:=by
 intro pins s σ H x y v u Q I rx ry h;obtain⟨d,e,r1,r2,hd,hk,q⟩:=h;rcases hk with⟨ds,es,rfl,rfl⟩ |⟨ds,es,rfl,rfl⟩
 ·cases r1 with
  |tup h1 q1=>
   cases r2 with
   |tup h2 q2=>
    cases rx;cases ry;obtain⟨its,rv1,p1,_⟩:=I.tuple (SqT.of h1);obtain⟨its2,rv2,p2,_⟩:=I.tuple (SqT.of h2);refine SeqAt.eq_tupleAt (e:=λj=>D.eqv (ds.getD j .non) (es.getD j .non)) p1 p2 ⋯ (nM I hu (by simp only[D.depth]at hd;omega) rv1 rv2 q1 q2) ⟨.bl _,H,I,rfl,?_⟩;rw[NX,NX,<-rv1.length,<-rv2.length,q1.length,q2.length,<-D.du];simpa only[D.eqv]using q
 ·cases r1 with
  |lst h1 q1=>
   cases r2 with
   |lst h2 q2=>
    cases rx;cases ry;obtain⟨its,rv1,p1,_⟩:=I.list (SqL.of h1);obtain⟨its2,rv2,p2,_⟩:=I.list (SqL.of h2);have l1:=rv1.length;have l2:=rv2.length;have m1:=q1.length;have m2:=q2.length;by_cases hl:ds.length=es.length
    ·refine SeqAt.eq_listAt (e:=λj=>D.eqv (ds.getD j .non) (es.getD j .non)) p1.isList p2.isList (by simp;omega) ⋯ (nM I hu (by simp only[D.depth]at hd;omega) rv1 rv2 q1 q2) ⟨.bl _,H,I,rfl,?_⟩;have z:D.cJ ds es=(NY its.toArray.size).all λj=>D.eqv (ds.getD j .non) (es.getD j .non):=by
      rw[D.du,<-hl,U6,NX,<-l1,m1];simp
     rw[<-z];simpa only[D.eqv]using q
    ·refine SeqAt.eq_list_lengthsAt p1.isList p2.isList (by simp;omega) ⋯ ⟨.bl _,H,I,rfl,?_⟩;have z:D.cJ ds es=false:=by rw[D.du];simp[hl]
     simpa only[D.eqv,z]using q
theorem Ka(hu:X.A.units+64<cLine):OpR X (compareOp .NotEq) EA:=by
 intro pins s σ H x y v u Q I rx ry h;obtain⟨d,e,r1,r2,hd,hk,q⟩:=h;rcases hk with⟨ds,es,rfl,rfl⟩ |⟨ds,es,rfl,rfl⟩
 ·cases r1 with
  |tup h1 q1=>
   cases r2 with
   |tup h2 q2=>
    cases rx;cases ry;obtain⟨its,rv1,p1,_⟩:=I.tuple (SqT.of h1);obtain⟨its2,rv2,p2,_⟩:=I.tuple (SqT.of h2);refine Yo (e:=λj=>D.eqv (ds.getD j .non) (es.getD j .non)) p1 p2 ⋯ (nM I hu (by simp only[D.depth]at hd;omega) rv1 rv2 q1 q2) _ _ _ _ ⟨.bl _,H,I,rfl,?_⟩;rw[NX,NX,<-rv1.length,<-rv2.length,q1.length,q2.length,<-D.du];simpa only[D.eqv]using q
 ·cases r1 with
  |lst h1 q1=>
   cases r2 with
   |lst h2 q2=>
    cases rx;cases ry;obtain⟨its,rv1,p1,_⟩:=I.list (SqL.of h1);obtain⟨its2,rv2,p2,_⟩:=I.list (SqL.of h2);have l1:=rv1.length;have l2:=rv2.length;have m1:=q1.length;have m2:=q2.length;by_cases hl:ds.length=es.length
    ·refine Yv (e:=λj=>D.eqv (ds.getD j .non) (es.getD j .non)) p1.isList p2.isList (by simp;omega) ⋯ (nM I hu (by simp only[D.depth]at hd;omega) rv1 rv2 q1 q2) _ _ _ _ ⟨.bl _,H,I,rfl,?_⟩;have z:D.cJ ds es=(NY its.toArray.size).all λj=>D.eqv (ds.getD j .non) (es.getD j .non):=by
      rw[D.du,<-hl,U6,NX,<-l1,m1];simp
     rw[<-z];simpa only[D.eqv]using q
    ·refine WH p1.isList p2.isList (by simp;omega) ⋯ _ _ _ _ ⟨.bl _,H,I,rfl,?_⟩;have z:D.cJ ds es=false:=by rw[D.du];simp[hl]
     simpa only[D.eqv,z,Bool.not_false]using q
theorem IF(hu:X.A.units+64<cLine):OpR X (compareOp .Eq) (λx y H Q=>rEq x y H Q\/Dw x y H Q):=Mt.or (JU hu)
theorem KW(hu:X.A.units+64<cLine):OpR X (compareOp .NotEq) (λx y H Q=>rNe x y H Q\/EA x y H Q):=Ll.or (Ka hu)
theorem IB:OpR X (compareOp .Is) (λx y H Q=>Di x y H Q\/(y=.non/\Q (.bl (decide (x=.non))) H)):=D9.or Ie
theorem Du:OpR X (compareOp .IsNot) (λx y H Q=>xD x y H Q\/(y=.non/\Q (.bl (!decide (x=.non))) H)):=zq.or F1
theorem qf:∀{bs:List Bool}{us:List Value},Vals (bs.map V.bl) us->us=bs.map Value.bool
 | [],_,h=>by cases h;rfl
 |b::bs,_,h=>by
  cases h with
  |cons r t=>cases r;rw[qf t];rfl
theorem Bq(hc:X.calm=true):cG X (.builtin "all") (λxs H Q=>∃(p:Addr)(bs:List Bool),xs=[.ref p]/\SqL X.K H p (bs.map V.bl)/\Q (.bl (bs.all id)) H):=by
 intro pins s σ H xs us Q I r h;obtain⟨p,bs,rfl,hq,q⟩:=h;obtain⟨u,rfl,rx⟩:=vals1 r;cases rx;obtain⟨its,rv,pl,hz⟩:=I.list hq;have hits:=qf rv;subst hits;have hA:X.A.in1.handled=none:=I.ok.hd hc;obtain⟨o,ho,hcl,n,hd⟩:=pl.isList;have hne:p≠s.heap.objs.size:=Og (N2 ho);refine call_all_walk (RU pl.isList ?_);refine⟨s.heap.objs.size,_,_,_,_,_,λi=>bs.getD i true,rfl,X7 (prog:=X.prog) (w:=X.w) hA s.heap.objs.size p hne (bs.map Value.bool).toArray,⟨⟨_,N5 _ rfl,rfl,rfl⟩,⟨o,NR _ ho,hcl,n,hd⟩⟩,?_,λh' tk hk=>?_⟩
 ·intro i v s' Q' E' hP hQ;have hP':(bs.map Value.bool).toArray[i]?=some v:=hP;rw[Pa,Ow]at hP';cases e:bs[i]? with
  |none=>rw[e]at hP';cases hP'
  |some b=>
   rw[e]at hP';cases hP';have hQ:Q' (bs.getD i true) s':=hQ;rw[N8,e]at hQ;exact O3 hQ
 ·have z:(NY (bs.map Value.bool).toArray.size).all (λi=>bs.getD i true)=bs.all id:=by
   rw[NX,tv,OW,Oi,Oi];constructor
   ·intro h b hb;obtain⟨i,hi,e⟩:=PV.mp hb;have:=h i (Ol.mpr hi);rw[N8,NV hi]at this;simpa[e]using this
   ·intro h i hi;have hi':=Ol.mp hi;rw[N8,NV hi'];exact h _ (PM hi')
  rw[z];have I1:Inv X pins σ H { s with heap:=s.heap.push { cls:=.type "list_iterator",data:=.fields #[.ref p,.int 0 0] } }:=I.kept (t':=s.toks) λb o e=>NR _ e;have fk:eZ X pins H s.heap.objs.size:=I.mq (NW _) (I.hok.fresh (NW _));obtain⟨f0,f1,f2,f3,f4,f5⟩:=fk;exact⟨.bl _,H,I1.turned (t':=tk) (it:=s.heap.objs.size) (λb o hb e=>hk b o (λz=>hb (N6.mp z)) e) f0 f1 f3 f4 f5,rfl,q⟩
theorem vW:cG X (.builtin "sorted") (λxs H Q=>∃(p:Addr)(ns:List Int),xs=[.ref p]/\SqL X.K H p (ns.map V.int)/\ns.length<64/\∀(l:Addr)(ms:List Int),H l=none->List.Perm ms ns->ms.Pairwise (·<=·)->Q (.ref l) (upd H l (.lst (ms.map V.int)))):=by
 intro pins s σ H xs us Q I r h;obtain⟨p,ns,rfl,hq,hl,q⟩:=h;obtain⟨u,rfl,rx⟩:=vals1 r;cases rx;obtain⟨its,rv,pl,hz⟩:=I.list hq;have hI:IntsAre its ns:=intsAre_of rv;have h64:its.length<64:=by rw[<-rv.length,tv];exact hl
 refine sorted_ints pl.isList hI h64 λout ms hout hperm hpair=>?_;obtain⟨e,he⟩:=sortedAll_at s.heap its out;refine⟨.ref (s.heap.objs.size+1),_,I.laid (t':=s.toks) (o:=.lst (ms.map V.int)) (λb ob q=>WI q) (R3 _) ?_,rfl,q _ ms (I.hok.fresh (R3 _)) hperm hpair⟩;have hlm:ms.length=ns.length:=hperm.length_eq;exact⟨by rw[tv];have:(64:Nat)<=sizeLine:=(by decide);omega,out.toList,e,js hout,by simpa using he⟩
end
def kN(H:Hp)(p:Addr):Option (List V):=match H p with
 |some (.lst xs)=>some xs
 |some (.tup xs)=>some xs
 |_=>none
theorem Kp(h:H p=some (.tup xs)):kN H p=some xs:=by unfold kN;rw[h]
theorem JW(h:H p=some (.lst xs)):kN H p=some xs:=by unfold kN;rw[h]
theorem mT(h:kN H p=some xs):H p=some (.lst xs)\/H p=some (.tup xs):=by
 unfold kN at h;split at h
 ·cases h;exact .inl ‹_›
 ·cases h;exact .inr ‹_›
 ·cases h
section
variable{X:Cx}
def KA:R2:=λx y H Q=>∃p i xs v,x=.ref p/\y=.int i/\kN H p=some xs/\atI xs i=some v/\Q v H
theorem Np:IxR X KA:=by
 intro value slice pins s σ H x y v u Q I rx ry q hs;obtain⟨p,i,xs,w',rfl,rfl,h,e,q⟩:=q;rcases mT h with h |h
 ·exact G2 value slice pins s σ H _ _ v u Q I rx ry ⟨p,xs,i,w',rfl,rfl,SqL.of h,e,q⟩ hs
 ·exact HQ value slice pins s σ H _ _ v u Q I rx ry ⟨p,xs,i,w',rfl,rfl,SqT.of h,e,q⟩ hs
def ET:List V->Hp->VK->Prop:=λvs H Q=>∃p xs,vs=[.ref p]/\kN H p=some xs/\Q (.int xs.length) H
theorem aM:cG X (.builtin "len") ET:=by
 intro pins s σ H vs us Q I r h;obtain⟨p,xs,rfl,h,q⟩:=h;rcases mT h with h |h
 ·exact qV pins s σ H _ us Q I r ⟨_,_,rfl,.inl ⟨xs,SqL.of h,rfl⟩,q⟩
 ·exact qV pins s σ H _ us Q I r ⟨_,_,rfl,.inr ⟨xs,SqT.of h,rfl⟩,q⟩
def w8:List V->Hp->VK->Prop:=λvs H Q=>∃p xs,vs=[.ref p]/\kN H p=some xs/\∀l,H l=none->Q (.ref l) (upd H l (.lst xs))
theorem nZ:cG X (.type "list") w8:=by
 intro pins s σ H vs us Q I r h;obtain⟨p,xs,rfl,h,q⟩:=h;rcases mT h with h |h
 ·exact oV pins s σ H _ us Q I r ⟨p,xs,rfl,.inl (SqL.of h),q⟩
 ·exact oV pins s σ H _ us Q I r ⟨p,xs,rfl,.inr (SqT.of h),q⟩
def zd:List V->Hp->VK->Prop:=λvs H Q=>∃p,vs=[.ref p]/\((∃xs,H p=some (.lst xs)/\∀l,H l=none->Q (.ref l) (upd H l (.tup xs)))\/∃xs,H p=some (.tup xs)/\Q (.ref p) H)
theorem bL:cG X (.type "tuple") zd:=by
 intro pins s σ H vs us Q I r h;obtain⟨p,rfl,⟨xs,h,q⟩ |⟨xs,h,q⟩⟩:=h
 ·exact og pins s σ H _ us Q I r ⟨p,xs,rfl,.inl ⟨SqL.of h,q⟩⟩
 ·exact og pins s σ H _ us Q I r ⟨p,xs,rfl,.inr ⟨SqT.of h,q⟩⟩
def Nj:V->Option Int->Option Int->Hp->VK->Prop:=λx lo hi H Q=>∃p,x=.ref p/\((∃xs,H p=some (.tup xs)/\(kE xs.length lo hi->Q (.ref p) H)/\(¬kE xs.length lo hi->∀l,H l=none->Q (.ref l) (upd H l (.tup (kz xs lo hi))))) \/
 ∃xs,H p=some (.lst xs)/\∀l,H l=none->Q (.ref l) (upd H l (.lst (kz xs lo hi))))
theorem Nm:SlR X Nj:=by
 intro pins s σ H x v vl vu lo hi sl Q I rx hs pl pu h;obtain⟨p,rfl,⟨xs,h,q1,q2⟩ |⟨xs,h,q⟩⟩:=h
 ·exact GP pins s σ H _ v vl vu lo hi sl Q I rx hs pl pu ⟨p,xs,rfl,SqT.of h,q1,q2⟩
 ·exact yA pins s σ H _ v vl vu lo hi sl Q I rx hs pl pu ⟨p,xs,rfl,SqL.of h,q⟩
def EM(neg:Bool):R2:=λx y H Q=>∃p xs,y=.ref p/\kN H p=some xs/\gG x=true/\xs.all gG=true/\Q (.bl (if neg then !inV x xs else inV x xs)) H
theorem J8:OpR X (compareOp .In) (EM false):=by
 intro pins s σ H x y v u Q I rx ry h;obtain⟨p,xs,rfl,h,f1,f2,q⟩:=h;rcases mT h with h |h
 ·exact uL pins s σ H _ _ v u Q I rx ry ⟨p,xs,rfl,.inl (SqL.of h),f1,f2,q⟩
 ·exact uL pins s σ H _ _ v u Q I rx ry ⟨p,xs,rfl,.inr (SqT.of h),f1,f2,q⟩
theorem Bl:OpR X (compareOp .NotIn) (EM true):=by
 intro pins s σ H x y v u Q I rx ry h;obtain⟨p,xs,rfl,h,f1,f2,q⟩:=h;rcases mT h with h |h
 ·exact pL pins s σ H _ _ v u Q I rx ry ⟨p,xs,rfl,.inl (SqL.of h),f1,f2,q⟩
 ·exact pL pins s σ H _ _ v u Q I rx ry ⟨p,xs,rfl,.inr (SqT.of h),f1,f2,q⟩
def Fy:R2:=λx y H Q=>(∃i j,x=.int i/\y=.int j/\Q (.int (i+j)) H)\/∃a b,x=.ref a/\y=.ref b /\
  ((∃xs ys,H a=some (.tup xs)/\H b=some (.tup ys)/\xs.length+ys.length<=sizeLine/\(xs=[]->Q (.ref b) H)/\(xs≠[]->ys=[]->Q (.ref a) H)/\(xs≠[]->ys≠[]->∀p,H p=none->Q (.ref p) (upd H p (.tup (xs++ys))))) \/
   ∃xs ys,H a=some (.lst xs)/\H b=some (.lst ys)/\xs.length+ys.length<=sizeLine/\∀p,H p=none->Q (.ref p) (upd H p (.lst (xs++ys))))
theorem GD:OpR X (binaryOp .Add) Fy:=by
 intro pins s σ H x y v u Q I rx ry h;rcases h with⟨i,j,rfl,rfl,q⟩ |⟨a,b,rfl,rfl,⟨xs,ys,h1,h2,hz,q1,q2,q3⟩ |⟨xs,ys,h1,h2,hz,q⟩⟩
 ·exact KL pins s σ H _ _ v u Q I rx ry ⟨i,j,rfl,rfl,q⟩
 ·exact El pins s σ H _ _ v u Q I rx ry ⟨a,b,xs,ys,rfl,rfl,SqT.of h1,SqT.of h2,hz,q1,q2,q3⟩
 ·exact JN pins s σ H _ _ v u Q I rx ry ⟨a,b,xs,ys,rfl,rfl,h1,h2,hz,q⟩
def IU:R2:=λx y H Q=>rEq x y H Q\/Dw x y H Q
def I0:R2:=λx y H Q=>rNe x y H Q\/EA x y H Q
theorem bS(hu:X.A.units+64<cLine):OpR X (compareOp .Eq) IU:=IF hu
theorem dy(hu:X.A.units+64<cLine):OpR X (compareOp .NotEq) I0:=KW hu
def Iv:R2:=λx y H Q=>Di x y H Q\/(y=.non/\Q (.bl (decide (x=.non))) H)
def Cd:R2:=λx y H Q=>xD x y H Q\/(y=.non/\Q (.bl (!decide (x=.non))) H)
theorem xT:OpR X (compareOp .Is) Iv:=IB
theorem Eg:OpR X (compareOp .IsNot) Cd:=Du
def FJ:List V->Hp->VK->Prop:=λvs H Q=>∃(p:Addr)(bs:List Bool),vs=[.ref p]/\H p=some (.lst (bs.map V.bl))/\Q (.bl (bs.all id)) H
theorem gR(hc:X.calm=true):cG X (.builtin "all") FJ:=by
 intro pins s σ H vs us Q I r h;obtain⟨p,bs,rfl,h,q⟩:=h;exact Bq hc pins s σ H _ us Q I r ⟨p,bs,rfl,SqL.of h,q⟩
def x9:List V->Hp->VK->Prop:=λvs H Q=>∃(p:Addr)(ns:List Int),vs=[.ref p]/\H p=some (.lst (ns.map V.int))/\ns.length<64/\∀(l:Addr)(ms:List Int),H l=none->List.Perm ms ns->ms.Pairwise (·<=·)->Q (.ref l) (upd H l (.lst (ms.map V.int)))
theorem xt:cG X (.builtin "sorted") x9:=by
 intro pins s σ H vs us Q I r h;obtain⟨p,ns,rfl,h,hl,q⟩:=h;exact vW pins s σ H _ us Q I r ⟨p,ns,rfl,SqL.of h,hl,q⟩
def JH:List V->Hp->VK->Prop:=λvs H Q=>∃i j,vs=[.int i,.int j]/\Q (.int (if j>i then j else i)) H
def IH:List V->Hp->VK->Prop:=λvs H Q=>∃i j,vs=[.int i,.int j]/\Q (.int (if j<i then j else i)) H
theorem uH(hc:X.calm=true):cG X (.builtin "max") JH:=BP hc
theorem lF(hc:X.calm=true):cG X (.builtin "min") IH:=BR hc
def Na(to te:TE):TE:=λσ H Q=>to σ H λx H1=>∃l xs0,x=.ref l/\H1 l=some (.lst xs0)/\te σ H1 λy H2=>∃xs,H2 l=some (.lst xs)/\xs.length<sizeLine/\Q .non (upd H2 l (.lst (xs++[y])))
theorem Kf(ho:PE X o to)(he:PE X e te)
  (hbase:attributeBase o "append" X.env (eval o X.env)=eval o X.env:=by rfl)
  (hfew:((backTo cpos (starEach [e] X.env)).all (λx=>!x.1)&&(backToKw cpos (keywordEach [] X.env)).all (λx=>x.1.isSome)&&decide ([e].length+([]:List Keyword).length+(if([]:List Keyword).isEmpty then 0 else 1)<30))=true:=by rfl)
  (hline:(apos.endLine==cpos.line)=true:=by rfl) (hs:starEach [e] X.env=(false,eval e X.env)::starEach [] X.env:=by rfl):PE X (.Call (.Attribute o "append" apos) [e] [] cpos) (Na to te):=by
 intro pins s σ H Q I h;refine R4 hbase hfew hline rfl (thn (ho pins s σ H _ I h) λv s1 ⟨x,H1,I1,r1,l,xs0,e0,hl,q1⟩=>?_);subst e0;have ty:tyV X.K "list" (.ref l) H1:=.inl ⟨rfl,_,SqL.of hl⟩;obtain⟨h1,h2⟩:=By I1 r1 ty;refine⟨"list",_,TU,PySem.F.slot_list_append,PySem.F.type_list_append,h1,h2,?_⟩;have hA:=(eP he iw hs) cpos pins s1 σ H1 (λvs H2=>∃y,vs=[y]/\∃xs,H2 l=some (.lst xs)/\xs.length<sizeLine/\Q .non (upd H2 l (.lst (xs++[y])))) I1 (by
  refine cast (OZ (te σ H1) ?_) q1;funext y H2;refine propext ⟨λq=>⟨y,rfl,q⟩,λ⟨y',e',q⟩=>?_⟩;cases e';exact q)
 rw[hs]at hA ⊢;refine Pz (by show(false||(backTo cpos (starEach ([]:List Expr) X.env)).any (·.1))=false;rfl) (Px ?_);exact thn hA λus s2 ⟨vs,H2,I2,r2,y,e2,xs,h3,hz,q2⟩=>tW pins s2 σ H2 (.ref l) vs v us Q I2 r1 r2 ⟨l,xs,y,rfl,e2,h3,hz,q2⟩
end
theorem rG{n:Nat}{k:Int}(h0:0<=k)(h:k<(n:Int)):ixN n k=some k.toNat:=by
 unfold ixN;rw[NT h0,NT h]
class NS (e:Expr):Prop where
 eq:∀(es:List Expr)(env:Env),starEach (e::es) env=(false,eval e env)::starEach es env
instance {c:Const}{k:Nat}{p:Pos}:NS (.Constant c k p):=⟨λ_ _=>rfl⟩
instance {x:Str}{p:Pos}:NS (.Name x p):=⟨λ_ _=>rfl⟩
instance {es:List Expr}{k:Nat}{p:Pos}:NS (.Tuple es k p):=⟨λ_ _=>rfl⟩
instance {es:List Expr}{p:Pos}:NS (.List es p):=⟨λ_ _=>rfl⟩
instance {a:Expr}{o:Operator}{b:Expr}{p:Pos}:NS (.BinOp a o b p):=⟨λ_ _=>rfl⟩
instance {o:UnaryOp}{a:Expr}{p:Pos}:NS (.UnaryOp o a p):=⟨λ_ _=>rfl⟩
instance {f:Expr}{es:List Expr}{ks:List Keyword}{p:Pos}:NS (.Call f es ks p):=⟨λ_ _=>rfl⟩
instance {a b:Expr}{p:Pos}:NS (.Subscript a b p):=⟨λ_ _=>rfl⟩
instance {a:Expr}{os:List CmpOp}{bs:List Expr}{p:Pos}:NS (.Compare a os bs p):=⟨λ_ _=>rfl⟩
instance {o:BoolOp}{es:List Expr}{p:Pos}:NS (.BoolOp o es p):=⟨λ_ _=>rfl⟩
instance {a b c:Expr}{p:Pos}:NS (.IfExp a b c p):=⟨λ_ _=>rfl⟩
instance {e:Expr}{gs:List Comprehension}{sc:Scope}{p:Pos}:NS (.ListComp e gs sc p):=⟨λ_ _=>rfl⟩
def hide(l:List Addr)(H:Hp):Hp:=λb=>if b∈l then none else H b
section
variable{X:Cx}
def tLm(r:V->List V->Hp->VK->Prop)(to te:TE):TE:=λσ H Q=>to σ H λx H1=>∃l xs0,x=.ref l/\H1 l=some (.lst xs0)/\te σ H1 λy H2=>r (.ref l) [y] H2 Q
theorem Fv{r:V->List V->Hp->VK->Prop}{name:Str}{id:String}{o e:Expr}{to te:TE}{apos cpos:Pos}(slot:Slot "list" name id)(hty:typeOf (.builtin id)=pure (.type "method_descriptor"))(hm:MtM X id r)(ho:PE X o to)(he:PE X e te)
  (hbase:attributeBase o name X.env (eval o X.env)=eval o X.env:=by rfl)
  (hfew:((backTo cpos (starEach [e] X.env)).all (λx=>!x.1)&&(backToKw cpos (keywordEach [] X.env)).all (λx=>x.1.isSome)&&decide ([e].length+([]:List Keyword).length+(if([]:List Keyword).isEmpty then 0 else 1)<30))=true:=by rfl)
  (hline:(apos.endLine==cpos.line)=true:=by rfl) (hs:starEach [e] X.env=(false,eval e X.env)::starEach [] X.env:=by rfl):PE X (.Call (.Attribute o name apos) [e] [] cpos) (tLm r to te):=by
 intro pins s σ H Q I h;refine R4 hbase hfew hline rfl (thn (ho pins s σ H _ I h) λv s1 ⟨x,H1,I1,r1,l,xs0,e0,hl,q1⟩=>?_);subst e0;have ty:tyV X.K "list" (.ref l) H1:=.inl ⟨rfl,_,SqL.of hl⟩;obtain⟨h1,h2⟩:=By I1 r1 ty;refine⟨"list",_,TU,slot,hty,h1,h2,?_⟩;have hA:=(eP he iw hs) cpos pins s1 σ H1 (λvs H2=>∃y,vs=[y]/\r (.ref l) [y] H2 Q) I1 (by
  refine cast (OZ (te σ H1) ?_) q1;funext y H2;refine propext ⟨λq=>⟨y,rfl,q⟩,λ⟨y',e',q⟩=>?_⟩;cases e';exact q)
 rw[hs]at hA ⊢;refine Pz (by show(false||(backTo cpos (starEach ([]:List Expr) X.env)).any (·.1))=false;rfl) (Px ?_);exact thn hA λus s2 ⟨vs,H2,I2,r2,y,e2,q2⟩=>hm pins s2 σ H2 (.ref l) vs v us Q I2 r1 r2 (by rw[e2];exact q2)
theorem yL:∀(us:List Value)(k:Nat),(∀j v,us[j]?=some v->RelV (f (k+j)) v)->Vals ((List.range' k us.length).map f) us
 | [],_,_=>.nil
 |u::us,k,h=>by
  rw[N9,List.range'_succ,N4];refine .cons (h 0 u rfl) (yL us (k+1) λj v e=>?_);have:=h (j+1) v (by simpa using e);rw[show k+1+j=k+(j+1) by omega];exact this
def tLR(ta:TA):TE:=λσ H Q=>ta σ H λvs H1=>∃j:Int,vs=[.int j]/\0<=j/\j<=1000/\∀l,H1 l=none->Q (.ref l) (upd H1 l (.lst ((NY j.toNat).map λi=>V.int (i:Nat))))
theorem wJ(hc:X.calm=true)(hgl:Gl X "list")(hml:X.mg "list"=none)(hgr:Gl X "range")(hmr:X.mg "range"=none)(hbl:bootBuiltins "list"=some (.type "list"))(ha:PA X [a] ta)
  (hs:starEach [a] X.env=[(false,eval a X.env)]:=by rfl)
  (hs2:starEach [Expr.Call (.Name "range" p2) [a] [] pos2] X.env=(false,eval (Expr.Call (.Name "range" p2) [a] [] pos2) X.env)::starEach [] X.env:=by rfl) :
  PE X (.Call (.Name "list" p1) [.Call (.Name "range" p2) [a] [] pos2] [] pos1) (tLR ta):=by
 intro pins s σ H Q I h;refine Pt (dH I hgl hml hbl ?_);refine OH ?_ hs2 rfl;rw[hs2];show wpAny _ _ (spliced ((false,eval (Expr.Call (.Name "range" p2) [a] [] pos2) X.env)::backTo pos1 (starEach [] X.env))) _ _ s;refine PK ?_;refine Uw (dH I hgr hmr VP (OH (thn (ha pos2 pins s σ H _ I h) λus s1 ⟨vs,H1,I1,r1,q1⟩=>?_) hs rfl));obtain⟨j,e,j0,j1,q⟩:=q1;subst e;cases r1 with
 |cons r rr=>
  cases rr;obtain⟨t,rfl⟩:=r;refine call_range_1 ?_;have hA:X.A.handled=none:=I.ok.hd hc;have I2:Inv X pins σ H1 { s1 with heap:=s1.heap.push { cls:=.type "range",data:=.fields #[.int 0 s1.toks,.int j t,.int 1 (s1.toks+1)] },toks:=s1.toks+1+1 }:=I1.kept λb o e=>NR _ e;refine NP ?_;have hsz:TR 0 j 1=((j.toNat:Nat):Int):=by rw[Wx];split<;>omega
  refine call_list_range hA (Xz ..) (small_one ⋯ ⋯ ⋯ ⋯) hsz ⋯ λh' tk acc c' hk hnew hit=>?_;have hvals:Vals ((NY j.toNat).map λi=>V.int (i:Nat)) acc.toList:=by
   have hl:acc.toList.length=j.toNat:=by rw[Om];exact hit.1
   rw[<-hl,List.range_eq_range'];refine yL acc.toList 0 λi v e=>?_;obtain⟨t2,rfl⟩:=hit.2 i v (by simpa using e);exact⟨t2,by congr 1;omega⟩
  refine⟨.ref _,_,I2.laid (t':=tk) (o:=.lst ((NY j.toNat).map λi=>V.int (i:Nat))) hk (NW _) ⟨?_,acc.toList,c',hvals,?_⟩,rfl,q _ (I2.hok.fresh (NW _))⟩
  ·rw[tv,Q3];exact PJ (fP ⋯)
  ·simpa using hnew
end
section
variable{X:Cx}
theorem Ed:∀{x y:V}{u:Value},RelV x u->RelV y u->x=y:=by
  intro x y u h1 h2;cases x<;>cases y<;>simp only[RelV]at h1 h2<;>first
    |rfl
    |(subst h1;cases h2;done)
    |(subst h1;cases h2;rfl)
    |(obtain⟨t,rfl⟩:=h1;cases h2;done)
    |(obtain⟨t,rfl⟩:=h1;obtain⟨t2,e⟩:=h2;cases e;rfl)
    |(obtain⟨t,rfl⟩:=h1;obtain⟨t2,e⟩:=h2;cases e;done)
    |(obtain⟨t,rfl⟩:=h2;cases h1;done)
def DV(neg:Bool):R2:=λx y H Q=>∃(p:Addr)(vs:List V)(d:D)(ds:List D),y=.ref p/\H p=some (.lst vs)/\aJ H vs ds/\Rep H x d/\D.bY ds<=50/\Q (.bl (if neg then !ds.any (λe=>D.eqv e d)else ds.any λe=>D.eqv e d)) H
theorem yJ(hu:X.A.units+64<cLine)(I:Inv X pins σ H s)(rx:RelV x v)(hq:H p=some (.lst vs))(rs:aJ H vs ds)(rd:Rep H x d)(hd:D.bY ds<=50) :
  ∃(its:List Value)(e:Value->Bool),s.heap.IsList p its.toArray/\(∀y∈its.toArray,RD X.A.in1 s y v (e y))/\its.toArray.any e=ds.any λe=>D.eqv e d:=by
 classical
 obtain⟨its,r,pl,hz⟩:=I.list (SqL.of hq);have l1:=r.length;have l2:=rs.length;have key:∀(j:Nat)(u:Value),its[j]?=some u->∃(y:V)(e:D),vs[j]?=some y/\ds[j]?=some e/\RelV y u/\Rep H y e:=by
  intro j u hj;have hlt:=(NZ.mp hj).1;have e1:vs[j]?=some (vs[j]'⋯):=NV _;obtain⟨a1,b1,c1⟩:=r.get e1;obtain⟨f1,g1,k1⟩:=rs.get e1;rw[hj]at b1;cases b1;exact⟨_,f1,e1,g1,c1,k1⟩
 refine⟨its,λu=>decide (∃(j:Nat)(y:V)(e:D),its[j]?=some u/\vs[j]?=some y/\ds[j]?=some e/\D.eqv e d=true),pl.isList,?_,?_⟩
 ·intro u hm;have hm':u∈its:=by simpa using hm
  obtain⟨j,hj⟩:=Qj.mp hm';obtain⟨y,e,h1,h2,h3,h4⟩:=key j u hj;have q:=xA I 60 X.A.in1 y x u v e d (by show X.A.units+1+60<cLine;omega) (N7 (D.j5 h2) ⋯) h3 rx h4 rd;have z:decide (∃(j:Nat)(y:V)(e:D),its[j]?=some u/\vs[j]?=some y/\ds[j]?=some e/\D.eqv e d=true)=D.eqv e d:=by
   rw[OW,PX];refine⟨λ⟨j',y',e',g1,g2,g3,g4⟩=>?_,λh=>⟨j,y,e,hj,h1,h2,h⟩⟩;obtain⟨y2,e2,k1,k2,k3,k4⟩:=key j' u g1;rw[g2]at k1;cases k1;rw[g3]at k2;cases k2;have:=Ed h3 k3;subst this;rw[Rep.inj h4 k4];exact g4
  show RD X.A.in1 s u v (decide _);rw[z];exact q
 ·rw[VH,OW,R9,R9];constructor
  ·rintro⟨u,hu',h⟩;obtain⟨j,y,e,g1,g2,g3,g4⟩:=Oc h;exact⟨e,OE g3,g4⟩
  ·rintro⟨e,he,h⟩;obtain⟨j,hj⟩:=Qj.mp he;have hlt:=(NZ.mp hj).1;have e1:its[j]?=some (its[j]'⋯):=NV _;obtain⟨y,e',h1,h2,h3,h4⟩:=key j _ e1;exact⟨_,OE e1,NQ ⟨j,y,e,e1,h1,hj,h⟩⟩
theorem JE(hu:X.A.units+64<cLine):OpR X (compareOp .In) (DV false):=by
 intro pins s σ H x y v u Q I rx ry h;obtain⟨p,vs,d,ds,rfl,hq,rs,rd,hd,q⟩:=h;cases ry;obtain⟨its,e,h1,h2,h3⟩:=yJ hu I rx hq rs rd hd;refine VQ e h1 h2 ⟨.bl _,H,I,rfl,?_⟩;rw[h3];exact q
theorem A7(hu:X.A.units+64<cLine):OpR X (compareOp .NotIn) (DV true):=by
 intro pins s σ H x y v u Q I rx ry h;obtain⟨p,vs,d,ds,rfl,hq,rs,rd,hd,q⟩:=h;cases ry;obtain⟨its,e,h1,h2,h3⟩:=yJ hu I rx hq rs rd hd;refine U4 e h1 h2 ⟨.bl _,H,I,rfl,?_⟩;rw[h3];exact q
end
def Sq(b:Bool)(xs:List V):HO:=match b with
 |true=>.lst xs
 |false=>.tup xs
def jy(b:Bool)(h:Heap)(t:Addr)(xs:Array Value):Prop:=match b with
 |true=>h.IsList t xs
 |false=>h.IsTuple t xs
def gX(b:Bool)(h:Heap)(it t:Addr)(i:Nat):Prop:=match b with
 |true=>h.IsListIter it t i
 |false=>h.IsTupleIter it t i
def sqI(b:Bool)(t:Addr):Obj:={ cls:=.type (match b with |true=>"list_iterator" |false=>"tuple_iterator"),data:=.fields #[.ref t,.int 0 0] }
theorem Inv.sq(I:Inv X pins σ H s)(h:H t=some (Sq b xs)):∃its:List Value,Vals xs its/\jy b s.heap t its.toArray/\xs.length<=sizeLine:=by
 cases b with
 |true=>obtain⟨its,rv,p,hz⟩:=I.list (SqL.of h);exact⟨its,rv,p.isList,hz⟩
 |false=>obtain⟨its,rv,p,hz⟩:=I.tuple (SqT.of h);exact⟨its,rv,p,hz⟩
theorem fR(b:Bool)(hh:A.handled=none)(it t:Addr)(hne:t≠it)(items:Array Value):Draws prog w A it [it,t] items.size (λi v=>items[i]?=some v) (λi h=>gX b h it t i/\jy b h t items):=by
 cases b with
 |true=>exact Draws.list hh it t hne items
 |false=>exact IT hh it t hne items
theorem ke(x:gX b h it t i):∃o,h.get? it=some o/\∀v,o.data≠.cell v:=by
 cases b<;>(obtain⟨o,e,_,d⟩:=x;exact⟨o,e,λv z=>by rw[d]at z;cases z⟩)
theorem mR(x:gX b h it t i)(k:∀o,h.get? it=some o->h'.get? it=some o):gX b h' it t i:=by
 cases b<;>(obtain⟨o,e,r⟩:=x;exact⟨o,k o e,r⟩)
theorem zi(x:h.get? it=some (sqI b t)):gX b h it t 0:=by
 cases b<;>exact⟨_,x,rfl,rfl⟩
theorem LF(x:jy b h t xs)(k:∀o,h.get? t=some o->h'.get? t=some o):jy b h' t xs:=by
 cases b<;>(obtain⟨o,e,r⟩:=x;exact⟨o,k o e,r⟩)
section
variable{prog:Program}{w:World}{A:Around}{E:Value->Shared->Prop}{s:Shared}
abbrev gI(b:Bool)(h:Heap)(t:Addr):Heap:=h.push (sqI b t)
abbrev gPI(b c:Bool)(h:Heap)(t u:Addr):Heap:=(gI c (gI b h t) u).push { cls:=.type "tuple",data:=.seq #[.ref h.objs.size,.ref (gI b h t).objs.size] }
abbrev gPO(b c:Bool)(h:Heap)(t u:Addr):Heap:=(gPI b c h t u).push { cls:=.type "tuple",data:=.seq #[.none,.none] }
abbrev tP(b c:Bool)(h:Heap)(t u:Addr):Heap:=(gPO b c h t u).push { cls:=.type "zip",data:=.fields #[.none,.bool false,.bool false,.ref (gI c (gI b h t) u).objs.size,.ref (gPI b c h t u).objs.size] }
theorem yR(h:jy b s.heap t xs)(hQ:Q (.ref s.heap.objs.size) { s with heap:=gI b s.heap t }):wpAny (model prog w) A (pyIter (.ref t)) Q E s:=by
 cases b with
 |true=>exact RU h hQ
 |false=>exact SN h hQ
theorem Ee(b c:Bool)(t u:Addr)(xs ys:Array Value):Meets (Builtin.«zip.__new__» ⟨[.type "zip",.ref t,.ref u],[]⟩) (λ_ R s=>jy b s.heap t xs/\jy c s.heap u ys/\R (.ok (.ret (.ref (gPO b c s.heap t u).objs.size))) { s with heap:=tP b c s.heap t u }):=
 .of_wp λprog w A R s h=>by
  obtain⟨hp,g,d,tk,os⟩:=s;obtain⟨ht,hu,h⟩:=h;have hsub:=sub_zip;have h1:jy b (XB ⟨hp,g,d,tk,os⟩) t xs:=ht;have h2:jy c (XB ⟨gI b hp t,g,d,tk,os⟩) u ys:=LF hu λo e=>NR _ e
  wp_walk using yR h1,yR h2
  exact⟨_,rfl,h⟩
theorem uM(b c:Bool)(ht:jy b s.heap t xs)(hu:jy c s.heap u ys)
  (h:∀h',IsZip h' (s.heap.objs.size+4) (s.heap.objs.size+2) (s.heap.objs.size+3) .none->IsPair h' (s.heap.objs.size+2) (.ref s.heap.objs.size) (.ref (s.heap.objs.size+1))->IsPair h' (s.heap.objs.size+3) .none .none ->
   gX b h' s.heap.objs.size t 0->gX c h' (s.heap.objs.size+1) u 0->(∀a o,s.heap.get? a=some o->h'.get? a=some o)->Q (.ref (s.heap.objs.size+4)) { s with heap:=h' }) :
  wpAny (model prog w) A (call (.type "zip") [.ref t,.ref u]) Q E s:=by
 refine callType_new F.called_zip (by decide) (F.typeCall_zip_2 _ _) (F.newCall_zip_2 _ _) (λobj=>F.args_object_init_3 obj _ _) F.entry_zip_new (Ee b c t u xs ys) ⟨ht,hu,?_⟩;have s1:(gI b s.heap t).objs.size=s.heap.objs.size+1:=Qy ..;have s2:(gI c (gI b s.heap t) u).objs.size=s.heap.objs.size+2:=by rw[Qy,s1]
 have s3:(gPI b c s.heap t u).objs.size=s.heap.objs.size+3:=by rw[Qy,s2]
 have s4:(gPO b c s.heap t u).objs.size=s.heap.objs.size+4:=by rw[Qy,s3]
 have g5:(tP b c s.heap t u).get? (gPO b c s.heap t u).objs.size=some _:=N5 _ rfl;have g4:(tP b c s.heap t u).get? (gPI b c s.heap t u).objs.size=some _:=NR _ (N5 _ rfl);have g3:(tP b c s.heap t u).get? (gI c (gI b s.heap t) u).objs.size=some _:=NR _ (NR _ (N5 _ rfl));have g2:(tP b c s.heap t u).get? (gI b s.heap t).objs.size=some _:=NR _ (NR _ (NR _ (N5 _ rfl)));have g1:(tP b c s.heap t u).get? s.heap.objs.size=some _:=NR _ (NR _ (NR _ (NR _ (N5 _ rfl))));show _/\_;rw[s2,s3,s4]at g5;rw[s1,s2]at g3;rw[s3]at g4;rw[s1]at g2;rw[s4];exact⟨⟨_,g5,rfl⟩,h _ g5 g3 g4 (zi g1) (zi g2) λa o q=>NR _ (NR _ (NR _ (NR _ (NR _ q))))⟩
end
def Itg(b c:Bool)(t u:Addr):It:=
  ⟨λi H=>∃xs ys x y,H t=some (Sq b xs)/\H u=some (Sq c ys)/\xs[i]?=some x/\ys[i]?=some y,λi H v H'=>∃p x y,H p=none/\v=.ref p/\H'=upd H p (.tup [x,y])/\(∀xs,H t=some (Sq b xs)->xs[i]?=some x)/\∀ys,H u=some (Sq c ys)->ys[i]?=some y,
   λi H=>∃xs ys,H t=some (Sq b xs)/\H u=some (Sq c ys)/\i<=xs.length/\i<=ys.length/\(i=xs.length\/i=ys.length)⟩
theorem pN{P:Program}{w:World}{K:NO}{es:List Expr}{kk:Nat}{tp:Pos}(b c:Bool)(t u N:Addr) :
  Turn P w K (.Tuple es kk tp) (Itg b c t u) [N+4,N+2,N+3,N,N+1] (N+4)
   (λi h=>IsZip h (N+4) (N+2) (N+3) .none/\IsPair h (N+2) (.ref N) (.ref (N+1))/\(∃a b,IsPair h (N+3) a b)/\gX b h N t i/\gX c h (N+1) u i)where
 mem:=by simp
 obj:=λi h st e hb=>by
  obtain⟨h1,h2,⟨x,y,h3⟩,h4,h5⟩:=st;simp only[NU,Oj,O6]at hb;rcases hb with z |z |z |z |z
  ·rw[z];exact⟨_,h1,λv z=>by
    have z':Data.fields _=Data.cell v:=z;cases z'⟩
  ·rw[z];exact⟨_,h2,λv z=>by
    have z':Data.seq _ _=Data.cell v:=z;cases z'⟩
  ·rw[z];exact⟨_,h3,λv z=>by
    have z':Data.seq _ _=Data.cell v:=z;cases z'⟩
  ·rw[z];exact ke h4
  ·rw[z];exact ke h5
 keep:=λi h h' st k=>by
  obtain⟨h1,h2,⟨x,y,h3⟩,h4,h5⟩:=st;exact⟨k _ (by simp) _ h1,k _ (by simp) _ h2,⟨x,y,k _ (by simp) _ h3⟩,mR h4 λo q=>k _ (by simp) o q,mR h5 λo q=>k _ (by simp) o q⟩
 item:=by
  intro X hP hw hK hc i pins s σ H E I hf st hg;subst hP hw hK;obtain⟨h1,h2,⟨a0,b0,h3⟩,h4,h5⟩:=st;obtain⟨xs,ys,x,y,hx,hy,ex,ey⟩:=hg;obtain⟨its,rv,p,hz⟩:=I.sq hx;obtain⟨its2,rv2,p2,hz2⟩:=I.sq hy;obtain⟨a,ha,ra⟩:=rv.get ex;obtain⟨b1,hb,rb⟩:=rv2.get ey;have D0:=rN (N:=N) (t:=t) (u:=u) (λc hc e=>by rw[e,(hf c hc).1]at hx;cases hx) (λc hc e=>by rw[e,(hf c hc).1]at hy;cases hy);have hA:X.A.in1.handled=none:=I.ok.hd hc;have tn:t≠N:=λe=>by rw[e,(hf N (by simp)).1]at hx;cases hx
  have un:u≠N+1:=λe=>by rw[e,(hf (N+1) (by simp)).1]at hy;cases hy
  have la:i<its.toArray.size:=by
   have:=(NZ.mp ha).1;simpa using this
  have lb:i<its2.toArray.size:=by
   have:=(NZ.mp hb).1;simpa using this
  refine ug D0 (fR b hA N t tn its.toArray) (fR c hA (N+1) u un its2.toArray) h1 (.inl rfl) h2 h3 ⟨h4,p⟩ ⟨h5,p2⟩ la lb λx' y' g1 tk px py z1 z2 z3 z4 z5 z6 z7 k1=>?_;obtain rfl:x'=a:=by
   have e:its.toArray[i]?=some x':=px;rw[Pa,ha]at e;exact(Ou e).symm
  obtain rfl:y'=b1:=by
   have e:its2.toArray[i]?=some y':=py;rw[Pa,hb]at e;exact(Ou e).symm
  refine⟨_,rfl,Tn (s:={ s with heap:=g1,toks:=tk }) z1 λg2 y1 e2=>?_⟩
  replace e2:OD (N+4) g1 g2:=e2
  have hl4:N+4<s.heap.objs.size:=N2 h1;have d:∀i j:Nat,i≠j->(N+i:Nat)≠N+j:=λi j h e=>h (Su e);have ht2:IsPair g2 s.heap.objs.size x' y':=e2.extBut _ _ (Qd hl4) z6;have k2:∀c o,c∉[N+4,N+2,N+3,N,N+1]->s.heap.get? c=some o->g2.get? c=some o:=λc o hc q=>by
   have c4:c≠N+4:=λz=>hc (by simp[z]);have c3:c≠N+3:=λz=>hc (by simp[z]);have c0:c≠N:=λz=>hc (by simp[z]);have c1:c≠N+1:=λz=>hc (by simp[z]);exact e2.extBut c o c4 (k1 c o c4 c3 c0 c1 q)
  have I2:Inv X pins σ (upd H s.heap.objs.size (.tup [x,y])) { s with heap:=g2,toks:=tk }:=by
   refine I.rk (fp:=[N+4,N+2,N+3,N,N+1]) (NW _) k2 hf ?_;exact⟨by show 2<=sizeLine;decide,[x',y'],.cons ra (.cons rb .nil),⟨_,ht2,rfl,_,rfl⟩⟩
  refine⟨.ref s.heap.objs.size,_,I2,rfl,⟨s.heap.objs.size,x,y,I.hok.fresh (NW _),rfl,rfl,λzs hy0=>?_,λzs hy'=>?_⟩,⟨y1,e2.extBut _ _ (d 2 4 (by decide)) z2,⟨_,_,e2.extBut _ _ (d 3 4 (by decide)) z3⟩,mR z4.1 λo q=>e2.extBut _ _ (d 0 4 (by decide)) q,mR z5.1 λo q=>e2.extBut _ _ (d 1 4 (by decide)) q⟩,λb hb=>?_⟩
  ·rw[hx]at hy0;cases b<;>(cases hy0;exact ex)
  ·rw[hy]at hy';cases c<;>(cases hy';exact ey)
  ·have hlt:b<s.heap.objs.size:=by
    simp only[NU,Oj,O6]at hb;rcases hb with z |z |z |z |z
    ·rw[z];exact hl4
    ·rw[z];exact N2 h2
    ·rw[z];exact N2 h3
    ·obtain⟨o,q,_⟩:=ke h4;rw[z];exact N2 q
    ·obtain⟨o,q,_⟩:=ke h5;rw[z];exact N2 q
   rw[bf (Og hlt)];exact(hf b hb).1
 done:=by
  intro X hP hw hK hc i pins s σ H E I hf st hg;subst hP hw hK;obtain⟨h1,h2,⟨a0,b0,h3⟩,h4,h5⟩:=st;obtain⟨xs,ys,hx,hy,lx,ly,hend⟩:=hg;obtain⟨its,rv,p,hz⟩:=I.sq hx;obtain⟨its2,rv2,p2,hz2⟩:=I.sq hy;have D0:=rN (N:=N) (t:=t) (u:=u) (λc hc e=>by rw[e,(hf c hc).1]at hx;cases hx) (λc hc e=>by rw[e,(hf c hc).1]at hy;cases hy);have hA:X.A.in1.handled=none:=I.ok.hd hc;have tn:t≠N:=λe=>by rw[e,(hf N (by simp)).1]at hx;cases hx
  have un:u≠N+1:=λe=>by rw[e,(hf (N+1) (by simp)).1]at hy;cases hy
  have l1:=rv.length;have l2:=rv2.length;refine wq D0 (fR b hA N t tn its.toArray) (fR c hA (N+1) u un its2.toArray) h1 (.inl rfl) h2 h3 ⟨h4,p⟩ ⟨h5,p2⟩ ?_ λh' tk hk=>⟨rfl,?_⟩
  ·simp only[NX];omega
  ·refine I.zc (fp:=[N+4,N+2,N+3,N,N+1]) (λc o hc q=>?_) hf;exact hk c o (λz=>hc (by simp[z])) (λz=>hc (by simp[z])) (λz=>hc (by simp[z])) (λz=>hc (by simp[z])) q
 self:=λ_ _ _ _ _ st h=>R_ st.1 h
end L2
namespace ZS
open PySem
def Ri(l:List Nat):Prop:=l.Pairwise (· <·)
theorem zI(xs:Array Nat)(j p:Nat)(h1:∀i,i<p->xs.getD i j<j)(h2:∀i,p<=i->i<xs.size->¬xs.getD i j<j):∀(fuel lo hi:Nat),lo<=p->p<=hi->hi<=xs.size->hi-lo<=fuel->Th xs j fuel lo hi=p
 |0,lo,hi,a,b,c,d=>by rw[Th];omega
 |fuel+1,lo,hi,a,b,c,d=>by
  rw[Th];by_cases hl:lo<hi
  ·rw[NT hl];dsimp only;have m1:lo<=(lo+hi) / 2:=by omega
   have m2:(lo+hi) / 2<hi:=by omega
   by_cases hm:xs.getD ((lo+hi) / 2) j<j
   ·rw[NT hm];have:(lo+hi) / 2<p:=by
     refine TB λz=>?_;exact h2 _ z ⋯ hm
    exact zI xs j p h1 h2 fuel _ _ ⋯ b c ⋯
   ·rw[N1 hm];have:p<=(lo+hi) / 2:=by
     refine Tw λz=>?_;exact hm (h1 _ z)
    exact zI xs j p h1 h2 fuel _ _ a this ⋯ ⋯
  ·rw[N1 hl];omega
theorem getD_list{l:List Nat}(h:i<l.length):l.toArray.getD i j=l[i]:=by simp[QS,h]
theorem below_at{l:List Nat}(hp:p<=l.length)(h1:∀i(h:i<l.length),i<p->l[i]<j)(h2:∀i(h:i<l.length),p<=i->j<=l[i]):PB l.toArray j=p:=by
 unfold PB;refine zI l.toArray j p (λi hi=>?_) (λi hi hs=>?_) _ _ _ (Pc _) (by simpa using hp) (NW _) ⋯
 ·rw[getD_list ⋯];exact h1 i ⋯ hi
 ·rw[getD_list (by simpa using hs)];have:=h2 i (by simpa using hs) hi;omega
theorem vy(h:Ri l)(hk:k<l.length)(hi:i<k):l[i]<l[k]:=Qa.mp h i k ⋯ hk hi
theorem ur{l:List Nat}(h:Ri l)(j:Nat):∃p,p<=l.length/\PB l.toArray j=p/\(∀x∈l.take p,x<j)/\(∀x∈l.drop p,j<=x):=by
 induction l with
 |nil=>exact⟨0,NW _,below_at (NW _) (λi h=>by simp at h) (λi h=>by simp at h),by simp,by simp⟩
 |cons a l ih=>
  obtain⟨h1,h2⟩:=OV.mp h;obtain⟨p,hp,_,ha,hb⟩:=ih h2;by_cases hj:a<j
  ·have q1:∀x∈(a::l).take (p+1),x<j:=by
    intro x hx;rw[List.take_succ_cons]at hx;rcases NU.mp hx with e |e
    ·omega
    ·exact ha x e
   have q2:∀x∈(a::l).drop (p+1),j<=x:=by
    intro x hx;rw[List.drop_succ_cons]at hx;exact hb x hx
   refine⟨p+1,by simp;omega,below_at (by simp;omega) (λi hi hip=>?_) (λi hi hip=>?_),q1,q2⟩
   ·refine q1 _ ?_;rw[PV];exact⟨i,by rw[OL];simp at hi ⊢;omega,by rw[List.getElem_take]⟩
   ·refine q2 _ ?_;rw[PV];exact⟨i-(p+1),by simp at hi ⊢;omega,by rw[List.getElem_drop];congr 1;omega⟩
  ·have q2:∀x∈a::l,j<=x:=by
    intro x hx;rcases NU.mp hx with e |e
    ·omega
    ·have:=h1 x e;omega
   refine⟨0,Pc _,below_at (Pc _) (λi hi hip=>by omega) (λi hi _=>q2 _ (PM hi)),by simp,by simpa using q2⟩
theorem pF{l:List Nat}(h:Ri l)(hi:i<l.length):PB l.toArray (l[i]+1)=i+1/\PB l.toArray l[i]=i:=by
 constructor
 ·refine below_at ⋯ (λk hk hki=>?_) (λk hk hki=>?_)
  ·by_cases e:k=i
   ·subst e;omega
   ·have:=vy h hi (show k<i by omega);omega
  ·have:=vy h hk (show i<k by omega);omega
 ·refine below_at ⋯ (λk hk hki=>vy h hi hki) (λk hk hki=>?_);by_cases e:k=i
  ·subst e;omega
  ·have:=vy h hk (show i<k by omega);omega
theorem Ai{l:List Nat}:PB l.toArray 0=0:=below_at (Pc _) (λi hi h=>by omega) (λi hi _=>Pc _)
theorem tZ(h:Ri l)(hj:j∉l)(ha:∀x∈l.take p,x<j)(hb:∀x∈l.drop p,j<=x):Ri (l.take p++j::l.drop p):=by
 have hs:Ri (l.take p++l.drop p):=by rw[Qk];exact h
 obtain⟨s1,s2,s3⟩:=Sm.mp hs;refine Sm.mpr ⟨s1,OV.mpr ⟨λx hx=>?_,s2⟩,λx hx y hy=>?_⟩
 ·have:=hb x hx;have:x≠j:=λe=>hj (by rw[<-e];exact Qv hx);omega
 ·rcases NU.mp hy with e |e
  ·rw[e];exact ha x hx
  ·exact s3 x hx y e
theorem slot_of{t:SetTable}{l:List Nat}(hp:t.place=l.toArray)(hr:Ri l)(hd:t.dummies=#[])(j:Nat):(j∉l->t.slot j=.empty)/\(j∈l->∃i,t.slot j=.live i):=by
 have hh:Xm #[] j=false:=by simp[Xm]
 constructor
 ·intro hj;unfold UG;dsimp only;rw[hp,hd,hh];have:(l.toArray[PB l.toArray j]?==some j)=false:=by
   rw[O8];intro e;rw[Pa]at e;exact hj (OE e)
  rw[this];rfl
 ·intro hj;obtain⟨i,hi,rfl⟩:=PV.mp hj;refine⟨i,?_⟩;unfold UG;dsimp only;rw[hp,(pF hr hi).2,Pa,NV hi];simp
def nxt(m i:Nat):Nat:=(i*5+1) % (m+1)
def orb(m:Nat):Nat->Nat->Nat
 |0,i=>i
 |n+1,i=>orb m n (nxt m i)
def marks(m:Nat):Nat->Nat->Nat->Nat
 |0,_,acc=>acc
 |n+1,i,acc=>marks m n (nxt m i) (acc|||(1 <<< i))
def full(m:Nat):Bool:=marks m (m+1) 0 0==2 ^ (m+1)-1&&orb m (m+1) 0==0
theorem L6:full 7=true:=by decide+kernel
theorem ID:full 31=true:=by decide+kernel
theorem F2:full 127=true:=by decide+kernel
theorem GJ:full 511=true:=by decide+kernel
theorem uE:∀(n i acc e:Nat),(marks m n i acc).testBit e=true->acc.testBit e=true\/∃k,k<n/\orb m k i=e
 |0,i,acc,e,h=>.inl h
 |n+1,i,acc,e,h=>by
  rw[marks]at h;rcases uE n _ _ e h with q |⟨k,hk,q⟩
  ·rw[Nat.testBit_or,Ph]at q;rcases q with q |q
   ·exact .inl q
   ·refine .inr ⟨0,by omega,?_⟩;rw[Nat.one_shiftLeft,Nat.testBit_two_pow]at q;simpa[orb]using q
  ·exact .inr ⟨k+1,by omega,q⟩
theorem p9:∀(a b i:Nat),orb m (a+b) i=orb m b (orb m a i)
 |0,b,i=>by simp[orb]
 |a+1,b,i=>by
  rw[show a+1+b=(a+b)+1 by omega,orb,p9 a b,orb]
theorem Fw(hf:full m=true)(he:e<=m):∃k,k<=m/\orb m k 0=e:=by
 unfold full at hf;rw[N3,O_,O_]at hf;have q:(marks m (m+1) 0 0).testBit e=true:=by
  rw[hf.1,Nat.testBit_two_pow_sub_one];simp;omega
 rcases uE _ _ _ _ q with z |⟨k,hk,z⟩
 ·simp at z
 ·exact⟨k,by omega,z⟩
theorem reach(hf:full m=true)(he:e<=m)(hi:i<=m):∃k,k<=m/\orb m k i=e:=by
 obtain⟨a,ha,ea⟩:=Fw hf hi;obtain⟨b,hb,eb⟩:=Fw hf he;have h0:orb m (m+1) 0=0:=by
  unfold full at hf;rw[N3,O_,O_]at hf;exact hf.2
 by_cases hab:a<=b
 ·refine⟨b-a,by omega,?_⟩;rw[<-ea,<-p9,show a+(b-a)=b by omega,eb]
 ·refine⟨m+1-a+b,by omega,?_⟩;rw[<-ea,<-p9,show a+(m+1-a+b)=(m+1)+b by omega,p9,h0,eb]
def lp(m:Nat):Nat->Nat×Nat->Nat×Nat
 |0,x=>x
 |n+1,x=>lp m n (OK m x.1 x.2)
theorem BM:∀(a b:Nat)(x:Nat×Nat),lp m (a+b) x=lp m b (lp m a x)
 |0,b,x=>by simp[lp]
 |a+1,b,x=>by
  rw[show a+1+b=(a+b)+1 by omega,lp,BM a b,lp]
theorem yG:∀(n:Nat)(x:Nat×Nat),(lp m n x).2=x.2 / 32 ^ n
 |0,x=>by simp[lp]
 |n+1,x=>by
  rw[lp,yG n];show x.2 / 32 / 32 ^ n=_;rw[Nat.div_div_eq_div_mul,Nat.pow_succ,Nat.mul_comm]
theorem Bg:∀(n i:Nat),lp m n (i,0)=(orb m n i,0)
 |0,i=>rfl
 |n+1,i=>by
  rw[lp,orb];have:OK m i 0=(nxt m i,0):=by simp[OK,nxt]
  rw[this,Bg n]
theorem Mh(x:Nat×Nat)(h:x.1<=m):∀n,(lp m n x).1<=m:=by
 intro n
 induction n generalizing x with
 |zero=>exact h
 |succ n ih=>
  rw[lp];exact ih _ (by show _ % (m+1)<=m;have:=RH (x.1*5+1+x.2 / 32) (show m+1>0 by omega);omega)
theorem tF(hf:full m=true)(he:e<=m)(hi:i<=m)(hp:p<2 ^ 64):∃k,k<OB m/\(lp m k (i,p)).1=e:=by
 have h13:(lp m 13 (i,p)).2=0:=by
  rw[yG];exact Nat.div_eq_of_lt (Oo hp (by decide))
 obtain⟨k,hk,ek⟩:=reach hf he (Mh (i,p) hi 13);refine⟨13+k,by unfold OB;omega,?_⟩;rw[BM];have z:lp m 13 (i,p)=((lp m 13 (i,p)).1,0):=by rw[<-h13]
 rw[z,Bg];exact ek
theorem tU(h:Int):Oa h<2 ^ 64:=by
 unfold Oa;have:=P_ h (show(0:Int)<2 ^ 64 by decide);omega
theorem room{l:List Nat}(hn:l.length<=m):∃e,e<=m/\e∉l:=by
 refine Rp λh=>?_;have hall:∀e∈NY (m+1),e∈l:=λe he=>Rp λz=>h ⟨e,by have:=Ol.mp he;omega,z⟩;have:=VU (TC (n:=m+1)) hall;rw[Q3]at this;omega
theorem DN{t:SetTable}{l:List Nat}(hp:t.place=l.toArray)(hr:Ri l)(hd:t.dummies=#[])(h:Int) :
  ∀(k:Nat)(fuel:Nat)(q:SetTable.Probe),q.dummy=none->q.more<=9->10*k+q.more+1<=fuel->(lp t.mask k (q.i,q.perturb)).1∉l->(k=0->q.j=q.i\/q.j∉l)->(q.more<=9) ->
   (k=0->q.j∉l)->∃j,OG t (λ_=>h+1) h fuel q=some (.empty j none)/\j∉l:=by
 intro k
 induction k with
 |zero=>
  intro fuel q h1 h2 h3 h4 h5 h6 h7;obtain⟨f,rfl⟩:∃f,fuel=f+1:=⟨fuel-1,by omega⟩;refine⟨q.j,?_,h7 rfl⟩;rw[OG,(slot_of hp hr hd q.j).1 (h7 rfl)];dsimp only;rw[h1]
 |succ k ih=>
  intro fuel q h1 h2 h3 h4 h5 h6 h7;have run:∀(r fuel:Nat)(q:SetTable.Probe),q.more=r->q.dummy=none->10*(k+1)+r+1<=fuel->(lp t.mask (k+1) (q.i,q.perturb)).1∉l->∃j,OG t (λ_=>h+1) h fuel q=some (.empty j none)/\j∉l:=by
   intro r
   induction r with
   |zero=>
    intro fuel q hm hdm hfu hl;obtain⟨f,rfl⟩:∃f,fuel=f+1:=⟨fuel-1,by omega⟩;by_cases hj:q.j∈l
    ·obtain⟨i,ei⟩:=(slot_of hp hr hd q.j).2 hj;rw[OG,ei];dsimp only;have hne:(h+1==h)=false:=by rw[O8];omega
     rw[hne];have ha:t.advance q={ q with j:=(OK t.mask q.i q.perturb).1,more:=OI t.mask (OK t.mask q.i q.perturb).1-(OK t.mask q.i q.perturb).1,i:=(OK t.mask q.i q.perturb).1,perturb:=(OK t.mask q.i q.perturb).2 }:=by
      unfold Ra;rw[N1 ⋯]
     have hmore:(t.advance q).more<=9:=by
      rw[ha];dsimp only;unfold OI;split<;>omega
     have hl':(lp t.mask k ((t.advance q).i,(t.advance q).perturb)).1∉l:=by rw[ha];exact hl
     refine ih f (t.advance q) (by rw[ha];exact hdm) hmore ⋯ hl' (λ_=>.inl (by rw[ha])) hmore λhk=>?_;rw[ha];dsimp only;subst hk;exact hl
    ·refine⟨q.j,?_,hj⟩;rw[OG,(slot_of hp hr hd q.j).1 hj];dsimp only;rw[hdm]
   |succ r ihr=>
    intro fuel q hm hdm hfu hl;obtain⟨f,rfl⟩:∃f,fuel=f+1:=⟨fuel-1,by omega⟩;by_cases hj:q.j∈l
    ·obtain⟨i,ei⟩:=(slot_of hp hr hd q.j).2 hj;rw[OG,ei];dsimp only;have hne:(h+1==h)=false:=by rw[O8];omega
     rw[hne];have ha:t.advance q={ q with j:=q.j+1,more:=q.more-1 }:=by
      unfold Ra;rw[NT ⋯]
     refine ihr f (t.advance q) (by rw[ha];dsimp only;omega) (by rw[ha];exact hdm) ⋯ (by rw[ha];exact hl)
    ·refine⟨q.j,?_,hj⟩;rw[OG,(slot_of hp hr hd q.j).1 hj];dsimp only;rw[hdm]
  exact run q.more fuel q rfl h1 h3 h4
theorem Bh{t:SetTable}{l:List Nat}(hp:t.place=l.toArray)(hr:Ri l)(hd:t.dummies=#[])(hf:full t.mask=true)(hn:l.length<=t.mask)(h:Int):∃j,t.freeSlot h=some (j,false)/\j∉l:=by
 obtain⟨e,he,hel⟩:=room hn;have hi:Oa h % (t.mask+1)<=t.mask:=by have:=RH (Oa h) (show t.mask+1>0 by omega);omega
 obtain⟨k,hk,ek⟩:=tF hf he hi (tU h);have hmore:(t.probeStart h).more<=9:=by
  unfold US OI;dsimp only;split<;>omega
 have q:=DN hp hr hd h k (10*OB t.mask) (t.probeStart h) rfl hmore ⋯ (by
  show(lp t.mask k (Oa h % (t.mask+1),Oa h)).1∉l;rw[ek];exact hel) (λ_=>.inl rfl) hmore (λhk0=>by
   subst hk0;show Oa h % (t.mask+1)∉l;rw[show Oa h % (t.mask+1)=e from ek];exact hel)
 obtain⟨j,ej,hj⟩:=q;refine⟨j,?_,hj⟩;unfold SetTable.freeSlot SetTable.probe;rw[ej];rfl
end ZS
namespace ZS
open PySem
theorem yX{m e:Nat}{owner:Array (Option Nat)}(he:owner.getD e (some 0)=none):∀(k fuel i p:Nat),(lp m k (i,p)).1=e->k<fuel->∃j,OJ m owner fuel i p=some j/\owner.getD j (some 0)=none
 |k,0,i,p,_,h=>by omega
 |k,fuel+1,i,p,hk,h=>by
  rw[OJ];cases hf:(NY (OI m i+1-i)).find? λk=>(owner.getD (i+k) (some 0)).isNone with
  |some x=>
   refine⟨i+x,rfl,?_⟩;have:=VV hf;simpa using this
  |none=>
   have hno:=SO.mp hf;cases k with
   |zero=>
    have hi:i=e:=hk;have:=hno 0 (Ol.mpr (by unfold OI;split<;>omega));rw[Nat.add_zero,hi,he]at this;simp at this
   |succ k=>
    dsimp only;exact yX he k fuel _ _ hk ⋯
theorem wG{α z:Type}{f g:α->Option z}:∀{l:List α},(∀x∈l,f x=g x)->l.filterMap f=l.filterMap g
 | [],_=>rfl
 |a::l,h=>by
  rw[Ot,Ot,h a (Oq ..),wG λx hx=>h x (Oh _ hx)]
def vals(m:Nat)(owner:Array (Option Nat)):List Nat:=(NY (m+1)).filterMap λj=>owner.getD j none
theorem C8(m:Nat):vals m (T5 (m+1) none)=[]:=by
 unfold vals;rw[List.filterMap_eq_nil_iff];intro j hj;simp[QS]
theorem Ei{m j k:Nat}{owner:Array (Option Nat)}(hs:owner.size=m+1)(hj:owner.getD j (some 0)=none):(vals m (owner.setIfInBounds j (some k))).Perm (k::vals m owner):=by
 have hjs:j<owner.size:=by
  refine TB λz=>?_;simp[QS,X8.mpr z]at hj
 have hjv:owner.getD j none=none:=by
  simp[QS,hjs]at hj ⊢;exact hj
 have hmem:j∈NY (m+1):=Ol.mpr ⋯;have pe:=List.perm_cons_erase hmem;have nd:(NY (m+1)).Nodup:=TC;unfold vals;refine(pe.filterMap _).trans ?_;refine List.Perm.trans ?_ ((pe.filterMap (λj=>owner.getD j none)).cons k).symm;rw[Ot,Ot];have e1:(owner.setIfInBounds j (some k)).getD j none=some k:=by simp[QS,hjs]
 rw[e1,hjv];dsimp only;refine List.Perm.cons k (VW ?_);refine wG λx hx=>?_;have hne:x≠j:=λe=>by
  rw[e]at hx;exact(Xn nd).mp hx |>.1 rfl
 simp only[QS,Ry];split
 ·rw[SE,SE,Array.getElem_setIfInBounds_ne (by assumption) (λe=>hne e.symm)]
 ·rfl
theorem Dy{m:Nat}{owner:Array (Option Nat)}(hs:owner.size=m+1)(h:(vals m owner).length<=m):∃e,e<=m/\owner.getD e (some 0)=none:=by
 refine Rp λhno=>?_;have all:∀j∈NY (m+1),(owner.getD j none).isSome=true:=λj hj=>by
  have hj':=Ol.mp hj;cases e:owner.getD j none with
  |some x=>rfl
  |none=>
   refine absurd ⟨j,by omega,?_⟩ hno;simp[QS,show j<owner.size by omega]at e ⊢;exact e
 have len:∀l:List Nat,(∀j∈l,(owner.getD j none).isSome=true)->(l.filterMap λj=>owner.getD j none).length=l.length:=by
  intro l
  induction l with
  |nil=>intro _;rfl
  |cons a l ih=>
   intro hl;obtain⟨x,hx⟩:=QB.mp (hl a (Oq ..));rw[Ot,hx];dsimp only;rw[N9,N9,ih λj hj=>hl j (Oh _ hj)]
 have:=len _ all;rw[Q3]at this;unfold vals at h;omega
def eO(m:Nat)(acc:Option (Array (Option Nat)×Nat))(h:Int):Option (Array (Option Nat)×Nat):=do
  let(owner,k)<-acc
  let j<-OJ m owner (OB m) (Oa h % (m+1)) (Oa h)
  pure (owner.setIfInBounds j (some k),k+1)
theorem wj{m:Nat}(hf:full m=true):∀(hs:List Int)(owner:Array (Option Nat))(k:Nat),owner.size=m+1->(vals m owner).Perm (NY k)->k+hs.length<=m ->
  ∃owner',hs.foldl (eO m) (some (owner,k))=some (owner',k+hs.length)/\owner'.size=m+1/\(vals m owner').Perm (NY (k+hs.length))
 | [],owner,k,h1,h2,h3=>⟨owner,rfl,h1,by simpa using h2⟩
 |h::hs,owner,k,h1,h2,h3=>by
  have hlen:(vals m owner).length=k:=by rw[h2.length_eq,Q3]
  obtain⟨e,he,hen⟩:=Dy h1 (by simp at h3;omega);have hi:Oa h % (m+1)<=m:=by have:=RH (Oa h) (show m+1>0 by omega);omega
  obtain⟨q,hq,eq⟩:=tF hf he hi (tU h);obtain⟨j,ej,hj⟩:=yX (m:=m) hen q (OB m) _ _ eq hq;have st:eO m (some (owner,k)) h=some (owner.setIfInBounds j (some k),k+1):=by
   unfold eO;show(OJ m owner (OB m) (Oa h % (m+1)) (Oa h)).bind _=_;rw[ej];rfl
  have p2:(vals m (owner.setIfInBounds j (some k))).Perm (NY (k+1)):=by
   refine(Ei h1 hj).trans ((h2.cons k).trans ?_);rw[VT];exact(List.perm_append_singleton k _).symm
  obtain⟨o',a1,a2,a3⟩:=wj hf hs _ (k+1) (by rw[Ry];exact h1) p2 (by simp at h3;omega);refine⟨o',?_,a2,by simp only[N9];rw[show k+(hs.length+1)=k+1+hs.length by omega];exact a3⟩;rw[VX,st,a1];simp only[N9];rw[show k+(hs.length+1)=k+1+hs.length by omega]
theorem qQ{m:Nat}(hf:full m=true)(hs:Array Int)(hn:hs.size<=m):∃owner,RV m hs=some owner/\owner.size=m+1/\(vals m owner).Perm (NY hs.size):=by
 obtain⟨o,a1,a2,a3⟩:=wj hf hs.toList (T5 (m+1) none) 0 (by simp) (by rw[C8];simp) (by simpa using hn);refine⟨o,?_,a2,by simpa using a3⟩;unfold RV;rw[<-U7];have:(λ(acc:Option (Array (Option Nat)×Nat))(h:Int)=>(do
  let(owner,k)<-acc
  let j<-OJ m owner (OB m) (Oa h % (m+1)) (Oa h)
  pure (owner.setIfInBounds j (some k),k+1):Option (Array (Option Nat)×Nat)))=eO m:=rfl
 rw[this,a1];rfl
theorem iJ(f:Nat->Option Nat):∀l:List Nat,((l.filterMap λj=>(f j).map (j,·)).map (·.1))=l.filter λj=>(f j).isSome
 | []=>rfl
 |a::l=>by
  rw[Ot,List.filter_cons];cases f a with
  |none=>simpa using iJ f l
  |some x=>simp[iJ f l]
theorem iS(f:Nat->Option Nat):∀l:List Nat,((l.filterMap λj=>(f j).map (j,·)).map (·.2))=l.filterMap f
 | []=>rfl
 |a::l=>by
  rw[Ot,Ot];cases f a with
  |none=>simpa using iS f l
  |some x=>simp[iS f l]
theorem yN{α:Type}:∀(xs:List α),(NY xs.length).filterMap (λi=>xs[i]?)=xs
 | []=>rfl
 |x::xs=>by
  rw[N9,T_,Ot];simp only[RK];rw[Ru];have:((λi=>(x::xs)[i]?)∘Nat.succ)=λi=>xs[i]?:=by funext i;simp
  rw[this,yN xs]
theorem xE{t:SetTable}{es:Array (Int×Value)}{wanted:Nat}(hf:full (OO wanted-1)=true)(hn:es.size<=OO wanted-1) :
  ∃es' t' l,relayAll t es wanted=(es',t',false)/\es'.toList.Perm es.toList/\t'.place=l.toArray/\Ri l/\l.length=es.size/\t'.dummies=#[]/\t'.mask=OO wanted-1/\t'.plain=t.plain/\t'.led=t.led:=by
 obtain⟨owner,e1,e2,e3⟩:=qQ hf (es.map (·.1)) (by simpa using hn);rw[Wj]at e3;generalize hm:OO wanted-1=m at *
 let f:Nat->Option Nat:=λj=>owner.getD j none
 have r1:t.relaid (es.map (·.1)) wanted=some ({ mask:=m,place:=((NY (m+1)).filter λj=>(f j).isSome).toArray,dummies:=#[],finger:=t.finger,led:=t.led,moves:=t.movedTo m,plain:=t.plain },(vals m owner).toArray):=by
  unfold VY WJ;rw[hm,e1];show some _=some _;rw[<-iJ f,show vals m owner=(NY (m+1)).filterMap f from rfl,<-iS f]
 have po:((vals m owner).toArray.filterMap λ(i:Nat)=>es[i]?).toList.Perm es.toList:=by
  rw[Ub];refine(e3.filterMap _).trans (VW ?_);have:(λ(i:Nat)=>es[i]?)=λ(i:Nat)=>es.toList[i]?:=by funext i;rw[OY]
  rw[this,<-Om,yN]
 have lpl:((NY (m+1)).filter λj=>(f j).isSome).length=es.size:=by
  rw[<-iJ f,tv,<-tv (f:=(·.2)),iS f];show(vals m owner).length=es.size;rw[e3.length_eq,Q3]
 have so:((vals m owner).toArray.filterMap λ(i:Nat)=>es[i]?).size=es.size:=by
  rw[<-Om,po.length_eq,Om]
 refine⟨_,{ mask:=m,place:=((NY (m+1)).filter λj=>(f j).isSome).toArray,dummies:=#[],finger:=t.finger,led:=t.led,moves:=t.movedTo m,plain:=t.plain },(NY (m+1)).filter λj=>(f j).isSome,?_,po,rfl,?_,lpl,rfl,rfl,rfl,rfl⟩
 ·unfold relayAll;rw[r1];dsimp only;have c1:coversAll (vals m owner).toArray es.size=true:=by
   unfold coversAll;rw[List.isPerm_iff];exact e3
  have c2:UH { mask:=m,place:=((NY (m+1)).filter λj=>(f j).isSome).toArray,dummies:=#[],finger:=t.finger,led:=t.led,moves:=t.movedTo m,plain:=t.plain } ((vals m owner).toArray.filterMap λ(i:Nat)=>es[i]?).size=true:=by
   unfold UH S7;rw[so];simp only[NX,lpl];simpa using hn
  rw[c1,c2];rfl
 ·exact X9 _ List.pairwise_lt_range
end ZS
namespace ZS
open PySem
theorem Bj{t:SetTable}{es:Array (Int×Value)}(hf:full (OO wanted-1)=true)(hn:es.size<=OO wanted-1) :
  ∃t' order l,t.relaid (es.map (·.1)) wanted=some (t',order)/\(order.filterMap (es[·]?)).toList.Perm es.toList/\t'.place=l.toArray/\Ri l/\l.length=es.size/\t'.dummies=#[]/\t'.mask=OO wanted-1/\t'.plain=t.plain/\t'.led=t.led:=by
 obtain⟨es',t',l,e,r⟩:=xE (t:=t) hf hn;unfold relayAll at e;split at e
 ·rename_i t2 order eo;dsimp only at e;split at e
  ·have e':=QX e;obtain⟨rfl,e'⟩:=e';obtain⟨rfl,_⟩:=QX e';exact⟨t2,order,l,eo,r⟩
  ·have:=(QX (QX e).2).2;cases this
 ·have:=(QX (QX e).2).2;cases this
end ZS
namespace ZS
open PySem
def Rch(t:SetTable)(l:List Nat)(n:Nat)(q:SetTable.Probe):Prop:=q.dummy=none/\q.more<=9/\∃k,10*k+q.more+1<=n/\(lp t.mask k (q.i,q.perturb)).1∉l/\(k=0->q.j∉l)
theorem wo(h:Rch t l (n+1) q)(hj:q.j∈l):Rch t l n (t.advance q):=by
 obtain⟨h1,h2,k,h3,h4,h5⟩:=h;cases k with
 |zero=>exact absurd hj (h5 rfl)
 |succ k=>
  by_cases hm:q.more>0
  ·have ha:t.advance q={ q with j:=q.j+1,more:=q.more-1 }:=by
    unfold Ra;rw[NT hm]
   rw[ha];exact⟨h1,by dsimp only;omega,k+1,by dsimp only;omega,h4,λz=>by omega⟩
  ·have ha:t.advance q={ q with j:=(OK t.mask q.i q.perturb).1,more:=OI t.mask (OK t.mask q.i q.perturb).1-(OK t.mask q.i q.perturb).1,i:=(OK t.mask q.i q.perturb).1,perturb:=(OK t.mask q.i q.perturb).2 }:=by
    unfold Ra;rw[N1 hm]
   have hmore:(t.advance q).more<=9:=by
    rw[ha];dsimp only;unfold OI;split<;>omega
   refine⟨by rw[ha];exact h1,hmore,k,by omega,by rw[ha];exact h4,λhk=>?_⟩;rw[ha];dsimp only;subst hk;exact h4
theorem um(hf:full t.mask=true)(hn:l.length<=t.mask)(h:Int):Rch t l (10*OB t.mask) (t.probeStart h):=by
 obtain⟨e,he,hel⟩:=room hn;have hi:Oa h % (t.mask+1)<=t.mask:=by have:=RH (Oa h) (show t.mask+1>0 by omega);omega
 obtain⟨k,hk,ek⟩:=tF hf he hi (tU h);have hmore:(t.probeStart h).more<=9:=by
  unfold US OI;dsimp only;split<;>omega
 refine⟨rfl,hmore,k,by omega,?_,λhk0=>?_⟩
 ·show(lp t.mask k (Oa h % (t.mask+1),Oa h)).1∉l;rw[ek];exact hel
 ·subst hk0;show Oa h % (t.mask+1)∉l;rw[show Oa h % (t.mask+1)=e from ek];exact hel
end ZS
namespace ZS
open PySem
def adv(m:Nat)(q:SetTable.Probe):SetTable.Probe:=
 if q.more>0 then{ q with j:=q.j+1,more:=q.more-1 }else
 { q with j:=(OK m q.i q.perturb).1,more:=OI m (OK m q.i q.perturb).1-(OK m q.i q.perturb).1,i:=(OK m q.i q.perturb).1,perturb:=(OK m q.i q.perturb).2 }
theorem C1(t:SetTable)(q:SetTable.Probe):t.advance q=adv t.mask q:=by
 unfold Ra adv;split<;>rfl
inductive Path(m:Nat)(l:List Nat):SetTable.Probe->SetTable.Probe->Prop
 |refl (q:SetTable.Probe):Path m l q q
 |step {q q':SetTable.Probe}:q.j∈l->Path m l (adv m q) q'->Path m l q q'
theorem Path.mono(hl:∀x∈l,x∈l')(h:Path m l q q'):Path m l' q q':=by
 induction h with
 |refl q=>exact .refl q
 |step h _ ih=>exact .step (hl _ h) ih
theorem Path.trans(h:Path m l q q')(h2:Path m l q' q2):Path m l q q2:=by
 induction h with
 |refl q=>exact h2
 |step h _ ih=>exact .step h (ih h2)
def start(m:Nat)(h:Int):SetTable.Probe:={ j:=Oa h % (m+1),more:=OI m (Oa h % (m+1))-Oa h % (m+1),i:=Oa h % (m+1),perturb:=Oa h,dummy:=none }
def Rea(m:Nat)(l:List Nat)(h:Int)(j:Nat):Prop:=∃q,Path m l (start m h) q/\q.j=j
theorem Rea.mono(hl:∀x∈l,x∈l')(r:Rea m l h j):Rea m l' h j:=let⟨q,p,e⟩:=r;⟨q,p.mono hl,e⟩
theorem yu{t:SetTable}{l:List Nat}(hp:t.place=l.toArray)(hr:Ri l)(j:Nat)(hj:j∈l):∃i,l[i]?=some j/\t.slot j=.live i:=by
 obtain⟨i,hi,rfl⟩:=PV.mp hj;refine⟨i,NV hi,?_⟩;unfold UG;dsimp only;rw[hp,(pF hr hi).2,Pa,NV hi];simp
theorem HS{l:List Nat}(hr:Ri l){i i' j:Nat}(h:l[i]?=some j)(h':l[i']?=some j):i=i':=by
 obtain⟨a,ea⟩:=NZ.mp h;obtain⟨b,eb⟩:=NZ.mp h';rcases Vs i i' with z |z |z
 ·have:=Qa.mp hr i i' a b z;omega
 ·exact z
 ·have:=Qa.mp hr i' i b a z;omega
theorem G7(hp:t.place=l.toArray)(hr:Ri l)(hd:t.dummies=#[])(h:Int)(f:Nat->Int):∀(n fuel:Nat)(q:SetTable.Probe),Rch t l n q->n<=fuel ->
  (∃j q',OG t f h fuel q=some (.empty j none)/\j∉l/\Path t.mask l q q'/\q'.j=j)\/∃j i next m,OG t f h fuel q=some (.candidate j i next)/\l[i]?=some j/\f i=h/\t.slot j=.live i/\m<n/\Rch t l m next/\Path t.mask l q next:=by
 intro n
 induction n with
 |zero=>
  intro fuel q hq _;obtain⟨_,_,k,h3,_⟩:=hq;omega
 |succ n ih=>
  intro fuel q hq hf;obtain⟨fu,rfl⟩:∃f,fuel=f+1:=⟨fuel-1,by omega⟩;by_cases hj:q.j∈l
  ·obtain⟨i,hi,ei⟩:=yu hp hr q.j hj;have hs:=wo hq hj;have ps:∀q',Path t.mask l (t.advance q) q'->Path t.mask l q q':=λq' p=>.step hj (by rw[<-C1];exact p);by_cases hh:f i=h
   ·refine .inr ⟨q.j,i,t.advance q,n,?_,hi,hh,ei,by omega,hs,ps _ (.refl _)⟩;rw[OG,ei];dsimp only;rw[NT (by rw[hh];simp)]
   ·rcases ih fu (t.advance q) hs ⋯with⟨j,q',e,hjl,pa,ej⟩ |⟨j,i',next,m,e,r1,r2,r3,r4,r5,r6⟩
    ·refine .inl ⟨j,q',?_,hjl,ps _ pa,ej⟩;rw[OG,ei];dsimp only;rw[N1 (by simpa using hh)];exact e
    ·refine .inr ⟨j,i',next,m,?_,r1,r2,r3,by omega,r5,ps _ r6⟩;rw[OG,ei];dsimp only;rw[N1 (by simpa using hh)];exact e
  ·refine .inl ⟨q.j,q,?_,hj,.refl _,rfl⟩;rw[OG,(slot_of hp hr hd q.j).1 hj];dsimp only;rw[hq.1]
theorem Gm{t:SetTable}{l:List Nat}(hp:t.place=l.toArray)(hr:Ri l)(h:Int)(f:Nat->Int){q':SetTable.Probe}(h0:l[i0]?=some q'.j)(hf0:f i0=h):∀(n fuel:Nat)(q:SetTable.Probe),Rch t l n q->n<=fuel->Path t.mask l q q' ->
  ∃j i next m,OG t f h fuel q=some (.candidate j i next)/\l[i]?=some j/\f i=h/\t.slot j=.live i/\m<n/\Rch t l m next/\(i=i0\/Path t.mask l next q'):=by
 intro n
 induction n with
 |zero=>
  intro fuel q hq _;obtain⟨_,_,k,h3,_⟩:=hq;omega
 |succ n ih=>
  intro fuel q hq hf pa;obtain⟨fu,rfl⟩:∃f,fuel=f+1:=⟨fuel-1,by omega⟩;have hj:q.j∈l:=by
   cases pa with
   |refl=>exact OE h0
   |step h _=>exact h
  obtain⟨i,hi,ei⟩:=yu hp hr q.j hj;have hs:=wo hq hj;have nx:i=i0\/Path t.mask l (t.advance q) q':=by
   cases pa with
   |refl=>exact .inl (HS hr hi h0)
   |step _ p=>exact .inr (by rw[C1];exact p)
  by_cases hh:f i=h
  ·refine⟨q.j,i,t.advance q,n,?_,hi,hh,ei,by omega,hs,nx⟩;rw[OG,ei];dsimp only;rw[NT (by rw[hh];simp)]
  ·rcases nx with z |nx
   ·rw[z]at hh;exact absurd hf0 hh
   ·obtain⟨j,i',next,m,e,r1,r2,r3,r4,r5,r6⟩:=ih fu (t.advance q) hs ⋯ nx;refine⟨j,i',next,m,?_,r1,r2,r3,by omega,r5,r6⟩;rw[OG,ei];dsimp only;rw[N1 (by simpa using hh)];exact e
def occ(m:Nat)(owner:Array (Option Nat)):List Nat:=(NY (m+1)).filter λj=>(owner.getD j none).isSome
theorem rq:∀(r:Nat),r<=M->(∀r',r'<r->i+r'∈l)->Path m l { j:=i,more:=M,i:=i,perturb:=p,dummy:=none } { j:=i+r,more:=M-r,i:=i,perturb:=p,dummy:=none }
 |0,_,_=>.refl _
 |r+1,h,hl=>(rq r ⋯ λr' h'=>hl r' ⋯).trans (.step (hl r ⋯) (by
   unfold adv;rw[NT (by dsimp only;omega)];dsimp only;rw[show M-r-1=M-(r+1) by omega];exact .refl _))
theorem B6(hs:owner.size=m+1)(hj:j<=m)(h:(owner.getD j (some 0)).isNone=false):j∈occ m owner:=by
 unfold occ;rw[Si];refine⟨Ol.mpr ⋯,?_⟩;have e:owner.getD j none=owner.getD j (some 0):=by simp[QS,show j<owner.size by omega]
 rw[e];cases q:owner.getD j (some 0)with
 |none=>rw[q]at h;cases h
 |some x=>rfl
theorem Bx(h:i<=m):OI m i<=m/\i<=OI m i:=by
 unfold OI;split<;>omega
theorem uJ(hs:owner.size=m+1):∀(fuel i p j:Nat),i<=m->OJ m owner fuel i p=some j->∃q,Path m (occ m owner) { j:=i,more:=OI m i-i,i:=i,perturb:=p,dummy:=none } q/\q.j=j
 |0,_,_,_,_,h=>by simp[OJ]at h
 |fuel+1,i,p,j,hi,h=>by
  obtain⟨re,ri⟩:=Bx hi;rw[OJ]at h;split at h
  ·rename_i k hk;cases h;obtain⟨h1,as,bs,e,h2⟩:=List.find?_eq_some_iff_append.mp hk;have lk:as.length=k:=by
    have:=OZ (λl=>l[as.length]?) e;simp only[OA (NW _),U8,RK]at this;obtain⟨a,b⟩:=NZ.mp this;simpa using b
   have kl:k<OI m i+1-i:=by
    have:=To hk;exact Ol.mp this
   refine⟨_,rq k ⋯ (λr hr=>B6 hs ⋯ ?_),rfl⟩;have hm:r∈as:=by
    have e2:(NY (OI m i+1-i))[r]?=some r:=by rw[Sv ⋯]
    rw[e,Oy ⋯]at e2;exact OE e2
   have:=h2 r hm;simpa using this
  ·rename_i hk;have all:=SO.mp hk;have occA:∀r,r<=OI m i-i->i+r∈occ m owner:=λr hr=>B6 hs ⋯ (by
    have:=all r (Ol.mpr ⋯);exact(Sa _).mp this)
   have hi2:(OK m i p).1<=m:=by
    unfold OK;have:=RH (i*5+1+p / 32) (show m+1>0 by omega);dsimp only;omega
   obtain⟨q,pa,e⟩:=uJ hs fuel _ _ j hi2 h;refine⟨q,(rq (OI m i-i) (NW _) λr hr=>occA r ⋯).trans (.step (occA _ (NW _)) ?_),e⟩;unfold adv;rw[N1 (by dsimp only;omega)];exact pa
def D4(m:Nat)(hs:List Int)(owner:Array (Option Nat)):Prop:=∀j k,owner.getD j none=some k->∃h,hs[k]?=some h/\Rea m (occ m owner) h j
theorem yo(h:x∈occ m owner):x∈occ m (owner.setIfInBounds j (some k)):=by
 unfold occ at h ⊢;rw[Si]at h ⊢;refine⟨h.1,?_⟩;simp only[Q9,SF]at h ⊢;split
 ·split
  ·rfl
  ·rename_i e hlt;have:=h.2;rw[Uc ⋯]at this;cases this
 ·exact h.2
theorem ua(hf:full m=true)(all:List Int):∀(hs:List Int)(owner owner':Array (Option Nat))(k n:Nat),owner.size=m+1->D4 m all owner->(∀i,i<hs.length->all[k+i]?=hs[i]?)->hs.foldl (eO m) (some (owner,k))=some (owner',n)->D4 m all owner'/\owner'.size=m+1
 | [],owner,owner',k,n,h1,h2,_,h3=>by
  cases h3;exact⟨h2,h1⟩
 |h::hs,owner,owner',k,n,h1,h2,ha,h3=>by
  rw[VX]at h3;have no:∀l:List Int,l.foldl (eO m) none=none:=by
   intro l
   induction l with
   |nil=>rfl
   |cons a l ih=>exact ih
  cases e:OJ m owner (OB m) (Oa h % (m+1)) (Oa h)with
  |none=>
   have st:eO m (some (owner,k)) h=none:=by
    unfold eO;show(OJ m owner (OB m) (Oa h % (m+1)) (Oa h)).bind _=_;rw[e];rfl
   rw[st,no]at h3;cases h3
  |some j=>
   have st:eO m (some (owner,k)) h=some (owner.setIfInBounds j (some k),k+1):=by
    unfold eO;show(OJ m owner (OB m) (Oa h % (m+1)) (Oa h)).bind _=_;rw[e];rfl
   rw[st]at h3;have hi:Oa h % (m+1)<=m:=by have:=RH (Oa h) (show m+1>0 by omega);omega
   obtain⟨q,pa,ej⟩:=uJ h1 _ _ _ j hi e;refine ua hf all hs _ owner' (k+1) n (by rw[Ry];exact h1) ?_ (λi hi=>?_) h3
   ·intro j' k' e';simp only[Q9,SF]at e';split at e'
    ·rename_i z;split at e'
     ·cases e';refine⟨h,by have:=ha 0 (by simp);simpa using this,q,pa.mono λx hx=>yo hx,by rw[ej];exact z⟩
     ·cases e'
    ·obtain⟨h',a1,a2⟩:=h2 j' k' (by rw[Q9];exact e');exact⟨h',a1,a2.mono λx hx=>yo hx⟩
   ·have:=ha (i+1) (by simp;omega);rw[show k+1+i=k+(i+1) by omega,this];rfl
theorem zp(hf:full m=true)(h:RV m hs=some owner):D4 m hs.toList owner:=by
 unfold RV at h;rw[<-U7]at h;have:(λ(acc:Option (Array (Option Nat)×Nat))(h:Int)=>(do
  let(owner,k)<-acc
  let j<-OJ m owner (OB m) (Oa h % (m+1)) (Oa h)
  pure (owner.setIfInBounds j (some k),k+1):Option (Array (Option Nat)×Nat)))=eO m:=rfl
 rw[this]at h;obtain⟨⟨o,n⟩,e,rfl⟩:=PC.mp h;refine(ua hf hs.toList hs.toList (T5 (m+1) none) o 0 n (by simp) ?_ (λi _=>by simp) e).1;intro j k z;simp[QS]at z
theorem A6{α z:Type}{g:α->Option z}:∀{l:List α},(∀x∈l,∃y,g x=some y)->∀i:Nat,(l.filterMap g)[i]?=(l[i]?).bind g
 | [],_,i=>by simp
 |a::l,h,i=>by
  obtain⟨y,hy⟩:=h a (Oq ..);rw[Ot,hy];dsimp only;cases i with
  |zero=>simp[hy]
  |succ i=>simpa using A6 (λx hx=>h x (Oh _ hx)) i
theorem DY{t t':SetTable}{es:Array (Int×Value)}{order:Array Nat}{l:List Nat}(hf:full (OO wanted-1)=true)(hn:es.size<=OO wanted-1)(h:t.relaid (es.map (·.1)) wanted=some (t',order))(hl:t'.place=l.toArray) :
  ∀i j:Nat,l[i]?=some j->∃e,(order.filterMap (es[·]?))[i]?=some e/\Rea t'.mask l e.1 j:=by
 obtain⟨owner,e1,e2,e3⟩:=qQ hf (es.map (·.1)) (by simpa using hn);have LI:=zp hf e1;rw[Wj]at e3;generalize hm:OO wanted-1=m at *
 let f:Nat->Option Nat:=λj=>owner.getD j none
 have r1:t.relaid (es.map (·.1)) wanted=some ({ mask:=m,place:=((NY (m+1)).filter λj=>(f j).isSome).toArray,dummies:=#[],finger:=t.finger,led:=t.led,moves:=t.movedTo m,plain:=t.plain },(vals m owner).toArray):=by
  unfold VY WJ;rw[hm,e1];show some _=some _;rw[<-iJ f,show vals m owner=(NY (m+1)).filterMap f from rfl,<-iS f]
 rw[r1]at h;cases h;have el:l=occ m owner:=by
  have:=OZ UZ hl;have:l=(NY (m+1)).filter λj=>(f j).isSome:=by simpa using this.symm
  exact this
 subst el;intro i j hij;have el1:occ m owner=((NY (m+1)).filterMap λj=>(f j).map (j,·)).map (·.1):=(iJ f _).symm;have el2:vals m owner=((NY (m+1)).filterMap λj=>(f j).map (j,·)).map (·.2):=(iS f _).symm;have hij':=hij;rw[el1,Ow]at hij';obtain⟨⟨j',k⟩,g1,g2⟩:=PC.mp hij';cases g2;have g3:(vals m owner)[i]?=some k:=by rw[el2,Ow,g1];rfl
 have g4:owner.getD j' none=some k:=by
  have:=OE g1;obtain⟨x,_,hx⟩:=QP.mp this;obtain⟨k2,hk2,e5⟩:=PC.mp hx;cases e5;exact hk2
 obtain⟨h,a1,a2⟩:=LI j' k g4;have hk:k<es.size:=by
  have:=e3.mem_iff.mp (OE g3);exact Ol.mp this
 refine⟨es[k],?_,?_⟩
 ·rw[<-OY,Ub];rw[A6 (λx hx=>⟨es[x]'(Ol.mp (e3.mem_iff.mp (by simpa using hx))),Pk _⟩),show(vals m owner).toArray.toList=vals m owner from rfl,g3];exact Pk hk
 ·rw[OY,Array.getElem?_map,Pk hk]at a1;cases a1;exact a2
end ZS
namespace L2
open PySem PySem.Spec PyProof.Rows ZS
def dz(m:Nat):Bool:=m==7||m==31||m==127||m==511
theorem j8(h:dz m=true):full m=true:=by
 simp only[dz,Ph,O_]at h;rcases h with((h |h) |h) |h<;>subst h
 ·exact L6
 ·exact ID
 ·exact F2
 ·exact GJ
def nN(w:World)(h:Heap)(a:Addr)(ks:List Int):Prop:=
 ∃(o:Obj)(es:Array (Int×Value))(ep:Nat)(t:SetTable)(pl:List Nat),h.get? a=some o/\o.ExactSet/\o.data=.set es ep t/\dz t.mask=true/\t.dummies=#[]/\t.plain=true/\t.led=!(w.params.followText "set-order") /\
  t.place=pl.toArray/\(Ri pl/\pl.length=ks.length/\ks.length*5<t.mask*3)/\IntsAre (es.toList.map TF) ks/\(∀e∈es.toList,∃k,PN k e.2=true/\e.1=hashInt k)/\ks.Nodup/\ks.length<=300
theorem fH:∀{vs:List Value}{ns:List Int},IntsAre vs ns->vs.length=ns.length
 |_,_,.nil=>rfl
 |_,_,.cons n t r=>by simp[fH r]
theorem fits_of{t:SetTable}(h2:t.dummies=#[])(h3:t.place.size=n)(hn:n<=t.mask):t.fits n=true:=by
 unfold UH S7;rw[h2,h3];simp;omega
theorem lB:PN k (.int k t)=true:=by simp[PN]
theorem isInt_iff:PN k (.int j t)=true↔k=j:=by
 constructor
 ·intro h;obtain⟨t',e⟩:=Q0 h;cases e;rfl
 ·rintro rfl;exact lB
theorem oX:∀{es:List (Int×Value)}{ks:List Int}{k:Int},IntsAre (es.map TF) ks->(k∈ks↔(es.findIdx? λe=>PN k e.2).isSome=true)
 | [],_,k,r=>by cases r;simp
 |e::es,_,k,r=>by
  obtain⟨h,v⟩:=e;cases r with
  |cons n t r=>
   have ih:=oX (k:=k) r;rw[List.findIdx?_cons];by_cases hk:k=n
   ·subst hk;simp[lB]
   ·have:PN k (.int n t)=false:=by rw[<-Sa,isInt_iff];exact hk
    simp only[this,NU,hk,false_or];rw[ih];simp
theorem gJ(xs:Array α)(p:Nat)(x:α)(hp:p<=xs.size):(Pd xs p x).toList=xs.toList.take p++x::xs.toList.drop p:=by
 unfold Pd;simp;rw[Py (by simp)]
section
variable{prog:Program}{w:World}{A:Around}{E:Value->Shared->Prop}{s:Shared}
theorem IntsAre.app:∀{vs us:List Value}{ns ms:List Int},IntsAre vs ns->IntsAre us ms->IntsAre (vs++us) (ns++ms)
 |_,_,_,_,.nil,r=>r
 |_,_,_,_,.cons n t q,r=>.cons n t (IntsAre.app q r)
theorem IntsAre.EV:∀{vs:List Value}{ns:List Int}(p:Nat),IntsAre vs ns->IntsAre (vs.take p) (ns.take p)
 |_,_,0,_=>.nil
 |_,_,_+1,.nil=>.nil
 |_,_,p+1,.cons n t q=>.cons n t (IntsAre.EV p q)
theorem IntsAre.EY:∀{vs:List Value}{ns:List Int}(p:Nat),IntsAre vs ns->IntsAre (vs.drop p) (ns.drop p)
 |_,_,0,r=>r
 |_,_,_+1,.nil=>.nil
 |_,_,p+1,.cons _ _ q=>IntsAre.EY p q
theorem uU:∀{vs us:List Value},List.Perm vs us->∀{ns:List Int},IntsAre us ns->∃ms,IntsAre vs ms/\List.Perm ms ns:=by
 intro vs us hp
 induction hp with
 |nil=>intro ns r;exact⟨ns,r,.refl _⟩
 |cons x _ ih=>
  intro ns r;cases r with
  |cons n t r=>
   obtain⟨ms,a,b⟩:=ih r;exact⟨n::ms,.cons n t a,b.cons n⟩
 |swap x y l=>
  intro ns r;cases r with
  |cons n t r=>cases r with
   |cons n' t' r=>exact⟨n'::n::_,.cons n' t' (.cons n t r),.swap ..⟩
 |trans _ _ ih1 ih2=>
  intro ns r;obtain⟨ms,a,b⟩:=ih2 r;obtain⟨ms',a',b'⟩:=ih1 a;exact⟨ms',a',b'.trans b⟩
theorem xR{t':SetTable}{es':Array (Int×Value)}(hm:dz t'.mask=true)(hn:es'.size=n)(h1:¬n*5<t'.mask*3)(h2:n*5<t'.mask*3+5)(h3:n<=300) :
  dz (OO (Q5 n)-1)=true/\n*5<(OO (Q5 n)-1)*3:=by
 simp only[dz,Ph,O_]at hm;rcases hm with((hm |hm) |hm) |hm<;>rw[hm]at h1 h2
 ·have:n=5:=by omega
  subst this;decide+kernel
 ·have:n=19:=by omega
  subst this;decide+kernel
 ·have:n=77:=by omega
  subst this;decide+kernel
 ·omega
theorem DW{ks:List Int}(hS:nN w s.heap a ks)(hl:k∉ks->ks.length<300)
  (h:∀(h':Heap)(ks':List Int)(b:Bool),OD a s.heap h'->nN w h' a ks'->(∀x,x∈ks'↔x∈ks\/x=k)->(k∈ks->ks'.length=ks.length)->(k∉ks->ks'.length=ks.length+1)->Q b { s with heap:=h',toks:=s.toks+1 }) :
  wpAny (model prog w) A (setAdd a (.int k tk)) Q E s:=by
 obtain⟨o,es,ep,t,pl,g1,g2,g3,g4,g5,g6,g7,g8,g9,g10,g11,g12,g13⟩:=hS;obtain⟨g9,lpl,g14⟩:=g9;have hmask:=j8 g4;have lks:es.size=ks.length:=by
  have:=fH g10;rw[tv,Om]at this;exact this
 have hmk:7<=t.mask:=by
  have q:=g4;simp only[dz,Ph,O_]at q;omega
 have hfit:t.fits es.size=true:=fits_of g5 (by rw[g8,lks];simpa using lpl) ⋯;have hel:ElemsOf (intKind prog w) es.toList:=λe he=>by
  obtain⟨k',e1,e2⟩:=g11 e he;refine⟨⟨k',e1,e2⟩,?_⟩;obtain⟨t',e'⟩:=Q0 e1;rw[e'];rfl
 have hint:(intKind prog w).is k (.int k tk)=true:=lB (k:=k) (t:=tk);unfold setAdd;refine OF (ar ((intKind prog w).pyHash (k:=k) (v:=.int k tk) hint ?_));unfold setAddHashed;refine OF ?_;show wpAny _ _ (setAddHashedIn a (.int k tk) _ (99999+1)) _ _ _;rw[setAddHashedIn.eq_2];refine ar (Ox g1 g3 hfit ?_);show wpAny _ _ (if byScan (.int k tk) es=true then _ else _) _ _ _;rw[NT (byScan_of (knd:=intKind prog w) rfl (by unfold scanBound;omega) hel)];refine ar ?_;unfold setAddByScan;refine ar (Tj (ar (wpAny_setScan_of (knd:=intKind prog w) (k:=k) hint g1 g3 hfit hel ?_)));have hfi:=oX (k:=k) g10;by_cases hm:k∈ks
 ·have hs:=hfi.mp hm;cases hf:R5 (λe=>(intKind prog w).is k e.snd) es.toList with
  |none=>
   have hf':R5 (λe:Int×Value=>PN k e.2) es.toList=none:=hf;rw[hf']at hs;cases hs
  |some j=>
   refine NP (NP ?_);exact h s.heap ks false (Yz ..) ⟨o,es,ep,t,pl,g1,g2,g3,g4,g5,g6,g7,g8,⟨g9,lpl,g14⟩,g10,g11,g12,g13⟩ (λx=>⟨.inl,λz=>z.elim id λe=>e▸hm⟩) (λ_=>rfl) (λz=>absurd hm z)
 ·have hl3:=hl hm;have hnone:R5 (λe=>(intKind prog w).is k e.snd) es.toList=none:=by
   have hf':R5 (λe:Int×Value=>PN k e.2) es.toList=none:=by
    cases hf:R5 (λe:Int×Value=>PN k e.2) es.toList with
    |none=>rfl
    |some j=>exact absurd (hfi.mpr (by rw[hf];rfl)) hm
   exact hf'
  rw[hnone];obtain⟨j,hfree,hjl⟩:=Bh g8 g9 g5 hmask (show pl.length<=t.mask by omega) (hashInt k);obtain⟨p,hple,hpb,hpa,hpc⟩:=ur g9 j;have hp:PB pl.toArray j=p:=hpb;have les0:es.size=pl.length:=by omega
  have riN:Ri (pl.take p++j::pl.drop p):=tZ g9 hjl hpa hpc;have liN:(Pd pl.toArray p j).toList=pl.take p++j::pl.drop p:=by
   have:=gJ pl.toArray p j (by simpa using hple);simpa using this
  refine show _ from ?_
  ·have hput:t.put j=({ mask:=t.mask,place:=Pd t.place p j,dummies:=#[],finger:=t.finger,led:=t.led,moves:=t.moves,plain:=t.plain },p):=by
    unfold Xo;rw[g8,hp,g5];rfl
   generalize ht':({ mask:=t.mask,place:=Pd t.place p j,dummies:=#[],finger:=t.finger,led:=t.led,moves:=t.moves,plain:=t.plain }:SetTable)=t' at hput;have m1:t'.mask=t.mask:=by rw[<-ht']
   have m2:t'.dummies=#[]:=by rw[<-ht']
   have m3:t'.plain=true:=by rw[<-ht'];exact g6
   have m4:t'.led=!(w.params.followText "set-order"):=by rw[<-ht'];exact g7
   have m5:t'.place=(pl.take p++j::pl.drop p).toArray:=by rw[<-ht',g8,<-liN]
   have lpl':(pl.take p++j::pl.drop p).length=ks.length+1:=by simp;omega
   have les:(Pd es p (hashInt k,Value.int k tk)).toList=es.toList.take p++(hashInt k,Value.int k tk)::es.toList.drop p:=gJ _ _ _ ⋯;generalize hes:Pd es p (hashInt k,Value.int k tk)=es' at les;have lsz:es'.size=ks.length+1:=by
    rw[<-Om,les];simp;omega
   have hfit':t'.fits es'.size=true:=fits_of m2 (by rw[m5,lsz];simpa using lpl') ⋯;have hlay:layNew t es (hashInt k) (.int k tk)=(es',t',false,false):=by
    unfold layNew;rw[hfree];simp only[hput,hes];unfold SetTable.orStandIn;rw[NT hfit',hfit'];rfl
   have hlay2:layNew t es ((intKind prog w).hash k) (.int k tk)=(es',t',false,false):=hlay;rw[hlay2];dsimp only;refine ar (NP ?_);rw[NT m3,Um 8 (x:=.int k tk) rfl];refine ar (NP ?_);have hpk:plainKind (Value.int k tk)=true:=rfl;rw[NT hpk];have h1000:(1000:Nat)<=sizeLine:=PJ (fP (NW 1000));have hsz:¬es'.size>sizeLine:=by rw[lsz];omega
   have i1:IntsAre (es'.toList.map TF) (ks.take p++k::ks.drop p):=by
    rw[les,Ql,N4,QO,R6];exact IntsAre.app (IntsAre.EV p g10) (.cons k tk (IntsAre.EY p g10))
   have i2:∀e∈es'.toList,∃k,PN k e.2=true/\e.1=hashInt k:=by
    intro e he;rw[les]at he;rcases Oz.mp he with z |z
    ·exact g11 e (Qg z)
    ·rcases NU.mp z with z |z
     ·rw[z];exact⟨k,lB,rfl⟩
     ·exact g11 e (Qv z)
   have hperm:List.Perm (ks.take p++k::ks.drop p) (k::ks):=by
    have:=List.perm_middle (a:=k) (l₁:=ks.take p) (l₂:=ks.drop p);rw[Qk]at this;exact this
   have kl:(ks.take p++k::ks.drop p).length=ks.length+1:=by rw[hperm.length_eq];rfl
   have i3:(ks.take p++k::ks.drop p).Nodup:=by
    rw[hperm.nodup_iff,Pr];exact⟨hm,g12⟩
   have i4:∀x,x∈ks.take p++k::ks.drop p↔x∈ks\/x=k:=by
    intro x;rw[hperm.mem_iff,NU];exact or_comm
   generalize hks:ks.take p++k::ks.drop p=ks' at i1 kl i3 i4;have hfill:t'.fill=ks.length+1:=by
    unfold S7;rw[m2,m5];simp only[NX,lpl'];rfl
   have putS:∀(e2:Array (Int×Value))(t2:SetTable)(o2:Obj)(e1:Array (Int×Value))(n1:Nat)(t1:SetTable),o2.data=.set e1 n1 t1->QT e2 t2 o2={ o2 with data:=.set e2 (n1+1) t2 }:=by
    intro e2 t2 o2 e1 n1 t1 hd;obtain⟨oc,od,oda,osl⟩:=o2;have hd':oda=.set e1 n1 t1:=hd;subst hd';rfl
   refine ar ?_;unfold storeSet;refine ar (wpAny_load' g1 ?_);rw[g3];dsimp only;rw[N1 hsz];refine WK g1 ?_;have hupd:=putS es' t' o es ep t g3;have gN:(s.heap.update a (QT es' t')).get? a=some { o with data:=.set es' (ep+1) t' }:=by
    rw[<-hupd];exact Pp _ g1 (by rw[hupd];rfl)
   have sbN:OD a s.heap (s.heap.update a (QT es' t')):=Pl ..;by_cases hfull:(ks.length+1)*5<t.mask*3
   ·have hf0:(!false&&t'.tooFull)=false:=by
     unfold Sb;rw[hfill,m1];simp;omega
    rw[hf0];rw[N1 (by simp)];refine NP (NP ?_);exact h _ ks' true sbN ⟨_,es',ep+1,t',_,gN,g2,rfl,by rw[m1];exact g4,m2,m3,m4,m5,⟨riN,by rw[lpl',kl],by rw[kl,m1];exact hfull⟩,i1,i2,i3,by omega⟩ i4 (λz=>absurd z hm) (λ_=>kl)
   ·have hf1:(!false&&t'.tooFull)=true:=by
     unfold Sb;rw[hfill,m1];simp;omega
    rw[hf1];rw[NT rfl];obtain⟨w1,w2⟩:=xR (t':=t') (es':=es') (n:=ks.length+1) (by rw[m1];exact g4) lsz (by rw[m1];exact hfull) (by rw[m1];omega) ⋯;rw[lsz];obtain⟨e2,t2,l2,r1,r2,r3,r4,r5,r6,r7,r8,r9⟩:=xE (t:=t') (es:=es') (wanted:=Q5 (ks.length+1)) (j8 w1) (by rw[lsz];omega);rw[r1];dsimp only;have lsz2:e2.size=ks.length+1:=by rw[<-Om,r2.length_eq,Om,lsz]
    obtain⟨ks2,j1,j2⟩:=uU (r2.map TF) i1;refine ar (NP ?_);refine ar ?_;refine ar (wpAny_load' gN ?_);dsimp only;rw[N1 (by rw[lsz2];omega)];refine WK gN ?_;refine NP (NP ?_);have gM:((s.heap.update a (QT es' t')).update a (QT e2 t2)).get? a=some { o with data:=.set e2 (ep+1+1) t2 }:=by
     have hq:=putS e2 t2 { o with data:=.set es' (ep+1) t' } es' (ep+1) t' rfl;rw[<-hq];exact Pp _ gN (by rw[hq];rfl)
    refine h _ ks2 true (sbN.trans (Pl ..)) ⟨_,e2,ep+1+1,t2,l2,gM,g2,rfl,by rw[r7];exact w1,r6,by rw[r8];exact m3,by rw[r9];exact m4,r3,⟨r4,by rw[r5,lsz,j2.length_eq,kl],by rw[r7,j2.length_eq,kl];exact w2⟩,j1,λe he=>i2 e (r2.mem_iff.mp he),j2.nodup_iff.mpr i3,by rw[j2.length_eq,kl];omega⟩ (λx=>by rw[j2.mem_iff];exact i4 x) (λz=>absurd z hm) (λ_=>by rw[j2.length_eq,kl])
end
section
variable{prog:Program}{w:World}{A:Around}{E:Value->Shared->Prop}{s:Shared}
theorem nN.at(H:nN w h S ks)(k:∀o,h.get? S=some o->h'.get? S=some o):nN w h' S ks:=by
 obtain⟨o,es,ep,t,pl,g1,r⟩:=H;exact⟨o,es,ep,t,pl,k o g1,r⟩
theorem CF{R:Result->Shared->Prop}{I:Addr}{fp wr:List Addr}{n:Nat}{P:Nat->Value->Prop}{St:Nat->Heap->Prop}(W:Walks prog w A.in1 I fp wr n P St)(S:Addr)(hSf:S∉fp)(val:Nat->Int)(hval:∀i v,P i v->∃t,v=Value.int (val i) t)(hn:n<=300) :
  ∀(k i:Nat)(s:Shared)(ks:List Int),n-i=k->i<=n->St i s.heap->nN w s.heap S ks->(∀x,x∈ks↔∃j,j<i/\val j=x)->ks.length<=i ->
   (∀(h':Heap)(tk:Nat)(ks':List Int),(∀b o,b≠S->b∉wr->s.heap.get? b=some o->h'.get? b=some o)->nN w h' S ks'->(∀x,x∈ks'↔∃j,j<n/\val j=x)->R (.ok (.ret .none)) { s with heap:=h',toks:=tk }) ->
   codeAny (model prog w) A (Code.builtin "set.update.loop" ⟨[.ref S,.ref I],[]⟩) R s:=by
 have hSw:S∉wr:=λh=>hSf (W.sub S h);intro k
 induction k with
 |zero=>
  intro i s ks hk hi hst hS hks hlen hR;have hin:i=n:=by omega
  subst hin;refine PY QJ ?_;rw[Qw Pw];refine(show wpAny _ _ (pyNext (.ref I)>>=_) _ _ _ from ar (W.done s _ _ hst λh' tk hk'=>?_));exact NP (hR h' tk ks (λb o _ hw e=>hk' b o hw e) (hS.at λo e=>hk' S o hSw e) hks)
 |succ k ih=>
  intro i s ks hk hi hst hS hks hlen hR;refine PY QJ ?_;rw[Qw Pw];refine(show wpAny _ _ (pyNext (.ref I)>>=_) _ _ _ from ar (W.item i s _ _ ⋯ hst λv h' tk hP hst' hk'=>?_));obtain⟨t,rfl⟩:=hval i v hP;refine(show wpAny _ _ (holding [Value.int (val i) t] (setAdd S (.int (val i) t))>>=_) _ _ _ from ar (OF ?_));refine DW (s:={ s with heap:=h',toks:=tk }) (hS.at λo e=>hk' S o hSw e) (λ_=>by omega) λh2 ks2 b sb hS2 hm l1 l2=>?_;refine NP ⟨S8 Pw _,ih (i+1) _ ks2 ⋯ ⋯ ?_ hS2 ?_ ?_ λh3 tk3 ks3 q1 q2 q3=>?_⟩
  ·exact W.frame _ _ _ hst' λb hb' o e=>sb.extBut b o (λz=>hSf (z▸hb')) e
  ·intro x;rw[hm,hks];constructor
   ·rintro(⟨j,h1,h2⟩ |rfl)
    ·exact⟨j,by omega,h2⟩
    ·exact⟨i,by omega,rfl⟩
   ·rintro⟨j,h1,h2⟩;by_cases e:j=i
    ·subst e;exact .inr h2.symm
    ·exact .inl ⟨j,by omega,h2⟩
  ·by_cases hin:val i∈ks
   ·have:=l1 hin;omega
   ·have:=l2 hin;omega
  ·exact hR h3 tk3 ks3 (λb o hb1 hb2 e=>q1 b o hb1 hb2 (sb.extBut b o hb1 (hk' b o hb2 e))) q2 q3
theorem u7(a:Value)
  (h:Q₁ (.ref s.heap.objs.size) { s with heap:=s.heap.push { cls:=.type "set",data:=.set #[] 0 (Uo 0 0 (!(w.params.followText "set-order"))) } }) :
  codeAny (model prog w) A (Code.call (.builtin "set.__new__") ⟨[.type "set",a],[]⟩) (wants Q₁ E) s:=by
 refine VZ ?_;refine(show wpAny _ _ (checkBuiltinCall "set.__new__" ⟨[.type "set",a],[]⟩>>=_) _ _ _ from ar (QW (F.newCall_set_1 a) (NP ⟨S8 V0 _,PY F.entry_set_new ?_⟩)));rw[Qw V0];have hsub:=sub_set_self;refine(show wpAny _ _ (S9 "set" _>>=_) _ _ _ from ar ?_);unfold S9;refine ar (NP ?_);refine N0 rfl (ar (QW hsub (N0 rfl (NP ?_))));refine(show wpAny _ _ (newSet (.type "set")>>=_) _ _ _ from ar ?_);unfold newSet;refine ar ?_;unfold setsByText;refine ar (Rb (NP ?_));exact(show wpAny _ _ (newObj (.type "set") (Data.set #[] 0 (Uo 0 0 (!(w.params.followText "set-order"))))) _ _ _ from O4 (NP h) (by first |size_fits |(intro _;decide)))
theorem qJ:∀{vs:List Value}{ns:List Int}{i:Nat}{v:Value},IntsAre vs ns->vs[i]?=some v->∃t,v=Value.int (ns.getD i 0) t
 |_,_,_,_,.nil,e=>by simp at e
 |_,_,0,_,.cons n t _,e=>⟨t,by simpa using e.symm⟩
 |_,_,i+1,v,.cons n t r,e=>by
  obtain⟨t',e'⟩:=qJ (i:=i) (v:=v) r (by simpa using e);exact⟨t',by simpa using e'⟩
def pO(h:Heap)(l:Addr)(items:Array Value)(k:Bool):Prop:=if k=true then h.IsList l items else h.IsTuple l items
abbrev sO(w:World):Obj:={ cls:=.type "set",data:=.set #[] 0 (Uo 0 0 (!(w.params.followText "set-order"))) }
theorem uh(hh:A.handled=none)(k:Bool)(hl:pO s.heap l items k)
    (h:∀(hp:Heap)(o:Obj)(St:Nat->Heap->Prop)(R:Result->Shared->Prop),hp=s.heap.push (sO w)->Walks prog w A.in1.in1.in1 hp.objs.size [hp.objs.size,l] [hp.objs.size] items.size (λi v=>items[i]?=some v) St->St 0 (hp.push o)->s.heap.objs.size∉[hp.objs.size,l]->(∀h' tk',Q (.ref s.heap.objs.size) { s with heap:=h',toks:=tk' }->R (.ok (.ret .none)) { s with heap:=h',toks:=tk' })->codeAny (model prog w) A.in1.in1 (Code.builtin "set.update.loop" ⟨[.ref s.heap.objs.size,.ref hp.objs.size],[]⟩) R { s with heap:=hp.push o }):wpAny (model prog w) A (call (.type "set") [.ref l]) Q E s:=by
  obtain⟨c,tl,hmro⟩:=QI.mro;have hmade:=QI.made;have hsub:=QI.sub;have h1:=QI.notType;have h2:=QI.canCreate;have hct:=F.typeCall_set_1 (Value.ref l);refine Ux (VZ ?_);refine(show wpAny _ _ (pure (Fin.again (Code.builtin "type.__call__" ⟨[.type "set",.ref l],[]⟩))) _ _ _ from NP ⟨SQ _ (by decide+kernel),PY F.entry_type_call ?_⟩);rw[Around.under_plain (weight_type_call_type "set" [Value.ref l] []) rfl];unfold Builtin.«type.__call__»;dsimp only;refine N0 rfl (N0 (by rw[h2];rfl) (ar (QW hct (ar (QW hmro (N0 rfl (ar (QW hmade ?_))))))));dsimp only;refine ar (NP (ar (OF (Ux (Ts (u7 (E:=λ_ _=>False) (Q₁:=λobj s1=>obj=.ref s.heap.objs.size/\s1={ s with heap:=s.heap.push (sO w) }) (.ref l) ⟨rfl,rfl⟩) λr s1 hr=>?_)))));generalize hs1:({ s with heap:=s.heap.push (sO w) }:Shared)=sN at hr;cases r with
  |error e=>exact Qc hr
  |ok f=>
    cases f with
    |ret v=>
      obtain⟨e1,e2⟩:=hr;subst e1 e2;have hT:UI s1 (.ref s.heap.objs.size) "set":=by
        rw[<-hs1];exact⟨_,N5 _ rfl,rfl⟩
      show wpAny _ _ _ _ _ _;refine ar (P6 (T:="set") (b:=true) hT hsub ?_);refine N0 rfl (ar (OF ?_));refine O2 (name:=Po "__init__") hT QI.init (Ux (Sn QI.init.plain F.entry_set_init (check_set_init_1 hT ?_)));subst hs1;obtain⟨hp,g,d,tk,os⟩:=s;unfold Builtin.«set.__init__»;refine ar ?_;unfold noKeywords;refine PU rfl (NP ?_);dsimp only;refine ar ?_;unfold typeNameOfCut;refine ar ?_;unfold shownTypeOf;refine ar (P0 hT ?_)
      first
      |refine N0 rfl (NP ?_)
      |refine NP ?_
      refine(show wpAny _ _ (pure _) _ _ _ from NP ?_);refine ar ?_;unfold checkCount;refine N0 rfl (N0 rfl (N0 rfl (NP ?_)));refine ar (NP ?_);refine ar ?_;unfold setUsed;refine ar (Ox (N5 _ rfl) rfl (by rfl) (NP ?_));refine N0 rfl ?_;refine ar ?_;unfold Wk;refine ar ?_;unfold WL;have nS:∀{o:Obj},hp.get? l=some o->hp.objs.size∉[(hp.push (sO w)).objs.size,l]:=λe=>by
        simp only[NU,Oj,O6,not_or];exact⟨Og (N2 (N5 _ rfl)),Qd (N2 e)⟩
      cases k with
      |false=>
        obtain⟨o,e,r⟩:=(show Heap.IsTuple hp l items from hl);have e':=NR (sO w) e;have hTt:UI ⟨hp.push (sO w),g,d,tk,os⟩ (.ref l) "tuple":=⟨o,e',r.1⟩;refine(show wpAny _ _ (isInstance (.ref l) (.type "set")>>=_) _ _ _ from ar (P6 hTt PySem.F.sub_tuple_set ?_));refine(show wpAny _ _ (isInstance (.ref l) (.type "frozenset")) _ _ _ from P6 hTt PySem.F.sub_tuple_frozenset ?_);refine N0 rfl (ar (P0 hTt (N0 rfl (ar (SN ⟨o,e',r⟩ ?_)))));exact ar (Up (h _ _ _ _ rfl (Walks.tuple (prog:=prog) (w:=w) (A:=A.in1.in1.in1) hh _ l (Og (N2 e')) items) ⟨⟨_,N5 _ rfl,rfl,rfl⟩,o,NR _ e',r⟩ (nS e) λ_ _ q=>NP (NP (N0 rfl (NP q)))))
      |true=>
        obtain⟨o,e,r⟩:=(show Heap.IsList hp l items from hl);have e':=NR (sO w) e;have hTt:UI ⟨hp.push (sO w),g,d,tk,os⟩ (.ref l) "list":=⟨o,e',r.1⟩;refine(show wpAny _ _ (isInstance (.ref l) (.type "set")>>=_) _ _ _ from ar (P6 hTt PySem.F.sub_list_set ?_));refine(show wpAny _ _ (isInstance (.ref l) (.type "frozenset")) _ _ _ from P6 hTt PySem.F.sub_list_frozenset ?_);refine N0 rfl (ar (P0 hTt (N0 rfl (ar (RU ⟨o,e',r⟩ ?_)))));exact ar (Up (h _ _ _ _ rfl (X7 (prog:=prog) (w:=w) (A:=A.in1.in1.in1) hh _ l (Og (N2 e')) items) ⟨⟨_,N5 _ rfl,rfl,rfl⟩,o,NR _ e',r⟩ (nS e) λ_ _ q=>NP (NP (N0 rfl (NP q)))))
    |_=>exact Qc hr
theorem uy(hh:A.handled=none)(k:Bool)(hl:pO s.heap l items k)(hi:IntsAre items.toList ns)(hn:ns.length<=300)
  (h:∀(h':Heap)(tk:Nat)(ks:List Int),nN w h' s.heap.objs.size ks->(∀x,x∈ks↔x∈ns)->(∀b o,s.heap.get? b=some o->h'.get? b=some o)->Q (.ref s.heap.objs.size) { s with heap:=h',toks:=tk }):wpAny (model prog w) A (call (.type "set") [.ref l]) Q E s:=by
 refine uh hh k hl λhp o St R e W h0 hSf hR=>?_;have lit:items.size=ns.length:=by rw[<-Om];exact fH hi
 refine CF W _ hSf (λi=>ns.getD i 0) (λi v hv=>qJ hi (by simpa using hv)) ⋯ items.size 0 _ [] ⋯ (Pc _) h0 ⟨_,#[],0,_,[],NR _ (e▸N5 _ rfl),⟨rfl,rfl,rfl⟩,rfl,(show dz 7=true by decide),rfl,rfl,rfl,rfl,⟨List.Pairwise.nil,rfl,(show 0*5<7*3 by decide)⟩,.nil,by simp,Qz,by simp⟩ (λx=>by simp) (NW 0) λh' tk' ks' q1 q2 q3=>hR h' tk' (h h' tk' ks' q2 (λx=>?_) λb o' e'=>?_)
 ·rw[q3];constructor
  ·rintro⟨j,hj,rfl⟩;show ns.getD j 0∈ns;rw[N8,NV (show j<ns.length by omega)];exact PM _
  ·intro hx;obtain⟨j,hj,e⟩:=PV.mp hx;refine⟨j,by omega,?_⟩;show ns.getD j 0=x;rw[N8,NV hj];exact e
 ·have e2:hp.get? b=some o':=e▸NR _ e';exact q1 b o' (Og (N2 e')) (by simp only[N6];exact Og (N2 e2)) (NR _ e2)
end
theorem cA:Slot "set_iterator" (Po "__next__") "set_iterator.__next__":=
 Slot.of (owner:="set_iterator") (n:="__next__") (by rw[V1,Uq];rfl) (by decide+kernel) (by decide+kernel) (by decide+kernel) (Or.inl (by decide+kernel)) (by rw[Wl];rfl) (by decide+kernel)
theorem gk:entryFor table "set_iterator.__next__"=some Builtin.«set_iterator.__next__»:=entryFor_of_tree (by rfl)
theorem tR:entryFor table "set.__iter__"=some Builtin.«frozenset.__iter__»:=Wm (id':="frozenset.__iter__") (by rfl) (by decide+kernel) (by decide+kernel) (by rfl)
theorem jj:VB (UJ "set_iterator".toList) Manifest.owners=some Rq:=by rfl
theorem gE(a:Value):argsOk "set_iterator.__next__" ⟨[a],[]⟩:=by
 have h:UT "set_iterator.__next__"=VB (UJ (['_','_','t','x','e','n','_','_']:List Char).reverse) Rq:=WM (o:=['r','o','t','a','r','e','t','i','_','t','e','s']) (by decide+kernel) jj;unfold argsOk;rw[h];rfl
theorem DH(hT:s.TypeIs (.ref r) "set")(h:Q false s):wpAny (model prog w) A (SR (.ref r)) Q E s:=by
 unfold SR;refine ar (V2 hT F.slot_set_len.lookup ?_);dsimp only;rw[show splitId "set.__len__"=some ("set","__len__") by decide+kernel];dsimp only;refine ar (P6 hT QI.sub (N0 rfl ?_));refine PU rfl (ar (P0 hT ?_));exact NP h
theorem nR:∀(l:List α)(k:Nat)(h:k<l.length),List.Perm (l[k]::l.eraseIdx k) l
 |x::l,0,_=>by simp
 |x::l,k+1,h=>by
  have hk:k<l.length:=by simpa using h
  have ih:=nR l k hk;simp only[List.getElem_cons_succ,RL];exact(List.Perm.swap ..).trans (List.Perm.cons x ih)
theorem zf(next:Nat->Nat):∀(fuel a:Nat)(l:List α)(acc:Array α),fuel=l.length->List.Perm (U9 next fuel a l acc).toList (acc.toList++l)
 |0,a,l,acc,h=>by
  have:l=[]:=QZ h.symm;subst this;rw[pickOrder.go.eq_1,Rm]
 |fuel+1,a,l,acc,h=>by
  rw[pickOrder.go.eq_2];have hlt:next a % l.length<l.length:=RH _ ⋯
  rw[NV hlt];refine(zf next fuel (a+1) (l.eraseIdx (next a % l.length)) (acc.push l[next a % l.length]) (by rw[S_ hlt];omega)).trans ?_;rw[Array.toList_push,Qq];refine Ur _ ?_;rw[List.singleton_append];exact nR l _ hlt
theorem BD(next:Nat->Nat)(xs:Array α):List.Perm (pickOrder next xs).toList xs.toList:=by
 unfold pickOrder;have:=zf next xs.size 0 xs.toList #[] (by simp)
 simpa using this
section
variable{prog:Program}{w:World}{A:Around}{E:Value->Shared->Prop}{s:Shared}
abbrev gz(w:World):Bool:=w.params.followText "set-order"
def orderOf(w:World)(S:Addr)(ep:Nat)(es:Array (Int×Value)):Array (Int×Value):=if gz w=true then pickOrder (w.params.setOrder S ep) es else es
theorem sT(w:World)(S:Addr)(ep:Nat)(es:Array (Int×Value)):List.Perm (orderOf w S ep es).toList es.toList:=by
 unfold orderOf;split
 ·exact BD _ _
 ·exact List.Perm.refl _
def slotAt(w:World)(pl:List Nat):Nat->Nat
 |0=>0
 |i+1=>if gz w=true then 0 else pl.getD i 0+1
structure ku(w:World)(o:Obj)(es:Array (Int×Value))(ep:Nat)(t:SetTable)(pl:List Nat):Prop where
 dat:o.data=.set es ep t
 cls:o.cls=.type "set"
 dum:t.dummies=#[]
 plain:t.plain=true
 led:t.led=!gz w
 place:t.place=pl.toArray
 ri:ZS.Ri pl
 lpl:pl.length=es.size
 room:es.size<=t.mask
 few:es.size<=300
def nQ(w:World)(S:Addr)(es:Array (Int×Value))(ep:Nat)(pl:List Nat)(i:Nat):Obj:={ cls:=.type "set_iterator",data:=.fields #[rawInt (slotAt w pl i:Nat),rawInt (i:Nat),.ref S,rawInt (es.size:Nat),rawInt (ep:Nat)] }
theorem ku.fits(H:ku w o es ep t pl):t.fits es.size=true:=
 fits_of H.dum (by rw[H.place];simpa using H.lpl) H.room
theorem zO(h:ZS.Ri pl)(hi:i<=pl.length)(hw:gz w=false):PB pl.toArray (slotAt w pl i)=i:=by
 cases i with
 |zero=>exact ZS.Ai
 |succ i=>
  show PB pl.toArray (if gz w=true then 0 else pl.getD i 0+1)=i+1;rw[hw,N1 (by simp),N8,NV (show i<pl.length by omega)];exact(ZS.pF h ⋯).1
theorem vJ(H:ku w o es ep t pl)(hS:s.heap.get? S=some o)(hi:i<=es.size)
  (h:Q (((orderOf w S ep es)[i]?).map λe=>(e.2,slotAt w pl (i+1))) s):wpAny (model prog w) A (setNext S (slotAt w pl i) i ep) Q E s:=by
 unfold setNext;refine ar (Ox hS H.dat H.fits ?_);dsimp only;unfold setsByText;refine ar (ar (Rb (NP ?_)));show wpAny _ _ (if gz w=true then _ else _) _ _ _;by_cases hb:gz w=true
 ·rw[NT hb];refine N0 (by simp) ?_;refine ar ?_;unfold setWalk;refine ar (Ox hS H.dat H.fits ?_);dsimp only;unfold setsByText;refine ar (ar (Rb (NP ?_)));show wpAny _ _ (if gz w=true then _ else _) _ _ _;rw[NT hb];refine ar (Rb (NP (NP ?_)));have e1:orderOf w S ep es=pickOrder (w.params.setOrder S ep) es:=by unfold orderOf;rw[NT hb]
  rw[e1]at h;have e2:slotAt w pl (i+1)=slotAt w pl i:=by
   cases i with
   |zero=>simp[slotAt,hb]
   |succ j=>simp[slotAt,hb]
  rw[e2]at h;exact h
 ·rw[N1 hb];have hbf:gz w=false:=by simpa using hb
  refine N0 (by
   show decide ((!t.plain&&decide (es.size>1))=true)=false;rw[H.plain];rfl) ?_
  refine ar ?_;refine N0 (by
   rw[H.led,hbf];rfl) (NP (NP ?_))
  have e1:orderOf w S ep es=es:=by unfold orderOf;rw[N1 hb]
  rw[e1]at h;have lpl:=H.lpl;rw[H.place,zO H.ri ⋯ hbf];by_cases hlt:i<es.size
  ·have a1:es[i]?=some es[i]:=by simp[hlt]
   have a2:pl.toArray[i]?=some (pl.getD i 0):=by
    rw[Pa,N8,NV (show i<pl.length by omega)];rfl
   rw[a1]at h;rw[a1,a2];have e3:slotAt w pl (i+1)=pl.getD i 0+1:=by simp[slotAt,hb]
   rw[e3]at h;exact h
  ·have a1:es[i]?=none:=by simp;omega
   rw[a1]at h;rw[a1];exact h
theorem ku.typeIs(H:ku w o es ep t pl)(hS:s.heap.get? S=some o):s.TypeIs (.ref S) "set":=⟨o,hS,H.cls⟩
theorem zW(H:ku w o es ep t pl)(hS:s.heap.get? S=some o)
  (h:Q (.ref s.heap.objs.size) { s with heap:=s.heap.push (nQ w S es ep pl 0) }):wpAny (model prog w) A (pyIter (.ref S)) Q E s:=by
 refine Vt (H.typeIs hS) V3 (O0 V3 (H.typeIs hS) tR ?_ (F.args_set_iter_1 _));unfold Builtin.«frozenset.__iter__»;refine ar ?_;unfold Xx slotArgs;refine ar (N0 rfl (N0 rfl (NP ?_)));refine NP ?_;refine ar ?_;unfold Xp setEntries;refine ar (ar (Ox hS H.dat H.fits (NP (NP ?_))));refine ar ?_;unfold setDrawn;refine ar (Ox hS H.dat H.fits ?_);dsimp only;unfold setsByText;refine ar (ar (Rb (NP (NP ?_))));refine N0 (by
  show decide ((!gz w&&(!t.plain&&decide (es.size>1)))=true)=false;rw[H.plain];simp) ?_
 refine ar (NP ?_);refine ar ?_;unfold setEpoch;refine ar (Ox hS H.dat H.fits (NP ?_));refine ar ?_;unfold newFields;exact O4 (NP ⟨_,rfl,"set_iterator",_,⟨_,N5 _ rfl,rfl⟩,cA.lookup,h⟩) (by first |size_fits |(intro _;decide) |decide)
end
section
variable{prog:Program}{w:World}{A:Around}{E:Value->Shared->Prop}{s:Shared}
theorem Bb{S I:Addr}{o:Obj}{es:Array (Int×Value)}{ep:Nat}{t:SetTable}{pl:List Nat}{i:Nat}{x:Int×Value}{Q:Value->Shared->Prop}(H:ku w o es ep t pl)(hI:s.heap.get? I=some (nQ w S es ep pl i))(hS:s.heap.get? S=some o)(hx:(orderOf w S ep es)[i]?=some x)(hi:i<=es.size)
  (hQ:∀h',h'.get? I=some (nQ w S es ep pl (i+1))->OD I s.heap h'->Q x.2 { s with heap:=h' }) :
  wpAny (model prog w) A (Builtin.«set_iterator.__next__» ⟨[.ref I],[]⟩) (λfin s'=>∃v,fin=.done (.ret v)/\Q v s') E s:=by
 unfold Builtin.«set_iterator.__next__»;refine ar ?_;unfold slotArgs;refine N0 rfl (N0 rfl (NP ?_));dsimp only;refine ar (Wn hI rfl ?_);refine(show wpAny _ _ (setEntries S>>=_) _ _ _ from ar ?_);unfold setEntries;refine ar (Ox hS H.dat H.fits (NP ?_));refine N0 (by simp) ?_;refine(show wpAny _ _ (setNext S ((slotAt w pl i:Nat):Int).toNat ((i:Nat):Int).toNat ((ep:Nat):Int).toNat>>=_) _ _ _ from ar ?_);rw[OQ,OQ,OQ];refine vJ H hS hi ?_;rw[hx];dsimp only[X_];refine ar (PL hI (by simp) λh1 g1 e1=>?_);refine ar (PL g1 (by simp) λh2 g2 e2=>?_);refine NP ⟨_,rfl,hQ h2 ?_ (e1.trans e2)⟩;rw[g2];rfl
theorem D7(hh:A.handled=none)(H:ku w o es ep t pl)(hI:s.heap.get? I=some (nQ w S es ep pl i))(hS:s.heap.get? S=some o)(hx:(orderOf w S ep es)[i]?=none)(hi:i<=es.size)
  (hE:∀h' e,Ua I s.heap h'->(∃o,h'.get? e=some o/\o.cls=.type "StopIteration")->E (.ref e) { s with heap:=h' }) :
  wpAny (model prog w) A (Builtin.«set_iterator.__next__» ⟨[.ref I],[]⟩) Q E s:=by
 unfold Builtin.«set_iterator.__next__»;refine ar ?_;unfold slotArgs;refine N0 rfl (N0 rfl (NP ?_));dsimp only;refine ar (Wn hI rfl ?_);refine(show wpAny _ _ (setEntries S>>=_) _ _ _ from ar ?_);unfold setEntries;refine ar (Ox hS H.dat H.fits (NP ?_));refine N0 (by simp) ?_;refine(show wpAny _ _ (setNext S ((slotAt w pl i:Nat):Int).toNat ((i:Nat):Int).toNat ((ep:Nat):Int).toNat>>=_) _ _ _ from ar ?_);rw[OQ,OQ,OQ];refine vJ H hS hi ?_;rw[hx];dsimp only[X_];refine ar (Q4 hI rfl (by simp) ?_);refine(show wpAny _ _ (newExc (.type "StopIteration") []>>=_) _ _ _ from ar ?_);simp only[newExc,newTuple];refine ar (O4 (ar (m:=firstArgMember _ _) (QW (a:=Value.none) (by first |rfl |(simp only[firstArgMember];rfl)) (O4 ?_ (by size_fits)))) (by size_fits));simp only[raiseNew];refine ar (WG ?_)
 first |rw[show A.in1.handled=none from hh] |rw[hh]
 exact ar (NP (Vz (hE _ _ (((Pl ..).extBut.push _).push _) ⟨_,N5 _ rfl,rfl⟩)))
theorem gp:Slot "set_iterator" (Po "__iter__") "set_iterator.__iter__":=Slot.of (owner:="set_iterator") (n:="__iter__") (by rw[V1,Uq];rfl) (by decide+kernel) (by decide+kernel) (by decide+kernel) (Or.inl (by decide+kernel)) (by rw[Wl];rfl) (by decide+kernel)
theorem kX:entryFor table "set_iterator.__iter__"=some Builtin.«dict_keyiterator.__iter__»:=Wm (id':="dict_keyiterator.__iter__") (by rfl) (by decide+kernel) (by decide+kernel) (by rfl)
theorem mh(a:Value):argsOk "set_iterator.__iter__" ⟨[a],[]⟩:=by
 have h:UT "set_iterator.__iter__"=VB (UJ (['_','_','r','e','t','i','_','_']:List Char).reverse) Rq:=WM (o:=['r','o','t','a','r','e','t','i','_','t','e','s']) (by decide+kernel) jj;unfold argsOk;rw[h];rfl
theorem n6(w:World)(S:Addr)(ep:Nat)(es:Array (Int×Value)):(orderOf w S ep es).size=es.size:=by
 have:=(sT w S ep es).length_eq;simpa using this
theorem Ca(hh:A.handled=none)(hne:S≠I)(H:ku w o es ep t pl) :
  Walks prog w A I [I,S] [I] es.size (λi v=>∃x,(orderOf w S ep es)[i]?=some x/\v=x.2) (λi h=>h.get? I=some (nQ w S es ep pl i)/\h.get? S=some o)where
 sub:=λb hb=>by rw[N6.mp hb];simp
 frame:=λi h h' st hk=>⟨hk I (by simp) _ st.1,hk S (by simp) _ st.2⟩
 item:=λi s Q E hi st hQ=>by
  have hx:(orderOf w S ep es)[i]?=some ((orderOf w S ep es)[i]'(by rw[n6];exact hi)):=by rw[Pk]
  have hT:s.TypeIs (.ref I) "set_iterator":=⟨_,st.1,rfl⟩;unfold pyNext;refine ar (SY (O2 (name:=Po "__next__") hT cA (O0 cA hT gk ?_ (gE _))));refine Bb H st.1 st.2 hx ⋯ λh' g1 e1=>NP ?_;exact hQ _ h' s.toks ⟨_,hx,rfl⟩ ⟨g1,e1.extBut _ _ hne st.2⟩ λb o hb q=>e1.extBut b o (λz=>hb (by simp[z])) q
 done:=λs Q E st hQ=>by
  have hx:(orderOf w S ep es)[es.size]?=none:=by rw[Array.getElem?_eq_none_iff,n6];exact NW _
  have hT:s.TypeIs (.ref I) "set_iterator":=⟨_,st.1,rfl⟩;unfold pyNext;refine ar (SY (O2 (name:=Po "__next__") hT cA (O0 cA hT gk ?_ (gE _))));refine D7 hh H st.1 st.2 hx (NW _) λh' e ext he=>?_;obtain⟨o',ho',hc'⟩:=he;exact ar (P6 (T:="StopIteration") (b:=true) ⟨o',ho',hc'⟩ Wh (NP (hQ _ s.toks λb o hb q=>ext b o (λz=>hb (by simp[z])) q)))
 self:=λi s Q E st h=>by
  have hT:s.TypeIs (.ref I) "set_iterator":=⟨_,st.1,rfl⟩;exact Vt hT gp (O0 gp hT kX (NP ⟨_,rfl,"set_iterator",_,hT,cA.lookup,h⟩) (mh _))
theorem FZ(H:ku w o es ep t pl) :
  PySem.W.KdlSrc prog w "set" S S es.size (λi v=>∃x,(orderOf w S ep es)[i]?=some x/\v=x.2) (λh=>h.get? S=some o)where
 type:=λs hs=>H.typeIs hs
 there:=λh hs=>⟨N2 hs,N2 hs⟩
 keep:=λh h' hs hk=>hk S (.inl rfl) o hs
 notList:=by decide
 notTuple:=by decide
 hint:=λA E s Q hs h=>DH (H.typeIs hs) h
 iter:=λA s hh hs=>⟨nQ w S es ep pl 0,λi h=>h.get? s.heap.objs.size=some (nQ w S es ep pl i)/\h.get? S=some o,λE Q hq=>zW H hs hq,
  Ca hh (Og (N2 hs)) H,N5 _ rfl,NR _ hs⟩
end
def zP:Value->Int
 | .int k _=>k
 |_=>0
theorem intsAre_map:∀{vs:List Value}{ns:List Int},IntsAre vs ns->(∀v∈vs,∃k t,v=Value.int k t)/\ns=vs.map zP
 |_,_,.nil=>⟨by simp,rfl⟩
 |_,_,.cons n t r=>by
  obtain⟨h1,h2⟩:=intsAre_map r;refine⟨λv hv=>?_,by rw[N4,<-h2];rfl⟩;rcases NU.mp hv with z |z
  ·exact⟨n,t,z⟩
  ·exact h1 v z
theorem rH:∀(vs:List Value),(∀v∈vs,∃k t,v=Value.int k t)->IntsAre vs (vs.map zP)
 | [],_=>.nil
 |v::vs,h=>by
  obtain⟨k,t,rfl⟩:=h v (by simp);exact .cons k t (rH vs λu hu=>h u (by simp[hu]))
theorem v_(hp:List.Perm vs us)(r:IntsAre us ns):∃ms,IntsAre vs ms/\List.Perm ms ns:=by
 obtain⟨h1,h2⟩:=intsAre_map r;refine⟨vs.map zP,rH vs λv hv=>h1 v (hp.mem_iff.mp hv),?_⟩;rw[h2];exact hp.map zP
def r_(N:Nat):Prop:=∀{prog:Program}{w:World}{A:Around}{E:Value->Shared->Prop}{s:Shared}{a:Addr}{vs:List Value}{ns:List Int}{n:Nat}{P:PySem.Fin->Shared->Prop},s.heap.get? a=some (seqObj "list" vs.toArray n)->IntsAre vs ns->vs.length<N->(∀(out:Array Value)(ns':List Int),IntsAre out.toList ns'->ns'.Perm ns->ns'.Pairwise (·<=·)->P (.done (.ret .none)) { s with heap:=sortedHeap s.heap a vs out })->wpAny (model prog w) A (Builtin.«list.sort» ⟨[.ref a],[]⟩) P E s
theorem Kd:r_ 64:=λho hI h64 h=>Wo ho hI h64 h
section
variable{prog:Program}{w:World}{A:Around}{E:Value->Shared->Prop}{s:Shared}
theorem Ah(T:r_ N)(hN:N<=301)(hh:A.handled=none)(hS:nN w s.heap S ks)(h64:ks.length<N)
  (h:∀(h':Heap)(tk:Nat)(out:Array Value)(ms:List Int)(l:Addr)(c:Nat),(∀b o,s.heap.get? b=some o->h'.get? b=some o)->S<l->h'.get? l=some (seqObj "list" out c)->IntsAre out.toList ms->ms.Pairwise (· <·)->(∀x,x∈ms↔x∈ks)->ms.length<=300->Q (.ref l) { s with heap:=h',toks:=tk }) :
  wpAny (model prog w) A (call (.builtin "sorted") [.ref S]) Q E s:=by
 obtain⟨o,es,ep,t,pl,g1,g2,g3,g4,g5,g6,g7,g8,g9,g10,g11,g12,g13⟩:=hS;obtain⟨g9,lpl,g14⟩:=g9;have lks:es.size=ks.length:=by
  have:=fH g10;rw[tv,Om]at this;exact this
 have H:ku w o es ep t pl:=⟨g3,g2.1,g5,g6,g7,g8,g9,by omega,by omega,by omega⟩;refine Tp kind_sorted plain_sorted entry_sorted (args_sorted1 _) ?_;unfold Builtin.sorted;refine ar ?_;unfold checkCount;refine N0 rfl (N0 rfl (N0 rfl (NP ?_)));refine ar (PySem.W.kdu_collect (FZ H) hh g1 (N7 H.few (PJ (fP (by decide)))) λh1 tk acc hk hacc=>?_);have hacc1:acc.toList=(orderOf w S ep es).toList.map TF:=by
  refine Vr λi=>?_;by_cases hi:i<acc.size
  ·have e1:acc.toList[i]?=some acc[i]:=by simp[hi]
   obtain⟨x,hx,hv⟩:=hacc.2 i acc[i] (by simp[hi]);rw[e1,Ow];rw[show(orderOf w S ep es).toList[i]?=some x by simpa using hx];rw[hv];rfl
  ·rw[Pb (by simp;omega),Pb];rw[tv,Om,n6];have:=hacc.1;omega
 obtain⟨ns0,i1,i2⟩:=v_ (vs:=acc.toList) (by rw[hacc1];exact(sT w S ep es).map TF) g10;have l0:acc.toList.length=ks.length:=by rw[fH i1];exact i2.length_eq
 refine ar (UK ?_ (by rw[l0];exact PJ (fP ⋯)));refine ar (OF ?_);have hat:(h1.push (seqObj "list" acc.toList.toArray 0)).get? h1.objs.size=some (seqObj "list" acc.toList.toArray 0):=N5 _ rfl;refine O0 Wq ⟨_,hat,rfl⟩ V4 ?_ (Wr _);refine T hat i1 ⋯ λout ms r1 r2 r3=>⟨_,rfl,NP ⟨_,rfl,?_⟩⟩;obtain⟨c,hc⟩:=sortedHeap_at (out:=out) hat;have hnd:ms.Nodup:=r2.nodup_iff.mpr (i2.nodup_iff.mpr g12);refine h _ tk out ms h1.objs.size c ?_ ?_ hc r1 ?_ ?_ ?_
 ·intro b o' e;have e1:=hk b o' e;have hb:b<h1.objs.size:=N2 e1;rw[sortedHeap_old (Og hb) (by rw[Qy];exact Tf hb)];exact NR _ e1
 ·exact N2 (hk S o g1)
 ·exact(YA r3 hnd).imp λz=>by have:=z.1;have:=z.2;omega
 ·intro x;rw[r2.mem_iff,i2.mem_iff]
 ·have:=r2.length_eq;have:=i2.length_eq;omega
end
end L2
namespace L2
open PySem PySem.Spec PyProof.Rows ZS
def hT(ks:List Int):Int:=reduceHash (W6 (ks.map hashInt))
theorem ES(ks:List Int):tupleKeyHash (intKind prog w) ks=hT ks:=rfl
section
variable{prog:Program}{w:World}{A:Around}{E:Value->Shared->Prop}{s:Shared}
theorem Cg(hi:ItemsAre (intKind prog w) ks vs):∀v∈vs,∃n t,v=Value.int n t:=by
 induction hi with
 |nil=>intro v hv;cases hv
 | @cons k v' ks vs h1 _ ih=>
  intro v hv;rcases NU.mp hv with rfl |hv
  ·obtain⟨t',e'⟩:=Q0 (show PN k v=true from h1);exact⟨k,t',e'⟩
  ·exact ih v hv
theorem oD(hk:IsTupleKey (intKind prog w) s.heap ks b)(h:Q false s):wpAny (model prog w) A (ofAClassStatement 8 (.ref b)) Q E s:=by
 have hT:=hk.typeIs;obtain⟨o,items,n,ho,_,hd,hi⟩:=hk;have hall:=Cg hi;unfold ofAClassStatement;refine ar (P0 hT ?_);dsimp only;refine PU rfl ?_;refine ar (NP ?_);refine N0 rfl ?_;refine ar (PQ ho hd ?_);dsimp only;refine ar ?_;rw[<-U_];refine TH _ (λrest(r:Option Bool×Unit) s'=>r.1=none/\s'=s/\∀v∈rest,∃n t,v=Value.int n t) _ ?_ ?_ _ _ ⟨rfl,rfl,hall⟩
 ·rintro v rest r s' ⟨hr,rfl,hal⟩;obtain⟨n,t,rfl⟩:=hal v (Oq ..);rw[show ofAClassStatement 7 (.int n t)=pure false from rfl];refine ar (NP ?_);exact N0 rfl (NP ⟨rfl,rfl,λu hu'=>hal u (Oh _ hu')⟩)
 ·rintro⟨r1,r2⟩ s' ⟨hr,rfl,_⟩;simp only at hr;subst hr;exact NP h
theorem pS{k:List Int}{b:Addr}{stored:List Value}{Q:Bool->Shared->Prop}(hk:IsTupleKey (intKind prog w) s.heap k b)(hst:∀v∈stored,∃k' b',v=Value.ref b'/\IsTupleKey (intKind prog w) s.heap k' b')(h:Q false s):wpAny (model prog w) A (searchCouldBeSeen (.ref b) stored) Q E s:=by
 unfold searchCouldBeSeen;refine ar ?_;refine TH _ (λrest(r:Option Bool×Unit) s'=>r.1=none/\s'=s/\∀v∈rest,∃k' b',v=Value.ref b'/\IsTupleKey (intKind prog w) s.heap k' b') _ ?_ ?_ _ _ ⟨rfl,rfl,hst⟩
 ·rintro v rest r s' ⟨hr,rfl,hal⟩;obtain⟨k',b',rfl,hk'⟩:=hal v (Oq ..);have fin:(none:Option Bool)=none/\s'=s'/\∀v∈rest,∃k' b',v=Value.ref b'/\IsTupleKey (intKind prog w) s'.heap k' b':=⟨rfl,rfl,λu hu'=>hal u (Oh _ hu')⟩;dsimp only;by_cases hv:((b==b')||(carriedByValue (.ref b)&&carriedByValue (.ref b')))=true
  ·rw[NT hv];exact NP fin
  ·rw[N1 hv];refine ar (Us hk ?_);refine N0 rfl ?_;refine ar (Us hk' ?_);refine N0 rfl ?_;refine ar (oD hk ?_);refine N0 rfl ?_;refine ar (oD hk' ?_);refine N0 rfl ?_;exact NP fin
 ·rintro⟨r1,r2⟩ s' ⟨hr,rfl,_⟩;simp only at hr;subst hr;exact NP h
theorem qy(hk:IsTupleKey (intKind prog w) s.heap ks b)(h:∀c,Q c s):wpAny (model prog w) A (hashByValue 8 (.ref b)) Q E s:=by
 have hT:=hk.typeIs;obtain⟨o,items,n,ho,_,hd,hi⟩:=hk;unfold hashByValue;refine ar (V2 hT F.slot_tuple_hash.lookup ?_);show wpAny _ _ (seqItems? (.ref b)>>=_) _ _ _;refine ar (PQ ho hd ?_);refine ar ?_;show wpAny _ _ (forIn items (none,()) _) _ _ _;rw[<-U_];refine TH _ (λrest(_:Option Bool×Unit) s'=>s'=s/\(∀v∈rest,v.scannable=true)) _ ?_ ?_ _ _ ⟨rfl,λv hv=>?_⟩
 ·rintro x rest c s' ⟨rfl,hr⟩;rw[Um 7 (hr x (Oq ..))];refine ar (NP ?_);cases plainKind x with
  |true=>exact N0 rfl (NP ⟨rfl,λv hv=>hr v (Oh _ hv)⟩)
  |false=>exact PU rfl (NP (NP (h false)))
 ·rintro c s' ⟨rfl,_⟩;dsimp only;split
  ·exact NP (h _)
  ·exact NP (h _)
 ·have:∀{ks:List Int}{vs:List Value},ItemsAre (intKind prog w) ks vs->∀v∈vs,v.scannable=true:=by
   intro ks vs hi
   induction hi with
   |nil=>intro v hv;cases hv
   | @cons k v' ks vs h1 _ ih=>
    intro v hv;rcases NU.mp hv with rfl |hv
    ·obtain⟨t',e'⟩:=Q0 (show PN k v=true from h1);rw[e'];rfl
    ·exact ih v hv
  exact this hi v hv
theorem Cz(g1:s.heap.get? a=some o)(g3:o.data=.set es ep t)(hfit:t.fits es.size=true)(hodd:t.gaveWay=false)(g5:t.dummies=#[])(g8:t.place=pl.toArray)(g9:Ri pl)(lks:es.size=pl.length)
  (hu:A.units<cLine) (hk:IsTupleKey (intKind prog w) s.heap k b) (hent:∀e∈es.toList,∃k' b',k'≠k/\e=(hT k',Value.ref b')/\IsTupleKey (intKind prog w) s.heap k' b') :
  ∀(n fuel:Nat)(stand:Option SetTable.Probe),Rch t pl n (stand.getD (t.probeStart (hT k)))->Path t.mask pl (t.probeStart (hT k)) (stand.getD (t.probeStart (hT k)))->n<=10*OB t.mask->n<fuel->(∀j,j∉pl->Rea t.mask pl (hT k) j->Q (.free j false) s)->wpAny (model prog w) A (setSearchFrom a (.ref b) (hT k) true fuel stand) Q E s:=by
 intro n
 induction n using V5 with
 |ind n ih=>
  intro fuel stand hq hpa hn hf hQ;obtain⟨fu,rfl⟩:∃f,fuel=f+1:=⟨fuel-1,by omega⟩;rw[setSearchFrom.eq_2];refine ar (Ox g1 g3 hfit ?_);dsimp only;rw[hodd];refine N0 rfl ?_;have key:=G7 g8 g9 g5 (hT k) (λi=>(es[i]?.map (·.1)).getD 0) n (10*OB t.mask) _ hq hn;split
  case h_2 heq=>
   rcases key with⟨j,q',ej,_⟩ |⟨j,i,next,m,ej,_⟩
   ·exact(heq _ ej).elim
   ·exact(heq _ ej).elim
  case h_1 met heq=>
   rcases key with⟨j,q',ej,hjl,pa,eq'⟩ |⟨j,i,next,m,ej,r1,r2,r3,r4,r5,r6⟩
   ·have e:=ej.symm.trans heq;cases e;dsimp only;exact NP (hQ _ hjl ⟨q',hpa.trans pa,eq'⟩)
   ·have e:=ej.symm.trans heq;cases e;dsimp only;have hi2:i<es.size:=by have:=(NZ.mp r1).1;omega
    obtain⟨k',b',hne,he,hk'⟩:=hent es[i] (by simp);have hes:es[i]?=some (hT k',Value.ref b'):=by rw[Pk hi2,he]
    by_cases hled:t.led=true
    ·rw[hled];refine N0 rfl ?_;rw[hes];dsimp only;refine ar (OF (Rz (knd:=intKind prog w) hu hk' hk ?_));rw[gV hne];refine ar (Ox g1 g3 hfit ?_);dsimp only;refine N0 rfl ?_;rw[show t.sameMemory t.moves t.mask=some true by simp[Rh]];dsimp only;rw[NT rfl,r3];dsimp only;rw[hes];dsimp only;refine ar (Q6 ?_);refine ar (NP ?_);rw[NT rfl];dsimp only;refine N0 rfl ?_;exact ih m r4 fu (some next) r5 (hpa.trans r6) ⋯ ⋯ hQ
    ·rw[Sa _ |>.mp hled];refine PU rfl (ar (pS hk ?_ ?_))
     ·intro v hv;obtain⟨x,hx,rfl⟩:=Of.mp hv;obtain⟨k2,b2,_,e2,hk2⟩:=hent x (by
       have:=Qs.mp hx;exact Qs.mpr (VI.mp this).1)
      rw[e2];exact⟨k2,b2,rfl,hk2⟩
     refine N0 rfl ?_;rw[hes];dsimp only;refine ar (OF (Rz (knd:=intKind prog w) hu hk' hk ?_));rw[gV hne];refine ar (Ox g1 g3 hfit ?_);dsimp only;refine N0 rfl ?_;rw[show t.sameMemory t.moves t.mask=some true by simp[Rh]];dsimp only;rw[NT rfl,r3];dsimp only;rw[hes];dsimp only;refine ar (Q6 ?_);refine ar (NP ?_);rw[NT rfl];dsimp only;refine N0 rfl ?_;exact ih m r4 fu (some next) r5 (hpa.trans r6) ⋯ ⋯ hQ
theorem q_:∀{ks ks':List Int}{vs:List Value},ItemsAre (intKind prog w) ks vs->ItemsAre (intKind prog w) ks' vs->ks=ks'
 |_,_,_,.nil,.nil=>rfl
 |_,_,_,.cons h r,.cons h' r'=>by
  rw[q_ r r'];have e:=KeyKind.is_eq_decide (knd:=intKind prog w) h;rw[e]at h';rw[Oc h']
theorem xY{a b:Addr}{o:Obj}{es:Array (Int×Value)}{ep:Nat}{t:SetTable}{pl:List Nat}{k:List Int}{Q:SetFound->Shared->Prop}(g1:s.heap.get? a=some o)(g3:o.data=.set es ep t)(hfit:t.fits es.size=true)(hodd:t.gaveWay=false)(g5:t.dummies=#[])(g8:t.place=pl.toArray)(g9:Ri pl)(lks:es.size=pl.length)
  (hu:A.units<cLine) (hk:IsTupleKey (intKind prog w) s.heap k b) (hent:∀e∈es.toList,∃k' b',e=(hT k',Value.ref b')/\IsTupleKey (intKind prog w) s.heap k' b') {i0:Nat} {b0:Addr} {q':SetTable.Probe} (h0:pl[i0]?=some q'.j) (he0:es[i0]?=some (hT k,Value.ref b0)) (hk0:IsTupleKey (intKind prog w) s.heap k b0) :
  ∀(n fuel:Nat)(stand:Option SetTable.Probe),Rch t pl n (stand.getD (t.probeStart (hT k)))->Path t.mask pl (stand.getD (t.probeStart (hT k))) q'->n<=10*OB t.mask->n<fuel->Q (.there none) s->wpAny (model prog w) A (setSearchFrom a (.ref b) (hT k) true fuel stand) Q E s:=by
 intro n
 induction n using V5 with
 |ind n ih=>
  intro fuel stand hq hpa hn hf hQ;obtain⟨fu,rfl⟩:∃f,fuel=f+1:=⟨fuel-1,by omega⟩;rw[setSearchFrom.eq_2];refine ar (Ox g1 g3 hfit ?_);dsimp only;rw[hodd];refine N0 rfl ?_;have key:=Gm g8 g9 (hT k) (λi=>(es[i]?.map (·.1)).getD 0) h0 (show((es[i0]?.map (·.1)).getD 0)=hT k by rw[he0];rfl) n (10*OB t.mask) _ hq hn hpa;split
  case h_2 heq=>
   obtain⟨j,i,next,m,ej,_⟩:=key;exact(heq _ ej).elim
  case h_1 met heq=>
   obtain⟨j,i,next,m,ej,r1,r2,r3,r4,r5,r6⟩:=key
   ·have e:=ej.symm.trans heq;cases e;dsimp only;have hi2:i<es.size:=by have:=(NZ.mp r1).1;omega
    obtain⟨k',b',he,hk'⟩:=hent es[i] (by simp);have hes:es[i]?=some (hT k',Value.ref b'):=by rw[Pk hi2,he]
    by_cases hled:t.led=true
    ·rw[hled];refine N0 rfl ?_;rw[hes];dsimp only;refine ar (OF (Rz (knd:=intKind prog w) hu hk' hk ?_));by_cases heq2:k'=k
     ·rw[NQ heq2];refine ar (Ox g1 g3 hfit ?_);dsimp only;exact PU rfl (NP hQ)
     have r7:Path t.mask pl next q':=by
      rcases r6 with z |r6
      ·rw[z,he0]at hes;have hb:=R7 (QX (Ou hes)).2;subst hb;obtain⟨o1,v1,n1,x1,x2,x3,x4⟩:=hk';obtain⟨o2,v2,n2,y1,y2,y3,y4⟩:=hk0;exact absurd (by
        rw[x1]at y1;cases y1;rw[x3]at y3;have:=(Xq y3).1;rw[this]at x4;exact q_ x4 y4) heq2
      ·exact r6
     rw[gV heq2];refine ar (Ox g1 g3 hfit ?_);dsimp only;refine N0 rfl ?_;rw[show t.sameMemory t.moves t.mask=some true by simp[Rh]];dsimp only;rw[NT rfl,r3];dsimp only;rw[hes];dsimp only;refine ar (Q6 ?_);refine ar (NP ?_);rw[NT rfl];dsimp only;refine N0 rfl ?_;exact ih m r4 fu (some next) r5 r7 ⋯ ⋯ hQ
    ·rw[Sa _ |>.mp hled];refine PU rfl (ar (pS hk ?_ ?_))
     ·intro v hv;obtain⟨x,hx,rfl⟩:=Of.mp hv;obtain⟨k2,b2,e2,hk2⟩:=hent x (by
       have:=Qs.mp hx;exact Qs.mpr (VI.mp this).1)
      rw[e2];exact⟨k2,b2,rfl,hk2⟩
     refine N0 rfl ?_;rw[hes];dsimp only;refine ar (OF (Rz (knd:=intKind prog w) hu hk' hk ?_));by_cases heq2:k'=k
     ·rw[NQ heq2];refine ar (Ox g1 g3 hfit ?_);dsimp only;exact PU rfl (NP hQ)
     have r7:Path t.mask pl next q':=by
      rcases r6 with z |r6
      ·rw[z,he0]at hes;have hb:=R7 (QX (Ou hes)).2;subst hb;obtain⟨o1,v1,n1,x1,x2,x3,x4⟩:=hk';obtain⟨o2,v2,n2,y1,y2,y3,y4⟩:=hk0;exact absurd (by
        rw[x1]at y1;cases y1;rw[x3]at y3;have:=(Xq y3).1;rw[this]at x4;exact q_ x4 y4) heq2
      ·exact r6
     rw[gV heq2];refine ar (Ox g1 g3 hfit ?_);dsimp only;refine N0 rfl ?_;rw[show t.sameMemory t.moves t.mask=some true by simp[Rh]];dsimp only;rw[NT rfl,r3];dsimp only;rw[hes];dsimp only;refine ar (Q6 ?_);refine ar (NP ?_);rw[NT rfl];dsimp only;refine N0 rfl ?_;exact ih m r4 fu (some next) r5 r7 ⋯ ⋯ hQ
theorem gy(H:IsTupleKey (intKind prog w) h ks b)(k:∀o,h.get? b=some o->h'.get? b=some o):IsTupleKey (intKind prog w) h' ks b:=by
 obtain⟨o,items,n,g,r⟩:=H;exact⟨o,items,n,k o g,r⟩
def HK(m:Nat)(pl:List Nat)(es:Array (Int×Value)):Prop:=∀i j:Nat,pl[i]?=some j->∃e,es[i]?=some e/\Rea m pl e.1 j
def mf(prog:Program)(w:World)(P:Addr->Prop)(h:Heap)(a:Addr)(ks:List (List Int)):Prop:=
 ∃(o:Obj)(es:Array (Int×Value))(ep:Nat)(t:SetTable)(pl:List Nat),h.get? a=some o/\o.ExactSet/\o.data=.set es ep t/\dz t.mask=true/\t.dummies=#[] /\
  t.place=pl.toArray/\(Ri pl/\pl.length=ks.length/\ks.length*5<t.mask*3)/\es.size=ks.length/\ks.length<=300/\(∀e∈es.toList,∃k b,k∈ks/\e=(hT k,Value.ref b)/\b≠a/\P b/\IsTupleKey (intKind prog w) h k b)/\(∀k∈ks,∃b,(hT k,Value.ref b)∈es.toList/\b≠a/\P b/\IsTupleKey (intKind prog w) h k b)/\HK t.mask pl es
theorem mf.at(H:mf prog w P h S ks)(k:∀b o,b=S\/P b->h.get? b=some o->h'.get? b=some o):mf prog w P h' S ks:=by
 obtain⟨o,es,ep,t,pl,g1,g2,g3,g4,g5,g6,g7,g8,g9,g10,g11,g12⟩:=H;refine⟨o,es,ep,t,pl,k S o (.inl rfl) g1,g2,g3,g4,g5,g6,g7,g8,g9,λe he=>?_,λx hx=>?_,g12⟩
 ·obtain⟨k',b,q1,q2,q3,q4,q5⟩:=g10 e he;exact⟨k',b,q1,q2,q3,q4,gy q5 λo e=>k b o (.inr q4) e⟩
 ·obtain⟨b,q1,q2,q3,q4⟩:=g11 x hx;exact⟨b,q1,q2,q3,gy q4 λo e=>k b o (.inr q3) e⟩
theorem EC(hu:A.units<cLine)(hS:mf prog w P s.heap a hs)(hba:b≠a)(hPb:P b)(hk:IsTupleKey (intKind prog w) s.heap ks b)(hnew:ks∉hs)(hl:hs.length<300)
  (h:∀(h':Heap)(tk:Nat),OD a s.heap h'->mf prog w P h' a (ks::hs)->Q true { s with heap:=h',toks:=tk }) :
  wpAny (model prog w) A (setAdd a (.ref b)) Q E s:=by
 obtain⟨o,es,ep,t,pl,g1,g2,g3,g4,g5,g8,⟨g9,lpl,g14⟩,lks,g13,g15,g16,g17⟩:=hS;have hmask:=j8 g4;have hmk:7<=t.mask:=by
  have q:=g4;simp only[dz,Ph,O_]at q;omega
 have hodd:t.gaveWay=false:=by
  have q:=g4;simp only[dz,Ph,O_]at q;unfold VJ;rcases q with((q |q) |q) |q<;>rw[q]<;>rfl
 have hfit:t.fits es.size=true:=fits_of g5 (by rw[g8,lks];simpa using lpl) ⋯;unfold setAdd;refine OF (ar (Va (knd:=intKind prog w) hu hk ?_));rw[ES];unfold setAddHashed;refine OF ?_;show wpAny _ _ (setAddHashedIn a (.ref b) _ (99999+1)) _ _ _;rw[setAddHashedIn.eq_2];refine ar (Ox g1 g3 hfit ?_);show wpAny _ _ (if byScan (.ref b) es=true then _ else _) _ _ _;rw[N1 (show¬byScan (.ref b) es=true by simp[byScan,V6])];refine ar ?_;unfold setSearch;have hne:∀e∈es.toList,∃k' b',k'≠ks/\e=(hT k',Value.ref b')/\IsTupleKey (intKind prog w) s.heap k' b':=λe he=>by
  obtain⟨k',b',q1,q2,q3,q4,q5⟩:=g15 e he;exact⟨k',b',λz=>hnew (z▸q1),q2,q5⟩
 have htn:10*OB t.mask<100000:=by
  have q:=g4;simp only[dz,Ph,O_]at q;unfold OB;omega
 refine Cz (s:={ s with toks:=s.toks+(ks.length+1) }) g1 g3 hfit hodd g5 g8 g9 ⋯ hu hk hne (10*OB t.mask) 100000 none (um hmask ⋯ (hT ks)) (.refl _) (NW _) htn λj hjl hrea=>?_
 ·dsimp only;refine ar (Ox g1 g3 hfit ?_);obtain⟨p,hple,hpb,hpa,hpc⟩:=ur g9 j;have hp:PB pl.toArray j=p:=hpb;have les0:es.size=pl.length:=by omega
  have riN:Ri (pl.take p++j::pl.drop p):=tZ g9 hjl hpa hpc;have liN:(Pd pl.toArray p j).toList=pl.take p++j::pl.drop p:=by
   have:=gJ pl.toArray p j (by simpa using hple);simpa using this
  have hput:t.put j=({ mask:=t.mask,place:=Pd t.place p j,dummies:=#[],finger:=t.finger,led:=t.led,moves:=t.moves,plain:=t.plain },p):=by
   unfold Xo;rw[g8,hp,g5];rfl
  rw[hput];dsimp only;have h1000:(1000:Nat)<=sizeLine:=PJ (fP (NW 1000));have lpl':(pl.take p++j::pl.drop p).length=hs.length+1:=by simp;omega
  have les:(Pd es p (hT ks,Value.ref b)).toList=es.toList.take p++(hT ks,Value.ref b)::es.toList.drop p:=gJ _ _ _ ⋯;generalize hes:Pd es p (hT ks,Value.ref b)=es' at les;have lsz:es'.size=hs.length+1:=by
   rw[<-Om,les];simp;omega
  have i2:∀(h':Heap),(∀c o,c≠a->s.heap.get? c=some o->h'.get? c=some o)->∀e∈es'.toList,∃k c,k∈ks::hs/\e=(hT k,Value.ref c)/\c≠a/\P c/\IsTupleKey (intKind prog w) h' k c:=by
   intro h' hh e he;rw[les]at he;have old:∀e∈es.toList,∃k c,k∈ks::hs/\e=(hT k,Value.ref c)/\c≠a/\P c/\IsTupleKey (intKind prog w) h' k c:=λe he=>by
    obtain⟨k',c,q1,q2,q3,q4,q5⟩:=g15 e he;exact⟨k',c,Oh _ q1,q2,q3,q4,gy q5 λo e=>hh c o q3 e⟩
   rcases Oz.mp he with z |z
   ·exact old e (Qg z)
   ·rcases NU.mp z with z |z
    ·exact⟨ks,b,Oq ..,z,hba,hPb,gy hk λo e=>hh b o hba e⟩
    ·exact old e (Qv z)
  have i3:∀(h':Heap),(∀c o,c≠a->s.heap.get? c=some o->h'.get? c=some o)->∀k∈ks::hs,∃c,(hT k,Value.ref c)∈es'.toList/\c≠a/\P c/\IsTupleKey (intKind prog w) h' k c:=by
   intro h' hh k hkm;rw[les];rcases NU.mp hkm with z |z
   ·exact⟨b,by rw[z];simp,hba,hPb,gy (z▸hk) λo e=>hh b o hba e⟩
   ·obtain⟨c,q1,q2,q3,q4⟩:=g16 k z;refine⟨c,?_,q2,q3,gy q4 λo e=>hh c o q2 e⟩;rw[<-Qk p es.toList]at q1;rcases Oz.mp q1 with w |w
    ·exact OR _ w
    ·exact Oe _ (Oh _ w)
  have i4:HK t.mask (pl.take p++j::pl.drop p) es':=by
   have sub:∀x∈pl,x∈pl.take p++j::pl.drop p:=λx hx=>by
    rw[<-Qk p pl]at hx;rcases Oz.mp hx with w |w
    ·exact OR _ w
    ·exact Oe _ (Oh _ w)
   have lt1:(pl.take p).length=p:=by rw[OL];omega
   have lt2:(es.toList.take p).length=p:=by rw[OL,Om];omega
   intro i j' hij;have ges:∀i:Nat,es'[i]?=(es.toList.take p++(hT ks,Value.ref b)::es.toList.drop p)[i]?:=λi=>by rw[<-les,OY]
   rw[ges];rcases Vs i p with z |z |z
   ·rw[Oy ⋯,QU,NT z]at hij;obtain⟨e,e1,e2⟩:=g17 i j' hij;refine⟨e,?_,e2.mono sub⟩;rw[Oy ⋯,QU,NT z,OY];exact e1
   ·subst z;rw[OA ⋯,lt1,U8]at hij;cases hij;refine⟨_,by rw[OA ⋯,lt2,U8];rfl,hrea.mono sub⟩
   ·rw[OA ⋯,lt1]at hij;obtain⟨d,rfl⟩:∃d,i=p+1+d:=⟨i-p-1,by omega⟩;rw[show p+1+d-p=d+1 by omega,RM,SI]at hij;obtain⟨e,e1,e2⟩:=g17 (p+d) j' hij;refine⟨e,?_,e2.mono sub⟩;rw[OA ⋯,lt2,show p+1+d-p=d+1 by omega,RM,SI,OY];exact e1
  have go:∀(t1:SetTable),t1.mask=t.mask->t1.dummies=#[]->t1.place=(pl.take p++j::pl.drop p).toArray->wpAny (model prog w) A (do
    storeSet a es' t1
    if(!false&&t1.tooFull)=true then do
     setRelay a (Q5 (es.size+1))
     pure true
    else pure true) Q E { s with toks:=s.toks+(ks.length+1) }:=by
   intro t1 m1 m2 m5;have hfit':t1.fits es'.size=true:=fits_of m2 (by rw[m5,lsz];simpa using lpl') ⋯;have hfill:t1.fill=hs.length+1:=by
    unfold S7;rw[m2,m5];simp only[NX,lpl'];rfl
   have gN:(s.heap.update a (QT es' t1)).get? a=some { o with data:=.set es' (ep+1) t1 }:=by
    rw[<-Wv es' t1 g3];exact Pp _ g1 (by rw[Wv es' t1 g3];rfl)
   have sbN:OD a s.heap (s.heap.update a (QT es' t1)):=Pl ..;refine ar (Vu (s:={ s with toks:=s.toks+(ks.length+1) }) g1 g3 ?_ (by rw[lsz];omega));by_cases hfull:(hs.length+1)*5<t.mask*3
   ·have hf0:(!false&&t1.tooFull)=false:=by
     unfold Sb;rw[hfill,m1];simp;omega
    rw[hf0];refine N0 rfl (NP ?_);exact h _ _ sbN ⟨_,es',ep+1,t1,_,gN,g2,rfl,by rw[m1];exact g4,m2,m5,⟨riN,by rw[lpl',N9],by rw[N9,m1];exact hfull⟩,by rw[lsz,N9],by rw[N9];omega,i2 _ λc o hc e=>sbN.extBut c o hc e,i3 _ λc o hc e=>sbN.extBut c o hc e,by rw[m1];exact i4⟩
   ·have hf1:(!false&&t1.tooFull)=true:=by
     unfold Sb;rw[hfill,m1];simp;omega
    rw[hf1];refine PU rfl (ar ?_);obtain⟨w1,w2⟩:=xR (t':=t1) (es':=es') (n:=hs.length+1) (by rw[m1];exact g4) lsz (by rw[m1];exact hfull) (by rw[m1];omega) ⋯;obtain⟨t2,order,l2,r1,r2,r3,r4,r5,r6,r7,r8,r9⟩:=Bj (t:=t1) (es:=es') (wanted:=Q5 (hs.length+1)) (j8 w1) (by rw[lsz];omega);generalize he2:T6 (λx=>es'[x]?) order=e2 at r2;have lsz2:e2.size=hs.length+1:=by rw[<-Om,r2.length_eq,Om,lsz]
    rw[lks];unfold setRelay;refine ar (Ox gN rfl hfit' ?_);dsimp only;have hok:OO (Q5 (hs.length+1))<=sizeLine:=by
     have q:=w1;simp only[dz,Ph,O_]at q;omega
    refine N0 (by simpa using hok) ?_;refine ar ?_;rw[r1];have gM:((s.heap.update a (QT es' t1)).update a (QT e2 t2)).get? a=some { o with data:=.set e2 (ep+1+1) t2 }:=by
     have hq:=Wv (o:={ o with data:=.set es' (ep+1) t1 }) e2 t2 rfl;rw[<-hq];exact Pp _ gN (by rw[hq];rfl)
    refine(show wpAny _ _ (if((T6 (λx=>es'[x]?) order).size != es'.size)=true then _ else pure (T6 (λx=>es'[x]?) order,t2)) _ _ _ from ?_);rw[he2];refine N0 (by rw[lsz2,lsz];simp) (NP ?_);refine Vu gN rfl ?_ (by rw[lsz2];omega);refine NP ?_;exact h _ _ (sbN.trans (Pl ..)) ⟨_,e2,ep+1+1,t2,l2,gM,g2,rfl,by rw[r7];exact w1,r6,r3,⟨r4,by rw[r5,lsz,N9],by rw[r7,N9];exact w2⟩,by rw[lsz2,N9],by rw[N9];omega,λe he=>i2 _ (λc o hc e=>(sbN.trans (Pl ..)).extBut c o hc e) e (r2.mem_iff.mp he),λk hk=>by
     obtain⟨c,q1,q2,q3,q4⟩:=i3 _ (λc o hc e=>(sbN.trans (Pl ..)).extBut c o hc e) k hk;exact⟨c,r2.mem_iff.mpr q1,q2,q3,q4⟩,by
     rw[<-he2];exact DY (j8 w1) (by rw[lsz];omega) r1 r3⟩
  by_cases hpl:t.plain=true
  ·rw[NT hpl];refine ar (qy (s:={ s with toks:=s.toks+(ks.length+1) }) hk λc=>?_);cases c with
   |true=>exact go _ rfl rfl (by rw[<-liN,g8];rfl)
   |false=>exact go _ rfl rfl (by rw[<-liN,g8];rfl)
  ·rw[N1 hpl];refine ar (NP ?_);exact go _ rfl rfl (by rw[<-liN,g8];rfl)
theorem Dc{a b:Addr}{P:Addr->Prop}{hs:List (List Int)}{ks:List Int}{Q:Bool->Shared->Prop}(hu:A.units<cLine)(hS:mf prog w P s.heap a hs)(hk:IsTupleKey (intKind prog w) s.heap ks b)(hold:ks∈hs)(h:∀tk:Nat,Q false { s with toks:=tk }) :
  wpAny (model prog w) A (setAdd a (.ref b)) Q E s:=by
 obtain⟨o,es,ep,t,pl,g1,g2,g3,g4,g5,g8,⟨g9,lpl,g14⟩,lks,g13,g15,g16,g17⟩:=hS;have hmask:=j8 g4;have hmk:7<=t.mask:=by
  have q:=g4;simp only[dz,Ph,O_]at q;omega
 have hodd:t.gaveWay=false:=by
  have q:=g4;simp only[dz,Ph,O_]at q;unfold VJ;rcases q with((q |q) |q) |q<;>rw[q]<;>rfl
 have hfit:t.fits es.size=true:=fits_of g5 (by rw[g8,lks];simpa using lpl) ⋯;unfold setAdd;refine OF (ar (Va (knd:=intKind prog w) hu hk ?_));rw[ES];unfold setAddHashed;refine OF ?_;show wpAny _ _ (setAddHashedIn a (.ref b) _ (99999+1)) _ _ _;rw[setAddHashedIn.eq_2];refine ar (Ox g1 g3 hfit ?_);show wpAny _ _ (if byScan (.ref b) es=true then _ else _) _ _ _;rw[N1 (show¬byScan (.ref b) es=true by simp[byScan,V6])];refine ar ?_;unfold setSearch;have htn:10*OB t.mask<100000:=by
  have q:=g4;simp only[dz,Ph,O_]at q;unfold OB;omega
 obtain⟨b0,e0,_,_,hk0⟩:=g16 ks hold;obtain⟨i0,hi0⟩:=Qj.mp e0;have hlt:=(NZ.mp hi0).1;rw[Om]at hlt;have hpl:pl[i0]?=some (pl[i0]'⋯):=NV _;obtain⟨e1,ee,q',pa,ej⟩:=g17 i0 _ hpl;rw[OY]at hi0;rw[hi0]at ee;cases ee;refine xY (s:={ s with toks:=s.toks+(ks.length+1) }) g1 g3 hfit hodd g5 g8 g9 ⋯ hu hk (λe he=>by
  obtain⟨k',b',q1,q2,q3,q4,q5⟩:=g15 e he;exact⟨k',b',q2,q5⟩) (i0:=i0) (b0:=b0) (q':=q') (by rw[hpl,ej]) hi0 hk0 (10*OB t.mask) 100000 none (um hmask ⋯ (hT ks)) pa (NW _) htn ?_
 exact NP (h _)
def C5(ky:Nat->List Int)(i:Nat)(hs:List (List Int)):Prop:=hs.Nodup/\hs.length<=i/\∀x,x∈hs↔∃j,j<i/\ky j=x
theorem CU{R:Result->Shared->Prop}{I:Addr}{fp wr:List Addr}{n:Nat}{P:Nat->Value->Prop}{St:Nat->Heap->Prop}(W:Walks prog w A.in1 I fp wr n P St)(S:Addr)(hSf:S∉fp)(ky:Nat->List Int)(ad:Nat->Addr)(hval:∀i v,P i v->i<n->v=Value.ref (ad i))(hn:n<=300)
  (hu:A.in1.units<cLine) (had:∀j,j<n->ad j≠S/\ad j∉wr) :
  ∀(k i:Nat)(s:Shared)(hs:List (List Int)),n-i=k->i<=n->St i s.heap->mf prog w (λb=>b≠S/\b∉wr) s.heap S hs->C5 ky i hs->(∀j,j<n->IsTupleKey (intKind prog w) s.heap (ky j) (ad j)) ->
   (∀(h':Heap)(tk:Nat)(hs':List (List Int)),(∀b o,b≠S->b∉wr->s.heap.get? b=some o->h'.get? b=some o)->mf prog w (λb=>b≠S/\b∉wr) h' S hs'->C5 ky n hs'->R (.ok (.ret .none)) { s with heap:=h',toks:=tk }) ->
   codeAny (model prog w) A (Code.builtin "set.update.loop" ⟨[.ref S,.ref I],[]⟩) R s:=by
 have hSw:S∉wr:=λh=>hSf (W.sub S h);intro k
 induction k with
 |zero=>
  intro i s hs hk hi hst hS hks hkey hR;have hin:i=n:=by omega
  subst hin;refine PY QJ ?_;rw[Qw Pw];refine(show wpAny _ _ (pyNext (.ref I)>>=_) _ _ _ from ar (W.done s _ _ hst λh' tk hk'=>?_));exact NP (hR h' tk hs (λb o _ hw e=>hk' b o hw e) (hS.at λb o hb e=>hk' b o (hb.elim (λz=>z▸hSw) (·.2)) e) hks)
 |succ k ih=>
  intro i s hs hk hi hst hS hks hkey hR;refine PY QJ ?_;rw[Qw Pw];refine(show wpAny _ _ (pyNext (.ref I)>>=_) _ _ _ from ar (W.item i s _ _ ⋯ hst λv h' tk hP hst' hk'=>?_));have hv:=hval i v hP ⋯;subst hv;refine(show wpAny _ _ (holding [Value.ref (ad i)] (setAdd S (.ref (ad i)))>>=_) _ _ _ from ar (OF ?_));obtain⟨knd,klen,kmem⟩:=hks;have hS':=hS.at λb o hb e=>hk' b o (hb.elim (λz=>z▸hSw) (·.2)) e;have hki:=gy (hkey i ⋯) λo e=>hk' _ o (had i ⋯).2 e;by_cases hm:ky i∈hs
  ·refine Dc (s:={ s with heap:=h',toks:=tk }) hu hS' hki hm λtk2=>?_;refine NP ⟨S8 Pw _,ih (i+1) _ hs ⋯ ⋯ hst' hS' ⟨knd,by omega,λx=>?_⟩ (λj hj=>gy (hkey j hj) λo e=>hk' _ o (had j hj).2 e) λh3 tk3 ks3 q1 q2 q3=>?_⟩
   ·rw[kmem];constructor
    ·rintro⟨j,h1,h2⟩;exact⟨j,by omega,h2⟩
    ·rintro⟨j,h1,h2⟩;rcases Xr j i with z |z
     ·exact⟨j,z,h2⟩
     ·have:j=i:=by omega
      subst this;rw[h2]at hm;exact(kmem x).mp hm
   ·exact hR h3 tk3 ks3 (λb o hb1 hb2 e=>q1 b o hb1 hb2 (hk' b o hb2 e)) q2 q3
  ·refine EC (s:={ s with heap:=h',toks:=tk }) hu hS' (had i ⋯).1 (had i ⋯) hki hm ⋯ λh2 tk2 sb hS2=>?_;refine NP ⟨S8 Pw _,ih (i+1) _ (ky i::hs) ⋯ ⋯ ?_ hS2 ⟨Pr.mpr ⟨hm,knd⟩,by simp;omega,λx=>?_⟩ ?_ λh3 tk3 ks3 q1 q2 q3=>?_⟩
   ·exact W.frame _ _ _ hst' λb hb' o e=>sb.extBut b o (λz=>hSf (z▸hb')) e
   ·rw[NU,kmem];constructor
    ·rintro(rfl |⟨j,h1,h2⟩)
     ·exact⟨i,by omega,rfl⟩
     ·exact⟨j,by omega,h2⟩
    ·rintro⟨j,h1,h2⟩;rcases Xr j i with z |z
     ·exact .inr ⟨j,z,h2⟩
     ·have:j=i:=by omega
      subst this;exact .inl h2.symm
   ·intro j hj;exact gy (hkey j hj) λo e=>sb.extBut _ o (had j hj).1 (hk' _ o (had j hj).2 e)
   ·exact hR h3 tk3 ks3 (λb o hb1 hb2 e=>q1 b o hb1 hb2 (sb.extBut b o hb1 (hk' b o hb2 e))) q2 q3
def uq:List (List Int)->List (List Int)
 | []=>[]
 |x::xs=>if x∈xs then uq xs else x::uq xs
theorem pj(x:List Int):∀l,x∈uq l↔x∈l
 | []=>Vf
 |y::l=>by
  unfold uq;by_cases h:y∈l
  ·rw[NT h,pj x l,NU];exact⟨.inr,λz=>z.elim (λe=>e▸h) id⟩
  ·rw[N1 h,NU,NU,pj x l]
theorem rl:∀l,(uq l).Nodup
 | []=>Qz
 |y::l=>by
  unfold uq;by_cases h:y∈l
  ·rw[NT h];exact rl l
  ·rw[N1 h];exact Pr.mpr ⟨λz=>h ((pj y l).mp z),rl l⟩
theorem FD:∀l,(uq l).length<=l.length
 | []=>NW _
 |y::l=>by
  have:=FD l;unfold uq;by_cases h:y∈l
  ·rw[NT h];simp;omega
  ·rw[N1 h];simp;omega
theorem Cy:∀{l:List (List Int)},(uq l).length=l.length↔l.Nodup
 | []=>by simp[uq]
 |y::l=>by
  have ih:=Cy (l:=l);have le:=FD l;unfold uq;rw[Pr];by_cases h:y∈l
  ·rw[NT h];exact⟨λe=>by simp at e;omega,λe=>absurd h e.1⟩
  ·rw[N1 h,N9,N9];exact⟨λe=>⟨h,ih.mp ⋯⟩,λe=>by rw[ih.mpr e.2]⟩
theorem rh:∀{a b:List (List Int)},a.Nodup->(∀x∈a,x∈b)->a.length<=b.length
 | [],_,_,_=>Pc _
 |x::a,b,h,hs=>by
  obtain⟨h1,h2⟩:=Pr.mp h;have hx:=hs x (Oq ..);have:=rh (a:=a) (b:=b.erase x) h2 λy hy=>(List.mem_erase_of_ne (λz:y=x=>h1 (by rw[<-z];exact hy))).mpr (hs y (Oh _ hy));rw[List.length_erase_of_mem hx]at this;have:=Ud hx;simp only[N9];omega
theorem En(h:C5 (λi=>ts.getD i []) ts.length ks):ks.length=(uq ts).length:=by
 obtain⟨h1,_,h3⟩:=h;have mem:∀x,x∈ks↔x∈ts:=λx=>by
  rw[h3];constructor
  ·rintro⟨j,hj,rfl⟩;show ts.getD j []∈ts;rw[N8,NV hj];exact PM hj
  ·intro hx;obtain⟨j,hj,rfl⟩:=PV.mp hx;exact⟨j,hj,by show ts.getD j []=ts[j];rw[N8,NV hj];rfl⟩
 exact Nat.le_antisymm (rh h1 λx hx=>(pj x ts).mpr ((mem x).mp hx)) (rh (rl ts) λx hx=>(mem x).mpr ((pj x ts).mp hx))
def E3(w:World)(h:Heap)(a:Addr)(ks:List (List Int)):Prop:=
 ∃(o:Obj)(es:Array (Int×Value))(ep:Nat)(t:SetTable),h.get? a=some o/\o.ExactSet/\o.data=.set es ep t/\t.fits es.size=true/\es.size=ks.length/\ks.length<=300
theorem mf.x(H:mf prog w P h S ks):E3 w h S ks:=by
 obtain⟨o,es,ep,t,pl,g1,g2,g3,g4,g5,g8,⟨g9,g10,g11⟩,g12,g13,g15,_⟩:=H;exact⟨o,es,ep,t,g1,g2,g3,fits_of g5 (by rw[g8,g12];simpa using g10) ⋯,g12,g13⟩
theorem An{l:Addr}{items:Array Value}{Q:Value->Shared->Prop}(hh:A.handled=none)(k:Bool)(hl:pO s.heap l items k)(ts:List (List Int))(ads:List Addr)(hi:items.toList=ads.map Value.ref)(hl2:ads.length=ts.length)(hn:ts.length<=300)(hu:A.in1.in1.in1.units<cLine)(hkey:∀j,j<ts.length->IsTupleKey (intKind prog w) s.heap (ts.getD j []) (ads.getD j 0))
  (h:∀(h':Heap)(tk:Nat)(ks:List (List Int)),E3 w h' s.heap.objs.size ks->ks.length=(uq ts).length->(∀b o,s.heap.get? b=some o->h'.get? b=some o)->Q (.ref s.heap.objs.size) { s with heap:=h',toks:=tk }):wpAny (model prog w) A (call (.type "set") [.ref l]) Q E s:=by
 refine uh hh k hl λhp o St R e W h0 hSf hR=>?_;have lit:items.size=ts.length:=by rw[<-Om,hi,tv,hl2]
 have up:∀{b o'},s.heap.get? b=some o'->hp.get? b=some o':=λe'=>e▸NR _ e';refine CU W _ hSf (λi=>ts.getD i []) (λi=>ads.getD i 0) (λi v hv hin=>?_) ⋯ hu (λj hj=>?_) items.size 0 _ [] ⋯ (Pc _) h0 ⟨_,#[],0,_,[],NR _ (e▸N5 _ rfl),⟨rfl,rfl,rfl⟩,rfl,(show dz 7=true by decide),rfl,rfl,⟨List.Pairwise.nil,rfl,(show 0*5<7*3 by decide)⟩,rfl,by simp,by simp,by simp,λi j z=>by cases z⟩ ⟨Qz,NW _,λx=>Iff.intro (λz=>absurd z (by simp)) λ⟨j,z,_⟩=>absurd z (Nat.not_lt_zero j)⟩ (λj hj=>gy (hkey j ⋯) λo e=>NR _ (up e)) λh' tk' ks' q1 q2 q3=>hR h' tk' (h h' tk' ks' q2.x (En (by rw[<-lit];exact q3)) λb o' e'=>?_)
 ·have q:items.toList[i]?=some v:=by simpa using hv
  rw[hi,Ow]at q;rw[N8];cases e:ads[i]? with
  |none=>rw[e]at q;cases q
  |some x=>rw[e]at q;exact(Ou q).symm
 ·obtain⟨o',it',n',g,_⟩:=hkey j ⋯;refine⟨Og (N2 g),λhm=>?_⟩;simp only[N6]at hm;exact Pf _ (hm▸N2 (up g))
 ·exact q1 b o' (Og (N2 e')) (by simp only[N6];exact Og (N2 (up e'))) (NR _ (up e'))
end
section
variable{X:Cx}{pins:List (Addr×Obj)}{σ:St}{H:Hp}{s:Shared}{a:Addr}{y v:V}{u r:Value}{o:Option V}{A:Around}{E:Value->Shared->Prop}
theorem Inv.big(I:Inv X pins σ H s):sysModules<s.heap.objs.size:=by
 have h:mainGlobals<s.heap.objs.size:=(I.mod.glob.keeps I.bk).lt;exact Nat.lt_trans (by decide) h
end
structure M2(X:Cx)(o:Expr)(m:Str)(apos:Pos)(e f:Expr)(cpos:Pos):Prop where
 base:attributeBase o m X.env (eval o X.env)=eval o X.env
 few:((backTo cpos (starEach [e,f] X.env)).all (λx=>!x.1)&&(backToKw cpos (keywordEach [] X.env)).all (λx=>x.1.isSome)
  && decide (([e,f]:List Expr).length+([]:List Keyword).length+(if([]:List Keyword).isEmpty then 0 else 1)<30))=true
 line:(apos.endLine==cpos.line)=true
 trees:backTo cpos (starEach [e,f] X.env)=[(false,eval e X.env),(false,eval f X.env)]
inductive Vl where
 |d (x:D) |r (n:Nat) |fd (kvs:List (Key×D)) |fn (x:Str) |sc (ns:List Int) |pr (x:D) (n:Nat) |xc (c:Str) (xs:List (Str×D)) |kt (ws:List Str) |xl (es:List (Str×List (Str×D)))
inductive Ob where
 |lst (xs:List D) |dct (kvs:List (Key×D)) |dead
abbrev Sto:=List Ob
inductive R(α:Type)where
 |ok (a:α) (S:Sto) |ex (c:Str) (xs:List (Str×D)) (S:Sto) |bad
def R.bind{α z:Type}(x:R α)(f:α->Sto->R z):R z:=match x with
 | .ok a S=>f a S
 | .ex c xs S=>.ex c xs S
 | .bad=>.bad
abbrev Nv:=List (Option Vl)
abbrev XE:=Nv->Sto->R Vl
abbrev XT:=Nv->Sto->R Bool
abbrev XA:=Nv->Sto->R (List Vl)
abbrev XO:=Nv->Sto->R (Option Int)
inductive Fl where
 |nx |bk |ct |rt (v:Vl)
abbrev XS:=Nv->Sto->R (Fl×Nv)
abbrev XG:=Vl->Nv->Sto->R Nv
abbrev XGs:=List Vl->Nv->Sto->R Nv
abbrev XF:=List Vl->Sto->R Vl
structure Its where
 items:List Vl
 gd:Option (Nat×Ob)
def Its.ok(I:Its)(S:Sto):Prop:=match I.gd with
 |none=>True
 |some (n,o)=>S[n]?=some o
abbrev XI:=Nv->Sto->R Its
def Al(μ:Nat->Addr)(S:Sto)(b:Addr):Prop:=∃n o,S[n]?=some o/\o≠.dead/\μ n=b
open Classical in
noncomputable def vh (μ:Nat->Addr) (S:Sto) (H:Hp):Hp:=λb=>if Al μ S b then none else H b
section
variable{μ μ' μ1 μ2:Nat->Addr}{S S' S1 S2:Sto}{H H' H1 H2:Hp}{b:Addr}{o:HO}
theorem cS(h:H b=some o)(n:¬Al μ S b):vh μ S H b=some o:=by unfold vh;rw[N1 n];exact h
theorem bA(h:vh μ S H b=some o):¬Al μ S b/\H b=some o:=by
 unfold vh at h;split at h
 ·cases h
 ·exact⟨‹_›,h⟩
theorem dj:eD (vh μ S H) H:=λ_ _ h=>(bA h).2
def ObR(μ:Nat->Addr)(S:Sto)(H:Hp)(a:Addr):Ob->Prop
 | .lst ds=>∃vs,H a=some (.lst vs)/\aJ (vh μ S H) vs ds
 | .dct kvs=>∃vs:List V,vs.length=kvs.length/\H a=some (.dK ((kvs.map (·.1)).zip vs))/\aJ (vh μ S H) vs (kvs.map (·.2))
 | .dead=>True
structure HR(μ:Nat->Addr)(S:Sto)(H:Hp):Prop where
 ob:∀n o,S[n]?=some o->ObR μ S H (μ n) o
 inj:∀n m o o',S[n]?=some o->S[m]?=some o'->o≠.dead->o'≠.dead->μ n=μ m->n=m
theorem ObR.some(h:ObR μ S H a ob)(n:ob≠.dead):∃o,H a=Option.some o:=by
 cases ob with
 |lst ds=>obtain⟨vs,e,_⟩:=h;exact⟨_,e⟩
 |dct kvs=>obtain⟨vs,_,e,_⟩:=h;exact⟨_,e⟩
 |dead=>exact absurd rfl n
theorem HR.al(h:HR μ S H)(a:Al μ S b):∃o,H b=some o:=by
 obtain⟨n,ob,e,nd,rfl⟩:=a;exact(h.ob n ob e).some nd
theorem HR.nal(h:HR μ S H)(e:H b=none):¬Al μ S b:=λa=>by
 obtain⟨o,q⟩:=h.al a;rw[e]at q;cases q
theorem ObR.mono(h:ObR μ S H a ob)(e:ob≠.dead->H' a=H a)(k:eD (vh μ S H) (vh μ' S' H')):ObR μ' S' H' a ob:=by
 cases ob with
 |lst ds=>obtain⟨vs,q,r⟩:=h;exact⟨vs,by rw[e (by simp)];exact q,r.mono k⟩
 |dct kvs=>obtain⟨vs,l,q,r⟩:=h;exact⟨vs,l,by rw[e (by simp)];exact q,r.mono k⟩
 |dead=>exact True.intro
structure Step(μ:Nat->Addr)(S:Sto)(H:Hp)(μ':Nat->Addr)(S':Sto)(H':Hp):Prop where
 ag:∀n,n<S.length->μ' n=μ n
 le:S.length<=S'.length
 hr:HR μ' S' H'
 dd:∀n:Nat,S[n]?=some Ob.dead->S'[n]?=some Ob.dead
 nw:∀n o,S.length<=n->S'[n]?=some o->o≠.dead->H (μ' n)=none
 ko:∀b o,H b=some o->¬Al μ S b->H' b=some o
 dm:∀b o,H b=some o->∃o',H' b=some o'
theorem Step.refl(h:HR μ S H):Step μ S H μ S H:=
 ⟨λ_ _=>rfl,NW _,h,λ_ e=>e,λn o l e _=>(by rw[Pb l]at e;cases e),λ_ _ e _=>e,λ_ o e=>⟨o,e⟩⟩
theorem Step.nal(a:Step μ S H μ' S' H')(h:H b=some o)(n:¬Al μ S b):¬Al μ' S' b:=by
 rintro⟨k,ob,e,nd,rfl⟩;by_cases hk:k<S.length
 ·have e0:S[k]?=some S[k]:=NV hk;by_cases hd:S[k]=.dead
  ·rw[hd]at e0;rw[a.dd k e0]at e;cases e;exact nd rfl
  ·exact n ⟨k,_,e0,hd,(a.ag k hk).symm⟩
 ·rw[a.nw k ob ⋯ e nd]at h;cases h
theorem Step.vis(a:Step μ S H μ' S' H'):eD (vh μ S H) (vh μ' S' H'):=λb o h=>by
 obtain⟨n,h⟩:=bA h;exact cS (a.ko b o h n) (a.nal h n)
theorem Step.trans(a:Step μ S H μ1 S1 H1)(b:Step μ1 S1 H1 μ2 S2 H2):Step μ S H μ2 S2 H2 where
 ag:=λn h=>(b.ag n (Oo h a.le)).trans (a.ag n h)
 le:=N7 a.le b.le
 hr:=b.hr
 dd:=λn e=>b.dd n (a.dd n e)
 nw:=λn o l e nd=>by
  by_cases hn:n<S1.length
  ·rw[b.ag n hn];refine a.nw n S1[n] l (NV hn) λz=>?_;have e0:S1[n]?=some S1[n]:=NV hn;rw[z]at e0;rw[b.dd n e0]at e;cases e;exact nd rfl
  ·have q:=b.nw n o ⋯ e nd;cases e2:H (μ2 n)with
   |none=>rfl
   |some u=>
    obtain⟨u',e3⟩:=a.dm _ _ e2;rw[q]at e3;cases e3
 ko:=λc o h n=>b.ko c o (a.ko c o h n) (a.nal h n)
 dm:=λc o h=>by
  obtain⟨o1,e1⟩:=a.dm c o h;exact b.dm c o1 e1
theorem Step.new(h:HR μ S H)(hp:H p=none)(o:HO):Step μ S H μ S (upd H p o):=by
 have k:eD (vh μ S H) (vh μ S (upd H p o)):=λb u q=>by
  obtain⟨n,q⟩:=bA q;exact cS (by rw[bf (bJ q hp)];exact q) n
 refine⟨λ_ _=>rfl,NW _,⟨λn ob e=>?_,h.inj⟩,λ_ e=>e,λn ob l e _=>(by rw[Pb l]at e;cases e),λb u q _=>by rw[bf (bJ q hp)];exact q,λb u q=>⟨u,by rw[bf (bJ q hp)];exact q⟩⟩;refine(h.ob n ob e).mono (λnd=>?_) k;obtain⟨u,q⟩:=(h.ob n ob e).some nd;exact bf (bJ q hp)
def ext(μ:Nat->Addr)(k:Nat)(p:Addr):Nat->Addr:=λn=>if n=k then p else μ n
theorem fB:ext μ k p k=p:=by unfold ext;rw[NT rfl]
theorem oN(h:n≠k):ext μ k p n=μ n:=by unfold ext;rw[N1 h]
def ObL(G:Hp):Ob->HO->Prop
 | .lst ds,o=>∃vs,o=.lst vs/\aJ G vs ds
 | .dct kvs,o=>∃vs:List V,vs.length=kvs.length/\o=.dK ((kvs.map (·.1)).zip vs)/\aJ G vs (kvs.map (·.2))
 | .dead,_=>False
theorem ObL.ne(h:ObL G ob o):ob≠.dead:=by
 rintro rfl;exact h
theorem ObL.at(h:ObL G ob o)(e:H a=some o)(k:eD G (vh μ S H)):ObR μ S H a ob:=by
 cases ob with
 |lst ds=>obtain⟨vs,rfl,r⟩:=h;exact⟨vs,e,r.mono k⟩
 |dct kvs=>obtain⟨vs,l,rfl,r⟩:=h;exact⟨vs,l,e,r.mono k⟩
 |dead=>exact h.elim
theorem Step.alloc(h:HR μ S H)(hp:H p=none)(hl:ObL (vh μ S H) ob o):Step μ S H (ext μ S.length p) (S++[ob]) (upd H p o):=by
 have nd:=hl.ne;have old:∀n u,n<S.length->(S++[ob])[n]?=some u->S[n]?=some u/\ext μ S.length p n=μ n:=λn u hn e=>by
  rw[Oy hn]at e;exact⟨e,oN (Og hn)⟩
 have new:∀n u,S.length<=n->(S++[ob])[n]?=some u->n=S.length/\u=ob:=λn u hn e=>by
  rw[OA hn]at e;have hz:n-S.length=0:=by
   refine Ue λz=>?_;rw[Pb (by simp;omega)]at e;cases e
  rw[hz]at e;exact⟨by omega,by simpa using e.symm⟩
 have nal:∀{b u},H b=some u->¬Al μ S b->¬Al (ext μ S.length p) (S++[ob]) b:=by
  rintro b u q n ⟨k,v,e,d,rfl⟩;by_cases hk:k<S.length
  ·obtain⟨e1,e2⟩:=old k v hk e;exact n ⟨k,v,e1,d,e2.symm⟩
  ·obtain⟨rfl,rfl⟩:=new k v ⋯ e;rw[fB,hp]at q;cases q
 have k:eD (vh μ S H) (vh (ext μ S.length p) (S++[ob]) (upd H p o)):=λb u q=>by
  obtain⟨n,q⟩:=bA q;exact cS (by rw[bf (bJ q hp)];exact q) (nal q n)
 refine⟨λn hn=>oN (Og hn),by simp,⟨λn u e=>?_,λn m u v e1 e2 d1 d2 q=>?_⟩,λn e=>?_,λn u l e _=>?_,λb u q _=>by rw[bf (bJ q hp)];exact q,λb u q=>⟨u,by rw[bf (bJ q hp)];exact q⟩⟩
 ·by_cases hn:n<S.length
  ·obtain⟨e1,e2⟩:=old n u hn e;rw[e2];refine(h.ob n u e1).mono (λnd=>?_) k;obtain⟨x,q⟩:=(h.ob n u e1).some nd;exact bf (bJ q hp)
  ·obtain⟨rfl,rfl⟩:=new n u ⋯ e;rw[fB];exact hl.at cV k
 ·by_cases hn:n<S.length
  ·obtain⟨a1,a2⟩:=old n u hn e1;obtain⟨x,qx⟩:=(h.ob n u a1).some d1;by_cases hm:m<S.length
   ·obtain⟨b1,b2⟩:=old m v hm e2;rw[a2,b2]at q;exact h.inj n m u v a1 b1 d1 d2 q
   ·obtain⟨rfl,rfl⟩:=new m v ⋯ e2;rw[a2,fB]at q;rw[q,hp]at qx;cases qx
  ·obtain⟨rfl,rfl⟩:=new n u ⋯ e1;by_cases hm:m<S.length
   ·obtain⟨b1,b2⟩:=old m v hm e2;obtain⟨x,qx⟩:=(h.ob m v b1).some d2;rw[b2,fB]at q;rw[<-q,hp]at qx;cases qx
   ·exact(new m v ⋯ e2).1.symm
 ·have hn:n<S.length:=by
   refine TB λz=>?_;rw[Pb z]at e;cases e
  rw[Oy hn];exact e
 ·obtain⟨rfl,rfl⟩:=new n u l e;rw[fB];exact hp
theorem iQ(hn:n<S.length)(e:(S.set n ob)[m]?=some u):(m=n/\u=ob)\/(m≠n/\S[m]?=some u):=by
 rw[RX]at e;by_cases q:n=m
 ·subst q;rw[NT rfl,NT hn]at e;exact .inl ⟨rfl,(Ou e).symm⟩
 ·rw[N1 q]at e;exact .inr ⟨λz=>q z.symm,e⟩
theorem Step.put(h:HR μ S H)(e0:S[n]?=some ob0)(d0:ob0≠.dead)(hl:ObL (vh μ S H) ob o):Step μ S H μ (S.set n ob) (upd H (μ n) o):=by
 have nd:=hl.ne;have hn:n<S.length:=(NZ.mp e0).1;have al0:Al μ S (μ n):=⟨n,ob0,e0,d0,rfl⟩;have al:∀{b},Al μ (S.set n ob) b->Al μ S b:=by
  rintro b ⟨m,u,e,d,rfl⟩;rcases iQ hn e with⟨rfl,rfl⟩ |⟨z,q⟩
  ·exact al0
  ·exact⟨m,u,q,d,rfl⟩
 have k:eD (vh μ S H) (vh μ (S.set n ob) (upd H (μ n) o)):=λb u q=>by
  obtain⟨z,q⟩:=bA q;exact cS (by rw[bf (λc=>z (by rw[c];exact al0))];exact q) λc=>z (al c)
 refine⟨λ_ _=>rfl,by rw[Qe];exact NW _,⟨λm u e=>?_,λm m' u v e1 e2 d1 d2 q=>?_⟩,λm e=>?_,λm u l e _=>?_,λb u q z=>by rw[bf (λc=>z (by rw[c];exact al0))];exact q,λb u q=>?_⟩
 ·rcases iQ hn e with⟨rfl,rfl⟩ |⟨z,q⟩
  ·exact hl.at cV k
  ·refine(h.ob m u q).mono (λd=>bf λc=>z (h.inj m n u ob0 q e0 d d0 c)) k
 ·have a1:∃w,S[m]?=some w/\w≠.dead:=by
   rcases iQ hn e1 with⟨rfl,rfl⟩ |⟨z,q⟩
   ·exact⟨ob0,e0,d0⟩
   ·exact⟨u,q,d1⟩
  have a2:∃w,S[m']?=some w/\w≠.dead:=by
   rcases iQ hn e2 with⟨rfl,rfl⟩ |⟨z,q⟩
   ·exact⟨ob0,e0,d0⟩
   ·exact⟨v,q,d2⟩
  obtain⟨w1,x1,y1⟩:=a1;obtain⟨w2,x2,y2⟩:=a2;exact h.inj m m' w1 w2 x1 x2 y1 y2 q
 ·rw[Qr]
  ·exact e
  ·rintro rfl;rw[e0]at e;cases e;exact d0 rfl
 ·rw[Pb (by rw[Qe];exact l)]at e;cases e
 ·by_cases z:b=μ n
  ·subst z;exact⟨o,cV⟩
  ·exact⟨u,by rw[bf z];exact q⟩
theorem Step.freeze(h:HR μ S H)(e0:S[n]?=some ob)(d0:ob≠.dead):Step μ S H μ (S.set n .dead) H/\¬Al μ (S.set n .dead) (μ n):=by
 have hn:n<S.length:=(NZ.mp e0).1;have al:∀{b},Al μ (S.set n .dead) b->Al μ S b:=by
  rintro b ⟨m,u,e,d,rfl⟩;rcases iQ hn e with⟨rfl,rfl⟩ |⟨z,q⟩
  ·exact absurd rfl d
  ·exact⟨m,u,q,d,rfl⟩
 have k:eD (vh μ S H) (vh μ (S.set n .dead) H):=λb u q=>by
  obtain⟨z,q⟩:=bA q;exact cS q λc=>z (al c)
 have inn:∀m u,(S.set n .dead)[m]?=some u->u≠.dead->S[m]?=some u/\m≠n:=λm u e d=>by
  rcases iQ hn e with⟨rfl,rfl⟩ |⟨z,q⟩
  ·exact absurd rfl d
  ·exact⟨q,z⟩
 refine⟨⟨λ_ _=>rfl,by rw[Qe];exact NW _,⟨λm u e=>?_,λm m' u v e1 e2 d1 d2 q=>h.inj m m' u v (inn m u e1 d1).1 (inn m' v e2 d2).1 d1 d2 q⟩,λm e=>?_,λm u l e _=>?_,λb u q z=>q,λb u q=>⟨u,q⟩⟩,?_⟩
 ·by_cases d:u=.dead
  ·subst d;exact True.intro
  ·exact(h.ob m u (inn m u e d).1).mono (λ_=>rfl) k
 ·by_cases z:m=n
  ·subst z;rw[RX,NT rfl,NT hn]
  ·rw[Qr (λc=>z c.symm)];exact e
 ·rw[Pb (by rw[Qe];exact l)]at e;cases e
 ·rintro⟨m,u,e,d,q⟩;obtain⟨e1,z⟩:=inn m u e d;exact z (h.inj m n u ob e1 e0 d d0 q)
theorem Step.EF(h:HR μ S H)(o':HO)(e0:S[n]?=some ob)(d0:ob≠.dead):Step μ S H μ (S.set n .dead) (upd H (μ n) o')/\¬Al μ (S.set n .dead) (μ n):=by
 have hn:n<S.length:=(NZ.mp e0).1;have al0:Al μ S (μ n):=⟨n,ob,e0,d0,rfl⟩;obtain⟨st,na⟩:=Step.freeze h e0 d0;have k:eD (vh μ S H) (vh μ (S.set n .dead) (upd H (μ n) o')):=λb u q=>by
  obtain⟨z,q'⟩:=bA q;exact cS (by rw[bf (λc=>z (by rw[c];exact al0))];exact q') (bA (st.vis b u q)).1
 refine⟨⟨st.ag,st.le,⟨λm u e=>?_,st.hr.inj⟩,st.dd,λm u l e d=>st.nw m u l e d,λb u q z=>by rw[bf (λc=>z (by rw[c];exact al0))];exact q,λb u q=>?_⟩,na⟩
 ·rcases iQ hn e with⟨rfl,rfl⟩ |⟨z,q⟩
  ·exact True.intro
  ·by_cases d:u=.dead
   ·subst d;exact True.intro
   ·exact(h.ob m u q).mono (λ_=>bf λc=>z (h.inj m n u ob q e0 d d0 c)) k
 ·by_cases z:b=μ n
  ·subst z;exact⟨o',cV⟩
  ·exact⟨u,by rw[bf z];exact q⟩
theorem fi(e:(S.take k)[n]?=some u):n<k/\S[n]?=some u:=by
 rw[QU]at e;split at e
 ·exact⟨‹_›,e⟩
 ·cases e
theorem Step.take(a:Step μ S H μ' S' H'):Step μ S H μ' (S'.take S.length) H':=by
 have al:∀{b},Al μ' (S'.take S.length) b->Al μ' S' b:=by
  rintro b ⟨m,u,e,d,rfl⟩;exact⟨m,u,(fi e).2,d,rfl⟩
 have k:eD (vh μ' S' H') (vh μ' (S'.take S.length) H'):=λb u q=>by
  obtain⟨z,q⟩:=bA q;exact cS q λc=>z (al c)
 refine⟨a.ag,by rw[OL];have:=a.le;omega,⟨λm u e=>(a.hr.ob m u (fi e).2).mono (λ_=>rfl) k,λm m' u v e1 e2=>a.hr.inj m m' u v (fi e1).2 (fi e2).2⟩,λn e=>?_,λn u l e _=>?_,a.ko,a.dm⟩
 ·have hn:n<S.length:=(NZ.mp e).1;rw[QU,NT hn];exact a.dd n e
 ·have:=(fi e).1;omega
theorem Step.move(a:Step μ S H μ' S' H')(hn:S.length<=n)(e0:S'[n]?=some ob)(d0:ob≠.dead):Step μ S H (ext μ' S.length (μ' n)) (S'.take S.length++[ob]) H':=by
 have lt:(S'.take S.length).length=S.length:=by rw[OL];have:=a.le;omega
 have get:∀m u,(S'.take S.length++[ob])[m]?=some u->∃j,S'[j]?=some u/\ext μ' S.length (μ' n) m=μ' j/\((m<S.length/\j=m)\/(m=S.length/\j=n)):=λm u e=>by
  by_cases hm:m<S.length
  ·rw[Oy ⋯]at e;exact⟨m,(fi e).2,oN (Og hm),.inl ⟨hm,rfl⟩⟩
  ·rw[OA ⋯]at e;have hz:m-(S'.take S.length).length=0:=by
    refine Ue λz=>?_;rw[Pb (by simp;omega)]at e;cases e
   rw[hz]at e;have hm':m=S.length:=by omega
   subst hm';obtain rfl:ob=u:=by simpa using e
   exact⟨n,e0,fB,.inr ⟨rfl,rfl⟩⟩
 have al:∀{b},Al (ext μ' S.length (μ' n)) (S'.take S.length++[ob]) b->Al μ' S' b:=by
  rintro b ⟨m,u,e,d,rfl⟩;obtain⟨j,q,z,_⟩:=get m u e;exact⟨j,u,q,d,z.symm⟩
 have k:eD (vh μ' S' H') (vh (ext μ' S.length (μ' n)) (S'.take S.length++[ob]) H'):=λb u q=>by
  obtain⟨z,q⟩:=bA q;exact cS q λc=>z (al c)
 refine⟨λm hm=>(oN (Og hm)).trans (a.ag m hm),by rw[ON,lt];simp,⟨λm u e=>?_,λm m' u v e1 e2 d1 d2 q=>?_⟩,λm e=>?_,λm u l e d=>?_,a.ko,a.dm⟩
 ·obtain⟨j,q,z,_⟩:=get m u e;rw[z];exact(a.hr.ob j u q).mono (λ_=>rfl) k
 ·obtain⟨j,q1,z1,w1⟩:=get m u e1;obtain⟨j',q2,z2,w2⟩:=get m' v e2;rw[z1,z2]at q;have:=a.hr.inj j j' u v q1 q2 d1 d2 q;omega
 ·have hm:m<S.length:=(NZ.mp e).1;rw[Oy ⋯,QU,NT hm];exact a.dd m e
 ·obtain⟨j,q,z,w⟩:=get m u e;rw[z];have hj:S.length<=j:=by omega
  exact a.nw j u hj q d
end
section
variable(K:NO)(mg:Str->Option Value)
def pE(K:NO)(a:Addr)(ws:List Str):Prop:=∃(o:Obj)(its:Array Value)(n:Nat),K.lookup a=some o/\o.cls=.type "tuple"/\o.data=.seq its n/\its.size<=sizeLine/\Vals (ws.map V.str) its.toList
def excAt(a C:Addr)(od:Option Addr)(h:Heap):Prop:=∃o,h.get? a=some o/\o.cls=.ref C/\(∀d,od=some d->o.dict=some d)/\∃vs,o.data=.fields vs
def vX(G:Hp)(a C:Addr)(xs:List (Str×D)):Prop:=∃od,G a=some (.ext (excAt a C od))/\(xs≠[]->∃(dx:Addr)(vs:List V),od=some dx/\vs.length=xs.length/\G dx=some (.xd ((xs.map (·.1)).zip vs))/\aJ G vs (xs.map (·.2)))
theorem vX.mono(k:eD G G')(h:vX G a C xs):vX G' a C xs:=by
 obtain⟨od,e,h⟩:=h;refine⟨od,k _ _ e,λn=>?_⟩;obtain⟨dx,vs,q1,q2,q3,q4⟩:=h n;exact⟨dx,vs,q1,q2,k _ _ q3,q4.mono k⟩
inductive pY(G:Hp):List V->List (Str×List (Str×D))->Prop
 |nil:pY G [] []
 |cons {a C:Addr} {c:Str} {xs:List (Str×D)} {vs:List V} {es:List (Str×List (Str×D))}:mg c=some (.ref C)->vX G a C xs->pY G vs es->pY G (.ref a::vs) ((c,xs)::es)
def bu(μ:Nat->Addr)(S:Sto)(H:Hp)(v:V):Vl->Prop
 | .d x=>Rep (vh μ S H) v x
 | .r n=>v=.ref (μ n)/\n<S.length
 | .fd kvs=>∃(a:Addr)(vs:List V)(o:Obj),v=.ref a/\vs.length=kvs.length/\vh μ S H a=some (.frz o (.dK ((kvs.map (·.1)).zip vs)))/\aJ (vh μ S H) vs (kvs.map (·.2))
 | .fn x=>∃f:Addr,mg x=some (.ref f)/\v=.ref f
 | .sc ns=>∃l:Addr,v=.ref l/\SqL K (vh μ S H) l (ns.map V.int)
 | .pr x n=>∃(a:Addr)(u:V),v=.ref a/\vh μ S H a=some (.tup [u,.ref (μ n)])/\Rep (vh μ S H) u x/\n<S.length
 | .xc c xs=>∃(a C:Addr),v=.ref a/\mg c=some (.ref C)/\vX (vh μ S H) a C xs
 | .kt ws=>∃a:Addr,v=.ref a/\pE K a ws
 | .xl es=>∃(l:Addr)(vs:List V),v=.ref l/\vh μ S H l=some (.lst vs)/\pY mg (vh μ S H) vs es
inductive cn(μ:Nat->Addr)(S:Sto)(H:Hp):List V->List Vl->Prop
 |nil:cn μ S H [] []
 |cons {v:V} {x:Vl} {vs:List V} {xs:List Vl}:bu K mg μ S H v x->cn μ S H vs xs->cn μ S H (v::vs) (x::xs)
structure c_(μ:Nat->Addr)(S:Sto)(H:Hp)(σ:St)(τ:Nv):Prop where
 len:σ.length=τ.length
 get:∀(i:Nat)(x:Vl),τ[i]?=some (some x)->∃v,σ[i]?=some (some v)/\bu K mg μ S H v x
end
section
variable{K:NO}{mg:Str->Option Value}{μ μ':Nat->Addr}{S S':Sto}{H H':Hp}
theorem SqL.mono(k:eD H H')(h:SqL K H l xs):SqL K H' l xs:=by
 rcases h with(h |⟨o,h⟩) |h
 ·exact .inl (.inl (k _ _ h))
 ·exact .inl (.inr ⟨o,k _ _ h⟩)
 ·exact .inr h
theorem pY.mono(k:eD H H'):∀{vs es},pY mg H vs es->pY mg H' vs es
 |_,_,.nil=>.nil
 |_,_,.cons a b c=>.cons a (b.mono k) (pY.mono k c)
theorem bu.step(a:Step μ S H μ' S' H')(h:bu K mg μ S H v x):bu K mg μ' S' H' v x:=by
 cases x with
 |d x=>exact Rep.mono a.vis h
 |r n=>obtain⟨rfl,hn⟩:=h;exact⟨by rw[a.ag n hn],Oo hn a.le⟩
 |fd kvs=>obtain⟨p,vs,o,e,l,q,r⟩:=h;exact⟨p,vs,o,e,l,a.vis _ _ q,r.mono a.vis⟩
 |pr x n=>obtain⟨p,u,e,q,r,hn⟩:=h;exact⟨p,u,e,by rw[a.ag n hn];exact a.vis _ _ q,Rep.mono a.vis r,Oo hn a.le⟩
 |fn x=>exact h
 |sc ns=>obtain⟨l,e,q⟩:=h;exact⟨l,e,q.mono a.vis⟩
 |xc c xs=>obtain⟨p,C,e,m,q⟩:=h;exact⟨p,C,e,m,q.mono a.vis⟩
 |kt ws=>exact h
 |xl es=>obtain⟨l,vs,e,q,r⟩:=h;exact⟨l,vs,e,a.vis _ _ q,r.mono a.vis⟩
theorem cn.step(a:Step μ S H μ' S' H'):∀{vs:List V}{xs:List Vl},cn K mg μ S H vs xs->cn K mg μ' S' H' vs xs
 |_,_,.nil=>.nil
 |_,_,.cons r t=>.cons (r.step a) (cn.step a t)
theorem cn.length:∀{vs:List V}{xs:List Vl},cn K mg μ S H vs xs->vs.length=xs.length
 |_,_,.nil=>rfl
 |_,_,.cons _ t=>by simp[cn.length t]
theorem cn.get:∀{vs:List V}{xs:List Vl}{i:Nat}{x:Vl},cn K mg μ S H vs xs->xs[i]?=some x->∃v,vs[i]?=some v/\bu K mg μ S H v x
 |_,_,_,_,.nil,e=>by simp at e
 |_,_,0,_,.cons r _,e=>by simp at e;subst e;exact⟨_,rfl,r⟩
 |_,_,i+1,x,.cons _ t,e=>by
  obtain⟨d,h1,h2⟩:=cn.get (i:=i) (x:=x) t (by simpa using e);exact⟨d,by simpa using h1,h2⟩
theorem cn.yK:∀{vs:List V}{ds:List D},aJ (vh μ S H) vs ds->cn K mg μ S H vs (ds.map Vl.d)
 |_,_,.nil=>.nil
 |_,_,.cons r t=>.cons (show bu K mg μ S H _ (.d _)from r) (cn.yK t)
theorem c_.step(a:Step μ S H μ' S' H')(h:c_ K mg μ S H σ τ):c_ K mg μ' S' H' σ τ:=
 ⟨h.len,λi x e=>by obtain⟨v,e1,r⟩:=h.get i x e;exact⟨v,e1,r.step a⟩⟩
theorem c_.set(i:Nat)(h:c_ K mg μ S H σ τ)(r:bu K mg μ S H v x):c_ K mg μ S H (σ.set i (some v)) (τ.set i (some x)):=by
 refine⟨by rw[Qe,Qe];exact h.len,λj y e=>?_⟩;rw[RX]at e ⊢;by_cases q:i=j
 ·subst q;rw[NT rfl]at e ⊢;by_cases hl:i<τ.length
  ·rw[NT hl]at e;cases e;exact⟨v,by rw[NT (by rw[h.len];exact hl)],r⟩
  ·rw[N1 hl]at e;cases e
 ·rw[N1 q]at e ⊢;exact h.get j y e
theorem c_.pre(k:Nat)(h:c_ K mg μ S H σ τ):c_ K mg μ S H (N_ k none++σ) (N_ k none++τ):=by
 refine⟨by simp[h.len],λi x e=>?_⟩;by_cases hi:i<k
 ·rw[Oy (by simpa using hi),Pu,NT hi]at e;cases e
 ·rw[OA (by simpa using hi)]at e ⊢;simpa using h.get (i-k) x (by simpa using e)
theorem c_.beg(h:cn K mg μ S H vs us):c_ K mg μ S H (L2.start N vs) (us.map some++N_ (N.length-us.length) none):=by
 have l:=h.length;refine⟨by simp[L2.start,l],λi x e=>?_⟩;unfold L2.start;by_cases hi:i<us.length
 ·rw[Oy (by simpa using hi),Ow]at e;cases q:us[i]? with
  |none=>rw[q]at e;cases e
  |some y=>
   rw[q]at e;cases e;obtain⟨v,e1,r⟩:=h.get q;exact⟨v,by rw[Oy (by simp;omega),Ow,e1];rfl,r⟩
 ·rw[OA (by simpa using hi),Pu]at e;split at e<;>cases e
end
abbrev WX:=Str->List (Str×D)->Sto->(Nat->Addr)->Hp->Prop
abbrev W0:WX:=λ_ _ _ _ _=>False
def bg{α z:Type}(Rl:(Nat->Addr)->Sto->Hp->z->α->Prop)(WE:WX)(μ:Nat->Addr)(S:Sto)(H:Hp)(res:R α)(Q:z->Hp->Prop):Prop:=match res with
 | .ok a S'=>∀b μ' H',Step μ S H μ' S' H'->Rl μ' S' H' b a->Q b H'
 | .ex c xs S'=>∀μ' H',Step μ S H μ' S' H'->WE c xs S' μ' H'
 | .bad=>False
section
variable{α z m y:Type}{Rl:(Nat->Addr)->Sto->Hp->z->α->Prop}{Rl2:(Nat->Addr)->Sto->Hp->y->m->Prop}{WE:WX}{μ μ1:Nat->Addr}{S S1:Sto}{H H1:Hp}{res:R α}{Q:z->Hp->Prop}{Q2:y->Hp->Prop}
theorem bg.shift(h:bg Rl WE μ S H res Q)(a:Step μ S H μ1 S1 H1):bg Rl WE μ1 S1 H1 res Q:=by
 cases res with
 |ok x S'=>exactλb μ' H' st r=>h b μ' H' (a.trans st) r
 |ex c xs S'=>exactλμ' H' st=>h μ' H' (a.trans st)
 |bad=>exact h
theorem bg.bind(h:bg Rl2 WE μ S H (res.bind f) Q2)(k:∀b a S1 μ1 H1,Step μ S H μ1 S1 H1->Rl μ1 S1 H1 b a->bg Rl2 WE μ1 S1 H1 (f a S1) Q2->Q b H1):bg Rl WE μ S H res Q:=by
 cases res with
 |ok x S'=>exactλb μ' H' st r=>k b x S' μ' H' st r (bg.shift (show bg Rl2 WE μ S H (f x S') Q2 from h) st)
 |ex c xs S'=>exact h
 |bad=>exact h
theorem bg.here(hr:HR μ S H)(h:bg Rl WE μ S H (.ok a S) Q)(r:Rl μ S H b a):Q b H:=h b μ H (Step.refl hr) r
theorem bg.imp(h:bg Rl WE μ S H res Q)(k:∀b H',Q b H'->Q' b H'):bg Rl WE μ S H res Q':=by
 cases res with
 |ok x S'=>exactλb μ' H' st r=>k _ _ (h b μ' H' st r)
 |ex c xs S'=>exact h
 |bad=>exact h
end
inductive FlV where
 |nx |bk |ct |rt (v:V)
def Ends.at(D:Ends)(p:FlV×St)(H:Hp):Prop:=match p.1 with
 | .nx=>D.nx p.2 H
 | .bk=>D.bk p.2 H
 | .ct=>D.ct p.2 H
 | .rt v=>D.rt v H
section
variable(K:NO)(mg:Str->Option Value)
def FlR(μ:Nat->Addr)(S:Sto)(H:Hp):FlV->Fl->Prop
 | .nx,.nx=>True
 | .bk,.bk=>True
 | .ct,.ct=>True
 | .rt v,.rt z=>bu K mg μ S H v z
 |_,_=>False
def RlS(μ:Nat->Addr)(S:Sto)(H:Hp)(p:FlV×St)(q:Fl×Nv):Prop:=c_ K mg μ S H p.2 q.2/\FlR K mg μ S H p.1 q.1
abbrev RlQ{α:Type}(_:Nat->Addr)(_:Sto)(_:Hp)(b a:α):Prop:=b=a
structure ig(μ:Nat->Addr)(S:Sto)(H:Hp)(J:It)(I:Its):Prop where
 ok:I.ok S
 len:I.items.length<=sizeLine
 go:∀i z μ' S' H',Step μ S H μ' S' H'->I.ok S'->I.items[i]?=some z->J.go i H'
 yld:∀i z μ' S' H' x H2,Step μ S H μ' S' H'->I.ok S'->I.items[i]?=some z->J.yld i H' x H2->Step μ' S' H' μ' S' H2/\bu K mg μ' S' H2 x z
 stop:∀i μ' S' H',Step μ S H μ' S' H'->I.ok S'->I.items.length=i->J.stop i H'
def trE(WE:WX)(m:XE):TE:=λσ H Q=>∃μ S τ,HR μ S H/\c_ K mg μ S H σ τ/\bg (bu K mg) WE μ S H (m τ S) Q
def trT(WE:WX)(m:XT):TT:=λσ H Q=>∃μ S τ,HR μ S H/\c_ K mg μ S H σ τ/\bg RlQ WE μ S H (m τ S) Q
def trA(WE:WX)(m:XA):TA:=λσ H Q=>∃μ S τ,HR μ S H/\c_ K mg μ S H σ τ/\bg (cn K mg) WE μ S H (m τ S) Q
def trO(WE:WX)(m:XO):TO:=λσ H Q=>∃μ S τ,HR μ S H/\c_ K mg μ S H σ τ/\bg RlQ WE μ S H (m τ S) Q
def trS(WE:WX)(m:XS):TS:=λD σ H=>∃μ S τ,HR μ S H/\c_ K mg μ S H σ τ/\bg (RlS K mg) WE μ S H (m τ S) D.at
def trG(WE:WX)(g:XG):TG:=λv σ H Q=>∃μ S τ z,HR μ S H/\c_ K mg μ S H σ τ/\bu K mg μ S H v z/\bg (c_ K mg) WE μ S H (g z τ S) Q
def Nx(WE:WX)(g:XGs):TGs:=λvs σ H Q=>∃μ S τ zs,HR μ S H/\c_ K mg μ S H σ τ/\cn K mg μ S H vs zs/\bg (c_ K mg) WE μ S H (g zs τ S) Q
def trI(WE:WX)(it:XI):TI:=λσ H Rr=>∃μ S τ,HR μ S H/\c_ K mg μ S H σ τ/\bg (ig K mg) WE μ S H (it τ S) Rr
end
structure RE(X:Cx)(WE:WX)(e:Expr)(m:XE):Prop where
 h:PE X e (trE X.K X.mg WE m)
structure RT(X:Cx)(WE:WX)(e:Expr)(m:XT):Prop where
 h:PT X e (trT X.K X.mg WE m)
structure RW(X:Cx)(WE:WX)(e:Expr)(m:XT):Prop where
 h:PW X e (trT X.K X.mg WE m)
structure RA(X:Cx)(WE:WX)(es:List Expr)(m:XA):Prop where
 h:PA X es (trA X.K X.mg WE m)
structure RO(X:Cx)(WE:WX)(e:Option Expr)(m:XO):Prop where
 h:PO X e (trO X.K X.mg WE m)
structure RS(X:Cx)(WE:WX)(s:Stmt)(m:XS):Prop where
 h:PS X s (trS X.K X.mg WE m)
structure RB(X:Cx)(WE:WX)(s:List Stmt)(m:XS):Prop where
 h:PSs X s (trS X.K X.mg WE m)
structure RG(X:Cx)(WE:WX)(t:Expr)(g:XG):Prop where
 h:PG X t (trG X.K X.mg WE g)
structure RGs(X:Cx)(WE:WX)(ts:List Expr)(g:XGs):Prop where
 h:PGs X ts (Nx X.K X.mg WE g)
structure RI(X:Cx)(WE:WX)(tg iter:Expr)(it:XI):Prop where
 h:PI X tg iter (trI X.K X.mg WE it)
structure RTs(X:Cx)(WE:WX)(ifs:List Expr)(m:XT):Prop where
 h:PTs X ifs (trT X.K X.mg WE m)
section
variable{X:Cx}
theorem PE.weak(h:PE X e t)(k:∀σ H Q,t' σ H Q->t σ H Q):PE X e t':=λpins s σ H Q I q=>h pins s σ H Q I (k σ H Q q)
theorem PT.weak(h:PT X e t)(k:∀σ H Q,t' σ H Q->t σ H Q):PT X e t':=λpins s σ H Q I q=>h pins s σ H Q I (k σ H Q q)
theorem PW.weak(h:PW X e t)(k:∀σ H Q,t' σ H Q->t σ H Q):PW X e t':=λwh pins s σ H Q I q=>h wh pins s σ H Q I (k σ H Q q)
theorem PA.weak(h:PA X e t)(k:∀σ H Q,t' σ H Q->t σ H Q):PA X e t':=λpo pins s σ H Q I q=>h po pins s σ H Q I (k σ H Q q)
theorem PS.weak(h:PS X e t)(k:∀D σ H,t' D σ H->t D σ H):PS X e t':=λpins s σ H D I q=>h pins s σ H D I (k D σ H q)
theorem PSs.weak(h:PSs X e t)(k:∀D σ H,t' D σ H->t D σ H):PSs X e t':=λpins s σ H D I q=>h pins s σ H D I (k D σ H q)
theorem PG.weak(h:PG X e t)(k:∀v σ H Q,t' v σ H Q->t v σ H Q):PG X e t':=λpins s σ H v u Q I r q=>h pins s σ H v u Q I r (k v σ H Q q)
theorem PGs.weak(h:PGs X e t)(k:∀v σ H Q,t' v σ H Q->t v σ H Q):PGs X e t':=λpins s σ H v u Q I r q=>h pins s σ H v u Q I r (k v σ H Q q)
theorem PI.weak(h:PI X tg e t)(k:∀σ H Q,t' σ H Q->t σ H Q):PI X tg e t':=λpins s σ H Q I q=>h pins s σ H Q I (k σ H Q q)
end
def cQ(K:NO)(mg:Str->Option Value)(r:R2)(f:Vl->Vl->Sto->R Vl):Prop:=∀(WE:WX)(μ:Nat->Addr)(S:Sto)(H:Hp)(v w:V)(x y:Vl)(Q:VK),HR μ S H->bu K mg μ S H v x->bu K mg μ S H w y->bg (bu K mg) WE μ S H (f x y S) Q->r v w H Q
def Ko(K:NO)(mg:Str->Option Value)(r:V->Hp->VK->Prop)(f:Vl->Sto->R Vl):Prop:=∀(WE:WX)(μ:Nat->Addr)(S:Sto)(H:Hp)(v:V)(x:Vl)(Q:VK),HR μ S H->bu K mg μ S H v x->bg (bu K mg) WE μ S H (f x S) Q->r v H Q
def il(K:NO)(mg:Str->Option Value)(r:List V->Hp->VK->Prop)(f:List Vl->Sto->R Vl):Prop:=∀(WE:WX)(μ:Nat->Addr)(S:Sto)(H:Hp)(vs:List V)(xs:List Vl)(Q:VK),HR μ S H->cn K mg μ S H vs xs->bg (bu K mg) WE μ S H (f xs S) Q->r vs H Q
def ae(i:Nat):XE:=λτ S=>match τ[i]? with
 |some (some v)=>.ok v S
 |_=>.bad
def xC(d:D):XE:=λ_ S=>.ok (.d d) S
def xOp(f:Vl->Vl->Sto->R Vl)(a b:XE):XE:=λτ S=>(a τ S).bind λx S1=>(b τ S1).bind λy S2=>f x y S2
def xUn(f:Vl->Sto->R Vl)(a:XE):XE:=λτ S=>(a τ S).bind λx S1=>f x S1
def ft(f f':Vl->Vl->Sto->R Vl)(a b c:XE):XE:=λτ S=>(a τ S).bind λx S1=>(b τ S1).bind λy S2=>(f x y S2).bind λz S3=>match z with
 | .d (.bl k)=>if k=true then(c τ S3).bind λw S4=>f' y w S4 else .ok (.d (.bl false)) S3
 |_=>.bad
def asB(z:Vl)(S:Sto):R Bool:=match z with
 | .d (.bl b)=>.ok b S
 |_=>.bad
def aE(a:XE):XT:=λτ S=>(a τ S).bind asB
def tru(z:Vl)(S:Sto):R Bool:=match z with
 | .d .non=>.ok false S
 | .d (.bl b)=>.ok b S
 | .d (.int i)=>.ok (i != 0) S
 | .d (.tup xs)=>.ok (!xs.isEmpty) S
 | .d (.lst xs)=>.ok (!xs.isEmpty) S
 | .r n=>match S[n]? with
  |some (.lst xs)=>.ok (!xs.isEmpty) S
  |some (.dct kvs)=>.ok (!kvs.isEmpty) S
  |_=>.bad
 |_=>.bad
def bN(a:XE):XT:=λτ S=>(a τ S).bind tru
def xOr(a b:XT):XT:=λτ S=>(a τ S).bind λc S1=>if c=true then .ok true S1 else b τ S1
def bV(a:XT):XT:=λτ S=>(a τ S).bind λc S1=>.ok (!c) S1
def bT(a b:XE):XE:=λτ S=>(a τ S).bind λx S1=>(asB x S1).bind λc S2=>if c=true then b τ S2 else .ok (.d (.bl false)) S2
def rC(a b:XE):XE:=λτ S=>(a τ S).bind λx S1=>(asB x S1).bind λc S2=>if c=true then .ok (.d (.bl true)) S2 else b τ S2
def sA(a:XE):XE:=λτ S=>(a τ S).bind λx S1=>(asB x S1).bind λc S2=>.ok (.d (.bl (!c))) S2
def ik(c:XT)(a b:XE):XE:=λτ S=>(c τ S).bind λk S1=>if k=true then a τ S1 else b τ S1
def aj:XA:=λ_ S=>.ok [] S
def aa(a:XE)(r:XA):XA:=λτ S=>(a τ S).bind λx S1=>(r τ S1).bind λxs S2=>.ok (x::xs) S2
def ll:List Vl->Option (List D)
 | []=>some []
 | .d x::r=>(ll r).map (x::·)
 |_=>none
def mkT(xs:List Vl)(S:Sto):R Vl:=match ll xs with
 |some ds=>if ds.length<=100000 then .ok (.d (.tup ds)) S else .bad
 |none=>.bad
def mkL(xs:List Vl)(S:Sto):R Vl:=match ll xs with
 |some ds=>if ds.length<=100000 then .ok (.d (.lst ds)) S else .bad
 |none=>.bad
def mkM(xs:List Vl)(S:Sto):R Vl:=match ll xs with
 |some ds=>if ds.length<=100000 then .ok (.r S.length) (S++[.lst ds])else .bad
 |none=>.bad
def xN(f:List Vl->Sto->R Vl)(as:XA):XE:=λτ S=>(as τ S).bind f
def frz(z:Vl)(S:Sto):R Vl:=match z with
 | .r n=>match S[n]? with
  |some (.lst xs)=>.ok (.d (.lst xs)) (S.set n .dead)
  |some (.dct kvs)=>.ok (.fd kvs) (S.set n .dead)
  |_=>.bad
 |z=>.ok z S
def xFz(a:XE):XE:=λτ S=>(a τ S).bind frz
def bO:XO:=λ_ S=>.ok none S
def cp(a:XE):XO:=λτ S=>(a τ S).bind λx S1=>match x with
 | .d (.int i)=>.ok (some i) S1
 |_=>.bad
def xSl(f:Vl->Option Int->Option Int->Sto->R Vl)(a:XE)(l h:XO):XE:=λτ S=>(a τ S).bind λx S1=>(l τ S1).bind λi S2=>(h τ S2).bind λj S3=>f x i j S3
section
variable{X:Cx}{WE:WX}{a b c e:Expr}{xa xb xc xe:XE}{pos:Pos}{es:List Expr}{t u:XT}
theorem rv(i:Nat)(hN:X.N[i]?=some x:=by rfl)(hv:Vis X.env.scope x:=by first |exact Or.inl rfl |exact Or.inr (Or.inl rfl) |exact Or.inr (Or.inr rfl))(hd:(x==("__debug__":Str))=false:=by decide)
  (hcd:(x==("__classdict__":Str))=false:=by decide):RE X WE (.Name x pos) (ae i):=⟨(HU hN hv hd hcd).weak λσ H Q ⟨μ,S,τ,hr,sr,p⟩=>by
 unfold ae at p;split at p
 ·obtain⟨v,e1,r⟩:=sr.get _ _ ‹_›;exact⟨v,e1,p.here hr r⟩
 ·exact p.elim⟩
theorem ai{i j}:RE X WE (.Constant (.int i) j pos) (xC (.int i)):=⟨J3.weak λ_ _ _ ⟨_,_,_,hr,_,p⟩=>p.here hr (Rep.int i)⟩
theorem cz{i j}:RE X WE (.Constant (.bool i) j pos) (xC (.bl i)):=⟨Lc.weak λ_ _ _ ⟨_,_,_,hr,_,p⟩=>p.here hr (Rep.bl i)⟩
theorem gB{j}:RE X WE (.Constant .none j pos) (xC .non):=⟨JV.weak λ_ _ _ ⟨_,_,_,hr,_,p⟩=>p.here hr Rep.non⟩
theorem av{x j}:RE X WE (.Constant (.str x) j pos) (xC (.str x)):=⟨IK.weak λ_ _ _ ⟨_,_,_,hr,_,p⟩=>p.here hr (Rep.str x)⟩
theorem two(hf:cQ X.K X.mg r f)(h:trE X.K X.mg WE (xOp f xa xb) σ H Q):tOp r (trE X.K X.mg WE xa) (trE X.K X.mg WE xb) σ H Q:=by
 obtain⟨μ,S,τ,hr,sr,p⟩:=h;refine⟨μ,S,τ,hr,sr,p.bind λv x S1 μ1 H1 st1 r1 p1=>?_⟩;refine⟨μ1,S1,τ,st1.hr,sr.step st1,p1.bind λw y S2 μ2 H2 st2 r2 p2=>?_⟩;exact hf WE μ2 S2 H2 v w x y Q st2.hr (r1.step st2) r2 p2
theorem aB(ho:OpR X (binaryOp op) r)(hf:cQ X.K X.mg r f)(ha:RE X WE a xa)(hb:RE X WE b xb):RE X WE (.BinOp a op b pos) (xOp f xa xb):=
 ⟨(La ho ha.h hb.h).weak λ_ _ _ h=>two hf h⟩
theorem fh(ho:UnR X (unaryOp op) r)(hf:Ko X.K X.mg r f)(ha:RE X WE a xa):RE X WE (.UnaryOp op a pos) (xUn f xa):=
 ⟨(MR ho ha.h).weak λσ H Q ⟨μ,S,τ,hr,sr,p⟩=>⟨μ,S,τ,hr,sr,p.bind λv x S1 μ1 H1 st1 r1 p1=>hf WE μ1 S1 H1 v x Q st1.hr r1 p1⟩⟩
theorem cj(ho:OpR X (compareOp op) r)(hf:cQ X.K X.mg r f)(ha:RE X WE a xa)(hb:RE X WE b xb)(hm:behindInMarks op b=false:=by first |exact A3 _ |with_unfolding_all rfl):RE X WE (.Compare a [op] [b] pos) (xOp f xa xb):=
 ⟨(Gp ho ha.h hb.h hm).weak λ_ _ _ h=>two hf h⟩
theorem tq(h:trT X.K X.mg WE (aE xa) σ H Q):trE X.K X.mg WE xa σ H λv H'=>∃k,v=.bl k/\Q k H':=by
 obtain⟨μ,S,τ,hr,sr,p⟩:=h;refine⟨μ,S,τ,hr,sr,p.bind λv x S1 μ1 H1 st1 r1 p1=>?_⟩;unfold asB at p1;split at p1
 ·cases(show Rep (vh μ1 S1 H1) v (.bl _)from r1);exact⟨_,rfl,p1.here st1.hr rfl⟩
 ·exact p1.elim
theorem aI(ho:OpR X (compareOp op) r)(hf:cQ X.K X.mg r f)(ha:RE X WE a xa)(hb:RE X WE b xb)(hm:behindInMarks op b=false:=by first |exact A3 _ |with_unfolding_all rfl):RT X WE (.Compare a [op] [b] pos) (aE (xOp f xa xb)):=
 ⟨(Gj ho ha.h hb.h hm).weak λ_ _ _ h=>two hf (tq h)⟩
theorem wy(hf:cQ X.K X.mg r f)(hf':cQ X.K X.mg r' f')(h:trE X.K X.mg WE (ft f f' xa xb xc) σ H Q):xO r r' (trE X.K X.mg WE xa) (trE X.K X.mg WE xb) (trE X.K X.mg WE xc) σ H Q:=by
 obtain⟨μ,S,τ,hr,sr,p⟩:=h;refine⟨μ,S,τ,hr,sr,p.bind λv x S1 μ1 H1 st1 r1 p1=>?_⟩;refine⟨μ1,S1,τ,st1.hr,sr.step st1,p1.bind λw y S2 μ2 H2 st2 r2 p2=>?_⟩;refine hf WE μ2 S2 H2 v w x y _ st2.hr (r1.step st2) r2 (p2.bind λz zz S3 μ3 H3 st3 r3 p3=>?_)
 try dsimp only at p3
 split at p3
 ·cases(show Rep (vh μ3 S3 H3) z (.bl _)from r3);refine⟨_,rfl,?_⟩;split at p3
  ·rename_i k hk;rw[NT hk];refine⟨μ3,S3,τ,st3.hr,sr.step (st1.trans (st2.trans st3)),p3.bind λq qq S4 μ4 H4 st4 r4 p4=>?_⟩;exact hf' WE μ4 S4 H4 w q y qq Q st4.hr (r2.step (st3.trans st4)) r4 p4
  ·rename_i k hk;rw[N1 hk];exact p3.here st3.hr (Rep.bl false)
 ·exact p3.elim
theorem qY(ho:OpR X (compareOp op) r)(hf:cQ X.K X.mg r f)(ho':OpR X (compareOp op') r')(hf':cQ X.K X.mg r' f')(ha:RE X WE a xa)(hb:RE X WE b xb)(hc:RE X WE c xc)
  (hm:lastMarks [op,op'] [b,c]=false:=by with_unfolding_all rfl):RE X WE (.Compare a [op,op'] [b,c] pos) (ft f f' xa xb xc):=⟨(Dj ho ho' ha.h hb.h hc.h hm).weak λ_ _ _ h=>wy hf hf' h⟩
theorem rD(ho:OpR X (compareOp op) r)(hf:cQ X.K X.mg r f)(ho':OpR X (compareOp op') r')(hf':cQ X.K X.mg r' f')(ha:RE X WE a xa)(hb:RE X WE b xb)(hc:RE X WE c xc)
  (hm:lastMarks [op,op'] [b,c]=false:=by with_unfolding_all rfl):RT X WE (.Compare a [op,op'] [b,c] pos) (aE (ft f f' xa xb xc)):=⟨(EE ho ho' ha.h hb.h hc.h hm).weak λ_ _ _ h=>wy hf hf' (tq h)⟩
theorem isE{α m:Type}{xs:List α}{ys:List m}(h:xs.length=ys.length):(!xs.isEmpty)=!ys.isEmpty:=by
  cases xs<;>cases ys<;>first |rfl |simp at h
theorem Ip{K:NO}{mg:Str->Option Value}{WE:WX}{μ:Nat->Addr}{S:Sto}{H:Hp}{v:V}{x:Vl}{Q:Bool->Hp->Prop}(hr:HR μ S H)(r:bu K mg μ S H v x)(p:bg RlQ WE μ S H (tru x S) Q):∃k,EB K v H k/\Q k H:=by
 unfold tru at p;split at p
 ·cases(show Rep (vh μ S H) v .non from r);exact⟨false,rfl,p.here hr rfl⟩
 ·cases(show Rep (vh μ S H) v (.bl _)from r);exact⟨_,rfl,p.here hr rfl⟩
 ·cases(show Rep (vh μ S H) v (.int _)from r);exact⟨_,rfl,p.here hr rfl⟩
 ·cases(show Rep (vh μ S H) v (.tup _)from r)with
  |tup h rs=>exact⟨_,.inr (.inl ⟨_,SqT.of (bA h).2,rfl⟩),by rw[isE rs.length];exact p.here hr rfl⟩
 ·cases(show Rep (vh μ S H) v (.lst _)from r)with
  |lst h rs=>exact⟨_,.inl ⟨_,SqL.of (bA h).2,rfl⟩,by rw[isE rs.length];exact p.here hr rfl⟩
 ·obtain⟨rfl,hn⟩:=r;split at p
  ·rename_i xs e;obtain⟨vs,h,rs⟩:=hr.ob _ _ e;exact⟨_,.inl ⟨_,SqL.of h,rfl⟩,by rw[isE rs.length];exact p.here hr rfl⟩
  ·rename_i kvs e;obtain⟨vs,l,h,rs⟩:=hr.ob _ _ e;exact⟨_,.inr (.inr ⟨_,h,rfl⟩),by rw[isE (ys:=kvs) (by simp[l])];exact p.here hr rfl⟩
  ·exact p.elim
 ·exact p.elim
theorem bB(ha:RE X WE a xa)(he:∀whole,isTrue a X.env whole=(do let v<-whole;standAt a.pos;holding [v] (truthy v)):=by intro _;rfl):RT X WE a (bN xa):=
 ⟨(DF ha.h he).weak λσ H Q ⟨μ,S,τ,hr,sr,p⟩=>⟨μ,S,τ,hr,sr,p.bind λv x S1 μ1 H1 st1 r1 p1=>Ip st1.hr r1 p1⟩⟩
theorem cN(ha:RT X WE a t):RW X WE (.BoolOp .Or [a] pos) t:=⟨Kx ha.h⟩
theorem cE(ha:RT X WE a t)(hb:RW X WE (.BoolOp .Or (b::es) pos) u):RW X WE (.BoolOp .Or (a::b::es) pos) (xOr t u):=
 ⟨(MQ ha.h hb.h).weak λσ H Q ⟨μ,S,τ,hr,sr,p⟩=>⟨μ,S,τ,hr,sr,p.bind λk k' S1 μ1 H1 st1 r1 p1=>by
  cases(show k=k' from r1)
  try dsimp only at p1
  split at p1
  ·rename_i hk;rw[NT hk];exact p1.here st1.hr rfl
  ·rename_i hk;rw[N1 hk];exact⟨μ1,S1,τ,st1.hr,sr.step st1,p1⟩⟩⟩
theorem RW.rt(h:RW X WE a t):RT X WE a t:=⟨h.h.pt⟩
theorem bF(ha:RT X WE a t):RT X WE (.UnaryOp .Not a pos) (bV t):=
 ⟨(JF ha.h).weak λσ H Q ⟨μ,S,τ,hr,sr,p⟩=>⟨μ,S,τ,hr,sr,p.bind λk k' S1 μ1 H1 st1 r1 p1=>by
  cases(show k=k' from r1);exact p1.here st1.hr rfl⟩⟩
theorem wK{K:NO}{mg:Str->Option Value}{α m:Type}{Rl:(Nat->Addr)->Sto->Hp->m->α->Prop}{μ:Nat->Addr}{S:Sto}{H:Hp}{v:V}{x:Vl}{Q:m->Hp->Prop}{f:Bool->Sto->R α}(r:bu K mg μ S H v x)(p:bg Rl WE μ S H ((asB x S).bind f) Q):∃k,v=.bl k/\bg Rl WE μ S H (f k S) Q:=by
 unfold asB at p;split at p
 ·cases(show Rep (vh μ S H) v (.bl _)from r);exact⟨_,rfl,p⟩
 ·exact p.elim
theorem cv{op}(ha:RE X WE a xa):RE X WE (.BoolOp op [a] pos) xa:=⟨HY ha.h⟩
theorem bQ(ha:RE X WE a xa)(hb:RE X WE (.BoolOp .And (b::es) pos) xb):RE X WE (.BoolOp .And (a::b::es) pos) (bT xa xb):=
 ⟨(Km ha.h hb.h).weak λσ H Q ⟨μ,S,τ,hr,sr,p⟩=>⟨μ,S,τ,hr,sr,p.bind λv x S1 μ1 H1 st1 r1 p1=>by
  obtain⟨k,rfl,p1⟩:=wK r1 p1;refine⟨k,rfl,?_⟩;split at p1
  ·rename_i hk;rw[NT hk];exact⟨μ1,S1,τ,st1.hr,sr.step st1,p1⟩
  ·rename_i hk;rw[N1 hk];exact p1.here st1.hr (Rep.bl false)⟩⟩
theorem FO(ha:RE X WE a xa)(hb:RE X WE (.BoolOp .Or (b::es) pos) xb):RE X WE (.BoolOp .Or (a::b::es) pos) (rC xa xb):=
 ⟨(L_ ha.h hb.h).weak λσ H Q ⟨μ,S,τ,hr,sr,p⟩=>⟨μ,S,τ,hr,sr,p.bind λv x S1 μ1 H1 st1 r1 p1=>by
  obtain⟨k,rfl,p1⟩:=wK r1 p1;refine⟨k,rfl,?_⟩;split at p1
  ·rename_i hk;rw[NT hk];exact p1.here st1.hr (Rep.bl true)
  ·rename_i hk;rw[N1 hk];exact⟨μ1,S1,τ,st1.hr,sr.step st1,p1⟩⟩⟩
theorem Cr(ha:RE X WE a xa):RE X WE (.UnaryOp .Not a pos) (sA xa):=
 ⟨(Kl ha.h).weak λσ H Q ⟨μ,S,τ,hr,sr,p⟩=>⟨μ,S,τ,hr,sr,p.bind λv x S1 μ1 H1 st1 r1 p1=>by
  obtain⟨k,rfl,p1⟩:=wK r1 p1;exact⟨k,rfl,p1.here st1.hr (Rep.bl _)⟩⟩⟩
theorem iC(hc:RT X WE c t)(ha:RE X WE a xa)(hb:RE X WE b xb):RE X WE (.IfExp c a b pos) (ik t xa xb):=
 ⟨(C4 hc.h ha.h hb.h).weak λσ H Q ⟨μ,S,τ,hr,sr,p⟩=>⟨μ,S,τ,hr,sr,p.bind λk k' S1 μ1 H1 st1 r1 p1=>by
  cases(show k=k' from r1)
  try dsimp only at p1
  split at p1
  ·rename_i hk;rw[NT hk];exact⟨μ1,S1,τ,st1.hr,sr.step st1,p1⟩
  ·rename_i hk;rw[N1 hk];exact⟨μ1,S1,τ,st1.hr,sr.step st1,p1⟩⟩⟩
theorem ah:RA X WE [] aj:=⟨iw.weak λσ H Q ⟨μ,S,τ,hr,sr,p⟩=>p.here hr .nil⟩
theorem af[n:NS e](ha:RE X WE e xe)(hr:RA X WE es ts):RA X WE (e::es) (aa xe ts):=
 ⟨(eP ha.h hr.h (n.eq es X.env)).weak λσ H Q ⟨μ,S,τ,hr,sr,p⟩=>⟨μ,S,τ,hr,sr,p.bind λv x S1 μ1 H1 st1 r1 p1=>⟨μ1,S1,τ,st1.hr,sr.step st1,p1.bind λvs xs S2 μ2 H2 st2 r2 p2=>
  p2.here st2.hr (.cons (r1.step st2) r2)⟩⟩⟩
theorem jN{K:NO}{mg:Str->Option Value}{μ:Nat->Addr}{S:Sto}{H:Hp}:∀{vs:List V}{xs:List Vl}{ds:List D},cn K mg μ S H vs xs->ll xs=some ds->aJ (vh μ S H) vs ds
 |_,_,_,.nil,e=>by simp[ll]at e;subst e;exact .nil
 |_,_,ds,@cn.cons _ _ _ _ _ v x vs xs r t,e=>by
  cases x with
  |d x=>
   simp only[ll,PC]at e;obtain⟨es,e1,rfl⟩:=e;exact .cons r (jN t e1)
  |_=>simp[ll]at e
theorem l9(h:n<=100000):n<=sizeLine:=by rw[RZ];omega
theorem bg.Ar{K:NO}{mg:Str->Option Value}{μ:Nat->Addr}{S:Sto}{H:Hp}{Q:VK}{vs:List V}{ds:List D}(hr:HR μ S H)(rs:aJ (vh μ S H) vs ds)(p:bg (bu K mg) WE μ S H (.ok (.d (.tup ds)) S) Q)(q:Addr)(hq:H q=none):Q (.ref q) (upd H q (.tup vs)):=by
 have st:=Step.new hr hq (.tup vs);exact p _ μ _ st (Rep.tup (cS cV (hr.nal hq)) (rs.mono st.vis))
theorem cw{ts:XA}{k:Nat}(h:RA X WE es ts):RE X WE (.Tuple es k pos) (xN mkT ts):=
 ⟨(IC h.h).weak λσ H Q ⟨μ,S,τ,hr,sr,p⟩=>⟨μ,S,τ,hr,sr,p.bind λvs xs S1 μ1 H1 st1 r1 p1=>by
  unfold mkT at p1;split at p1
  ·rename_i ds e;split at p1
   ·have rs:=jN r1 e;refine⟨l9 (by rw[rs.length];assumption),λq hq=>p1.Ar st1.hr rs q hq⟩
   ·exact p1.elim
  ·exact p1.elim⟩⟩
end
section
variable{X:Cx}{WE:WX}{a b c e:Expr}{xa xb xc xe:XE}{pos:Pos}{es:List Expr}{t u:XT}{K:NO}{mg:Str->Option Value}{μ:Nat->Addr}{S:Sto}{H:Hp}{Q:VK}{vs:List V}{ds:List D}
theorem bg.mi(hr:HR μ S H)(rs:aJ (vh μ S H) vs ds)(p:bg (bu K mg) WE μ S H (.ok (.d (.lst ds)) S) Q)(q:Addr)(hq:H q=none):Q (.ref q) (upd H q (.lst vs)):=by
 have st:=Step.new hr hq (.lst vs);exact p _ μ _ st (Rep.lst (cS cV (hr.nal hq)) (rs.mono st.vis))
theorem bg.Ak(hr:HR μ S H)(rs:aJ (vh μ S H) vs ds)(p:bg (bu K mg) WE μ S H (.ok (.r S.length) (S++[.lst ds])) Q)(q:Addr)(hq:H q=none):Q (.ref q) (upd H q (.lst vs)):=
 p _ _ _ (Step.alloc hr hq (ob:=.lst ds) ⟨vs,rfl,rs⟩) ⟨by rw[fB],by simp⟩
theorem bH{ts:XA}(h:RA X WE es ts):RE X WE (.List es pos) (xN mkL ts):=
 ⟨(CD h.h).weak λσ H Q ⟨μ,S,τ,hr,sr,p⟩=>⟨μ,S,τ,hr,sr,p.bind λvs xs S1 μ1 H1 st1 r1 p1=>by
  unfold mkL at p1;split at p1
  ·rename_i ds e;split at p1
   ·have rs:=jN r1 e;refine⟨l9 (by rw[rs.length];assumption),λq hq=>p1.mi st1.hr rs q hq⟩
   ·exact p1.elim
  ·exact p1.elim⟩⟩
theorem iU{ts:XA}(h:RA X WE es ts):RE X WE (.List es pos) (xN mkM ts):=
 ⟨(CD h.h).weak λσ H Q ⟨μ,S,τ,hr,sr,p⟩=>⟨μ,S,τ,hr,sr,p.bind λvs xs S1 μ1 H1 st1 r1 p1=>by
  unfold mkM at p1;split at p1
  ·rename_i ds e;split at p1
   ·have rs:=jN r1 e;refine⟨l9 (by rw[rs.length];assumption),λq hq=>p1.Ak st1.hr rs q hq⟩
   ·exact p1.elim
  ·exact p1.elim⟩⟩
theorem Mf(ha:RE X WE a xa):RE X WE a (xFz xa):=
 ⟨λpins s σ H Q I ⟨μ,S,τ,hr,sr,p⟩=>by
  refine thn (ha.h pins s σ H (λv H1=>∃μ1 S1 x,HR μ1 S1 H1/\bu X.K X.mg μ1 S1 H1 v x/\bg (bu X.K X.mg) WE μ1 S1 H1 (frz x S1) Q) I ⟨μ,S,τ,hr,sr,p.bind λv x S1 μ1 H1 st1 r1 p1=>⟨μ1,S1,x,st1.hr,r1,p1⟩⟩) λu s1 ⟨v,H1,I1,ru,μ1,S1,x,hr1,r1,p1⟩=>?_;unfold frz at p1;split at p1
  ·obtain⟨rfl,hn⟩:=r1;split at p1
   ·rename_i n xs e;obtain⟨vs,h,rs⟩:=hr1.ob _ _ e;obtain⟨st2,na⟩:=Step.freeze hr1 e (by simp);exact⟨_,H1,I1,ru,p1 _ _ _ st2 (Rep.lst (cS h na) (rs.mono st2.vis))⟩
   ·rename_i n _ kvs e;obtain⟨vs,l,h,rs⟩:=hr1.ob _ _ e;have ok:cR X.prog X.w H1 s1.heap (μ1 n) (.dK ((kvs.map (·.1)).zip vs)):=I1.hok _ _ h;obtain⟨z1,z2,ws,rel,o,es,ep,ho,r⟩:=ok;obtain⟨st2,na⟩:=Step.EF hr1 (.frz o (.dK ((kvs.map (·.1)).zip vs))) e (by simp);exact⟨_,_,I1.write (o:=.frz o (.dK ((kvs.map (·.1)).zip vs))) (h':=s1.heap) (x:=μ1 n) (e:=μ1 n) (t':=s1.toks) (by rw[h];exact True.intro) (.inl rfl) (λb q _ hq=>hq) ⟨o,ho⟩ (show _/\_ from⟨ho,z1,z2,ws,rel,o,es,ep,ho,r⟩),ru,p1 _ _ _ st2 ⟨_,vs,o,rfl,l,cS cV na,rs.mono st2.vis⟩⟩
   ·exact p1.elim
  ·exact⟨_,H1,I1,ru,p1.here hr1 r1⟩⟩
theorem aA{x:Str}{p:Pos}{id:String}{r:List V->Hp->VK->Prop}{f:List Vl->Sto->R Vl}{ts:XA}[n:NS e](hc:cG X (.builtin id) r)(hf:il X.K X.mg r f)(hm:X.mg x=none)(hv:bootBuiltins x=some (.builtin id))(ha:RA X WE (e::es) ts)(hg:Gl X x:=by exact rfl)(hn:x≠"__name__":=by decide)(hdb:(x==("__debug__":Str))=false:=by decide)
  (hpl:(backTo pos (starEach es X.env)).any (·.1)=false:=by rfl):RE X WE (.Call (.Name x p) (e::es) [] pos) (xN f ts):=
 ⟨(De hc hg hm hv ha.h hn hdb (n.eq es X.env) hpl).weak λσ H Q ⟨μ,S,τ,hr,sr,p⟩=>⟨μ,S,τ,hr,sr,p.bind λvs xs S1 μ1 H1 st1 r1 p1=>hf WE μ1 S1 H1 vs xs Q st1.hr r1 p1⟩⟩
theorem aZ{x:Str}{p:Pos}{T:String}{r:List V->Hp->VK->Prop}{f:List Vl->Sto->R Vl}{ts:XA}[n:NS e](hc:cG X (.type T) r)(hf:il X.K X.mg r f)(hm:X.mg x=none)(hv:bootBuiltins x=some (.type T))(ha:RA X WE (e::es) ts)(hg:Gl X x:=by exact rfl)(hn:x≠"__name__":=by decide)(hdb:(x==("__debug__":Str))=false:=by decide)
  (hpl:(backTo pos (starEach es X.env)).any (·.1)=false:=by rfl):RE X WE (.Call (.Name x p) (e::es) [] pos) (xN f ts):=
 ⟨(A0 hc hg hm hv ha.h hn hdb (n.eq es X.env) hpl).weak λσ H Q ⟨μ,S,τ,hr,sr,p⟩=>⟨μ,S,τ,hr,sr,p.bind λvs xs S1 μ1 H1 st1 r1 p1=>hf WE μ1 S1 H1 vs xs Q st1.hr r1 p1⟩⟩
def spM(K:NO)(mg:Str->Option Value)(F:XF):Sp:=λvs H Q _=>∃μ S us,HR μ S H/\cn K mg μ S H vs us/\bg (bu K mg) W0 μ S H (F us S) Q
def noX{α:Type}(r:R α):R α:=match r with
 | .ex _ _ _=>.bad
 |r=>r
def aw(F:XF)(as:XA):XE:=λτ S=>(as τ S).bind λus S1=>noX (F us S1)
theorem bg.noX{α z:Type}{Rl:(Nat->Addr)->Sto->Hp->z->α->Prop}{res:R α}{Q:z->Hp->Prop}(h:bg Rl WE μ S H (noX res) Q):bg Rl W0 μ S H res Q:=by
 cases res with
 |ok a S'=>exact h
 |ex c xs S'=>exact h.elim
 |bad=>exact h.elim
end
section
variable{X:Cx}{WE:WX}{e:Expr}{es:List Expr}{pos p:Pos}{lev j:Nat}{ps:List Str}{F:XF}{x:Str}{ts:XA}
def OkE(P:Program)(w:World)(K:NO)(mg:Str->Option Value)(lev:Nat)(x:Str)(ps:List Str)(M:XF):Prop:=∃(f:Addr)(fd:FuncData),mg x=some (.ref f)/\Qx K (.ref f)=true/\(∀us:List Value,us.length=ps.length->bindArgs fd ⟨us,[]⟩=pure (ps.zip us))/\∀base,gr P w K mg base CX0 lev f fd ps (spM K mg M)
theorem aq[n:NS e](G:OkE X.prog X.w X.K X.mg lev x ps F)(hr:dE j X.A)(ha:RA X WE (e::es) ts)(hj:lev<=j:=by decide)(hg:Gl X x:=by exact rfl)
  (hdb:(x==("__debug__":Str))=false:=by decide) (hpl:(backTo pos (starEach es X.env)).any (·.1)=false:=by rfl):RE X WE (.Call (.Name x p) (e::es) [] pos) (aw F ts):=by
 obtain⟨f,fd,hm,hk,hb,G⟩:=G;exact⟨(yZ (G X.base) (hr.mono hj) hg hm hk (.all hb) .nil E2 ha.h hdb (n.eq es X.env) hpl).weak λσ H Q ⟨μ,S,τ,hr,sr,p⟩=>⟨μ,S,τ,hr,sr,p.bind λvs xs S1 μ1 H1 st1 r1 p1=>by
  rw[Rm];exact⟨μ1,S1,xs,st1.hr,r1,p1.noX⟩⟩⟩
end
def out(S:Sto)(z:Vl)(S':Sto):R Vl:=match z with
 | .r n=>if n<S.length then .ok (.r n) (S'.take S.length)else match S'[n]? with
  |some (.lst xs)=>.ok (.r S.length) (S'.take S.length++[.lst xs])
  |some (.dct kvs)=>.ok (.r S.length) (S'.take S.length++[.dct kvs])
  |_=>.bad
 | .pr x n=>if n<S.length then .ok (.pr x n) (S'.take S.length)else match S'[n]? with
  |some (.lst xs)=>.ok (.pr x S.length) (S'.take S.length++[.lst xs])
  |_=>.bad
 |z=>.ok z (S'.take S.length)
def leave(S:Sto)(r:R (Fl×Nv)):R Vl:=match r with
 | .ok q S'=>(match q.1 with
  | .nx=>out S (.d .non) S'
  | .rt z=>out S z S'
  |_=>.bad)
 | .ex c xs S'=>.ex c xs (S'.take S.length)
 | .bad=>.bad
def aY(k n:Nat)(b:XS):XF:=λus S=>if us.length=k then leave S (b (us.map some++N_ (n-k) none) S)else .bad
section
variable{K:NO}{mg:Str->Option Value}{μ μ':Nat->Addr}{S S':Sto}{H H':Hp}{Q:VK}
theorem eW{k:Nat}:eD (vh μ S H) (vh μ (S.take k) H):=λb u q=>by
 obtain⟨z,q⟩:=bA q;refine cS q ?_;rintro⟨m,u,e,d,rfl⟩;exact z ⟨m,u,(fi e).2,d,rfl⟩
theorem G0{k n:Nat}{ob:Ob}(hk:k<=S.length)(e0:S[n]?=some ob)(d0:ob≠.dead):eD (vh μ S H) (vh (ext μ k (μ n)) (S.take k++[ob]) H):=λb u q=>by
 obtain⟨z,q⟩:=bA q;refine cS q ?_;rintro⟨m,u,e,d,rfl⟩;have lt:(S.take k).length=k:=by rw[OL];omega
 by_cases hm:m<k
 ·rw[Oy ⋯]at e;exact z ⟨m,u,(fi e).2,d,by rw[oN (Og hm)]⟩
 ·have hm':m=k:=by
   have:=(NZ.mp e).1;simp only[ON,lt,Ul]at this;omega
  subst hm';exact z ⟨n,ob,e0,d0,by rw[fB]⟩
theorem sf{WE:WX}{v:V}{z:Vl}(st:Step μ S H μ' S' H')(r:bu K mg μ' S' H' v z)(p:bg (bu K mg) WE μ S H (out S z S') Q):Q v H':=by
 have st':=st.take;cases z with
 |d x=>exact p v μ' H' st' (Rep.mono eW r)
 |fd kvs=>obtain⟨a,vs,o,e,l,h,rs⟩:=r;exact p v μ' H' st' ⟨a,vs,o,e,l,eW _ _ h,rs.mono eW⟩
 |fn x=>exact p v μ' H' st' r
 |sc ns=>obtain⟨l,e,h⟩:=r;exact p v μ' H' st' ⟨l,e,h.mono eW⟩
 |xc c xs=>obtain⟨a,C,e,m,h⟩:=r;exact p v μ' H' st' ⟨a,C,e,m,h.mono eW⟩
 |kt ws=>exact p v μ' H' st' r
 |xl es=>obtain⟨l,vs,e,q,h⟩:=r;exact p v μ' H' st' ⟨l,vs,e,eW _ _ q,h.mono eW⟩
 |pr x n=>
  obtain⟨a,u,rfl,h,ru,hn⟩:=r;unfold out at p
  try dsimp only at p
  split at p
  ·exact p _ μ' H' st' ⟨a,u,rfl,eW _ _ h,Rep.mono eW ru,by rw[OL];omega⟩
  ·have lt:(S'.take S.length).length=S.length:=by rw[OL];have:=st.le;omega
   split at p
   ·rename_i xs e;have k:=G0 (μ:=μ') (H:=H') (k:=S.length) st.le e (by simp);exact p _ _ H' (st.move ⋯ e (by simp)) ⟨a,u,rfl,by rw[fB];exact k _ _ h,Rep.mono k ru,by simp[lt]⟩
   ·exact p.elim
 |r n=>
  obtain⟨rfl,hn⟩:=r;unfold out at p
  try dsimp only at p
  split at p
  ·exact p _ μ' H' st' ⟨rfl,by rw[OL];omega⟩
  ·have lt:(S'.take S.length).length=S.length:=by rw[OL];have:=st.le;omega
   split at p
   ·rename_i xs e;exact p _ _ H' (st.move ⋯ e (by simp)) ⟨by rw[fB],by simp[lt]⟩
   ·rename_i xs e;exact p _ _ H' (st.move ⋯ e (by simp)) ⟨by rw[fB],by simp[lt]⟩
   ·exact p.elim
theorem Nw{P:Program}{w:World}{base:Heap}{x qual:Str}{st:Stmt}{f:Addr}{fd:FuncData}{N ps:List Str}{lev:Nat}{m:XS}(F:Fun K x qual st f fd)(Sc:i6 N ps (bE st))
  (hb:∀(cdv:Value)(A:Around)(outer:List Env)(s:Shared)(H:Hp)(E:XK),dE lev (A.deeper (envOfC qual (bE st) s.heap.objs.size f cdv))->RB (gT CX0 P w K mg base N qual (bE st) f cdv A outer s H E).nox W0 (eV st) m) :
  gr P w K mg base CX0 (lev+1) f fd ps (spM K mg (aY ps.length N.length m)):=by
 refine F.ok Sc (λvs H Q E h=>?_) (λcdv A outer s H vs Q E hr h=>?_)
 ·obtain⟨μ,S,us,hr,rs,p⟩:=h;unfold aY at p;split at p
  ·rw[rs.length];assumption
  ·exact p.elim
 ·refine⟨_,(hb cdv A outer s H E hr).h,?_⟩;obtain⟨μ,S,us,hr,rs,p⟩:=h;unfold aY at p;split at p
  ·rename_i hl;have sr:c_ K mg μ S H (start N vs) (us.map some++N_ (N.length-ps.length) none):=by
    rw[<-hl];exact c_.beg rs
   refine⟨μ,S,_,hr,sr,?_⟩;generalize m (us.map some++N_ (N.length-ps.length) none) S=res at p;cases res with
   |bad=>exact p.elim
   |ex c xs S'=>exactλμ' H' st=>p μ' H' st.take
   |ok q S'=>
    obtain⟨fl,q'⟩:=q;rintro⟨fv,z'⟩ μ' H' st ⟨sr',fr⟩;cases fl with
    |nx=>
     cases fv with
     |nx=>exact sf (K:=K) (mg:=mg) (v:=.non) (z:=.d .non) st Rep.non p
     |_=>exact(show False from fr).elim
    |rt z=>
     cases fv with
     |rt v=>exact sf st fr p
     |_=>exact(show False from fr).elim
    |bk=>exact(show False from p).elim
    |ct=>exact(show False from p).elim
  ·exact p.elim
end
def aN:XS:=λτ S=>.ok (.nx,τ) S
def ay(a b:XS):XS:=λτ S=>(a τ S).bind λq S1=>match q.1 with
 | .nx=>b q.2 S1
 |_=>.ok q S1
def iF(e:XE):XS:=λτ S=>(e τ S).bind λ_ S1=>.ok (.nx,τ) S1
def aD(e:XE):XS:=λτ S=>(e τ S).bind λz S1=>.ok (.rt z,τ) S1
def xIf(c:XT)(a b:XS):XS:=λτ S=>(c τ S).bind λk S1=>if k=true then a τ S1 else b τ S1
def BS:XS:=λ_ _=>.bad
def aR(e:XE)(g:XG):XS:=λτ S=>(e τ S).bind λz S1=>(g z τ S1).bind λτ1 S2=>.ok (.nx,τ1) S2
def gNm(i:Nat):XG:=λz τ S=>.ok (τ.set i (some z)) S
def gTu(n:Nat)(g:XGs):XG:=λz τ S=>match z with
 | .d (.tup xs)=>if xs.length=n then g (xs.map Vl.d) τ S else .bad
 |_=>.bad
def gN0:XGs:=λzs τ S=>match zs with
 | []=>.ok τ S
 |_=>.bad
def gCo(g:XG)(gs:XGs):XGs:=λzs τ S=>match zs with
 |z::r=>(g z τ S).bind λτ1 S1=>gs r τ1 S1
 | []=>.bad
def gSb(o i:XE)(f:Vl->Vl->Vl->Sto->R Unit):XG:=λz τ S=>(o τ S).bind λx S1=>(i τ S1).bind λy S2=>(f x y z S2).bind λ_ S3=>.ok τ S3
def gok(gd:Option (Nat×Ob))(S:Sto):Prop:=match gd with
 |none=>True
 |some (n,o)=>S[n]?=some o
open Classical in
noncomputable def eK (g:XG) (b:XS) (gd:Option (Nat×Ob)):List Vl->Nv->Sto->R (Fl×Nv)
 | [],τ,S=>.ok (.nx,τ) S
 |z::zs,τ,S=>(g z τ S).bind λτ1 S1=>(b τ1 S1).bind λq S2=>match q.1 with
  | .bk=>.ok (.nx,q.2) S2
  | .rt v=>.ok (.rt v,q.2) S2
  |_=>if gok gd S2 then eK g b gd zs q.2 S2 else .bad
noncomputable def fQ(it:XI)(g:XG)(b:XS):XS:=λτ S=>(it τ S).bind λI S1=>eK g b I.gd I.items τ S1
section
variable{X:Cx}{WE:WX}{e c tg iter:Expr}{xe:XE}{t:XT}{pos:Pos}{st:Stmt}{sts sts':List Stmt}{m m':XS}{g:XG}{gs:XGs}{it:XI}
theorem aO:RB X WE [] aN:=⟨FX.weak λD σ H ⟨μ,S,τ,hr,sr,p⟩=>p.here (b:=(FlV.nx,σ)) hr ⟨sr,True.intro⟩⟩
theorem au(h:RS X WE st m):RB X WE [st] m:=⟨Gr h.h⟩
theorem ao(h:RS X WE st m)(h':RB X WE sts m'):RB X WE (st::sts) (ay m m'):=
 ⟨(Dl h.h h'.h).weak λD σ H ⟨μ,S,τ,hr,sr,p⟩=>⟨μ,S,τ,hr,sr,p.bind λb q S1 μ1 H1 st1 r1 p1=>by
  obtain⟨fv,σ1⟩:=b;obtain⟨fl,τ1⟩:=q;obtain⟨sr1,fr⟩:=r1;cases fl with
  |nx=>cases fv with
   |nx=>exact⟨μ1,S1,τ1,st1.hr,sr1,p1⟩
   |_=>exact(show False from fr).elim
  |bk=>cases fv with
   |bk=>exact(show D.at (FlV.bk,σ1) H1 from bg.here (b:=(FlV.bk,σ1)) st1.hr p1 ⟨sr1,True.intro⟩)
   |_=>exact(show False from fr).elim
  |ct=>cases fv with
   |ct=>exact(show D.at (FlV.ct,σ1) H1 from bg.here (b:=(FlV.ct,σ1)) st1.hr p1 ⟨sr1,True.intro⟩)
   |_=>exact(show False from fr).elim
  |rt z=>cases fv with
   |rt v=>exact(show D.at (FlV.rt v,σ1) H1 from bg.here (b:=(FlV.rt v,σ1)) st1.hr p1 ⟨sr1,fr⟩)
   |_=>exact(show False from fr).elim⟩⟩
theorem gS(he:RE X WE e xe)(hs:swapsWith e none pos.line X.env=pure false:=by rfl):RS X WE (.Expr e pos) (iF xe):=
 ⟨(Gv he.h hs).weak λD σ H ⟨μ,S,τ,hr,sr,p⟩=>⟨μ,S,τ,hr,sr,p.bind λv x S1 μ1 H1 st1 r1 p1=>p1.here (b:=(FlV.nx,σ)) st1.hr ⟨sr.step st1,True.intro⟩⟩⟩
theorem ax(he:RE X WE e xe):RS X WE (.Return (some e) pos) (aD xe):=
 ⟨(Kg he.h).weak λD σ H ⟨μ,S,τ,hr,sr,p⟩=>⟨μ,S,τ,hr,sr,p.bind λv x S1 μ1 H1 st1 r1 p1=>p1.here (b:=(FlV.rt v,σ)) st1.hr ⟨sr.step st1,r1⟩⟩⟩
theorem aT(hc:RT X WE c t)(ha:RB X WE sts m)(hb:RB X WE sts' m'):RS X WE (.If c sts sts' pos) (xIf t m m'):=
 ⟨(Lq hc.h ha.h hb.h).weak λD σ H ⟨μ,S,τ,hr,sr,p⟩=>⟨μ,S,τ,hr,sr,p.bind λk k' S1 μ1 H1 st1 r1 p1=>by
  cases(show k=k' from r1)
  try dsimp only at p1
  split at p1
  ·rename_i hk;rw[NT hk];exact⟨μ1,S1,τ,st1.hr,sr.step st1,p1⟩
  ·rename_i hk;rw[N1 hk];exact⟨μ1,S1,τ,st1.hr,sr.step st1,p1⟩⟩⟩
structure LQ(sc:Scope)(N:List Str):Prop where
 nd:N.Nodup
theorem aQ{i:Nat}{x:Str}{sc:Scope}(q:LQ sc X.N)(hi:X.N[i]?=some x:=by exact rfl)(hx:Loc X.env.scope x:=by first |exact .inl rfl |exact .inr rfl)(hf:X.fn x=true\/X.env.scope.names.lookup x=some .local:=by first |exact .inl rfl |exact .inr rfl |assumption):RG X WE (.Name x pos) (gNm i):=
 ⟨(GN q.nd hi hx hf).weak λv σ H Q ⟨μ,S,τ,z,hr,sr,r,p⟩=>p.here hr (sr.set i r)⟩
theorem mO:RGs X WE [] gN0:=⟨Hm.weak λvs σ H Q ⟨μ,S,τ,zs,hr,sr,r,p⟩=>by
 unfold gN0 at p;split at p
 ·cases r;exact⟨rfl,p.here hr sr⟩
 ·exact p.elim⟩
theorem et{es:List Expr}(h:RG X WE e g)(h':RGs X WE es gs)(hs:(assignEach (e::es) X.env).map (·.2)=assign e X.env::(assignEach es X.env).map (·.2):=by rfl):RGs X WE (e::es) (gCo g gs):=
 ⟨(Em h.h h'.h hs).weak λvs σ H Q ⟨μ,S,τ,zs,hr,sr,r,p⟩=>by
  unfold gCo at p;split at p
  ·cases r with
   |cons r1 rr=>exact⟨_,_,rfl,μ,S,τ,_,hr,sr,r1,p.bind λσ1 τ1 S1 μ1 H1 st1 sr1 p1=>⟨μ1,S1,τ1,_,st1.hr,sr1,rr.step st1,p1⟩⟩
  ·exact p.elim⟩
theorem pJ{n:Nat}{es:List Expr}{k:Nat}(h:RGs X WE es gs)(hc:X.calm=true:=by exact rfl)(hn:(assignEach es X.env).length=n:=by rfl)(hst:(assignEach es X.env).findIdx? (·.1)=none:=by rfl):RG X WE (.Tuple es k pos) (gTu n gs):=
 ⟨(HL hc h.h hn hst).weak λv σ H Q ⟨μ,S,τ,z,hr,sr,r,p⟩=>by
  unfold gTu at p;split at p
  ·split at p
   ·rename_i xs hl;cases(show Rep (vh μ S H) v (.tup xs)from r)with
    |tup h rs=>exact⟨_,_,rfl,SqT.of (bA h).2,by rw[rs.length];exact hl,μ,S,τ,_,hr,sr,cn.yK rs,p⟩
   ·exact p.elim
  ·exact p.elim⟩
def BI(K:NO)(mg:Str->Option Value)(ts:wY)(f:Vl->Vl->Vl->Sto->R Unit):Prop:=∀(WE:WX)(μ:Nat->Addr)(S:Sto)(H:Hp)(o i v:V)(x y z:Vl)(Q:Unit->Hp->Prop),HR μ S H->bu K mg μ S H o x->bu K mg μ S H i y->bu K mg μ S H v z->bg (λ_ _ _(_ _:Unit)=>True) WE μ S H (f x y z S) Q->ts o i v H (Q ())
theorem oU{o i:Expr}{xo xi:XE}{ts:wY}{f:Vl->Vl->Vl->Sto->R Unit}(ho:RE X WE o xo)(hi:RE X WE i xi)(hs:zL X ts)(hf:BI X.K X.mg ts f)
  (ha:∀v,assign (.Subscript o i pos) X.env v=(do
   let ov<-holding [v] (eval o X.env)
   let iv<-holding [v,ov] (eval i X.env)
   standAt pos
   holding [v,ov,iv] (setItem ov iv v)
   release [v,ov,iv] []):=by intro _;rfl):RG X WE (.Subscript o i pos) (gSb xo xi f):=
 ⟨(KY ho.h hi.h hs ha).weak λv σ H Q ⟨μ,S,τ,z,hr,sr,r,p⟩=>⟨μ,S,τ,hr,sr,p.bind λov x S1 μ1 H1 st1 r1 p1=>⟨μ1,S1,τ,st1.hr,sr.step st1,p1.bind λiv y S2 μ2 H2 st2 r2 p2=>
  hf WE μ2 S2 H2 ov iv v x y z (λ_ H3=>Q σ H3) st2.hr (r1.step st2) r2 (r.step (st1.trans st2)) (p2.bind λ_ _ S3 μ3 H3 st3 _ p3=>p3.here st3.hr (sr.step (st1.trans (st2.trans st3))))⟩⟩⟩
theorem o_(he:RE X WE e xe)(hg:RG X WE tg g)(hs:swapsWithSole [tg] e pos.line X.env=pure false:=by rfl)(hw:swappedStores [tg] e X.env=pure none:=by rfl)
  (h1:(assignEach [tg] X.env).map (·.2)=[assign tg X.env]:=by rfl):RS X WE (.Assign [tg] e pos) (aR xe g):=
 ⟨(Jt he.h hg.h hs hw h1).weak λD σ H ⟨μ,S,τ,hr,sr,p⟩=>⟨μ,S,τ,hr,sr,p.bind λv x S1 μ1 H1 st1 r1 p1=>⟨μ1,S1,τ,x,st1.hr,sr.step st1,r1,p1.bind λσ2 τ2 S2 μ2 H2 st2 sr2 p2=>p2.here (b:=(FlV.nx,σ2)) st2.hr ⟨sr2,True.intro⟩⟩⟩⟩
theorem aK{i:Nat}{x:Str}{pos':Pos}{sc:Scope}(q:LQ sc X.N)(he:RE X WE e xe)(hi:X.N[i]?=some x:=by exact rfl)(hx:Loc X.env.scope x:=by first |exact .inl rfl |exact .inr rfl)(hs:swapsWith e (some (.Name x pos')) pos.line X.env=pure false:=by rfl)(hf:X.fn x=true\/X.env.scope.names.lookup x=some .local:=by first |exact .inl rfl |exact .inr rfl |assumption) :
  RS X WE (.Assign [.Name x pos'] e pos) (aR xe (gNm i)):=
 ⟨(I_ q.nd hi hx he.h hs hf).weak λD σ H ⟨μ,S,τ,hr,sr,p⟩=>⟨μ,S,τ,hr,sr,p.bind λv x S1 μ1 H1 st1 r1 p1=>p1.here (b:=(FlV.nx,σ.set i (some v))) st1.hr ⟨(sr.step st1).set i r1,True.intro⟩⟩⟩
theorem K4{I:Its}{S:Sto}(h:gok I.gd S):I.ok S:=h
open Classical in
theorem eY (hi:RI X WE tg iter it) (hg:RG X WE tg g) (hb:RB X WE sts m) (hp:PassesOwn (model X.prog X.w) X.A X.env X.xe:=by first |exact PassesOwn.never |exact PassesOwn.leaving) (hc:X.calm=true:=by exact rfl) (hs:∀x,foldedSetIterable iter X.env x=pure x:=by intro _;rfl):RS X WE (.For tg iter sts [] pos) (fQ it g m):=
 ⟨(IG hp hc hi.h hg.h hb.h hs).weak λD σ H ⟨μ,S,τ,hr,sr,p⟩=>⟨μ,S,τ,hr,sr,p.bind λJ I S1 μ1 H1 st1 io p1=>by
  refine⟨λi k σ' H'=>∃μ' S' τ',Step μ1 S1 H1 μ' S' H'/\c_ X.K X.mg μ' S' H' σ' τ'/\I.ok S'/\k+i=I.items.length/\bg (RlS X.K X.mg) WE μ' S' H' (eK g m I.gd (I.items.drop i) τ' S') D.at,
   ⟨I.items.length,μ1,S1,τ,Step.refl st1.hr,sr.step st1,io.ok,by simp,p1⟩,?_⟩
  rintro i k σ' H' ⟨μ',S',τ',st',sr',ok',hk,p'⟩
  by_cases hlt:i<I.items.length
  ·have hz:I.items[i]?=some I.items[i]:=NV hlt
   rw[Tq hlt,eK]at p'
   refine .inr ⟨io.go i _ μ' S' H' st' ok' hz,_,λσ2 H2 n=>⟨I.items.length-(i+1),by omega,n⟩,λx H2 y=>?_⟩
   obtain⟨st2,rx⟩:=io.yld i _ μ' S' H' x H2 st' ok' hz y
   refine⟨μ',S',τ',_,st2.hr,sr'.step st2,rx,(p'.shift st2).bind λσ3 τ3 S3 μ3 H3 st3 sr3 p3=>⟨μ3,S3,τ3,st3.hr,sr3,p3.bind λq qq S4 μ4 H4 st4 r4 p4=>?_⟩⟩
   obtain⟨fv,σ4⟩:=q
   obtain⟨fl,τ4⟩:=qq
   obtain⟨sr4,fr⟩:=r4
   have go:∀{b},bg (RlS X.K X.mg) WE μ4 S4 H4 (if gok I.gd S4 then eK g m I.gd (I.items.drop (i+1)) τ4 S4 else .bad) D.at->b=σ4->∃μ' S' τ',Step μ1 S1 H1 μ' S' H4/\c_ X.K X.mg μ' S' H4 b τ'/\I.ok S'/\I.items.length-(i+1)+(i+1)=I.items.length/\bg (RlS X.K X.mg) WE μ' S' H4 (eK g m I.gd (I.items.drop (i+1)) τ' S') D.at:=by
    rintro b p5 rfl
    split at p5
    ·exact⟨μ4,S4,τ4,st'.trans (st2.trans (st3.trans st4)),sr4,K4 ‹_›,by omega,p5⟩
    ·exact p5.elim
   cases fl with
   |nx=>cases fv with
    |nx=>exact go p4 rfl
    |_=>exact(show False from fr).elim
   |ct=>cases fv with
    |ct=>exact go p4 rfl
    |_=>exact(show False from fr).elim
   |bk=>cases fv with
    |bk=>exact(show D.at (FlV.nx,σ4) H4 from bg.here (b:=(FlV.nx,σ4)) st4.hr p4 ⟨sr4,True.intro⟩)
    |_=>exact(show False from fr).elim
   |rt z=>cases fv with
    |rt v=>exact(show D.at (FlV.rt v,σ4) H4 from bg.here (b:=(FlV.rt v,σ4)) st4.hr p4 ⟨sr4,fr⟩)
    |_=>exact(show False from fr).elim
  ·rw[Ug ⋯,eK]at p'
   exact .inl ⟨io.stop i μ' S' H' st' ok' ⋯,p'.here (b:=(FlV.nx,σ')) st'.hr ⟨sr',True.intro⟩⟩⟩⟩
end
open Classical in
noncomputable def dW (g:XG) (t:XT) (e:XE) (n:Nat) (gd:Option (Nat×Ob)):List Vl->List D->Nv->Sto->R (List D)
 | [],acc,_,S=>if S[n]?=some (.lst acc)then .ok acc S else .bad
 |z::zs,acc,τ,S=>(g z τ S).bind λτ1 S1=>(t τ1 S1).bind λb S2=>if b=true then(e τ1 S2).bind λv S3=>(match v with
   | .d x=>if S3[n]?=some (.lst acc)/\gok gd (S3.set n (.lst (acc++[x])))then dW g t e n gd zs (acc++[x]) τ1 (S3.set n (.lst (acc++[x])))else .bad
   |_=>.bad)
  else if gok gd S2 then dW g t e n gd zs acc τ1 S2 else .bad
def lI(n:Nat)(acc:List D)(S:Sto):R Vl:=.ok (.d (.lst acc)) (if S.length=n+1 then S.take n else S.set n .dead)
noncomputable def rg(fin:Nat->List D->Sto->R Vl)(it:XI)(k:Nat)(g:XG)(t:XT)(e:XE):XE:=λτ S=>(it τ S).bind λI S1=>(dW g t e S1.length I.gd I.items [] (N_ k none++τ) (S1++[.lst []])).bind λacc S2=>fin S1.length acc S2
noncomputable abbrev xLC:XI->Nat->XG->XT->XE->XE:=rg lI
def nq(fin:Nat->List D->Sto->R Vl):Prop:=∀(K:NO)(mg:Str->Option Value)(WE:WX)(μ μ':Nat->Addr)(S S':Sto)(H H':Hp)(acc:List D)(D:Addr)(Q:VK),Step μ S H μ' S' H'->S'[S.length]?=some (.lst acc)->μ' S.length=D->bg (bu K mg) WE μ S H (fin S.length acc S') Q->Q (.ref D) H'
theorem bw:nq lI:=by
 intro K mg WE μ μ' S S' H H' acc D Q st e hD p;obtain⟨vs,h,rs⟩:=st.hr.ob _ _ e;have hn:S.length<S'.length:=(NZ.mp e).1;unfold lI at p;by_cases hl:S'.length=S.length+1
 ·rw[NT hl]at p;refine p _ _ _ st.take (Rep.lst (vs:=vs) (cS (by rw[<-hD];exact h) ?_) (rs.mono eW));rintro⟨m,u,e2,d2,q⟩;obtain⟨hm,e3⟩:=fi e2;have:=st.hr.inj m S.length u _ e3 e d2 (by simp) (by rw[q,hD]);omega
 ·rw[N1 hl]at p;obtain⟨st2,na⟩:=Step.freeze st.hr e (by simp);refine p _ _ _ (st.trans st2) (Rep.lst (vs:=vs) (cS (by rw[<-hD];exact h) (by rw[<-hD];exact na)) (rs.mono st2.vis))
section
variable{X:Cx}{WE:WX}{tg elt iter:Expr}{ifs:List Expr}{scope:Scope}{pos:Pos}{it:XI}{g:XG}{t:XT}{e:XE}{N:List Str}{k:Nat}{fin:Nat->List D->Sto->R Vl}
theorem Hd:RTs X WE [] (λ_ S=>.ok true S):=⟨λpins s σ H Q I ⟨μ,S,τ,hr,sr,p⟩=>GF pins s σ H Q I (p.here hr rfl)⟩
theorem iP{c:Expr}(h:RT X WE c t):RTs X WE [c] t:=⟨F9 h.h⟩
theorem bg.AG{α Z Y U:Type}{Rl:(Nat->Addr)->Sto->Hp->Z->α->Prop}{Rl2:(Nat->Addr)->Sto->Hp->U->Y->Prop}{μ μ1:Nat->Addr}{S S1:Sto}{H H1:Hp}{res:R α}{Q:Z->Hp->Prop}{Q2:U->Hp->Prop}{f:α->Sto->R Y}
  (h:bg Rl2 WE μ S H (res.bind f) Q2) (a:Step μ S H μ1 S1 H1) (kk:∀b x S2 μ2 H2,Step μ1 S1 H1 μ2 S2 H2->Rl μ2 S2 H2 b x->bg Rl2 WE μ S H (f x S2) Q2->Q b H2):bg Rl WE μ1 S1 H1 res Q:=by
 cases res with
 |ok x S'=>exactλb μ' H' st r=>kk b x S' μ' H' st r h
 |ex c xs S'=>exactλμ' H' st=>h μ' H' (a.trans st)
 |bad=>exact h
def WEd(WE:WX)(H3:Hp):WX:=λc xs S μ H'=>(∀b o,H3 b=some o->∃o',H' b=some o')/\WE c xs S μ H'
theorem bg.exd{α Z:Type}{Rl:(Nat->Addr)->Sto->Hp->Z->α->Prop}{μ:Nat->Addr}{S:Sto}{H H3:Hp}{res:R α}{Q:Z->Hp->Prop}(h:bg Rl WE μ S H res Q)(k:∀μ' S' H',Step μ S H μ' S' H'->∀b o,H3 b=some o->∃o',H' b=some o'):bg Rl (WEd WE H3) μ S H res Q:=by
 cases res with
 |ok x S'=>exact h
 |ex c xs S'=>exactλμ' H' st=>⟨k _ _ _ st,h μ' H' st⟩
 |bad=>exact h
theorem KP{K:NO}{mg:Str->Option Value}{H3:Hp}{σ:St}{H:Hp}{Q:VK}(h:trE K mg (WEd WE H3) e σ H Q):trE K mg WE e σ H Q:=by
 obtain⟨μ,S,τ,hr,sr,p⟩:=h;refine⟨μ,S,τ,hr,sr,?_⟩;generalize e τ S=res at p;cases res with
 |ok x S'=>exact p
 |ex c xs S'=>exactλμ' H' st=>(p μ' H' st).2
 |bad=>exact p
theorem LCW.weak{J:It}{g:TG}{tt:TT}{te te':TE}{D:Addr}{σ:St}{H1:Hp}{Q:Hp->Prop}(h:LCW J g tt te k D σ H1 Q)(gm:∀{x σ H Q Q'},g x σ H Q->(∀σ H,Q σ H->Q' σ H)->g x σ H Q')(tm:∀{σ H Q Q'},tt σ H Q->(∀b H,Q b H->Q' b H)->tt σ H Q')(em:∀{σ H Q},te σ H Q->te' σ H Q):LCW J g tt te' k D σ H1 Q:=by
 obtain⟨W,w0,st⟩:=h;refine⟨W,w0,λi m σ' H' w=>(st i m σ' H' w).imp id λ⟨go,N,hN,q⟩=>⟨go,N,hN,λx H2 y=>gm (q x H2 y) λσ3 H3 z=>tm z λb H4 z=>?_⟩⟩;cases b
 ·exact z
 ·exact em z
open Classical in
theorem CV (hfin:nq fin) {σ:St} {H:Hp} {Q:VK} (h:trE X.K X.mg WE (rg fin it k g t e) σ H Q):KG (trI X.K X.mg WE it) (trG X.K X.mg WE g) (trT X.K X.mg WE t) (λH3=>trE X.K X.mg (WEd WE H3) e) k σ H Q:=by
 obtain⟨μ,S,τ,hr,sr,p⟩:=h
 refine⟨μ,S,τ,hr,sr,p.bind λJ I S1 μ1 H1 st1 io p1=>λD hD=>?_⟩
 have st0:Step μ1 S1 H1 (ext μ1 S1.length D) (S1++[.lst []]) (upd H1 D (.lst [])):=Step.alloc st1.hr hD (ob:=.lst []) ⟨[],rfl,.nil⟩
 have hlen:(S1++[Ob.lst []]).length=S1.length+1:=by simp
 refine⟨λi j σ' H'=>∃μ' S' τ' acc,Step (ext μ1 S1.length D) (S1++[.lst []]) (upd H1 D (.lst [])) μ' S' H'/\c_ X.K X.mg μ' S' H' σ' τ'/\I.ok S'/\j+i=I.items.length/\acc.length<=i /\
   bg (bu X.K X.mg) WE μ1 S1 H1 ((dW g t e S1.length I.gd (I.items.drop i) acc τ' S').bind λacc S2=>fin S1.length acc S2) Q,
  ⟨I.items.length,_,_,_,[],Step.refl st0.hr,((sr.step st1).step st0).pre k,?_,by simp,NW _,p1⟩,?_⟩
 ·have ok:=io.ok
  unfold Its.ok at ok ⊢
  split
  ·trivial
  ·rename_i n o hg
   rw[hg]at ok
   have hn:n<S1.length:=(NZ.mp ok).1
   rw[Oy hn];exact ok
 rintro i j σ' H' ⟨μ',S',τ',acc,st',sr',ok',hj,hacc,p'⟩
 have stA:=st0.trans st'
 have hn:S1.length<S'.length:=by have:=st'.le;omega
 have hμ:μ' S1.length=D:=by rw[st'.ag S1.length ⋯,fB]
 by_cases hlt:i<I.items.length
 ·have hz:I.items[i]?=some I.items[i]:=NV hlt
  rw[Tq hlt,dW]at p'
  refine .inr ⟨io.go i _ μ' S' H' stA ok' hz,_,λσ2 H2 n=>⟨I.items.length-(i+1),by omega,n⟩,λx H2 y=>?_⟩
  obtain⟨st2,rx⟩:=io.yld i _ μ' S' H' x H2 stA ok' hz y
  have bb:∀{α Z Y:Type}(r:R α)(f:α->Sto->R Z)(f':Z->Sto->R Y),(r.bind f).bind f'=r.bind λa S=>(f a S).bind f':=λr f f'=>by cases r<;>rfl
  simp only[bb]at p'
  refine⟨μ',S',τ',_,st2.hr,sr'.step st2,rx,p'.AG (stA.trans st2) λσ3 τ3 S3 μ3 H3 st3 sr3 p3=>?_⟩
  refine⟨μ3,S3,τ3,st3.hr,sr3,p3.AG (stA.trans (st2.trans st3)) λb b' S4 μ4 H4 st4 r4 p4=>?_⟩
  cases(show b=b' from r4)
  have st24:=st2.trans (st3.trans st4)
  by_cases hb:b=true
  ·rw[NT hb]at p4 ⊢
   rw[bb]at p4
   refine⟨μ4,S4,τ3,st4.hr,sr3.step st4,(p4.AG (Rl:=bu X.K X.mg) (stA.trans st24) λv z S5 μ5 H5 st5 r5 p5=>?_).exd λ_ _ _ st=>(st'.trans (st24.trans st)).dm⟩
   have st25:=st24.trans st5
   cases z with
   |d x=>
    try dsimp only at p5
    by_cases hif:S5[S1.length]?=some (.lst acc)/\gok I.gd (S5.set S1.length (.lst (acc++[x])))
    ·rw[NT hif]at p5
     obtain⟨vs,h5,rs⟩:=st5.hr.ob _ _ hif.1
     have hμ5:μ5 S1.length=D:=by rw[st25.ag S1.length ⋯];exact hμ
     rw[hμ5]at h5
     have sp:Step μ5 S5 H5 μ5 (S5.set S1.length (.lst (acc++[x]))) (upd H5 (μ5 S1.length) (.lst (vs++[v]))):=Step.put st5.hr hif.1 (by simp) (ob:=.lst (acc++[x])) ⟨_,rfl,rs.append (.cons r5 .nil)⟩
     rw[hμ5]at sp
     have lz:=io.len
     have lv:=rs.length
     refine⟨vs,h5,by omega,μ5,_,τ3,acc++[x],st'.trans (st25.trans sp),(sr3.step (st4.trans st5)).step sp,hif.2,by omega,by simp;omega,p5⟩
    ·rw[N1 hif]at p5
     exact p5.elim
   |_=>exact p5.elim
  ·rw[N1 hb]at p4 ⊢
   by_cases hif:gok I.gd S4
   ·rw[NT hif]at p4
    exact⟨μ4,S4,τ3,acc,st'.trans st24,sr3.step st4,hif,by omega,by omega,p4⟩
   ·rw[N1 hif]at p4
    exact p4.elim
 ·rw[Ug ⋯,dW]at p'
  refine .inl ⟨io.stop i μ' S' H' stA ok' ⋯,?_⟩
  by_cases hif:S'[S1.length]?=some (.lst acc)
  ·rw[NT hif]at p'
   exact hfin X.K X.mg WE μ1 μ' S1 S' H1 H' acc D Q stA hif hμ p'
  ·rw[N1 hif]at p'
   exact p'.elim
theorem E7(hfin:nq fin){σ:St}{H:Hp}{Q:VK}(h:trE X.K X.mg WE (rg fin it k g t e) σ H Q):tLC (trI X.K X.mg WE it) (trG X.K X.mg WE g) (trT X.K X.mg WE t) (trE X.K X.mg WE e) k σ H Q:=by
 obtain⟨μ,S,τ,hr,sr,p⟩:=CV hfin h;exact⟨μ,S,τ,hr,sr,p.imp λJ H1 q D hD=>(q D hD).weak (λ⟨μ,S,τ,z,a,b,c,p⟩ k=>⟨μ,S,τ,z,a,b,c,p.imp k⟩) (λ⟨μ,S,τ,a,b,p⟩ k=>⟨μ,S,τ,a,b,p.imp k⟩) KP⟩
theorem rt0:∀C s H fp,RTs (bP X scope N C s H fp) WE [] (λ_ S=>.ok true S):=λ_ _ _ _=>Hd
theorem cu{esc:Scope}{EN:List Str}(hfin:nq fin)(N:List Str)(q:LQ esc EN)(hi:RI X WE tg iter it)(hg:∀C s H fp,LQ scope N->RG (bP X scope N C s H fp) WE tg g)(ht:∀C s H fp,RTs (bP X scope N C s H fp) WE ifs t)(he:∀C s H fp,RE (bP X scope N C s H fp) WE elt e)(hd:N.Nodup:=by decide+kernel)
  (Sc:eX esc scope EN N k:=by exact⟨rfl,by decide+kernel,by decide+kernel,by decide+kernel,by decide+kernel,by decide+kernel⟩) (h1:X.env.scope=esc:=by exact rfl) (h2:X.N=EN:=by exact rfl) (hc:X.calm=true:=by exact rfl) (hs:∀x,foldedSetIterable iter X.env x=pure x:=by intro _;rfl):RE X WE (.ListComp elt [⟨tg,iter,ifs,0⟩] scope pos) (rg fin it k g t e):=
 ⟨(LG hc Sc h1 h2 hi.h (λC s H fp=>(hg C s H fp ⟨hd⟩).h) (λC s H fp=>(ht C s H fp).h) (λC s H fp=>(he C s H fp).h) hs).weak λσ H Q h=>E7 (X:=X) hfin h⟩
theorem zM{esc:Scope}{EN:List Str}{i:Nat}{y:Str}{py spos:Pos}(hfin:nq fin)(N:List Str)(q:LQ esc EN)(hi:RI X WE tg iter it)(hg:∀C s H fp,LQ scope N->RG (bP X scope N C s H fp) WE tg g)(ht:∀C s H fp,RTs (bP X scope N C s H fp) WE ifs t)(he:∀C s H fp,RE (bP X scope N C s H fp) WE elt e)
  (hi':X.N[i]?=some y:=by exact rfl) (hy:Loc X.env.scope y:=by first |exact .inl rfl |exact .inr rfl) (hd:N.Nodup:=by decide+kernel)
  (Sc:eX esc scope EN N k:=by exact⟨rfl,by decide+kernel,by decide+kernel,by decide+kernel,by decide+kernel,by decide+kernel⟩) (h1:X.env.scope=esc:=by exact rfl) (h2:X.N=EN:=by exact rfl) (hc:X.calm=true:=by exact rfl)
  (hsw:swapsWith (.ListComp elt [⟨tg,iter,ifs,0⟩] scope pos) (some (.Name y py)) spos.line X.env=pure true:=by rfl)
  (hs:∀x,foldedSetIterable iter X.env x=pure x:=by intro _;rfl) (hf:X.fn y=true\/X.env.scope.names.lookup y=some .local:=by first |exact .inl rfl |exact .inr rfl |assumption) :
  RS X WE (.Assign [.Name y py] (.ListComp elt [⟨tg,iter,ifs,0⟩] scope pos) spos) (aR (rg fin it k g t e) (gNm i)):=
 ⟨(LH (h2▸q.nd) hi' hy hc Sc h1 h2 hi.h (λC s H fp=>(hg C s H fp ⟨hd⟩).h) (λC s H fp=>(ht C s H fp).h) (λC s H fp=>(he C s H fp).h) hsw hs hf).weak λD0 σ H ⟨μ,S,τ,hr,sr,p⟩=>by
  refine E7 (X:=X) (WE:=WE) (g:=g) (t:=t) (e:=e) hfin ⟨μ,S,τ,hr,sr,?_⟩;exact p.bind λv x S1 μ1 H1 st1 r1 p1=>p1.here (b:=(FlV.nx,σ.set i (some v))) st1.hr ⟨(sr.step st1).set i r1,True.intro⟩⟩
end
def dv(x:Vl)(S:Sto):Option (List D):=match x with
 | .d (.lst xs)=>some xs
 | .r n=>(match S[n]? with
  |some (.lst xs)=>some xs
  |_=>none)
 |_=>none
def cT(x:Vl)(S:Sto):Option (List D):=match x with
 | .d (.tup xs)=>some xs
 |x=>dv x S
section
variable{K:NO}{mg:Str->Option Value}{μ:Nat->Addr}{S:Sto}{H:Hp}{v:V}{x:Vl}{ds:List D}{WE:WX}{Q:VK}
theorem eL(hr:HR μ S H)(r:bu K mg μ S H v x)(e:dv x S=some ds):∃a vs,v=.ref a/\H a=some (.lst vs)/\aJ (vh μ S H) vs ds:=by
 unfold dv at e;split at e
 ·cases e;cases(show Rep (vh μ S H) v (.lst _)from r)with
  |lst h rs=>exact⟨_,_,rfl,(bA h).2,rs⟩
 ·split at e
  ·rename_i q;cases e;obtain⟨rfl,hn⟩:=r;obtain⟨vs,h,rs⟩:=hr.ob _ _ q;exact⟨_,vs,rfl,h,rs⟩
  ·cases e
 ·cases e
theorem jr(hr:HR μ S H)(r:bu K mg μ S H v x)(e:cT x S=some ds):∃a vs,v=.ref a/\(H a=some (.lst vs)\/H a=some (.tup vs))/\aJ (vh μ S H) vs ds:=by
 unfold cT at e;split at e
 ·cases e;cases(show Rep (vh μ S H) v (.tup _)from r)with
  |tup h rs=>exact⟨_,_,rfl,.inr (bA h).2,rs⟩
 ·obtain⟨a,vs,e1,e2,e3⟩:=eL hr r e;exact⟨a,vs,e1,.inl e2,e3⟩
theorem mr(h:H a=some (.lst vs)\/H a=some (.tup vs)):kN H a=some vs:=h.elim JW Kp
theorem bM(r:bu K mg μ S H v (.d (.int i))):v=.int i:=by cases(show Rep (vh μ S H) v (.int i)from r);rfl
theorem mW(r:bu K mg μ S H v (.d (.bl i))):v=.bl i:=by cases(show Rep (vh μ S H) v (.bl i)from r);rfl
theorem jk(r:bu K mg μ S H v (.d (.str i))):v=.str i:=by cases(show Rep (vh μ S H) v (.str i)from r);rfl
theorem d9(r:bu K mg μ S H v (.d .non)):v=.non:=by cases(show Rep (vh μ S H) v .non from r);rfl
theorem mw(r:bu K mg μ S H v (.d (.tup ds))):∃a vs,v=.ref a/\H a=some (.tup vs)/\vh μ S H a=some (.tup vs)/\aJ (vh μ S H) vs ds:=by
 cases(show Rep (vh μ S H) v (.tup _)from r)with
 |tup h rs=>exact⟨_,_,rfl,(bA h).2,h,rs⟩
end
def oI(C:Int->Int->Prop)[∀i j,Decidable (C i j)](f:Int->Int->D)(x y:Vl)(S:Sto):R Vl:=match x,y with
 | .d (.int i),.d (.int j)=>if C i j then .ok (.d (f i j)) S else .bad
 |_,_=>.bad
def oI0(f:Int->Int->D)(x y:Vl)(S:Sto):R Vl:=match x,y with
 | .d (.int i),.d (.int j)=>.ok (.d (f i j)) S
 |_,_=>.bad
section
variable{K:NO}{mg:Str->Option Value}
theorem cK[∀i j,Decidable (C i j)](f:Int->Int->Int):cQ K mg (rI C λi j=>V.int (f i j)) (oI C λi j=>D.int (f i j)):=by
 intro WE μ S H v w x y Q hr rx ry p;unfold oI at p;split at p
 ·split at p
  ·exact⟨_,_,bM rx,bM ry,‹_›,p.here hr (Rep.int _)⟩
  ·exact p.elim
 ·exact p.elim
theorem gU(f:Int->Int->Int):cQ K mg (rI0 λi j=>V.int (f i j)) (oI0 λi j=>D.int (f i j)):=by
 intro WE μ S H v w x y Q hr rx ry p;unfold oI0 at p;split at p
 ·exact⟨_,_,bM rx,bM ry,p.here hr (Rep.int _)⟩
 ·exact p.elim
theorem bx(f:Int->Int->Bool):cQ K mg (rI0 λi j=>V.bl (f i j)) (oI0 λi j=>D.bl (f i j)):=by
 intro WE μ S H v w x y Q hr rx ry p;unfold oI0 at p;split at p
 ·exact⟨_,_,bM rx,bM ry,p.here hr (Rep.bl _)⟩
 ·exact p.elim
end
instance (i j:Int):Decidable (nz i j):=by unfold nz;infer_instance
instance (i j:Int):Decidable (tu i j):=by unfold tu;infer_instance
instance (i j:Int):Decidable (tj i j):=by unfold tj;infer_instance
abbrev n5:=oI0 λi j=>D.int (i-j)
abbrev ju:=oI nz λi j=>D.int (i*j)
abbrev oMod:=oI (λ_ j=>0<j) λi j=>D.int (i % j)
abbrev oDiv:=oI tu λi j=>D.int (i / j)
abbrev zw:=oI tj λi j=>D.int (i ^ j.toNat)
abbrev oLt:=oI0 λi j=>D.bl (decide (i<j))
abbrev oLe:=oI0 λi j=>D.bl (decide (i<=j))
abbrev oGt:=oI0 λi j=>D.bl (decide (j<i))
abbrev oGe:=oI0 λi j=>D.bl (decide (j<=i))
def e9(x:Vl)(S:Sto):R Vl:=match x with
 | .d (.int i)=>.ok (.d (.int (-i))) S
 |_=>.bad
def aU(x y:Vl)(S:Sto):R Vl:=match x,y with
 | .d (.int i),.d (.int j)=>.ok (.d (.int (i+j))) S
 | .d (.tup a),.d (.tup b)=>if a.length+b.length<=100000 then .ok (.d (.tup (a++b))) S else .bad
 | .d (.str a),.d (.str b)=>if a.length+b.length<=100000 then .ok (.d (.str (a++b))) S else .bad
 |x,y=>(match dv x S,dv y S with
  |some a,some b=>if a.length+b.length<=100000 then .ok (.d (.lst (a++b))) S else .bad
  |_,_=>.bad)
def eqD(x y:Vl)(S:Sto):Option Bool:=match x,y with
 | .d .non,.d .non=>some true
 | .d .non,.d (.int _)=>some false
 | .d .non,.d (.str _)=>some false
 | .d (.int _),.d .non=>some false
 | .d (.str _),.d .non=>some false
 | .d (.int i),.d (.int j)=>some (decide (i=j))
 | .d (.bl i),.d (.bl j)=>some (decide (i=j))
 | .d (.str i),.d (.str j)=>some (decide (i=j))
 | .d (.int _),.d (.str _)=>some false
 | .d (.str _),.d (.int _)=>some false
 | .d (.tup a),.d (.tup b)=>if D.depth (.tup a)<=50 then some (D.cJ a b)else none
 |x,y=>(match dv x S,dv y S with
  |some a,some b=>if D.depth (.lst a)<=50 then some (D.cJ a b)else none
  |_,_=>none)
def oEq(x y:Vl)(S:Sto):R Vl:=match eqD x y S with
 |some b=>.ok (.d (.bl b)) S
 |none=>.bad
def oNe(x y:Vl)(S:Sto):R Vl:=match eqD x y S with
 |some b=>.ok (.d (.bl (!b))) S
 |none=>.bad
def oIs(x y:Vl)(S:Sto):R Vl:=match x,y with
 | .d (.bl a),.d (.bl b)=>.ok (.d (.bl (a==b))) S
 | .d .non,.d .non=>.ok (.d (.bl true)) S
 | .fn _,_=>.bad
 | .sc _,_=>.bad
 |_,.d .non=>.ok (.d (.bl false)) S
 |_,_=>.bad
def sP(x y:Vl)(S:Sto):R Vl:=match x,y with
 | .d (.bl a),.d (.bl b)=>.ok (.d (.bl (a != b))) S
 | .d .non,.d .non=>.ok (.d (.bl false)) S
 | .fn _,_=>.bad
 | .sc _,_=>.bad
 |_,.d .non=>.ok (.d (.bl true)) S
 |_,_=>.bad
section
variable{K:NO}{mg:Str->Option Value}
theorem df:Ko K mg (rU λi=>.int (-i)) e9:=by
 intro WE μ S H v x Q hr rx p;unfold e9 at p;split at p
 ·exact⟨_,bM rx,p.here hr (Rep.int _)⟩
 ·exact p.elim
def zT:R2:=λx y H Q=>Fy x y H Q\/∃i j,x=.str i/\y=.str j/\i.length+j.length<=sizeLine/\Q (.str (i++j)) H
theorem aG:OpR X (binaryOp .Add) zT:=GD.or AN
theorem aH:cQ K mg zT aU:=by
 intro WE μ S H v w x y Q hr rx ry p;unfold aU at p;split at p
 ·exact .inl (.inl ⟨_,_,bM rx,bM ry,p.here hr (Rep.int _)⟩)
 ·split at p
  ·rename_i a b hl;obtain⟨p1,us,rfl,h1,g1,r1⟩:=mw rx;obtain⟨p2,ws,rfl,h2,g2,r2⟩:=mw ry;have l1:=r1.length;have l2:=r2.length;refine .inl (.inr ⟨p1,p2,rfl,rfl,.inl ⟨us,ws,h1,h2,l9 ⋯,λe=>?_,λ_ e=>?_,λ_ _ q hq=>p.Ar hr (r1.append r2) q hq⟩⟩)
   ·subst e;have:a=[]:=QZ l1.symm;subst this;exact p.here hr (Rep.tup g2 r2)
   ·subst e;have:b=[]:=QZ l2.symm;subst this;rw[Rm]at p;exact p.here hr (Rep.tup g1 r1)
  ·exact p.elim
 ·split at p
  ·exact .inr ⟨_,_,jk rx,jk ry,l9 ‹_›,p.here hr (Rep.str _)⟩
  ·exact p.elim
 ·split at p
  ·rename_i a b e1 e2;split at p
   ·obtain⟨p1,us,rfl,h1,r1⟩:=eL hr rx e1;obtain⟨p2,ws,rfl,h2,r2⟩:=eL hr ry e2;have l1:=r1.length;have l2:=r2.length;exact .inl (.inr ⟨p1,p2,rfl,rfl,.inr ⟨us,ws,h1,h2,l9 ⋯,λq hq=>p.mi hr (r1.append r2) q hq⟩⟩)
   ·exact p.elim
  ·exact p.elim
theorem FQ(hr:HR μ S H)(rx:bu K mg μ S H v x)(ry:bu K mg μ S H w y)(e:eqD x y S=some b) :
  (Ew v w=true/\decide (v=w)=b)\/∃d e,Rep H v d/\Rep H w e/\D.depth d<=50/\((∃ds es,d=.tup ds/\e=.tup es)\/∃ds es,d=.lst ds/\e=.lst es)/\D.eqv d e=b:=by
 unfold eqD at e;split at e
 ·cases e;rw[d9 rx,d9 ry];exact .inl ⟨rfl,by decide⟩
 ·cases e;rw[d9 rx,bM ry];exact .inl ⟨rfl,by simp⟩
 ·cases e;rw[d9 rx,jk ry];exact .inl ⟨rfl,by simp⟩
 ·cases e;rw[bM rx,d9 ry];exact .inl ⟨rfl,by simp⟩
 ·cases e;rw[jk rx,d9 ry];exact .inl ⟨rfl,by simp⟩
 ·cases e;rw[bM rx,bM ry];exact .inl ⟨rfl,by simp only[V.int.injEq]⟩
 ·cases e;rw[mW rx,mW ry];exact .inl ⟨rfl,by simp only[V.bl.injEq]⟩
 ·cases e;rw[jk rx,jk ry];exact .inl ⟨rfl,by simp only[V.str.injEq]⟩
 ·cases e;rw[bM rx,jk ry];exact .inl ⟨rfl,by simp⟩
 ·cases e;rw[jk rx,bM ry];exact .inl ⟨rfl,by simp⟩
 ·split at e
  ·cases e;refine .inr ⟨_,_,Rep.mono dj rx,Rep.mono dj ry,‹_›,.inl ⟨_,_,rfl,rfl⟩,?_⟩;simp only[D.eqv]
  ·cases e
 ·split at e
  ·rename_i a b e1 e2;split at e
   ·cases e;obtain⟨p1,us,rfl,h1,r1⟩:=eL hr rx e1;obtain⟨p2,ws,rfl,h2,r2⟩:=eL hr ry e2;refine .inr ⟨.lst a,.lst b,.lst h1 (r1.mono dj),.lst h2 (r2.mono dj),‹_›,.inr ⟨_,_,rfl,rfl⟩,?_⟩;simp only[D.eqv]
   ·cases e
  ·cases e
theorem bR:cQ K mg IU oEq:=by
 intro WE μ S H v w x y Q hr rx ry p;unfold oEq at p;split at p
 ·rename_i b e;have q:=p.here hr (Rep.bl b);rcases FQ hr rx ry e with⟨h1,h2⟩ |⟨d,d',h1,h2,h3,h4,h5⟩
  ·exact .inl ⟨h1,by rw[h2];exact q⟩
  ·exact .inr ⟨d,d',h1,h2,h3,h4,by rw[h5];exact q⟩
 ·exact p.elim
theorem dw:cQ K mg I0 oNe:=by
 intro WE μ S H v w x y Q hr rx ry p;unfold oNe at p;split at p
 ·rename_i b e;have q:=p.here hr (Rep.bl (!b));rcases FQ hr rx ry e with⟨h1,h2⟩ |⟨d,d',h1,h2,h3,h4,h5⟩
  ·exact .inl ⟨h1,by rw[h2];exact q⟩
  ·exact .inr ⟨d,d',h1,h2,h3,h4,by rw[h5];exact q⟩
 ·exact p.elim
theorem yY(r:bu K mg μ S H v x)(h1:x≠.d .non):v≠.non:=by
 rintro rfl;cases x with
 |d x=>cases(show Rep (vh μ S H) .non x from r);exact h1 rfl
 |r n=>obtain⟨e,_⟩:=r;cases e
 |fd kvs=>obtain⟨_,_,_,e,_⟩:=r;cases e
 |pr x n=>obtain⟨_,_,e,_⟩:=r;cases e
 |fn x=>obtain⟨_,_,e⟩:=r;cases e
 |sc ns=>obtain⟨_,e,_⟩:=r;cases e
 |xc c xs=>obtain⟨_,_,e,_⟩:=r;cases e
 |kt ws=>obtain⟨_,e,_⟩:=r;cases e
 |xl es=>obtain⟨_,_,e,_⟩:=r;cases e
theorem vQ:cQ K mg Iv oIs:=by
 intro WE μ S H v w x y Q hr rx ry p;unfold oIs at p;split at p
 ·rw[mW rx,mW ry];exact .inl ⟨_,_,rfl,rfl,p.here hr (Rep.bl _)⟩
 ·rw[d9 rx,d9 ry];exact .inr ⟨rfl,by rw[NQ rfl];exact p.here hr (Rep.bl _)⟩
 ·exact p.elim
 ·exact p.elim
 ·rename_i h _ _;rw[d9 ry];exact .inr ⟨rfl,by rw[gV (yY rx h)];exact p.here hr (Rep.bl _)⟩
 ·exact p.elim
theorem EL:cQ K mg Cd sP:=by
 intro WE μ S H v w x y Q hr rx ry p;unfold sP at p;split at p
 ·rw[mW rx,mW ry];exact .inl ⟨_,_,rfl,rfl,p.here hr (Rep.bl _)⟩
 ·rw[d9 rx,d9 ry];exact .inr ⟨rfl,by rw[NQ rfl];exact p.here hr (Rep.bl _)⟩
 ·exact p.elim
 ·exact p.elim
 ·rename_i h _ _;rw[d9 ry];exact .inr ⟨rfl,by rw[gV (yY rx h)];exact p.here hr (Rep.bl _)⟩
 ·exact p.elim
end
def D.flat:D->Bool
 | .tup _=>false
 | .lst _=>false
 |_=>true
def inD(x:D)(ds:List D):Bool:=ds.any λe=>D.eqv e x
def inX(x y:Vl)(S:Sto):Option Bool:=match x with
 | .d x=>(match cT y S with
  |some ds=>if(D.flat x&&ds.all D.flat)=true then some (inD x ds)else(match dv y S with
   |some ds=>if D.bY ds<=50 then some (inD x ds)else none
   |none=>none)
  |none=>none)
 |_=>none
def oIn(x y:Vl)(S:Sto):R Vl:=match inX x y S with
 |some b=>.ok (.d (.bl b)) S
 |none=>.bad
def iW(x y:Vl)(S:Sto):R Vl:=match inX x y S with
 |some b=>.ok (.d (.bl (!b))) S
 |none=>.bad
def oIx(x y:Vl)(S:Sto):R Vl:=match y with
 | .d (.int i)=>(match cT x S with
  |some ds=>(match atI ds i with
   |some z=>.ok (.d z) S
   |none=>.bad)
  |none=>.bad)
 |_=>.bad
def dG(xs:List D)(lo hi:Option Int):List D:=(xs.drop (HT.sIx xs.length 0 lo)).take (HT.sIx xs.length xs.length hi-HT.sIx xs.length 0 lo)
def oSl(x:Vl)(lo hi:Option Int)(S:Sto):R Vl:=match x with
 | .d (.tup xs)=>.ok (.d (.tup (dG xs lo hi))) S
 |x=>(match dv x S with
  |some xs=>.ok (.d (.lst (dG xs lo hi))) S
  |none=>.bad)
section
variable{K:NO}{mg:Str->Option Value}
theorem vT(r:Rep H v d)(h:D.flat d=true):gG v=true:=by cases r<;>first |rfl |cases h
theorem JK(r:Rep H v d)(q:Rep H w e)(h:D.flat d=true)(h':D.flat e=true):eqV v w=D.eqv d e:=by
  cases r<;>cases q<;>first |rfl |cases h |cases h' |simp[eqV,D.eqv]
theorem uA:∀{vs:List V}{ds:List D},aJ H vs ds->ds.all D.flat=true->vs.all gG=true
 |_,_,.nil,_=>rfl
 |_,_,.cons r t,h=>by
  rw[Pg,N3]at h ⊢;exact⟨vT r h.1,uA t h.2⟩
theorem BO(r:Rep H v d)(h:D.flat d=true):∀{vs:List V}{ds:List D},aJ H vs ds->ds.all D.flat=true->inV v vs=inD d ds
 |_,_,.nil,_=>rfl
 |_,_,.cons q t,h'=>by
  rw[Pg,N3]at h';have ih:=BO r h t h'.2;unfold inV inD at ih ⊢;rw[QN,QN,JK q r h'.1 h,ih]
def vK(neg:Bool):R2:=λx y H Q=>EM neg x y H Q\/DV neg x y H Q
theorem in_of(hr:HR μ S H)(rx:bu K mg μ S H v x)(ry:bu K mg μ S H w y)(e:inX x y S=some b)(q:Q (.bl (if neg then !b else b)) H):vK neg v w H Q:=by
 unfold inX at e;split at e
 ·rename_i x;split at e
  ·rename_i ds e1;obtain⟨a,vs,rfl,ha,rs⟩:=jr hr ry e1;split at e
   ·rename_i hf;rw[N3]at hf;cases e;refine .inl ⟨a,vs,rfl,mr ha,vT rx hf.1,uA rs hf.2,?_⟩;rw[BO rx hf.1 rs hf.2];exact q
   ·split at e
    ·rename_i ds e2;split at e
     ·cases e;obtain⟨a',vs',e3,ha',rs'⟩:=eL hr ry e2;cases e3;exact .inr ⟨_,vs',x,_,rfl,ha',rs'.mono dj,Rep.mono dj rx,‹_›,q⟩
     ·cases e
    ·cases e
  ·cases e
 ·cases e
theorem rM(hu:X.A.units+64<cLine):OpR X (compareOp .In) (vK false):=J8.or (JE hu)
theorem qh(hu:X.A.units+64<cLine):OpR X (compareOp .NotIn) (vK true):=Bl.or (A7 hu)
theorem sX:cQ K mg (vK false) oIn:=by
 intro WE μ S H v w x y Q hr rx ry p;unfold oIn at p;split at p
 ·rename_i b e;exact in_of hr rx ry e (p.here hr (Rep.bl b))
 ·exact p.elim
theorem qg:cQ K mg (vK true) iW:=by
 intro WE μ S H v w x y Q hr rx ry p;unfold iW at p;split at p
 ·rename_i b e;exact in_of hr rx ry e (p.here hr (Rep.bl (!b)))
 ·exact p.elim
theorem Eh(rs:aJ H vs ds)(e:atI ds i=some z):∃v,atI vs i=some v/\Rep H v z:=by
 unfold atI at e ⊢;rw[rs.length];cases q:ixN ds.length i with
 |none=>rw[q]at e;cases e
 |some j=>
  rw[q]at e;obtain⟨v,e1,r⟩:=rs.get' (show ds[j]?=some z from e);exact⟨v,e1,r⟩
theorem Jp:cQ K mg KA oIx:=by
 intro WE μ S H v w x y Q hr rx ry p;unfold oIx at p;split at p
 ·split at p
  ·rename_i ds e1;obtain⟨a,vs,rfl,ha,rs⟩:=jr hr rx e1;split at p
   ·rename_i z e2;obtain⟨u,e3,ru⟩:=Eh rs e2;rw[bM ry];exact⟨a,_,vs,u,rfl,rfl,mr ha,e3,p.here hr ru⟩
   ·exact p.elim
  ·exact p.elim
 ·exact p.elim
theorem qU(rs:aJ H vs ds)(lo hi:Option Int):aJ H (kz vs lo hi) (dG ds lo hi):=by
 unfold kz dG;rw[rs.length];exact(rs.drop _).take _
theorem BX{α:Type}{xs:List D}{lo hi:Option Int}(h:kE xs.length lo hi):dG xs lo hi=xs:=by
 unfold dG;rw[h.1,h.2];simp
theorem d_{X:Cx}{WE:WX}{e:Expr}{lo hi:Option Expr}{xa:XE}{xl xh:XO}{p2 pos:Pos}(he:RE X WE e xa)(hl:RO X WE lo xl)(hh:RO X WE hi xh):RE X WE (.Subscript e (.Slice lo hi none p2) pos) (xSl oSl xa xl xh):=
 ⟨(rn Nm he.h hl.h hh.h).weak λσ H Q ⟨μ,S,τ,hr,sr,p⟩=>⟨μ,S,τ,hr,sr,p.bind λv x S1 μ1 H1 st1 r1 p1=>⟨μ1,S1,τ,st1.hr,sr.step st1,p1.bind λi i' S2 μ2 H2 st2 r2 p2=>⟨μ2,S2,τ,st2.hr,sr.step (st1.trans st2),p2.bind λj j' S3 μ3 H3 st3 r3 p3=>by
  cases(show i=i' from r2);cases(show j=j' from r3);have rv:=r1.step (st2.trans st3);unfold oSl at p3;split at p3
  ·rename_i xs;obtain⟨a,vs,rfl,h,g,rs⟩:=mw rv;refine⟨a,rfl,.inl ⟨vs,h,λhw=>?_,λhw q hq=>p3.Ar st3.hr (qU rs i j) q hq⟩⟩;rw[rs.length]at hw;rw[BX (α:=Unit) hw]at p3;exact p3.here st3.hr (Rep.tup g rs)
  ·split at p3
   ·rename_i xs e1;obtain⟨a,vs,rfl,h,rs⟩:=eL st3.hr rv e1;exact⟨a,rfl,.inr ⟨vs,h,λq hq=>p3.mi st3.hr (qU rs i j) q hq⟩⟩
   ·exact p3.elim⟩⟩⟩⟩
theorem cF:RO X WE none bO:=⟨λpins s σ H Q I ⟨μ,S,τ,hr,sr,p⟩=>Gi pins s σ H Q I (p.here hr rfl)⟩
theorem b9(he:RE X WE e xa):RO X WE (some e) (cp xa):=⟨λpins s σ H Q I ⟨μ,S,τ,hr,sr,p⟩=>HE he.h pins s σ H Q I ⟨μ,S,τ,hr,sr,p.bind λv x S1 μ1 H1 st1 r1 p1=>by
 try dsimp only at p1
 split at p1
 ·exact⟨_,bM r1,p1.here st1.hr rfl⟩
 ·exact p1.elim⟩⟩
theorem az(ha:RE X WE a xa)(hb:RE X WE b xb)(hs:mS b:=by exactλ_ _=>rfl):RE X WE (.Subscript a b pos) (xOp oIx xa xb):=⟨(FH Np ha.h hb.h hs).weak λ_ _ _ h=>two (X:=X) Jp h⟩
end
def iq:List D->Option (List Bool)
 | []=>some []
 | .bl b::r=>(iq r).map (b::·)
 |_=>none
def intsOf:List D->Option (List Int)
 | []=>some []
 | .int b::r=>(intsOf r).map (b::·)
 |_=>none
theorem nP:∀{ds:List D}{bs:List Bool},iq ds=some bs->ds=bs.map D.bl
 | [],_,e=>by simp[iq]at e;subst e;rfl
 |d::ds,bs,e=>by
  cases d with
  |bl b=>
   simp only[iq,PC]at e;obtain⟨cs,e1,rfl⟩:=e;rw[nP e1];rfl
  |_=>simp[iq]at e
theorem lj:∀{ds:List D}{bs:List Int},intsOf ds=some bs->ds=bs.map D.int
 | [],_,e=>by simp[intsOf]at e;subst e;rfl
 |d::ds,bs,e=>by
  cases d with
  |int b=>
   simp only[intsOf,PC]at e;obtain⟨cs,e1,rfl⟩:=e;rw[lj e1];rfl
  |_=>simp[intsOf]at e
theorem nD:∀bs:List Int,intsOf (bs.map D.int)=some bs
 | []=>rfl
 |b::bs=>by simp[intsOf,nD bs]
theorem aJ.rJ:∀{vs:List V}{ns:List Bool},aJ H vs (ns.map D.bl)->vs=ns.map V.bl
 | [],[],.nil=>rfl
 |v::vs,n::ns,.cons r t=>by
  cases r;rw[N4,aJ.rJ t]
def insI(x:Int):List Int->List Int
 | []=>[x]
 |y::ys=>if x<=y then x::y::ys else y::insI x ys
def sortI:List Int->List Int
 | []=>[]
 |x::xs=>insI x (sortI xs)
theorem insI_perm(x:Int):∀ys,(insI x ys).Perm (x::ys)
 | []=>.refl _
 |y::ys=>by
  unfold insI;split
  ·exact .refl _
  ·exact((insI_perm x ys).cons y).trans (.swap x y ys)
theorem sortI_perm:∀xs,(sortI xs).Perm xs
 | []=>.refl _
 |x::xs=>(insI_perm x _).trans ((sortI_perm xs).cons x)
theorem uK(x:Int):∀ys:List Int,ys.Pairwise (·<=·)->(insI x ys).Pairwise (·<=·)
 | [],_=>by simp[insI]
 |y::ys,h=>by
  unfold insI;split
  ·rename_i hxy;refine OV.mpr ⟨λz hz=>?_,h⟩;rcases NU.mp hz with e |e
   ·omega
   ·have:=(OV.mp h).1 z e;omega
  ·rename_i hxy;obtain⟨h1,h2⟩:=OV.mp h;refine OV.mpr ⟨λz hz=>?_,uK x ys h2⟩;rcases NU.mp ((insI_perm x ys).mem_iff.mp hz)with e |e
   ·omega
   ·exact h1 z e
theorem nH:∀xs,(sortI xs).Pairwise (·<=·)
 | []=>.nil
 |x::xs=>uK x _ (nH xs)
theorem tI:∀{xs ys:List Int},xs.Perm ys->xs.Pairwise (·<=·)->ys.Pairwise (·<=·)->xs=ys
 | [],ys,h,_,_=>by rw[List.nil_perm.mp h]
 |x::xs,[],h,_,_=>by simpa using h.length_eq
 |x::xs,y::ys,h,h1,h2=>by
  obtain⟨a1,a2⟩:=OV.mp h1;obtain⟨b1,b2⟩:=OV.mp h2;have hx:x∈y::ys:=h.mem_iff.mp (Oq ..);have hy:y∈x::xs:=h.mem_iff.mpr (Oq ..);have e:x=y:=by
   rcases NU.mp hx with e |e
   ·exact e
   ·rcases NU.mp hy with e' |e'
    ·exact e'.symm
    ·have:=a1 y e';have:=b1 x e;omega
  subst e;rw[tI (List.Perm.cons_inv h) a2 b2]
theorem vZ(h:ys.Perm xs)(h1:ys.Pairwise (·<=·)):ys=sortI xs:=tI (h.trans (sortI_perm xs).symm) h1 (nH xs)
def bh(xs:List Vl)(S:Sto):R Vl:=match xs with
 | [x]=>(match cT x S with
  |some ds=>.ok (.d (.int ds.length)) S
  |none=>.bad)
 |_=>.bad
def cH(xs:List Vl)(S:Sto):R Vl:=match xs with
 | [x]=>(match cT x S with
  |some ds=>.ok (.d (.tup ds)) S
  |none=>.bad)
 |_=>.bad
def qe(xs:List Vl)(S:Sto):R Vl:=match xs with
 | [x]=>(match cT x S with
  |some ds=>.ok (.d (.lst ds)) S
  |none=>.bad)
 |_=>.bad
def su(xs:List Vl)(S:Sto):R Vl:=match xs with
 | [x]=>(match cT x S with
  |some ds=>.ok (.r S.length) (S++[.lst ds])
  |none=>.bad)
 |_=>.bad
def kS(xs:List Vl)(S:Sto):R Vl:=match xs with
 | [x]=>(match(dv x S).bind iq with
  |some bs=>.ok (.d (.bl (bs.all id))) S
  |none=>.bad)
 |_=>.bad
def xQ(xs:List Vl)(S:Sto):R Vl:=match xs with
 | [.d (.int i),.d (.int j)]=>.ok (.d (.int (if j>i then j else i))) S
 |_=>.bad
def rm(xs:List Vl)(S:Sto):R Vl:=match xs with
 | [.d (.int i),.d (.int j)]=>.ok (.d (.int (if j<i then j else i))) S
 |_=>.bad
section
variable{K:NO}{mg:Str->Option Value}
theorem cn.one(r:cn K mg μ S H vs [x]):∃v,vs=[v]/\bu K mg μ S H v x:=by
 cases r with |cons r t=>cases t;exact⟨_,rfl,r⟩
theorem cn.two(r:cn K mg μ S H vs [x,y]):∃v w,vs=[v,w]/\bu K mg μ S H v x/\bu K mg μ S H w y:=by
 cases r with |cons r t=>cases t with |cons r' t'=>cases t';exact⟨_,_,rfl,r,r'⟩
theorem aP:il K mg ET bh:=by
 intro WE μ S H vs xs Q hr rs p;unfold bh at p;split at p
 ·obtain⟨v,rfl,r⟩:=rs.one;split at p
  ·obtain⟨a,us,rfl,ha,rr⟩:=jr hr r ‹_›;exact⟨a,us,rfl,mr ha,by rw[rr.length];exact p.here hr (Rep.int _)⟩
  ·exact p.elim
 ·exact p.elim
theorem bW:il K mg zd cH:=by
 intro WE μ S H vs xs Q hr rs p;unfold cH at p;split at p
 ·rename_i x;obtain⟨v,rfl,r⟩:=rs.one;split at p
  ·rename_i ds e;unfold cT at e;split at e
   ·cases e;obtain⟨a,us,rfl,h,g,rr⟩:=mw r;exact⟨a,rfl,.inr ⟨us,h,p.here hr (Rep.tup g rr)⟩⟩
   ·obtain⟨a,us,rfl,h,rr⟩:=eL hr r e;exact⟨a,rfl,.inl ⟨us,h,λq hq=>p.Ar hr rr q hq⟩⟩
  ·exact p.elim
 ·exact p.elim
theorem uo:il K mg w8 qe:=by
 intro WE μ S H vs xs Q hr rs p;unfold qe at p;split at p
 ·obtain⟨v,rfl,r⟩:=rs.one;split at p
  ·obtain⟨a,us,rfl,ha,rr⟩:=jr hr r ‹_›;exact⟨a,us,rfl,mr ha,λq hq=>p.mi hr rr q hq⟩
  ·exact p.elim
 ·exact p.elim
theorem AD:il K mg w8 su:=by
 intro WE μ S H vs xs Q hr rs p;unfold su at p;split at p
 ·obtain⟨v,rfl,r⟩:=rs.one;split at p
  ·obtain⟨a,us,rfl,ha,rr⟩:=jr hr r ‹_›;exact⟨a,us,rfl,mr ha,λq hq=>p.Ak hr rr q hq⟩
  ·exact p.elim
 ·exact p.elim
theorem i7:il K mg FJ kS:=by
 intro WE μ S H vs xs Q hr rs p;unfold kS at p;split at p
 ·obtain⟨v,rfl,r⟩:=rs.one;split at p
  ·rename_i bs e;obtain⟨ds,e1,e2⟩:=QK.mp e;obtain⟨a,us,rfl,ha,rr⟩:=eL hr r e1;rw[nP e2]at rr;rw[aJ.rJ rr]at ha;exact⟨a,bs,rfl,ha,p.here hr (Rep.bl _)⟩
  ·exact p.elim
 ·exact p.elim
theorem xK:il K mg JH xQ:=by
 intro WE μ S H vs xs Q hr rs p;unfold xQ at p;split at p
 ·obtain⟨v,w,rfl,r1,r2⟩:=rs.two;exact⟨_,_,by rw[bM r1,bM r2],p.here hr (Rep.int _)⟩
 ·exact p.elim
theorem nY:il K mg IH rm:=by
 intro WE μ S H vs xs Q hr rs p;unfold rm at p;split at p
 ·obtain⟨v,w,rfl,r1,r2⟩:=rs.two;exact⟨_,_,by rw[bM r1,bM r2],p.here hr (Rep.int _)⟩
 ·exact p.elim
end
def cL(T:String)(x:Vl)(S:Sto):R Vl:=match x with
 | .d d=>.ok (.d (.bl (isT T d))) S
 | .r n=>(match S[n]? with
  |some (.lst xs)=>.ok (.d (.bl (isT T (.lst xs)))) S
  |_=>.bad)
 |_=>.bad
section
variable{X:Cx}{WE:WX}
theorem bq[n:NS e](hm:X.mg "isinstance"=none)(hm2:X.mg nm=none)(hv:bootBuiltins nm=some (.type T))(ha:RE X WE e xa)(hg:Gl X "isinstance":=by exact rfl)(hg2:Gl X nm:=by exact rfl)(ho:okT T=true:=by exact rfl)
  (hn:nm≠"__name__":=by decide) (hd:(nm==("__debug__":Str))=false:=by decide) (hb:bootBuiltins "isinstance"=some (.builtin "isinstance"):=by decide+kernel)
  (hs2:starEach [.Name nm p2] X.env=(false,eval (.Name nm p2) X.env)::starEach [] X.env:=by rfl) (hpl:(backTo pos (starEach [.Name nm p2] X.env)).any (·.1)=false:=by rfl) :
  RE X WE (.Call (.Name "isinstance" p) [e,.Name nm p2] [] pos) (xUn (cL T) xa):=
 ⟨(CC hg hm hg2 hm2 hv ho ha.h hn hd hb (n.eq _ X.env) hs2 hpl).weak λσ H Q ⟨μ,S,τ,hr,sr,p⟩=>⟨μ,S,τ,hr,sr,p.bind λv x S1 μ1 H1 st1 r1 p1=>by
  unfold cL at p1;split at p1
  ·exact⟨_,Rep.mono dj r1,p1.here st1.hr (Rep.bl _)⟩
  ·split at p1
   ·rename_i e;obtain⟨rfl,hn⟩:=r1;obtain⟨vs,h,rs⟩:=st1.hr.ob _ _ e;exact⟨_,Rep.lst h (rs.mono dj),p1.here st1.hr (Rep.bl _)⟩
   ·exact p1.elim
  ·exact p1.elim⟩⟩
def xLm(f:Nat->List D->D->Sto->R Vl)(o e:XE):XE:=λτ S=>(o τ S).bind λx S1=>match x with
 | .r n=>(match S1[n]? with
  |some (.lst _)=>(e τ S1).bind λy S2=>(match y with
   | .d z=>(match S2[n]? with
    |some (.lst xs)=>f n xs z S2
    |_=>.bad)
   |_=>.bad)
  |_=>.bad)
 |_=>.bad
def jG(n:Nat)(xs:List D)(z:D)(S:Sto):R Vl:=if xs.length<100000 then .ok (.d .non) (S.set n (.lst (xs++[z])))else .bad
theorem kL(ho:RE X WE o xo)(he:RE X WE e xe)
  (hbase:attributeBase o "append" X.env (eval o X.env)=eval o X.env:=by rfl)
  (hfew:((backTo cpos (starEach [e] X.env)).all (λx=>!x.1)&&(backToKw cpos (keywordEach [] X.env)).all (λx=>x.1.isSome)&&decide ([e].length+([]:List Keyword).length+(if([]:List Keyword).isEmpty then 0 else 1)<30))=true:=by rfl)
  (hline:(apos.endLine==cpos.line)=true:=by rfl) (hs:starEach [e] X.env=(false,eval e X.env)::starEach [] X.env:=by rfl):RE X WE (.Call (.Attribute o "append" apos) [e] [] cpos) (xLm jG xo xe):=
 ⟨(Kf ho.h he.h hbase hfew hline hs).weak λσ H Q ⟨μ,S,τ,hr,sr,p⟩=>⟨μ,S,τ,hr,sr,p.bind λv x S1 μ1 H1 st1 r1 p1=>by
  try dsimp only at p1
  split at p1
  ·rename_i n;obtain⟨rfl,hn⟩:=r1;split at p1
   ·rename_i xs0 e0;obtain⟨vs0,h0,_⟩:=st1.hr.ob _ _ e0;refine⟨_,vs0,rfl,h0,μ1,S1,τ,st1.hr,sr.step st1,p1.bind λw y S2 μ2 H2 st2 r2 p2=>?_⟩
    try dsimp only at p2
    split at p2
    ·split at p2
     ·rename_i z _ xs e2;obtain⟨vs,h2,rs⟩:=st2.hr.ob _ _ e2;rw[st2.ag n hn]at h2;unfold jG at p2;split at p2
      ·have lv:=rs.length;have sp:=Step.put st2.hr e2 (by simp) (ob:=.lst (xs++[z])) ⟨_,rfl,rs.append (.cons r2 .nil)⟩;rw[st2.ag n hn]at sp;refine⟨vs,h2,by rw[RZ];omega,p2 _ _ _ sp Rep.non⟩
      ·exact p2.elim
     ·exact p2.elim
    ·exact p2.elim
   ·exact p1.elim
  ·exact p1.elim⟩⟩
def Dg(r:V->List V->Hp->VK->Prop)(f:Nat->List D->D->Sto->R Vl):Prop:=∀(K:NO)(mg:Str->Option Value)(WE:WX)(μ:Nat->Addr)(S:Sto)(H:Hp)(n:Nat)(xs:List D)(vs:List V)(w:V)(z:D)(Q:VK),HR μ S H->S[n]?=some (.lst xs)->H (μ n)=some (.lst vs)->aJ (vh μ S H) vs xs->Rep (vh μ S H) w z->bg (bu K mg) WE μ S H (f n xs z S) Q->r (.ref (μ n)) [w] H Q
theorem EX{r:V->List V->Hp->VK->Prop}{f:Nat->List D->D->Sto->R Vl}{name:Str}{id:String}{o e:Expr}{xo xe:XE}{apos cpos:Pos}(slot:Slot "list" name id)(hty:typeOf (.builtin id)=pure (.type "method_descriptor"))(hm:MtM X id r)(hf:Dg r f)(ho:RE X WE o xo)(he:RE X WE e xe)
  (hbase:attributeBase o name X.env (eval o X.env)=eval o X.env:=by rfl)
  (hfew:((backTo cpos (starEach [e] X.env)).all (λx=>!x.1)&&(backToKw cpos (keywordEach [] X.env)).all (λx=>x.1.isSome)&&decide ([e].length+([]:List Keyword).length+(if([]:List Keyword).isEmpty then 0 else 1)<30))=true:=by rfl)
  (hline:(apos.endLine==cpos.line)=true:=by rfl) (hs:starEach [e] X.env=(false,eval e X.env)::starEach [] X.env:=by rfl):RE X WE (.Call (.Attribute o name apos) [e] [] cpos) (xLm f xo xe):=
 ⟨(Fv slot hty hm ho.h he.h hbase hfew hline hs).weak λσ H Q ⟨μ,S,τ,hr,sr,p⟩=>⟨μ,S,τ,hr,sr,p.bind λv x S1 μ1 H1 st1 r1 p1=>by
  try dsimp only at p1
  split at p1
  ·rename_i n;obtain⟨rfl,hn⟩:=r1;split at p1
   ·rename_i xs0 e0;obtain⟨vs0,h0,_⟩:=st1.hr.ob _ _ e0;refine⟨_,vs0,rfl,h0,μ1,S1,τ,st1.hr,sr.step st1,p1.bind λw y S2 μ2 H2 st2 r2 p2=>?_⟩
    try dsimp only at p2
    split at p2
    ·split at p2
     ·rename_i z _ xs e2;obtain⟨vs,h2,rs⟩:=st2.hr.ob _ _ e2;rw[<-st2.ag n hn];exact hf X.K X.mg WE μ2 S2 H2 n xs vs w z Q st2.hr e2 h2 rs r2 p2
     ·exact p2.elim
    ·exact p2.elim
   ·exact p1.elim
  ·exact p1.elim⟩⟩
def wN(n:Nat)(xs:List D)(z:D)(S:Sto):R Vl:=match z with
 | .int i=>if 0<=i/\i<2 ^ 63 then(match xs[i.toNat]? with
  |some y=>.ok (.d y) (S.set n (.lst (xs.eraseIdx i.toNat)))
  |none=>.bad)else .bad
 |_=>.bad
theorem aJ.erase:∀{vs:List V}{ds:List D}(i:Nat),aJ H vs ds->aJ H (vs.eraseIdx i) (ds.eraseIdx i)
 |_,_,_,.nil=>.nil
 |_,_,0,.cons _ t=>t
 |_,_,i+1,.cons r t=>.cons r (aJ.erase i t)
theorem Es:Dg A1 wN:=by
 intro K mg WE μ S H n xs vs w z Q hr e h rs rw' p;unfold wN at p;split at p
 ·rename_i i;split at p
  ·rename_i hi;split at p
   ·rename_i y ey;obtain⟨u,eu,ru⟩:=rs.get' ey;have hl:i.toNat<vs.length:=(NZ.mp eu).1;cases rw';refine⟨_,vs,i,i.toNat,u,rfl,rfl,h,by omega,hi.2,Wa hi.1 ⋯,eu,?_⟩;have sp:=Step.put hr e (by simp) (ob:=.lst (xs.eraseIdx i.toNat)) ⟨_,rfl,rs.erase i.toNat⟩;exact p _ _ _ sp (Rep.mono sp.vis ru)
   ·exact p.elim
  ·exact p.elim
 ·exact p.elim
end
def bZ(e:XE):XI:=λτ S=>(e τ S).bind λz S1=>match z with
 | .d (.tup xs)=>.ok ⟨xs.map Vl.d,none⟩ S1
 | .d (.lst xs)=>.ok ⟨xs.map Vl.d,none⟩ S1
 | .r n=>(match S1[n]? with
  |some (.lst xs)=>.ok ⟨xs.map Vl.d,some (n,.lst xs)⟩ S1
  |_=>.bad)
 |_=>.bad
def iM(as:XA):XI:=λτ S=>(as τ S).bind λzs S1=>match zs with
 | [.d (.int j)]=>if -100000<=j/\j<=100000 then .ok ⟨(NY j.toNat).map λi=>Vl.d (.int (i:Nat)),none⟩ S1 else .bad
 |_=>.bad
def zB(as:XA):XI:=λτ S=>(as τ S).bind λzs S1=>match zs with
 | [.d (.int i),.d (.int j)]=>if(-100000<=i/\i<=100000)/\-100000<=j/\j<=100000 then .ok ⟨(NY (j-i).toNat).map λk=>Vl.d (.int (i+(k:Nat))),none⟩ S1 else .bad
 |_=>.bad
section
variable{X:Cx}{WE:WX}{K:NO}{mg:Str->Option Value}{μ:Nat->Addr}{S:Sto}{H:Hp}
theorem j9{xs:List D}{i:Nat}{z:Vl}(e:(xs.map Vl.d)[i]?=some z):∃x,xs[i]?=some x/\z=.d x:=by
 rw[Ow]at e;cases q:xs[i]? with
 |none=>rw[q]at e;cases e
 |some x=>rw[q]at e;cases e;exact⟨x,rfl,rfl⟩
theorem JQ{a:Addr}{vs:List V}{xs:List D}(g:vh μ S H a=some (.tup vs))(rs:aJ (vh μ S H) vs xs)(hz:vs.length<=sizeLine):ig K mg μ S H (Itt K a) ⟨xs.map Vl.d,none⟩where
 ok:=True.intro
 len:=by simp only[tv];rw[<-rs.length];exact hz
 go:=λi z μ' S' H' st _ e=>by
  obtain⟨x,e1,rfl⟩:=j9 e;obtain⟨u,e2,_⟩:=rs.get' e1;exact⟨vs,u,SqT.of (bA (st.vis _ _ g)).2,e2⟩
 yld:=λi z μ' S' H' u H2 st _ e y=>by
  obtain⟨rfl,y⟩:=y;obtain⟨x,e1,rfl⟩:=j9 e;have e2:=y vs (SqT.of (bA (st.vis _ _ g)).2);obtain⟨x',e3,r⟩:=rs.get e2;rw[e1]at e3;cases e3;exact⟨Step.refl st.hr,Rep.mono st.vis r⟩
 stop:=λi μ' S' H' st _ hi=>⟨vs,SqT.of (bA (st.vis _ _ g)).2,by rw[rs.length];simpa using Qf hi⟩
theorem HN{a:Addr}{vs:List V}{xs:List D}(g:vh μ S H a=some (.lst vs))(rs:aJ (vh μ S H) vs xs)(hz:vs.length<=sizeLine):ig K mg μ S H (Itl K a) ⟨xs.map Vl.d,none⟩where
 ok:=True.intro
 len:=by simp only[tv];rw[<-rs.length];exact hz
 go:=λi z μ' S' H' st _ e=>by
  obtain⟨x,e1,rfl⟩:=j9 e;obtain⟨u,e2,_⟩:=rs.get' e1;exact⟨vs,u,SqL.of (bA (st.vis _ _ g)).2,e2⟩
 yld:=λi z μ' S' H' u H2 st _ e y=>by
  obtain⟨rfl,y⟩:=y;obtain⟨x,e1,rfl⟩:=j9 e;have e2:=y vs (SqL.of (bA (st.vis _ _ g)).2);obtain⟨x',e3,r⟩:=rs.get e2;rw[e1]at e3;cases e3;exact⟨Step.refl st.hr,Rep.mono st.vis r⟩
 stop:=λi μ' S' H' st _ hi=>⟨vs,SqL.of (bA (st.vis _ _ g)).2,by rw[rs.length];simpa using Qf hi⟩
theorem J0{n:Nat}{vs:List V}{xs:List D}(hn:n<S.length)(e0:S[n]?=some (.lst xs))(rs:aJ (vh μ S H) vs xs)(hz:vs.length<=sizeLine):ig K mg μ S H (Itl K (μ n)) ⟨xs.map Vl.d,some (n,.lst xs)⟩where
 ok:=e0
 len:=by simp only[tv];rw[<-rs.length];exact hz
 go:=λi z μ' S' H' st ok e=>by
  obtain⟨us,h,rs'⟩:=st.hr.ob n _ ok;rw[st.ag n hn]at h;obtain⟨x,e1,rfl⟩:=j9 e;obtain⟨u,e2,_⟩:=rs'.get' e1;exact⟨us,u,SqL.of h,e2⟩
 yld:=λi z μ' S' H' u H2 st ok e y=>by
  obtain⟨rfl,y⟩:=y;obtain⟨us,h,rs'⟩:=st.hr.ob n _ ok;rw[st.ag n hn]at h;obtain⟨x,e1,rfl⟩:=j9 e;have e2:=y us (SqL.of h);obtain⟨x',e3,r⟩:=rs'.get e2;rw[e1]at e3;cases e3;exact⟨Step.refl st.hr,r⟩
 stop:=λi μ' S' H' st ok hi=>by
  replace hi:=Qf hi
  obtain⟨us,h,rs'⟩:=st.hr.ob n _ ok;rw[st.ag n hn]at h;exact⟨us,SqL.of h,by rw[rs'.length];simpa using hi⟩
theorem CP{lo:Int}{m:Nat}(hr:HR μ S H)(hm:m<=sizeLine):ig K mg μ S H (Itr lo m) ⟨(NY m).map λk=>Vl.d (.int (lo+(k:Nat))),none⟩where
 ok:=True.intro
 len:=by simpa using hm
 go:=λi z μ' S' H' st _ e=>by
  have:=(NZ.mp e).1;exact(show i<m by simpa using this)
 yld:=λi z μ' S' H' u H2 st _ e y=>by
  obtain⟨rfl,rfl⟩:=y;have hi:i<m:=by simpa using(NZ.mp e).1
  rw[Ow,Sv hi]at e;cases e;exact⟨Step.refl st.hr,Rep.int _⟩
 stop:=λi μ' S' H' st _ hi=>(show m<=i by simpa using Qf hi)
theorem bG(hl:RE X WE l xl):RI X WE tg l (bZ xl):=⟨by
 intro pins s σ H Rr I h;obtain⟨μ,S,τ,hr,sr,p⟩:=h;refine thn (hl.h pins s σ H _ I ⟨μ,S,τ,hr,sr,p.bind (Q:=λv H1=>∃μ1 S1 z,HR μ1 S1 H1/\bu X.K X.mg μ1 S1 H1 v z/\bg (ig X.K X.mg) WE μ1 S1 H1 (match z with
   | .d (.tup xs)=>.ok ⟨xs.map Vl.d,none⟩ S1
   | .d (.lst xs)=>.ok ⟨xs.map Vl.d,none⟩ S1
   | .r n=>(match S1[n]? with
    |some (.lst xs)=>.ok ⟨xs.map Vl.d,some (n,.lst xs)⟩ S1
    |_=>.bad)
   |_=>.bad) Rr) λv x S1 μ1 H1 st1 r1 p1=>⟨μ1,S1,x,st1.hr,r1,p1⟩⟩) λv s1 ⟨u,H1,I1,ru,μ1,S1,z,hr1,r1,p1⟩=>?_
 have goT:∀a vs xs,u=.ref a->vh μ1 S1 H1 a=some (.tup vs)->aJ (vh μ1 S1 H1) vs xs->Rr (Itt X.K a) H1->wpAny (model X.prog X.w) X.A (pyIter v) (PIE X pins σ tg Rr) X.xe s1:=by
  rintro a vs xs rfl g rs q;cases ru;obtain⟨its,rv,pp,hz⟩:=I1.tuple (SqT.of (bA g).2);refine SN (show s1.heap.IsTuple a its.toArray from pp) ?_;refine⟨s1.heap.objs.size,[s1.heap.objs.size],_,_,H1,rfl,I1.kept (t':=s1.toks) λb o e=>NR _ e,zJ a _,⟨_,N5 _ rfl,rfl,rfl⟩,λb hb=>?_,q⟩;rw[N6.mp hb];exact I1.mq (NW _) (I1.hok.fresh (NW _))
 have goL:∀a vs,u=.ref a->H1 a=some (.lst vs)->Rr (Itl X.K a) H1->wpAny (model X.prog X.w) X.A (pyIter v) (PIE X pins σ tg Rr) X.xe s1:=by
  rintro a vs rfl g q;cases ru;obtain⟨its,rv,pp,hz⟩:=I1.list (SqL.of g);refine RU pp.isList ?_;refine⟨s1.heap.objs.size,[s1.heap.objs.size],_,_,H1,rfl,I1.kept (t':=s1.toks) λb o e=>NR _ e,B8 a _,⟨_,N5 _ rfl,rfl,rfl⟩,λb hb=>?_,q⟩;rw[N6.mp hb];exact I1.mq (NW _) (I1.hok.fresh (NW _))
 split at p1
 ·obtain⟨a,vs,rfl,h,g,rs⟩:=mw r1;obtain⟨its,rv,pp,hz⟩:=I1.tuple (SqT.of h);exact goT a vs _ rfl g rs (p1.here hr1 (JQ g rs hz))
 ·cases(show Rep (vh μ1 S1 H1) u (.lst _)from r1)with
  |lst g rs=>
   obtain⟨its,rv,pp,hz⟩:=I1.list (SqL.of (bA g).2);exact goL _ _ rfl (bA g).2 (p1.here hr1 (HN g rs hz))
 ·split at p1
  ·rename_i e;obtain⟨rfl,hn⟩:=r1;obtain⟨vs,h,rs⟩:=hr1.ob _ _ e;obtain⟨its,rv,pp,hz⟩:=I1.list (SqL.of h);exact goL _ _ rfl h (p1.here hr1 (J0 hn e rs hz))
  ·exact p1.elim
 ·exact p1.elim⟩
theorem dC{tg a:Expr}{as:XA}{p pos:Pos}(hg:Gl X "range")(hm:X.mg "range"=none)(ha:RA X WE [a] as)(hs:starEach [a] X.env=[(false,eval a X.env)]:=by rfl):RI X WE tg (.Call (.Name "range" p) [a] [] pos) (iM as):=
 ⟨(Cq hg hm ha.h hs).weak λσ H Rr ⟨μ,S,τ,hr,sr,p⟩=>⟨μ,S,τ,hr,sr,p.bind λvs xs S1 μ1 H1 st1 r1 p1=>by
  try dsimp only at p1
  split at p1
  ·split at p1
   ·obtain⟨v,rfl,r⟩:=r1.one;rename_i j hj;refine⟨j,by rw[bM r],by omega,by omega,p1.here st1.hr ?_⟩;have q:=CP (K:=X.K) (mg:=X.mg) (lo:=0) (m:=j.toNat) st1.hr (l9 ⋯);have z:∀k:Nat,(0:Int)+k=k:=λk=>by omega
    simp only[z]at q;exact q
   ·exact p1.elim
  ·exact p1.elim⟩⟩
theorem t8{tg a b:Expr}{as:XA}{p pos:Pos}(hg:Gl X "range")(hm:X.mg "range"=none)(ha:RA X WE [a,b] as)(hs:starEach [a,b] X.env=[(false,eval a X.env),(false,eval b X.env)]:=by rfl)(hs2:starEach [b] X.env=[(false,eval b X.env)]:=by rfl):RI X WE tg (.Call (.Name "range" p) [a,b] [] pos) (zB as):=
 ⟨(Ck hg hm ha.h hs hs2).weak λσ H Rr ⟨μ,S,τ,hr,sr,p⟩=>⟨μ,S,τ,hr,sr,p.bind λvs xs S1 μ1 H1 st1 r1 p1=>by
  try dsimp only at p1
  split at p1
  ·split at p1
   ·obtain⟨v,w,rfl,r,r'⟩:=r1.two;rename_i i j hj;exact⟨i,j,by rw[bM r,bM r'],⟨by omega,by omega,by omega,by omega⟩,p1.here st1.hr (CP st1.hr (by rw[RZ];omega))⟩
   ·exact p1.elim
  ·exact p1.elim⟩⟩
end
section
variable{prog:Program}{w:World}{A:Around}{E:Value->Shared->Prop}{s:Shared}
theorem yj(hl:IsTup s.heap l vs.toArray)
  (h:Q vs { s with heap:=(s.heap.push (seqObj "list" #[] 0)).update s.heap.objs.size (Qu (·++vs.toArray)) }) (hsz:vs.length<=sizeLine:=by size_fits) :
  wpAny (model prog w) A (collect (.ref l)) Q E s:=by
 obtain⟨o,ho,hc,n,hd⟩:=id hl;unfold collect;refine ar (Up (PY entry_proto_collect' ?_));show wpAny _ _ (do again (.builtin "list.__iadd__" ⟨[<-newList [],.ref l],[]⟩)) _ _ s;refine ar (UK (NP ⟨SQ _ (by decide+kernel),PY entry_list_iadd' ?_⟩));show wpAny _ _ (Q_ (.ref s.heap.objs.size) (.ref l) (.ref s.heap.objs.size)) _ _ { s with heap:=s.heap.push (seqObj "list" #[] 0) };unfold Q_;have ho':(s.heap.push (seqObj "list" #[] 0)).get? l=some o:=NR _ ho;refine ar (P0 (T:="tuple") ⟨o,ho',hc⟩ ?_);have ht:(Value.type "tuple" == Value.type "tuple")=true:=by rfl
 rw[NT (by rw[ht];simp)];refine ar (TJ ho' hd ?_);refine ar (TJ (xs:=#[]) (n:=0) (N5 _ rfl) rfl ?_);rw[N1 (by simp)];refine ar (WN (xs:=#[]) (n:=0) (N5 _ rfl) rfl ?_ (Pc _) (by show(#[]++vs.toArray).size<=sizeLine+1;simp only[Vv,NX,T7];omega));refine NP ?_;show wpAny (model prog w) A (do
   let o<-load s.heap.objs.size
   match o.data with
   | .seq xs _=>pure xs.toList
   |_=>unsupported "internal:collect") Q E { s with heap:=(s.heap.push (seqObj "list" #[] 0)).update s.heap.objs.size (Qu (·++vs.toArray)) }
 refine ar (wpAny_load (get?_update_seq (N5 _ rfl) _) ?_);show wpAny _ _ (pure ((#[]:Array Value)++vs.toArray).toList) Q E _;rw[show((#[]:Array Value)++vs.toArray).toList=vs by simp];exact NP h
theorem AI(hl:IsTup s.heap l vs.toArray)(hI:IntsAre vs ns)(h64:vs.length<64)
  (h:∀(out:Array Value)(ns':List Int),IntsAre out.toList ns'->ns'.Perm ns->ns'.Pairwise (·<=·)->Q (.ref (s.heap.objs.size+1)) { s with heap:=sortedAll s.heap vs out }) :
  wpAny (model prog w) A (call (.builtin "sorted") [.ref l]) Q E s:=by
 refine Tp kind_sorted plain_sorted entry_sorted (args_sorted1 _) ?_;unfold Builtin.«sorted»;refine ar (m:=checkCount "sorted" 1 1 _) (NP ?_);refine ar (yj hl ?_ (PJ (fP ⋯)));refine ar (UK ?_);have hsz:((s.heap.push (seqObj "list" #[] 0)).update s.heap.objs.size (Qu (·++vs.toArray))).objs.size=s.heap.objs.size+1:=by
  rw[Heap.size_update,size_push']
 have hoL:(((s.heap.push (seqObj "list" #[] 0)).update s.heap.objs.size (Qu (·++vs.toArray))).push (seqObj "list" vs.toArray 0)).get? (s.heap.objs.size+1)=some (seqObj "list" vs.toArray 0):=by
  rw[<-hsz];exact N5 _ rfl
 show wpAny _ _ _ _ _ { s with heap:=((s.heap.push (seqObj "list" #[] 0)).update s.heap.objs.size (Qu (·++vs.toArray))).push (seqObj "list" vs.toArray 0) };rw[hsz];refine ar (OF (O0 Wq ⟨_,hoL,rfl⟩ V4 (Wo hoL hI h64 λout ns' a1 a2 a3=>⟨_,rfl,?_⟩) (Wr _)));exact NP ⟨_,rfl,h out ns' a1 a2 a3⟩
end
section
variable{X:Cx}
def Bp:List V->Hp->VK->Prop:=λvs H Q=>∃(p:Addr)(ns:List Int),vs=[.ref p]/\H p=some (.tup (ns.map V.int))/\ns.length<64/\∀(l:Addr)(ms:List Int),H l=none->List.Perm ms ns->ms.Pairwise (·<=·)->Q (.ref l) (upd H l (.lst (ms.map V.int)))
theorem Av:cG X (.builtin "sorted") Bp:=by
 intro pins s σ H xs us Q I r h;obtain⟨p,ns,rfl,hq,hl,q⟩:=h;obtain⟨u,rfl,rx⟩:=vals1 r;cases rx;obtain⟨its,rv,pl,hz⟩:=I.tuple (SqT.of hq);have hI:IntsAre its ns:=intsAre_of rv;have h64:its.length<64:=by rw[<-rv.length,tv];exact hl
 refine AI pl hI h64 λout ms hout hperm hpair=>?_;obtain⟨e,he⟩:=sortedAll_at s.heap its out;refine⟨.ref (s.heap.objs.size+1),_,I.laid (t':=s.toks) (o:=.lst (ms.map V.int)) (λb ob q=>WI q) (R3 _) ?_,rfl,q _ ms (I.hok.fresh (R3 _)) hperm hpair⟩;have hlm:ms.length=ns.length:=hperm.length_eq;exact⟨by rw[tv];have:(64:Nat)<=sizeLine:=(by decide);omega,out.toList,e,js hout,by simpa using he⟩
def Cu:List V->Hp->VK->Prop:=λvs H Q=>x9 vs H Q\/Bp vs H Q
theorem sC:cG X (.builtin "sorted") Cu:=xt.or Av
def nG(xs:List Vl)(S:Sto):R Vl:=match xs with
 | [x]=>(match(cT x S).bind intsOf with
  |some ns=>if ns.length<64 then .ok (.d (.lst ((sortI ns).map D.int))) S else .bad
  |none=>.bad)
 |_=>.bad
theorem ux{K:NO}{mg:Str->Option Value}:il K mg Cu nG:=by
 intro WE μ S H vs xs Q hr rs p;unfold nG at p;split at p
 ·obtain⟨v,rfl,r⟩:=rs.one;split at p
  ·rename_i ns e;split at p
   ·rename_i hb;obtain⟨ds,e1,e2⟩:=QK.mp e;obtain⟨a,us,rfl,ha,rr⟩:=jr hr r e1;rw[lj e2]at rr;rw[aJ.qj rr]at ha;rcases ha with ha |ha
    ·refine .inl ⟨a,ns,rfl,ha,hb,λl ms hl h1 h2=>?_⟩;rw[vZ h1 h2];exact p.mi hr (aJ.ints _) l hl
    ·refine .inr ⟨a,ns,rfl,ha,hb,λl ms hl h1 h2=>?_⟩;rw[vZ h1 h2];exact p.mi hr (aJ.ints _) l hl
   ·exact p.elim
  ·exact p.elim
 ·exact p.elim
def FK:V->List V->Hp->VK->Prop:=λx vs H Q=>∃l b xs zs,x=.ref l/\vs=[.ref b]/\H l=some (.lst xs)/\H b=some (.tup zs)/\xs.length+zs.length<=sizeLine/\Q .non (upd H l (.lst (xs++zs)))
theorem GG:MtM X "list.extend" FK:=by
 intro pins s σ H x vs v us Q I rx rv h;obtain⟨l,b,xs,zs,rfl,rfl,hH,hB,hz,q⟩:=h;cases rx;obtain⟨u,rfl,ru⟩:=rv.one;cases ru;obtain⟨z,its,n,r,hl,e⟩:=I.rp hH;obtain⟨its2,r2,p2,hz2⟩:=I.tuple (SqT.of hB);obtain⟨o2,g2,c2,n2,d2⟩:=id p2;have l2:=r2.length;have hsz:its.toArray.size+its2.toArray.size<=sizeLine:=by rw[NX,NX];omega
 have hlong:¬(!its.toArray.isEmpty&&QG (its.toArray.size+its2.toArray.size))=true:=by
  rw[xv hsz,OX];exact Od
 refine O0 U5 ⟨_,e,rfl⟩ UR ?_ (Uz _ _);unfold Builtin.«list.extend»;refine ar (m:=selfAndOne "list.extend" _) ?_;refine QW (a:=(Value.ref l,Value.ref b)) (by first |rfl |(unfold selfAndOne;rfl)) ?_;dsimp only;unfold Q_;refine ar (P0 (T:="tuple") ⟨o2,g2,c2⟩ ?_);have ht:(Value.type "tuple" == Value.type "tuple")=true:=by rfl
 rw[NT (by rw[ht];simp)];refine ar (TJ g2 d2 ?_);refine ar (TJ (n:=n) e rfl ?_);rw[N1 hlong];refine ar (WN (n:=n) e rfl ?_ (by rw[NX];omega) (by rw[Vv];omega));refine NP ?_;refine⟨_,rfl,.non,_,I.AF (its':=its++its2) hH e (by simp) (r.append r2) ?_,rfl,q⟩;rw[ON];omega
end
section
variable{X:Cx}{WE:WX}
def Fb:V->List V->Hp->VK->Prop:=λx vs H Q=>yq x vs H Q\/FK x vs H Q
theorem Ho:MtM X "list.extend" Fb:=by
 intro pins s σ H x vs v us Q I rx rv h;rcases h with h |h
 ·exact AU pins s σ H x vs v us Q I rx rv h
 ·exact GG pins s σ H x vs v us Q I rx rv h
def qm(n:Nat)(xs:List D)(z:D)(S:Sto):R Vl:=match z with
 | .lst ys=>if xs.length+ys.length<=100000 then .ok (.d .non) (S.set n (.lst (xs++ys)))else .bad
 | .tup ys=>if xs.length+ys.length<=100000 then .ok (.d .non) (S.set n (.lst (xs++ys)))else .bad
 |_=>.bad
theorem CO:Dg Fb qm:=by
 intro K mg WE μ S H n xs vs w z Q hr e h rs rw' p;unfold qm at p;split at p
 ·rename_i ys;split at p
  ·cases rw' with
   | @lst a us _ h' rs'=>
    have l1:=rs.length;have l2:=rs'.length;exact .inl ⟨_,a,vs,us,rfl,rfl,h,(bA h').2,l9 ⋯,p _ _ _ (Step.put hr e (by simp) (ob:=.lst (xs++ys)) ⟨_,rfl,rs.append rs'⟩) Rep.non⟩
  ·exact p.elim
 ·rename_i ys;split at p
  ·cases rw' with
   | @tup a us _ h' rs'=>
    have l1:=rs.length;have l2:=rs'.length;exact .inr ⟨_,a,vs,us,rfl,rfl,h,(bA h').2,l9 ⋯,p _ _ _ (Step.put hr e (by simp) (ob:=.lst (xs++ys)) ⟨_,rfl,rs.append rs'⟩) Rep.non⟩
  ·exact p.elim
 ·exact p.elim
def gL(x y z:Vl)(S:Sto):R Unit:=match x,y,z with
 | .r n,.d (.int k),.d w=>(match S[n]? with
  |some (.lst xs)=>(match ixN xs.length k with
   |some j=>.ok () (S.set n (.lst (xs.set j w)))
   |none=>.bad)
  |_=>.bad)
 |_,_,_=>.bad
theorem aJ.set(r:Rep H v d):∀{vs:List V}{ds:List D}(i:Nat),aJ H vs ds->aJ H (vs.set i v) (ds.set i d)
 |_,_,_,.nil=>.nil
 |_,_,0,.cons _ t=>.cons r t
 |_,_,i+1,.cons q t=>.cons q (aJ.set r i t)
theorem ng{K:NO}{mg:Str->Option Value}:BI K mg As gL:=by
 intro WE μ S H o i v x y z Q hr ro ri rv p;unfold gL at p;split at p
 ·split at p
  ·rename_i n k w _ xs e;obtain⟨rfl,hn⟩:=ro;obtain⟨vs,h,rs⟩:=hr.ob _ _ e;split at p
   ·rename_i j ej;refine⟨_,vs,k,j,rfl,bM ri,h,by rw[rs.length];exact ej,?_⟩;exact p () _ _ (Step.put hr e (by simp) (ob:=.lst (xs.set j w)) ⟨_,rfl,rs.set rv j⟩) True.intro
   ·exact p.elim
  ·exact p.elim
 ·exact p.elim
theorem si:zL X As:=set_list
def lrg(fin:List D->Sto->R Vl)(zs:List Vl)(S:Sto):R Vl:=match zs with
 | [.d (.int j)]=>if 0<=j/\j<=1000 then fin ((NY j.toNat).map λi=>D.int (i:Nat)) S else .bad
 |_=>.bad
def EJ(ds:List D)(S:Sto):R Vl:=.ok (.r S.length) (S++[.lst ds])
theorem sY:∀l:List Nat,aJ H (l.map λi=>V.int (i:Nat)) (l.map λi=>D.int (i:Nat))
 | []=>.nil
 |n::l=>.cons (.int _) (sY l)
theorem uR(hc:X.calm=true)(hgl:Gl X "list")(hml:X.mg "list"=none)(hgr:Gl X "range")(hmr:X.mg "range"=none)(hbl:bootBuiltins "list"=some (.type "list"))(ha:RA X WE [a] as)
  (hs:starEach [a] X.env=[(false,eval a X.env)]:=by rfl)
  (hs2:starEach [Expr.Call (.Name "range" p2) [a] [] pos2] X.env=(false,eval (Expr.Call (.Name "range" p2) [a] [] pos2) X.env)::starEach [] X.env:=by rfl) :
  RE X WE (.Call (.Name "list" p1) [.Call (.Name "range" p2) [a] [] pos2] [] pos1) (xN (lrg EJ) as):=
 ⟨(wJ hc hgl hml hgr hmr hbl ha.h hs hs2).weak λσ H Q ⟨μ,S,τ,hr,sr,p⟩=>⟨μ,S,τ,hr,sr,p.bind λvs xs S1 μ1 H1 st1 r1 p1=>by
  unfold lrg at p1;split at p1
  ·split at p1
   ·rename_i j hj;obtain⟨v,rfl,r⟩:=r1.one;exact⟨j,by rw[bM r],hj.1,hj.2,λl hl=>p1.Ak st1.hr (sY _) l hl⟩
   ·exact p1.elim
  ·exact p1.elim⟩⟩
end
def kr(x:Int):List Int->List Int
 | []=>[x]
 |y::ys=>if x<y then x::y::ys else if x=y then y::ys else y::kr x ys
def b_:List Int->List Int
 | []=>[]
 |x::xs=>kr x (b_ xs)
theorem qT(x z:Int):∀ys,z∈kr x ys↔z=x\/z∈ys
 | []=>by simp[kr]
 |y::ys=>by
  unfold kr;split
  ·simp
  ·split
   ·rename_i h;subst h;simp
   ·simp only[NU,qT x z ys];constructor
    ·rintro(h |h |h)
     ·exact .inr (.inl h)
     ·exact .inl h
     ·exact .inr (.inr h)
    ·rintro(h |h |h)
     ·exact .inr (.inl h)
     ·exact .inl h
     ·exact .inr (.inr h)
theorem e_(z:Int):∀xs,z∈b_ xs↔z∈xs
 | []=>by simp[b_]
 |x::xs=>by rw[b_,qT,e_ z xs,NU]
theorem t9(x:Int):∀ys:List Int,ys.Pairwise (· <·)->(kr x ys).Pairwise (· <·)
 | [],_=>by simp[kr]
 |y::ys,h=>by
  obtain⟨h1,h2⟩:=OV.mp h;unfold kr;split
  ·rename_i hxy;refine OV.mpr ⟨λz hz=>?_,h⟩;rcases NU.mp hz with e |e
   ·omega
   ·have:=h1 z e;omega
  ·split
   ·exact h
   ·refine OV.mpr ⟨λz hz=>?_,t9 x ys h2⟩;rcases(qT x z ys).mp hz with e |e
    ·omega
    ·exact h1 z e
theorem dJ:∀xs,(b_ xs).Pairwise (· <·)
 | []=>.nil
 |x::xs=>t9 x _ (dJ xs)
theorem tH{xs:List Int}(h:xs.Pairwise (· <·)):xs.Nodup:=h.imp λz=>by omega
theorem Eo{xs ys:List Int}(h:∀z,z∈xs↔z∈ys)(h1:xs.Pairwise (· <·))(h2:ys.Pairwise (· <·)):xs=ys:=
 tI ((Ta (tH h1) (tH h2)).mpr h) (h1.imp λz=>by omega) (h2.imp λz=>by omega)
theorem kJ{xs ys:List Int}(h:∀z,z∈ys↔z∈xs)(h1:ys.Pairwise (· <·)):ys=b_ xs:=Eo (λz=>by rw[h,e_]) h1 (dJ xs)
theorem jV{ks ns:List Int}(h1:ks.Nodup)(h2:∀x,x∈ks↔x∈ns):ks.length=(b_ ns).length:=
 ((Ta h1 (tH (dJ ns))).mpr λz=>by rw[h2,e_]).length_eq
section
variable{X:Cx}{WE:WX}
def SqI(H:Hp)(a:Addr)(ns:List Int):Prop:=H a=some (.lst (ns.map V.int))\/H a=some (.tup (ns.map V.int))
def NF(N:Nat)(te:TE):TE:=λσ H Q=>te σ H λx H1=>∃(a:Addr)(ns:List Int),x=.ref a/\SqI H1 a ns/\ns.length<=300/\(b_ ns).length<N/\∀l:Addr,H1 l=none->Q (.ref l) (upd H1 l (.lst ((b_ ns).map V.int)))
theorem SqI.at(I:Inv X pins σ H s)(h:SqI H a ns):∃(its:List Value)(k:Bool),IntsAre its ns/\pO s.heap a its.toArray k:=by
 rcases h with h |h
 ·obtain⟨its,rv,pl,hz⟩:=I.list (SqL.of h);exact⟨its,true,intsAre_of rv,pl.isList⟩
 ·obtain⟨its,rv,pl,hz⟩:=I.tuple (SqT.of h);exact⟨its,false,intsAre_of rv,pl⟩
theorem J4{N:Nat}(T:r_ N)(hN:N<=301){e:Expr}{te:TE}{p1 p2 pos1 pos2:Pos}(hc:X.calm=true)(hgs:Gl X "sorted")(hms:X.mg "sorted"=none)(hgt:Gl X "set")(hmt:X.mg "set"=none)(hbs:bootBuiltins "sorted"=some (.builtin "sorted"))(hbt:bootBuiltins "set"=some (.type "set"))(he:PE X e te)
  (hs:starEach [e] X.env=(false,eval e X.env)::starEach [] X.env:=by rfl)
  (hs2:starEach [Expr.Call (.Name "set" p2) [e] [] pos2] X.env=(false,eval (Expr.Call (.Name "set" p2) [e] [] pos2) X.env)::starEach [] X.env:=by rfl) :
  PE X (.Call (.Name "sorted" p1) [.Call (.Name "set" p2) [e] [] pos2] [] pos1) (NF N te):=by
 intro pins s σ H Q I h;refine Pt (dH I hgs hms hbs ?_);rw[hs2];refine Pz (by show(false||(backTo pos1 (starEach ([]:List Expr) X.env)).any (·.1))=false;rfl) (Px ?_);show wpAny _ _ (spliced ((false,eval (Expr.Call (.Name "set" p2) [e] [] pos2) X.env)::backTo pos1 (starEach [] X.env))) _ _ s;refine PK ?_;have hA:=(eP he iw hs) pos2 pins s σ H (λvs H1=>∃x,vs=[x]/\∃(a:Addr)(ns:List Int),x=.ref a/\SqI H1 a ns/\ns.length<=300/\(b_ ns).length<N/\∀l:Addr,H1 l=none->Q (.ref l) (upd H1 l (.lst ((b_ ns).map V.int)))) I (by
  refine cast (OZ (te σ H) ?_) h;funext y H2;refine propext ⟨λq=>⟨y,rfl,q⟩,λ⟨y',e',q⟩=>?_⟩;cases e';exact q)
 refine Uw (dH I hgt hmt hbt (OH (thn hA λus s1 ⟨vs,H1,I1,r1,x,e1,a,ns,e2,hx,hn,hb,q⟩=>?_) hs rfl));subst e1 e2;obtain⟨u,rfl,rx⟩:=vals1 r1;cases rx;obtain⟨its,k,hI,pl⟩:=hx.at I1;have hA0:X.A.handled=none:=I.ok.hd hc;refine uy hA0 k pl (by simpa using hI) hn λh' tk ks S1 S2 S3=>?_;refine NP ?_;have hnd:ks.Nodup:=by obtain⟨_,_,_,_,_,_,_,_,_,_,_,_,_,_,_,_,g,_⟩:=S1;exact g
 have lk:=jV hnd S2;refine Ah T hN hA0 S1 ⋯ λh2 tk2 out ms l c k1 k2 k3 k4 k5 k6 k7=>?_;have em:ms=b_ ns:=kJ (λx=>by rw[k6,S2]) k5;subst em;refine⟨.ref l,_,I1.laid (t':=tk2) (o:=.lst ((b_ ns).map V.int)) (λb o e=>k1 b o (S3 b o e)) (PJ k2) ⟨?_,out.toList,c,js k4,?_⟩,rfl,q l (I1.hok.fresh (PJ k2))⟩
 ·rw[tv];exact PJ (fP ⋯)
 ·simpa[seqObj]using k3
def Ac(N:Nat)(x:Vl)(S:Sto):R Vl:=match(cT x S).bind intsOf with
 |some ns=>if ns.length<=300/\(b_ ns).length<N then .ok (.d (.lst ((b_ ns).map D.int))) S else .bad
 |none=>.bad
theorem AX{K:NO}{mg:Str->Option Value}{μ:Nat->Addr}{S:Sto}{H:Hp}{v:V}{x:Vl}{ns:List Int}(hr:HR μ S H)(r:bu K mg μ S H v x)(e:(cT x S).bind intsOf=some ns):∃a,v=.ref a/\SqI H a ns:=by
 obtain⟨ds,e1,e2⟩:=QK.mp e;obtain⟨a,us,rfl,ha,rr⟩:=jr hr r e1;rw[lj e2]at rr;rw[aJ.qj rr]at ha;exact⟨a,rfl,ha⟩
abbrev oSS:=Ac 64
theorem Jv{N:Nat}(T:r_ N)(hN:N<=301){e:Expr}{xa:XE}{p1 p2 pos1 pos2:Pos}[n:NS e](hc:X.calm=true)(hgs:Gl X "sorted")(hms:X.mg "sorted"=none)(hgt:Gl X "set")(hmt:X.mg "set"=none)(hbs:bootBuiltins "sorted"=some (.builtin "sorted"))(hbt:bootBuiltins "set"=some (.type "set"))(he:RE X WE e xa)
  (hs2:starEach [Expr.Call (.Name "set" p2) [e] [] pos2] X.env=(false,eval (Expr.Call (.Name "set" p2) [e] [] pos2) X.env)::starEach [] X.env:=by rfl) :
  RE X WE (.Call (.Name "sorted" p1) [.Call (.Name "set" p2) [e] [] pos2] [] pos1) (xUn (Ac N) xa):=
 ⟨(J4 T hN hc hgs hms hgt hmt hbs hbt he.h (n.eq _ X.env) hs2).weak λσ H Q ⟨μ,S,τ,hr,sr,p⟩=>⟨μ,S,τ,hr,sr,p.bind λv x S1 μ1 H1 st1 r1 p1=>by
  unfold Ac at p1;split at p1
  ·rename_i ns e1;split at p1
   ·rename_i hb;obtain⟨a,rfl,sq⟩:=AX st1.hr r1 e1;exact⟨a,ns,rfl,sq,hb.1,hb.2,λl hl=>p1.mi st1.hr (aJ.ints _) l hl⟩
   ·exact p1.elim
  ·exact p1.elim⟩⟩
theorem zH[n:NS e](hc:X.calm=true)(hgs:Gl X "sorted")(hms:X.mg "sorted"=none)(hgt:Gl X "set")(hmt:X.mg "set"=none)(hbs:bootBuiltins "sorted"=some (.builtin "sorted"))(hbt:bootBuiltins "set"=some (.type "set"))(he:RE X WE e xa)
  (hs2:starEach [Expr.Call (.Name "set" p2) [e] [] pos2] X.env=(false,eval (Expr.Call (.Name "set" p2) [e] [] pos2) X.env)::starEach [] X.env:=by rfl) :
  RE X WE (.Call (.Name "sorted" p1) [.Call (.Name "set" p2) [e] [] pos2] [] pos1) (xUn oSS xa):=Jv Kd (by decide) hc hgs hms hgt hmt hbs hbt he hs2
end
def fK(k:Nat):List D->List Vl
 | []=>[]
 |x::xs=>.d (.tup [.int k,x])::fK (k+1) xs
theorem oJ:∀(k:Nat)(xs:List D),(fK k xs).length=xs.length
 |_,[]=>rfl
 |k,x::xs=>by simp[fK,oJ (k+1) xs]
theorem lJ:∀(k:Nat)(xs:List D)(i:Nat),(fK k xs)[i]?=(xs[i]?).map λx=>Vl.d (.tup [.int ((k+i:Nat):Int),x])
 |_,[],_=>by simp[fK]
 |k,x::xs,0=>by simp[fK]
 |k,x::xs,i+1=>by
  simp only[fK,RM,lJ (k+1) xs i];congr 1;funext z;rw[show k+1+i=k+(i+1) by omega]
def DT(e:XE):XI:=λτ S=>(e τ S).bind λz S1=>match z with
 | .d (.lst xs)=>.ok ⟨fK 0 xs,none⟩ S1
 |_=>.bad
section
variable{X:Cx}{WE:WX}{K:NO}{mg:Str->Option Value}{μ:Nat->Addr}{S:Sto}{H:Hp}
theorem Ez(g:vh μ S H a=some (.lst vs))(rs:aJ (vh μ S H) vs xs)(hz:vs.length<=sizeLine):ig K mg μ S H (Ite K a) ⟨fK 0 xs,none⟩where
 ok:=True.intro
 len:=by simp only[oJ];rw[<-rs.length];exact hz
 go:=λi z μ' S' H' st _ e=>by
  rw[lJ]at e;cases q:xs[i]? with
  |none=>rw[q]at e;cases e
  |some x=>
   obtain⟨u,e2,_⟩:=rs.get' q;exact⟨vs,u,SqL.of (bA (st.vis _ _ g)).2,e2⟩
 yld:=λi z μ' S' H' u H2 st _ e y=>by
  obtain⟨p,w,hp,rfl,rfl,y⟩:=y;rw[lJ]at e;cases q:xs[i]? with
  |none=>rw[q]at e;cases e
  |some x=>
   rw[q]at e;cases e;have e2:=y vs (SqL.of (bA (st.vis _ _ g)).2);obtain⟨x',e3,r⟩:=rs.get e2;rw[q]at e3;cases e3;have st2:=Step.new st.hr hp (.tup [.int i,w]);refine⟨st2,Rep.tup (cS cV (st.hr.nal hp)) (.cons ?_ (.cons (Rep.mono (st.trans st2).vis r) .nil))⟩;rw[TK];exact .int _
 stop:=λi μ' S' H' st _ hi=>⟨vs,SqL.of (bA (st.vis _ _ g)).2,by rw[rs.length];rw[oJ]at hi;exact Qf hi⟩
end
section
variable{X:Cx}{WE:WX}
theorem D8(hg:Gl X "enumerate")(hm:X.mg "enumerate"=none)(hl:RE X WE l xl)(hb:bootBuiltins "enumerate"=some (.type "enumerate"):=by decide+kernel)
  (hs:starEach [l] X.env=[(false,eval l X.env)]:=by rfl):RI X WE (.Tuple es kk tp) (.Call (.Name "enumerate" p) [l] [] pos) (DT xl):=⟨by
 intro pins s σ H R I h;obtain⟨μ,S,τ,hr,sr,pp⟩:=h;refine Uw (dH I hg hm hb (OH (thn ((eP hl.h iw hs) pos pins s σ H (λvs H1=>∃x,vs=[x]/\∃μ1 S1 z,HR μ1 S1 H1/\bu X.K X.mg μ1 S1 H1 x z/\bg (ig X.K X.mg) WE μ1 S1 H1 (match z with
   | .d (.lst xs)=>.ok ⟨fK 0 xs,none⟩ S1
   |_=>.bad) R) I ?_) λus s1 ⟨vs,H1,I1,r1,q1⟩=>?_) hs rfl))
 ·exact⟨μ,S,τ,hr,sr,pp.bind λv x S1 μ1 H1 st1 r1 p1=>⟨v,rfl,μ1,S1,x,st1.hr,r1,p1⟩⟩
 ·obtain⟨x,e,μ1,S1,z,hr1,rz,p1⟩:=q1;subst e;obtain⟨u,rfl,ru⟩:=vals1 r1;split at p1
  ·cases(show Rep (vh μ1 S1 H1) x (.lst _)from rz)with
   | @lst a us _ g rs=>
    cases ru;have hq:SqL X.K H1 a us:=SqL.of (bA g).2;obtain⟨its,rv,pl,hz⟩:=I1.list hq;have q:=p1.here hr1 (Ez g rs hz);refine call_enumerate_list pl.isList λh' he hit hsz hk=>?_;refine Vo (s:={ s1 with heap:=h' }) he ?_;have I2:Inv X pins σ H1 { s1 with heap:=h' }:=I1.kept (t':=s1.toks) hk;refine⟨s1.heap.objs.size+1,[s1.heap.objs.size+1,s1.heap.objs.size],_,_,H1,rfl,I2,Ce a _ _ (Nat.succ_ne_self _),⟨⟨_,he⟩,hit⟩,λb hb=>?_,q⟩;have hle:s1.heap.objs.size<=b:=by
     rcases NU.mp hb with z |z
     ·rw[z];exact R3 _
     ·rw[N6.mp z];exact NW _
    exact I1.mq hle (I1.hok.fresh hle)
  ·exact p1.elim⟩
def wU(x:Vl)(lo hi:Option Int)(S:Sto):R Vl:=match x with
 | .sc ns=>.ok (.d (.lst (dG (ns.map D.int) lo hi))) S
 |_=>.bad
theorem BG{e:Expr}{lo hi:Option Expr}{xa:XE}{xl xh:XO}{p2 pos:Pos}(he:RE X WE e xa)(hl:RO X WE lo xl)(hh:RO X WE hi xh):RE X WE (.Subscript e (.Slice lo hi none p2) pos) (xSl wU xa xl xh):=
 ⟨(rn yA he.h hl.h hh.h).weak λσ H Q ⟨μ,S,τ,hr,sr,p⟩=>⟨μ,S,τ,hr,sr,p.bind λv x S1 μ1 H1 st1 r1 p1=>⟨μ1,S1,τ,st1.hr,sr.step st1,p1.bind λi i' S2 μ2 H2 st2 r2 p2=>⟨μ2,S2,τ,st2.hr,sr.step (st1.trans st2),p2.bind λj j' S3 μ3 H3 st3 r3 p3=>by
  cases(show i=i' from r2);cases(show j=j' from r3);have rv:=r1.step (st2.trans st3);unfold wU at p3;split at p3
  ·rename_i ns;obtain⟨l,rfl,hq⟩:=rv;exact⟨l,_,rfl,hq.mono dj,λq hq=>p3.mi st3.hr (qU (aJ.ints ns) i j) q hq⟩
  ·exact p3.elim⟩⟩⟩⟩
theorem Ex:RB X WE sts BS:=⟨λ_ _ _ _ _ _ ⟨_,_,_,_,_,p⟩=>p.elim⟩
end
def Df(K:NO)(mg:Str->Option Value)(x:Str)(st:Stmt):Prop:=∃(f:Addr)(fd:FuncData),Fun K x x st f fd/\mg x=some (.ref f)
theorem LV{K:NO}{h:Heap}{mg:Str->Option Value}{x:Str}{st:Stmt}{f:Addr}{oc:Value}{od an:Option Addr}{osl:Array (Option Value)}{kV doc pm cdv ct:Value}(X:K.In h)(G:h.Ns mainGlobals mg)(a:Vb K mainGlobals x=some (some (.ref f)))
  (l:K.lookup f=some ⟨oc,od,.func (QC x x (j7 st) (eV st) (bE st) .none kV doc pm an cdv ct),osl⟩) (c:Sz K cdv x=true) (k:Qx K (.ref f)=true):Df K mg x st:=⟨f,_,HX l c k,UL X G a⟩
theorem ln0{P:List Value->Prop}(h:P [])(us:List Value)(hl:us.length=0):P us:=by
 cases us with
 |nil=>exact h
 |cons a us=>cases hl
theorem lnS{P:List Value->Prop}{n:Nat}(h:∀a us,us.length=n->P (a::us))(us:List Value)(hl:us.length=n+1):P us:=by
 cases us with
 |nil=>cases hl
 |cons a us=>exact h a us (Nat.succ.inj hl)
theorem bz{K:NO}{mg:Str->Option Value}{P:Program}{w:World}{x:Str}{st:Stmt}{ps:List Str}{lev:Nat}{k n:Nat}{m:XS}{M:XF}(N:List Str)(F:Df K mg x st)
  (hb:∀(base:Heap)(f:Addr)(cdv:Value)(A:Around)(outer:List Env)(s:Shared)(H:Hp)(E:XK),dE lev (A.deeper (envOfC x (bE st) s.heap.objs.size f cdv))->LQ (bE st) N->RB (gT CX0 P w K mg base N x (bE st) f cdv A outer s H E).nox W0 (eV st) m)
  (hM:M=aY k n m:=by rfl) (hk:ps.length=k:=by rfl) (hn:N.length=n:=by rfl) (Sc:i6 N ps (bE st):=by exact⟨rfl,rfl,rfl,by decide+kernel,rfl,by decide+kernel,by decide+kernel⟩)
  (hbd:∀(kV doc pm:Value)(an:Option Addr)(cdv ct:Value)(us:List Value),us.length=ps.length->bindArgs (QC x x (j7 st) (eV st) (bE st) .none kV doc pm an cdv ct) ⟨us,[]⟩=pure (ps.zip us):=by
   intro _ _ _ _ _ _
   repeat refine lnS λ_=>?_
   exact ln0 rfl):OkE P w K mg (lev+1) x ps M:=by
 subst hM hk hn;obtain⟨f,fd,F,hm⟩:=F;refine⟨f,fd,hm,F.kp,?_,λbase=>Nw F Sc λcdv A outer s H E hr=>hb base f cdv A outer s H E hr ⟨Sc.nd⟩⟩;obtain⟨oc,od,kV,doc,pm,an,cdv,ct,osl,rfl,lk,hcd⟩:=F.ex;exact hbd kV doc pm an cdv ct
theorem bc{α z:Type}{a:α}{S:Sto}{f:α->Sto->R z}:(R.ok a S).bind f=f a S:=rfl
theorem K_{i:Nat}{z:Vl}{τ:Nv}{S:Sto}:gNm i z τ S=.ok (τ.set i (some z)) S:=rfl
theorem nX:leave S (.ok (.rt z,τ) S')=out S z S':=rfl
theorem vO:out S (.d x) S'=.ok (.d x) (S'.take S.length):=rfl
theorem sH(h:us.length=k):aY k n b us S=leave S (b (us.map some++N_ (n-k) none) S):=by unfold aY;rw[NT h]
open Classical in
theorem wF {g:XG} {b:XS} {gd:Option (Nat×Ob)}:∀{items:List Vl}{τ:Nv}{S:Sto}(I:Nat->Nv->Sto->Prop),I 0 τ S ->
  (∀i z τ S,items[i]?=some z->I i τ S->∃τ1 S1 fl τ2 S2,g z τ S=.ok τ1 S1/\b τ1 S1=.ok (fl,τ2) S2/\(fl=.nx\/fl=.ct)/\gok gd S2/\I (i+1) τ2 S2) ->
  ∃τ' S',eK g b gd items τ S=.ok (.nx,τ') S'/\I items.length τ' S'
 | [],τ,S,I,h0,_=>⟨τ,S,rfl,h0⟩
 |z::zs,τ,S,I,h0,hs=>by
  obtain⟨τ1,S1,fl,τ2,S2,e1,e2,hf,hg,hI⟩:=hs 0 z τ S rfl h0
  obtain⟨τ',S',e3,h3⟩:=wF (items:=zs) (τ:=τ2) (S:=S2) (λi=>I (i+1)) hI λi z' τ S hz hi=>hs (i+1) z' τ S (by simpa using hz) hi
  refine⟨τ',S',?_,h3⟩
  rw[eK,e1,bc,e2,bc]
  rcases hf with rfl |rfl
  ·dsimp only
   rw[NT hg];exact e3
  ·dsimp only
   rw[NT hg];exact e3
theorem CK{it:XI}{t:XT}{e:XE}{τ:Nv}{S S1:Sto}{items:List Vl}(hit:it τ S=.ok ⟨items,none⟩ S1)(J:Nat->List D->Sto->Prop)(h0:J 0 [] S1)
  (hs:∀i z acc Q,items[i]?=some z->J i acc Q->Q.length=S1.length->∃b Q1,t (some z::τ) (Q++[.lst acc])=.ok b (Q1++[.lst acc])/\Q1.length=S1.length /\
   (b=true->∃x Q2,e (some z::τ) (Q1++[.lst acc])=.ok (.d x) (Q2++[.lst acc])/\Q2.length=S1.length/\J (i+1) (acc++[x]) Q2)/\(b=false->J (i+1) acc Q1)) :
  ∃acc Q,xLC it 1 (gNm 0) t e τ S=.ok (.d (.lst acc)) Q/\Q.length=S1.length/\J items.length acc Q:=by
 have key:∀(zs:List Vl)(i:Nat)(acc:List D)(o:Option Vl)(Q:Sto),(∀j,zs[j]?=items[i+j]?)->J i acc Q->Q.length=S1.length->∃acc' Q',dW (gNm 0) t e S1.length none zs acc (o::τ) (Q++[.lst acc])=.ok acc' (Q'++[.lst acc'])/\Q'.length=S1.length/\J (i+zs.length) acc' Q':=by
  intro zs
  induction zs with
  |nil=>
   intro i acc o Q _ hJ hl;refine⟨acc,Q,?_,hl,hJ⟩;rw[dW,NT];rw[<-hl,OA (NW _)];simp
  |cons z zs ih=>
   intro i acc o Q hz hJ hl;have hz0:items[i]?=some z:=by
    have:=hz 0;simpa using this.symm
   have hz1:∀j,zs[j]?=items[i+1+j]?:=λj=>by
    have:=hz (j+1);rw[show i+1+j=i+(j+1) by omega];simpa using this
   obtain⟨b,Q1,e1,l1,ht,hf⟩:=hs i z acc Q hz0 hJ hl;rw[dW,K_,bc,show(o::τ).set 0 (some z)=some z::τ from rfl,e1,bc];cases b with
   |true=>
    obtain⟨x,Q2,e2,l2,hJ2⟩:=ht rfl;rw[NT rfl,e2,bc];dsimp only;have hn:(Q2++[Ob.lst acc])[S1.length]?=some (.lst acc):=by
     rw[<-l2,OA (NW _)];simp
    rw[NT ⟨hn,True.intro⟩];have hset:(Q2++[Ob.lst acc]).set S1.length (.lst (acc++[x]))=Q2++[.lst (acc++[x])]:=by
     rw[<-l2,List.set_append_right _ _ (NW _)];simp
    rw[hset];obtain⟨acc',Q',e3,l3,h3⟩:=ih (i+1) (acc++[x]) (some z) Q2 hz1 hJ2 l2;exact⟨acc',Q',e3,l3,by rw[show i+(z::zs).length=i+1+zs.length by simp;omega];exact h3⟩
   |false=>
    rw[N1 Od,NT (show gok none (Q1++[Ob.lst acc])from True.intro)];obtain⟨acc',Q',e3,l3,h3⟩:=ih (i+1) acc (some z) Q1 hz1 (hf rfl) l1;exact⟨acc',Q',e3,l3,by rw[show i+(z::zs).length=i+1+zs.length by simp;omega];exact h3⟩
 obtain⟨acc,Q,e1,l1,h1⟩:=key items 0 [] none S1 (λj=>by rw[TK]) h0 rfl;refine⟨acc,Q,?_,l1,by rw[TK]at h1;exact h1⟩;show(it τ S).bind _=_;rw[hit,bc];dsimp only;rw[show N_ 1 (none:Option Vl)++τ=none::τ from rfl,e1,bc];unfold lI;rw[NT (by simp[l1]),<-l1,Q7]
theorem tO(hit:it τ S=.ok ⟨items,none⟩ S1)(f:Vl->Option D)
  (hs:∀z∈items,∀S:Sto,(∀x,f z=some x->t (some z::τ) S=.ok true S/\e (some z::τ) S=.ok (.d x) S)/\(f z=none->t (some z::τ) S=.ok false S)) :
  xLC it 1 (gNm 0) t e τ S=.ok (.d (.lst (items.filterMap f))) S1:=by
 obtain⟨acc,Q,e1,l1,h1⟩:=CK (t:=t) (e:=e) hit (λi acc Q=>acc=(items.take i).filterMap f/\Q=S1) ⟨rfl,rfl⟩ (by
  rintro i z acc Q hz ⟨rfl,rfl⟩ _;have hm:=OE hz;have ht:items.take (i+1)=items.take i++[z]:=by rw[Tg,hz];rfl
  obtain⟨h1,h2⟩:=hs z hm (Q++[.lst ((items.take i).filterMap f)]);cases q:f z with
  |some x=>
   obtain⟨h3,h4⟩:=h1 x q;refine⟨true,Q,h3,rfl,λ_=>⟨x,Q,h4,rfl,?_,rfl⟩,λz=>(by cases z)⟩;rw[ht,Sg];simp[q]
  |none=>
   refine⟨false,Q,h2 q,rfl,λz=>(by cases z),λ_=>⟨?_,rfl⟩⟩;rw[ht,Sg];simp[q])
 obtain⟨rfl,rfl⟩:=h1;rw[Rc]at e1;exact e1
theorem gF(hit:it τ S=.ok ⟨items,none⟩ S1)(f:Vl->D)(hs:∀z∈items,∀S:Sto,e (some z::τ) S=.ok (.d (f z)) S) :
  xLC it 1 (gNm 0) (λ_ S=>.ok true S) e τ S=.ok (.d (.lst (items.map f))) S1:=by
 have:=tO (t:=λ_ S=>.ok true S) (e:=e) hit (λz=>some (f z)) λz hz S=>⟨λx hx=>⟨rfl,by cases hx;exact hs z hz S⟩,λh=>by cases h⟩;rw[this];congr 4;rw[List.filterMap_eq_map']
end L2
namespace L2
section
variable{n:Nat}{b:XS}{x y z u v:Vl}{S:Sto}
theorem ba:aY 1 n b [x] S=leave S (b ([some x]++N_ (n-1) none) S):=sH rfl
theorem eh:aY 2 n b [x,y] S=leave S (b ([some x,some y]++N_ (n-2) none) S):=sH rfl
theorem mK:aY 3 n b [x,y,z] S=leave S (b ([some x,some y,some z]++N_ (n-3) none) S):=sH rfl
theorem Ky:aY 4 n b [x,y,z,u] S=leave S (b ([some x,some y,some z,some u]++N_ (n-4) none) S):=sH rfl
end
end L2
theorem L2.bp{α:Sort _}{a b:α}(h:a=b):a=b:=h
namespace L2
open PySem PySem.Spec PyProof.Rows
def KO(f:Vl->Vl->Sto->R Vl)(r:R Vl)(b:XE)(τ:Nv):R Vl:=r.bind λx S1=>(b τ S1).bind λy S2=>f x y S2
def zQ(f:Vl->Vl->Sto->R Vl)(x:Vl)(r:R Vl):R Vl:=r.bind λy S2=>f x y S2
def un1(f:Vl->Sto->R Vl)(r:R Vl):R Vl:=r.bind λx S1=>f x S1
def ch3(r:R Vl)(f:Vl->Vl->Sto->R Vl)(y:Vl)(c:XE)(τ:Nv):R Vl:=r.bind λz S3=>match z with
 | .d (.bl k)=>if k=true then(c τ S3).bind λw S4=>f y w S4 else .ok (.d (.bl false)) S3
 |_=>.bad
def ch2(f f2:Vl->Vl->Sto->R Vl)(x:Vl)(r:R Vl)(c:XE)(τ:Nv):R Vl:=r.bind λy S2=>ch3 (f x y S2) f2 y c τ
def ch1(f f2:Vl->Vl->Sto->R Vl)(r:R Vl)(b c:XE)(τ:Nv):R Vl:=r.bind λx S1=>ch2 f f2 x (b τ S1) c τ
def t1(r:R Vl):R Bool:=r.bind asB
def tr1(r:R Vl):R Bool:=r.bind tru
def or1(r:R Bool)(b:XT)(τ:Nv):R Bool:=r.bind λc S1=>if c=true then .ok true S1 else b τ S1
def Jr(r:R Bool):R Bool:=r.bind λc S1=>.ok (!c) S1
def AE(r:R Vl)(b:XE)(τ:Nv):R Vl:=r.bind λx S1=>(asB x S1).bind λc S2=>if c=true then b τ S2 else .ok (.d (.bl false)) S2
def DP(r:R Vl)(b:XE)(τ:Nv):R Vl:=r.bind λx S1=>(asB x S1).bind λc S2=>if c=true then .ok (.d (.bl true)) S2 else b τ S2
def EW(r:R Vl):R Vl:=r.bind λx S1=>(asB x S1).bind λc S2=>.ok (.d (.bl (!c))) S2
def DR(r:R Bool)(a b:XE)(τ:Nv):R Vl:=r.bind λk S1=>if k=true then a τ S1 else b τ S1
def co2(x:Vl)(r:R (List Vl)):R (List Vl):=r.bind λxs S2=>.ok (x::xs) S2
def co1(r:R Vl)(t:XA)(τ:Nv):R (List Vl):=r.bind λx S1=>co2 x (t τ S1)
def n1(f:List Vl->Sto->R Vl)(r:R (List Vl)):R Vl:=r.bind f
def c1(F:XF)(r:R (List Vl)):R Vl:=r.bind λus S1=>noX (F us S1)
def fz1(r:R Vl):R Vl:=r.bind frz
def p1(r:R Vl):R (Option Int):=r.bind λx S1=>match x with
 | .d (.int i)=>.ok (some i) S1
 |_=>.bad
def sl3(f:Vl->Option Int->Option Int->Sto->R Vl)(x:Vl)(i:Option Int)(r:R (Option Int)):R Vl:=r.bind λj S3=>f x i j S3
def sl2(f:Vl->Option Int->Option Int->Sto->R Vl)(x:Vl)(r:R (Option Int))(h:XO)(τ:Nv):R Vl:=r.bind λi S2=>sl3 f x i (h τ S2)
def sl1(f:Vl->Option Int->Option Int->Sto->R Vl)(r:R Vl)(l h:XO)(τ:Nv):R Vl:=r.bind λx S1=>sl2 f x (l τ S1) h τ
def lm4(f:Nat->List D->D->Sto->R Vl)(n:Nat)(o:Option Ob)(z:D)(S:Sto):R Vl:=match o with
 |some (.lst xs)=>f n xs z S
 |_=>.bad
def lm3(f:Nat->List D->D->Sto->R Vl)(n:Nat)(r:R Vl):R Vl:=r.bind λy S2=>match y with
 | .d z=>lm4 f n S2[n]? z S2
 |_=>.bad
def lm2(f:Nat->List D->D->Sto->R Vl)(n:Nat)(o:Option Ob)(e:XE)(τ:Nv)(S:Sto):R Vl:=match o with
 |some (.lst _)=>lm3 f n (e τ S)
 |_=>.bad
def lm1(f:Nat->List D->D->Sto->R Vl)(r:R Vl)(e:XE)(τ:Nv):R Vl:=r.bind λx S1=>match x with
 | .r n=>lm2 f n S1[n]? e τ S1
 |_=>.bad
def sq1(r:R (Fl×Nv))(b:XS):R (Fl×Nv):=r.bind λq S1=>match q.1 with
 | .nx=>b q.2 S1
 |_=>.ok q S1
def ex1(r:R Vl)(τ:Nv):R (Fl×Nv):=r.bind λ_ S1=>.ok (.nx,τ) S1
def rt1(r:R Vl)(τ:Nv):R (Fl×Nv):=r.bind λz S1=>.ok (.rt z,τ) S1
def if1(r:R Bool)(a b:XS)(τ:Nv):R (Fl×Nv):=r.bind λk S1=>if k=true then a τ S1 else b τ S1
def as2(r:R Nv):R (Fl×Nv):=r.bind λq1 S2=>.ok (.nx,q1) S2
def as1(r:R Vl)(g:XG)(τ:Nv):R (Fl×Nv):=r.bind λz S1=>as2 (g z τ S1)
def gc1(r:R Nv)(gs:XGs)(zs:List Vl):R Nv:=r.bind λq1 S1=>gs zs q1 S1
def gs3(r:R Unit)(τ:Nv):R Nv:=r.bind λ_ S3=>.ok τ S3
def gs2(x:Vl)(r:R Vl)(f:Vl->Vl->Vl->Sto->R Unit)(z:Vl)(τ:Nv):R Nv:=r.bind λy S2=>gs3 (f x y z S2) τ
def gs1(r:R Vl)(i:XE)(f:Vl->Vl->Vl->Sto->R Unit)(z:Vl)(τ:Nv):R Nv:=r.bind λx S1=>gs2 x (i τ S1) f z τ
noncomputable def fo1(r:R Its)(g:XG)(b:XS)(τ:Nv):R (Fl×Nv):=r.bind λI S1=>eK g b I.gd I.items τ S1
def is2(n:Nat)(o:Option Ob)(S:Sto):R Its:=match o with
 |some (.lst xs)=>.ok ⟨xs.map Vl.d,some (n,.lst xs)⟩ S
 |_=>.bad
def is1(r:R Vl):R Its:=r.bind λz S1=>match z with
 | .d (.tup xs)=>.ok ⟨xs.map Vl.d,none⟩ S1
 | .d (.lst xs)=>.ok ⟨xs.map Vl.d,none⟩ S1
 | .r n=>is2 n S1[n]? S1
 |_=>.bad
def ir1(r:R (List Vl)):R Its:=r.bind λzs S1=>match zs with
 | [.d (.int j)]=>if -100000<=j/\j<=100000 then .ok ⟨(NY j.toNat).map λi=>Vl.d (.int (i:Nat)),none⟩ S1 else .bad
 |_=>.bad
def ir2(r:R (List Vl)):R Its:=r.bind λzs S1=>match zs with
 | [.d (.int i),.d (.int j)]=>if(-100000<=i/\i<=100000)/\-100000<=j/\j<=100000 then .ok ⟨(NY (j-i).toNat).map λk=>Vl.d (.int (i+(k:Nat))),none⟩ S1 else .bad
 |_=>.bad
def ie1(r:R Vl):R Its:=r.bind λz S1=>match z with
 | .d (.lst xs)=>.ok ⟨fK 0 xs,none⟩ S1
 |_=>.bad
theorem Ay:ae 0 (some v::τ) S=.ok v S:=rfl
theorem vq:ae (n+1) (o::τ) S=ae n τ S:=rfl
theorem Kw:xC x τ S=.ok (.d x) S:=rfl
theorem Fg:xOp f a b τ S=KO f (a τ S) b τ:=rfl
theorem Ba:KO f (.ok x S1) b τ=zQ f x (b τ S1):=rfl
theorem BU:zQ f x (.ok y S1)=f x y S1:=rfl
theorem LY:xUn u a τ S=un1 u (a τ S):=rfl
theorem MD:un1 u (.ok x S1)=u x S1:=rfl
theorem DO:ft f f2 a b c τ S=ch1 f f2 (a τ S) b c τ:=rfl
theorem Lz:ch1 f f2 (.ok x S1) b c τ=ch2 f f2 x (b τ S1) c τ:=rfl
theorem ML:ch2 f f2 x (.ok y S1) c τ=ch3 (f x y S1) f2 y c τ:=rfl
theorem J_:ch3 (.ok (.d (.bl true)) S1) f y c τ=zQ f y (c τ S1):=rfl
theorem Jo:ch3 (.ok (.d (.bl false)) S1) f y c τ=.ok (.d (.bl false)) S1:=rfl
theorem tN:aE a τ S=t1 (a τ S):=rfl
theorem K5:t1 (.ok (.d (.bl k)) S)=.ok k S:=rfl
theorem IS:bN a τ S=tr1 (a τ S):=rfl
theorem K7:tr1 (.ok z S)=tru z S:=rfl
theorem L9:tru (.d (.bl k)) S=.ok k S:=rfl
theorem MC:xOr a b τ S=or1 (a τ S) b τ:=rfl
theorem MH:or1 (.ok true S) b τ=.ok true S:=rfl
theorem LA:or1 (.ok false S) b τ=b τ S:=rfl
theorem AY:bV a τ S=Jr (a τ S):=rfl
theorem IE:Jr (.ok k S)=.ok (!k) S:=rfl
theorem Hh:bT a b τ S=AE (a τ S) b τ:=rfl
theorem Hs:AE (.ok (.d (.bl true)) S) b τ=b τ S:=rfl
theorem Hr:AE (.ok (.d (.bl false)) S) b τ=.ok (.d (.bl false)) S:=rfl
theorem J6:rC a b τ S=DP (a τ S) b τ:=rfl
theorem Jg:DP (.ok (.d (.bl true)) S) b τ=.ok (.d (.bl true)) S:=rfl
theorem Jc:DP (.ok (.d (.bl false)) S) b τ=b τ S:=rfl
theorem G8:sA a τ S=EW (a τ S):=rfl
theorem HI:EW (.ok (.d (.bl k)) S)=.ok (.d (.bl (!k))) S:=rfl
theorem JC:ik c a b τ S=DR (c τ S) a b τ:=rfl
theorem Ik:DR (.ok true S) a b τ=a τ S:=rfl
theorem IW:DR (.ok false S) a b τ=b τ S:=rfl
theorem CY:aj τ S=.ok [] S:=rfl
theorem yH:aa a r τ S=co1 (a τ S) r τ:=rfl
theorem Fo:co1 (.ok x S) r τ=co2 x (r τ S):=rfl
theorem FV:co2 x (.ok xs S)=.ok (x::xs) S:=rfl
theorem Nr:xN f r τ S=n1 f (r τ S):=rfl
theorem MW:n1 f (.ok xs S)=f xs S:=rfl
theorem yB:aw F r τ S=c1 F (r τ S):=rfl
theorem Ki:c1 F (.ok xs S)=noX (F xs S):=rfl
theorem FP:noX (R.ok x S)=.ok x S:=rfl
theorem Lu:xFz a τ S=fz1 (a τ S):=rfl
theorem Ml:fz1 (.ok z S)=frz z S:=rfl
theorem BW:bO τ S=.ok none S:=rfl
theorem G5:cp a τ S=p1 (a τ S):=rfl
theorem MX:p1 (.ok (.d (.int i)) S)=.ok (some i) S:=rfl
theorem MN:xSl f a l h τ S=sl1 f (a τ S) l h τ:=rfl
theorem Mi:sl1 f (.ok x S) l h τ=sl2 f x (l τ S) h τ:=rfl
theorem LZ:sl2 f x (.ok i S) h τ=sl3 f x i (h τ S):=rfl
theorem LW:sl3 f x i (.ok j S)=f x i j S:=rfl
theorem Mj:xLm f o e τ S=lm1 f (o τ S) e τ:=rfl
theorem MU:lm1 f (.ok (.r n) S) e τ=lm2 f n S[n]? e τ S:=rfl
theorem LB:lm2 f n (some (.lst xs)) e τ S=lm3 f n (e τ S):=rfl
theorem LP:lm3 f n (.ok (.d z) S)=lm4 f n S[n]? z S:=rfl
theorem MM:lm4 f n (some (.lst xs)) z S=f n xs z S:=rfl
theorem mX:aN τ S=.ok (.nx,τ) S:=rfl
theorem ck:ay a b τ S=sq1 (a τ S) b:=rfl
theorem jR:sq1 (.ok (.nx,τ) S) b=b τ S:=rfl
theorem Lb:sq1 (.ok (.rt v,τ) S) b=.ok (.rt v,τ) S:=rfl
theorem FW:iF e τ S=ex1 (e τ S) τ:=rfl
theorem LN:ex1 (.ok z S) τ=.ok (.nx,τ) S:=rfl
theorem v9:aD e τ S=rt1 (e τ S) τ:=rfl
theorem LK:rt1 (.ok z S) τ=.ok (.rt z,τ) S:=rfl
theorem fo:xIf t a b τ S=if1 (t τ S) a b τ:=rfl
theorem Jz:if1 (.ok true S) a b τ=a τ S:=rfl
theorem oS:if1 (.ok false S) a b τ=b τ S:=rfl
theorem xJ:aR e g τ S=as1 (e τ S) g τ:=rfl
theorem vt:as1 (.ok z S) g τ=as2 (g z τ S):=rfl
theorem sE:as2 (.ok q1 S)=.ok (.nx,q1) S:=rfl
theorem jg:gNm i z τ S=.ok (τ.set i (some z)) S:=rfl
theorem LL:gTu n gs (.d (.tup xs)) τ S=if xs.length=n then gs (xs.map Vl.d) τ S else .bad:=rfl
theorem Mk:gN0 [] τ S=.ok τ S:=rfl
theorem Lp:gCo g gs (z::zs) τ S=gc1 (g z τ S) gs zs:=rfl
theorem LO:gc1 (.ok q1 S) gs zs=gs zs q1 S:=rfl
theorem Fd:gSb o e f z τ S=gs1 (o τ S) e f z τ:=rfl
theorem Fu:gs1 (.ok x S) e f z τ=gs2 x (e τ S) f z τ:=rfl
theorem E8:gs2 x (.ok y S) f z τ=gs3 (f x y z S) τ:=rfl
theorem AQ:gs3 (.ok () S) τ=.ok τ S:=rfl
theorem vV:fQ it g b τ S=fo1 (it τ S) g b τ:=rfl
theorem vi:fo1 (.ok I S) g b τ=eK g b I.gd I.items τ S:=rfl
theorem wb:bZ e τ S=is1 (e τ S):=rfl
theorem xf:is1 (.ok (.d (.tup xs)) S)=.ok ⟨xs.map Vl.d,none⟩ S:=rfl
theorem J9:is1 (.ok (.d (.lst xs)) S)=.ok ⟨xs.map Vl.d,none⟩ S:=rfl
theorem Ig:is1 (.ok (.r n) S)=is2 n S[n]? S:=rfl
theorem MB:is2 n (some (.lst xs)) S=.ok ⟨xs.map Vl.d,some (n,.lst xs)⟩ S:=rfl
theorem Jw:iM as τ S=ir1 (as τ S):=rfl
theorem J2:zB as τ S=ir2 (as τ S):=rfl
theorem JM:DT e τ S=ie1 (e τ S):=rfl
theorem Ls:ie1 (.ok (.d (.lst xs)) S)=.ok ⟨fK 0 xs,none⟩ S:=rfl
theorem qp(h:-100000<=j/\j<=100000):ir1 (.ok [.d (.int j)] S)=.ok ⟨(NY j.toNat).map λi=>Vl.d (.int (i:Nat)),none⟩ S:=by rw[show ir1 (.ok [.d (.int j)] S)=if -100000<=j/\j<=100000 then .ok ⟨(NY j.toNat).map λi=>Vl.d (.int (i:Nat)),none⟩ S else .bad from rfl,NT h]
theorem vE(h:(-100000<=i/\i<=100000)/\-100000<=j/\j<=100000):ir2 (.ok [.d (.int i),.d (.int j)] S)=.ok ⟨(NY (j-i).toNat).map λk=>Vl.d (.int (i+(k:Nat))),none⟩ S:=by rw[show ir2 (.ok [.d (.int i),.d (.int j)] S)=if(-100000<=i/\i<=100000)/\-100000<=j/\j<=100000 then .ok ⟨(NY (j-i).toNat).map λk=>Vl.d (.int (i+(k:Nat))),none⟩ S else .bad from rfl,NT h]
theorem Nd:oI0 g (.d (.int i)) (.d (.int j)) S=.ok (.d (g i j)) S:=rfl
theorem Kq:aU (.d (.int i)) (.d (.int j)) S=.ok (.d (.int (i+j))) S:=rfl
theorem MJ:e9 (.d (.int i)) S=.ok (.d (.int (-i))) S:=rfl
theorem CT(h:xs.length+ys.length<=100000):aU (.d (.tup xs)) (.d (.tup ys)) S=.ok (.d (.tup (xs++ys))) S:=by rw[show aU (.d (.tup xs)) (.d (.tup ys)) S=if xs.length+ys.length<=100000 then .ok (.d (.tup (xs++ys))) S else .bad from rfl,NT h]
theorem vY(h:xs.length+ys.length<=100000):aU (.d (.lst xs)) (.d (.lst ys)) S=.ok (.d (.lst (xs++ys))) S:=by rw[show aU (.d (.lst xs)) (.d (.lst ys)) S=if xs.length+ys.length<=100000 then .ok (.d (.lst (xs++ys))) S else .bad from rfl,NT h]
theorem Md:oEq (.d (.int i)) (.d (.int j)) S=.ok (.d (.bl (decide (i=j)))) S:=rfl
theorem Mo:oNe (.d (.int i)) (.d (.int j)) S=.ok (.d (.bl (!decide (i=j)))) S:=rfl
theorem Me:oEq (.d (.str s)) (.d (.str t)) S=.ok (.d (.bl (decide (s=t)))) S:=rfl
theorem Ld:oNe (.d (.str s)) (.d (.str t)) S=.ok (.d (.bl (!decide (s=t)))) S:=rfl
theorem Ms:oEq (.d (.bl p)) (.d (.bl q)) S=.ok (.d (.bl (decide (p=q)))) S:=rfl
theorem Mm:oNe (.d (.bl p)) (.d (.bl q)) S=.ok (.d (.bl (!decide (p=q)))) S:=rfl
theorem FL(h:D.depth (.tup xs)<=50):oEq (.d (.tup xs)) (.d (.tup ys)) S=.ok (.d (.bl (D.cJ xs ys))) S:=by
 have:eqD (.d (.tup xs)) (.d (.tup ys)) S=some (D.cJ xs ys):=by rw[show eqD (.d (.tup xs)) (.d (.tup ys)) S=if D.depth (.tup xs)<=50 then some (D.cJ xs ys)else none from rfl,NT h]
 unfold oEq;rw[this]
theorem wz(h:D.depth (.lst xs)<=50):oEq (.d (.lst xs)) (.d (.lst ys)) S=.ok (.d (.bl (D.cJ xs ys))) S:=by
 have:eqD (.d (.lst xs)) (.d (.lst ys)) S=some (D.cJ xs ys):=by rw[show eqD (.d (.lst xs)) (.d (.lst ys)) S=if D.depth (.lst xs)<=50 then some (D.cJ xs ys)else none from rfl,NT h]
 unfold oEq;rw[this]
theorem Bn(h:D.depth (.lst xs)<=50):oNe (.d (.lst xs)) (.d (.lst ys)) S=.ok (.d (.bl (!D.cJ xs ys))) S:=by
 have:eqD (.d (.lst xs)) (.d (.lst ys)) S=some (D.cJ xs ys):=by rw[show eqD (.d (.lst xs)) (.d (.lst ys)) S=if D.depth (.lst xs)<=50 then some (D.cJ xs ys)else none from rfl,NT h]
 unfold oNe;rw[this]
theorem Ks:oIs (.d .non) (.d .non) S=.ok (.d (.bl true)) S:=rfl
theorem Jf:oIs (.d (.tup xs)) (.d .non) S=.ok (.d (.bl false)) S:=rfl
theorem KZ:oIs (.d (.lst xs)) (.d .non) S=.ok (.d (.bl false)) S:=rfl
theorem JX:oIs (.d (.int i)) (.d .non) S=.ok (.d (.bl false)) S:=rfl
theorem ED:sP (.d .non) (.d .non) S=.ok (.d (.bl false)) S:=rfl
theorem DG:sP (.d (.tup xs)) (.d .non) S=.ok (.d (.bl true)) S:=rfl
theorem K9:cL T (.d x) S=.ok (.d (.bl (isT T x))) S:=rfl
theorem Ja:bh [.d (.tup xs)] S=.ok (.d (.int xs.length)) S:=rfl
theorem KR:bh [.d (.lst xs)] S=.ok (.d (.int xs.length)) S:=rfl
theorem Kn:cH [.d (.lst xs)] S=.ok (.d (.tup xs)) S:=rfl
theorem K3:qe [.d (.tup xs)] S=.ok (.d (.lst xs)) S:=rfl
theorem GQ:su [.d (.lst xs)] S=.ok (.r S.length) (S++[.lst xs]):=rfl
theorem Lk:xQ [.d (.int i),.d (.int j)] S=.ok (.d (.int (if j>i then j else i))) S:=rfl
theorem LD:rm [.d (.int i),.d (.int j)] S=.ok (.d (.int (if j<i then j else i))) S:=rfl
theorem aX(h:atI xs i=some z):oIx (.d (.tup xs)) (.d (.int i)) S=.ok (.d z) S:=by rw[show oIx (.d (.tup xs)) (.d (.int i)) S=(match atI xs i with |some z=>.ok (.d z) S |none=>.bad)from rfl,h]
theorem cb(h:atI xs i=some z):oIx (.d (.lst xs)) (.d (.int i)) S=.ok (.d z) S:=by rw[show oIx (.d (.lst xs)) (.d (.int i)) S=(match atI xs i with |some z=>.ok (.d z) S |none=>.bad)from rfl,h]
theorem vB(e:S[n]?=some (.lst xs))(h:atI xs i=some z):oIx (.r n) (.d (.int i)) S=.ok (.d z) S:=by
 have:cT (.r n) S=some xs:=by unfold cT dv;dsimp only;rw[e]
 unfold oIx;dsimp only;rw[this];dsimp only;rw[h]
theorem wZ(e:S[n]?=some (.lst xs)):bh [.r n] S=.ok (.d (.int xs.length)) S:=by
 have:cT (.r n) S=some xs:=by unfold cT dv;dsimp only;rw[e]
 unfold bh;dsimp only;rw[this]
theorem Lm:oSl (.d (.tup xs)) i j S=.ok (.d (.tup (dG xs i j))) S:=rfl
theorem MS:oSl (.d (.lst xs)) i j S=.ok (.d (.lst (dG xs i j))) S:=rfl
theorem LJ:wU (.sc ns) i j S=.ok (.d (.lst (dG (ns.map D.int) i j))) S:=rfl
theorem zl:oLe (.d (.int i)) (.d (.int j)) S=.ok (.d (.bl (decide (i<=j)))) S:=rfl
theorem FT(h:nz i j):ju (.d (.int i)) (.d (.int j)) S=.ok (.d (.int (i*j))) S:=by rw[show ju (.d (.int i)) (.d (.int j)) S=if nz i j then .ok (.d (.int (i*j))) S else .bad from rfl,NT h]
theorem Ao(h:0<j):oMod (.d (.int i)) (.d (.int j)) S=.ok (.d (.int (i % j))) S:=by rw[show oMod (.d (.int i)) (.d (.int j)) S=if 0<j then .ok (.d (.int (i % j))) S else .bad from rfl,NT h]
theorem FI(h:tu i j):oDiv (.d (.int i)) (.d (.int j)) S=.ok (.d (.int (i / j))) S:=by rw[show oDiv (.d (.int i)) (.d (.int j)) S=if tu i j then .ok (.d (.int (i / j))) S else .bad from rfl,NT h]
theorem zr(h:tj i j):zw (.d (.int i)) (.d (.int j)) S=.ok (.d (.int (i ^ j.toNat))) S:=by rw[show zw (.d (.int i)) (.d (.int j)) S=if tj i j then .ok (.d (.int (i ^ j.toNat))) S else .bad from rfl,NT h]
theorem Fp(h1:-(2 ^ 64)<j)(h2:j<2 ^ 64):nz i j:=.inr ⟨h1,h2⟩
theorem Io:mkT [] S=.ok (.d (.tup [])) S:=bp rfl
theorem HW:mkL [] S=.ok (.d (.lst [])) S:=bp rfl
theorem KI:mkM [] S=.ok (.r S.length) (S++[.lst []]):=bp rfl
theorem Kk:mkT [.d a] S=.ok (.d (.tup [a])) S:=bp rfl
theorem Ij:mkL [.d a] S=.ok (.d (.lst [a])) S:=bp rfl
theorem IY:mkM [.d a] S=.ok (.r S.length) (S++[.lst [a]]):=bp rfl
theorem JJ:mkT [.d a,.d b] S=.ok (.d (.tup [a,b])) S:=bp rfl
theorem KH:mkL [.d a,.d b] S=.ok (.d (.lst [a,b])) S:=bp rfl
theorem Jy:mkM [.d a,.d b] S=.ok (.r S.length) (S++[.lst [a,b]]):=bp rfl
theorem KC:mkT [.d a,.d b,.d c] S=.ok (.d (.tup [a,b,c])) S:=bp rfl
theorem IJ:mkL [.d a,.d b,.d c] S=.ok (.d (.lst [a,b,c])) S:=bp rfl
theorem Kz:mkT [.d a,.d b,.d c,.d d] S=.ok (.d (.tup [a,b,c,d])) S:=bp rfl
theorem Ir:mkT [.d a,.d b,.d c,.d d,.d e] S=.ok (.d (.tup [a,b,c,d,e])) S:=bp rfl
theorem JT:mkL [.d a,.d b,.d c,.d d,.d e] S=.ok (.d (.lst [a,b,c,d,e])) S:=bp rfl
theorem KQ:mkL [.d a,.d b,.d c,.d d,.d e,.d f] S=.ok (.d (.lst [a,b,c,d,e,f])) S:=bp rfl
theorem Hk:mkL [.d a,.d b,.d c,.d d,.d e,.d f,.d g,.d h,.d i,.d j] S=.ok (.d (.lst [a,b,c,d,e,f,g,h,i,j])) S:=bp rfl
theorem GV:mkL [.d a,.d b,.d c,.d d,.d e,.d f,.d g,.d h,.d i,.d j,.d k,.d l] S=.ok (.d (.lst [a,b,c,d,e,f,g,h,i,j,k,l])) S:=bp rfl
theorem ka{R:Sto}:(o::(R++[x]))[R.length+1]?=some x:=by simp
theorem gO{R:Sto}:(R++[x])[R.length]?=some x:=by simp
theorem C_{R:Sto}:(R++[x]).set R.length y=R++[y]:=by simp
theorem Eb{R:Sto}:(R++[x,y])[R.length]?=some x:=by simp
theorem Dr{R:Sto}:(R++[x,y]).set R.length z=R++[z,y]:=by simp
theorem xP{R:Sto}:(R++[x,y])[R.length+1]?=some y:=by simp
theorem AV(ns:List Int):(ns.map D.int).all D.flat=true:=by rw[Rw];exact Oi.mpr λ_ _=>rfl
theorem GZ(w:Int)(ns:List Int):inD (.int w) (ns.map D.int)=decide (w∈ns):=by
 unfold inD;rw[Vc,OW,R9,PX];constructor
 ·rintro⟨x,hx,e⟩;have e':(x==w)=true:=e;rw[<-(O_.mp e')];exact hx
 ·intro h;exact⟨w,h,by show(w==w)=true;simp⟩
theorem vn(e:S[n]?=some (.lst xs)):cT (.r n) S=some xs:=by unfold cT dv;dsimp only;rw[e]
theorem AL(e:S[n]?=some (.lst xs)):dv (.r n) S=some xs:=by unfold dv;dsimp only;rw[e]
theorem Dx{ns:List Int}(h:cT y S=some (ns.map D.int)):inX (.d (.int w)) y S=some (decide (w∈ns)):=by
 unfold inX;dsimp only;rw[h];dsimp only;rw[show D.flat (.int w)=true from rfl,AV,NT (by rfl),GZ]
theorem w_{ns:List Int}(e:S[n]?=some (.lst (ns.map D.int))):iW (.d (.int w)) (.r n) S=.ok (.d (.bl (!decide (w∈ns)))) S:=by unfold iW;rw[Dx (vn e)]
theorem jX(h:xs.length<100000):jG n xs z S=.ok (.d .non) (S.set n (.lst (xs++[z]))):=by unfold jG;rw[NT h]
theorem IL(h:xs.length+ys.length<=100000):qm n xs (.lst ys) S=.ok (.d .non) (S.set n (.lst (xs++ys))):=by unfold qm;dsimp only;rw[NT h]
theorem GL(e:cT x S=some (ns.map D.int))(h:ns.length<64):nG [x] S=.ok (.d (.lst ((sortI ns).map D.int))) S:=by
 unfold nG;dsimp only;rw[e,TL,nD];dsimp only;rw[NT h]
theorem yF(e:S[n]?=some (.lst (ns.map D.int)))(h:ns.length<64):nG [.r n] S=.ok (.d (.lst ((sortI ns).map D.int))) S:=GL (vn e) h
theorem zx(e:cT x S=some (ns.map D.int))(h:ns.length<=300)(h2:(b_ ns).length<64):oSS x S=.ok (.d (.lst ((b_ ns).map D.int))) S:=by
 unfold oSS Ac;rw[e,TL,nD];dsimp only;rw[NT ⟨h,h2⟩]
theorem wW(x:Int):∀ys,(kr x ys).length<=ys.length+1
 | []=>by simp[kr]
 |y::ys=>by
  unfold kr;split
  ·simp
  ·split
   ·simp
   ·have:=wW x ys;simp;omega
theorem ji:∀xs,(b_ xs).length<=xs.length
 | []=>by simp[b_]
 |x::xs=>by
  have:=wW x (b_ xs);have:=ji xs;rw[b_,N9];omega
theorem jo(ns:List Int):(sortI ns).length=ns.length:=(sortI_perm ns).length_eq
theorem uu(ns:List Int)(z:Int):z∈sortI ns↔z∈ns:=(sortI_perm ns).mem_iff
theorem wm(h:ns.Nodup):(sortI ns).Pairwise (· <·):=((nH ns).and ((sortI_perm ns).nodup_iff.mpr h)).imp λz=>by have:=z.1;have:=z.2;omega
theorem iH(h:iq ds=some bs):kS [.d (.lst ds)] S=.ok (.d (.bl (bs.all id))) S:=by
 unfold kS;dsimp only;rw[show dv (.d (.lst ds)) S=some ds from rfl,TL,h]
theorem zh(f:α->Bool):∀l:List α,iq (l.map λx=>D.bl (f x))=some (l.map f)
 | []=>rfl
 |x::l=>by simp[iq,zh f l]
theorem rB(f:α->Int):∀l:List α,intsOf (l.map λx=>D.int (f x))=some (l.map f)
 | []=>rfl
 |x::l=>by simp[intsOf,rB f l]
theorem jm{α:Type}{f:α->Bool}{l:List α}{S:Sto}:kS [.d (.lst (l.map λx=>D.bl (f x)))] S=.ok (.d (.bl (l.all f))) S:=by rw[iH (zh f l),Rw];rfl
theorem JS(h:0<=j/\j<=1000):lrg EJ [.d (.int j)] S=.ok (.r S.length) (S++[.lst ((NY j.toNat).map λi=>D.int (i:Nat))]):=by
 unfold lrg;dsimp only;rw[NT h];rfl
theorem Mw(h:0<=i/\i<2 ^ 63)(e:xs[i.toNat]?=some y):wN n xs (.int i) S=.ok (.d y) (S.set n (.lst (xs.eraseIdx i.toNat))):=by
 unfold wN;dsimp only;rw[NT h,e]
theorem Fc(hC:xLC it 1 (gNm 0) t e τ S=r)(hit:it τ S=.ok ⟨items,none⟩ S1)(J:Nat->List D->Sto->Prop)(h0:J 0 [] S1)
  (hs:∀i z acc Q,items[i]?=some z->J i acc Q->Q.length=S1.length->∃b Q1,t (some z::τ) (Q++[.lst acc])=.ok b (Q1++[.lst acc])/\Q1.length=S1.length /\
   (b=true->∃x Q2,e (some z::τ) (Q1++[.lst acc])=.ok (.d x) (Q2++[.lst acc])/\Q2.length=S1.length/\J (i+1) (acc++[x]) Q2)/\(b=false->J (i+1) acc Q1)) :
  ∃acc Q,r=.ok (.d (.lst acc)) Q/\Q.length=S1.length/\J items.length acc Q:=by
 obtain⟨acc,Q,e1,h⟩:=CK (t:=t) (e:=e) hit J h0 hs;exact⟨acc,Q,hC.symm.trans e1,h⟩
theorem pq(hC:xLC it 1 (gNm 0) (λ_ S=>.ok true S) e τ S=r)(hit:it τ S=.ok ⟨items,none⟩ S1)(J:Nat->List D->Sto->Prop)(h0:J 0 [] S1)
  (hs:∀i z acc Q,items[i]?=some z->J i acc Q->Q.length=S1.length->∃x Q2,e (some z::τ) (Q++[.lst acc])=.ok (.d x) (Q2++[.lst acc])/\Q2.length=S1.length/\J (i+1) (acc++[x]) Q2) :
  ∃acc Q,r=.ok (.d (.lst acc)) Q/\Q.length=S1.length/\J items.length acc Q:=
 Fc hC hit J h0 λi z acc Q hz hJ hl=>⟨true,Q,rfl,hl,λ_=>hs i z acc Q hz hJ hl,λz=>(by cases z)⟩
theorem gQ(hC:xLC (bZ a) 1 (gNm 0) (λ_ S=>.ok true S) e τ S=r)(ha:a τ S=.ok (.d (.tup xs)) S1)(f:D->D)(hs:∀x∈xs,∀S:Sto,e (some (.d x)::τ) S=.ok (.d (f x)) S):r=.ok (.d (.lst (xs.map f))) S1:=by
 rw[<-hC,gF (items:=xs.map Vl.d) (S1:=S1) (by rw[wb,ha,xf]) (λz=>match z with | .d x=>f x |_=>.non) (by
  intro z hz S;obtain⟨x,hx,rfl⟩:=Of.mp hz;exact hs x hx S)]
 rw[Ov];rfl
theorem fS(hL:fQ it g b τ S=r)(hit:it τ S=.ok ⟨items,gd⟩ S1)(I:Nat->Nv->Sto->Prop)(h0:I 0 τ S1)
  (hs:∀i z τ S,items[i]?=some z->I i τ S->∃τ1 S1 fl τ2 S2,g z τ S=.ok τ1 S1/\b τ1 S1=.ok (fl,τ2) S2/\(fl=.nx\/fl=.ct)/\gok gd S2/\I (i+1) τ2 S2):∃τ' S',r=.ok (.nx,τ') S'/\I items.length τ' S':=by
 obtain⟨τ',S',e,h⟩:=wF (g:=g) (b:=b) (gd:=gd) I h0 hs;refine⟨τ',S',?_,h⟩;rw[<-hL,vV,hit,vi];exact e
theorem i_(h:((NY n).map λi=>Vl.d (.int (i:Nat)))[i]?=some z):i<n/\z=.d (.int i):=by
 have hi:i<n:=by simpa using(NZ.mp h).1
 rw[Ow,Sv hi]at h;exact⟨hi,(Ou h).symm⟩
theorem i8:((NY n).map λi=>Vl.d (.int (i:Nat))).length=n:=by simp
theorem fj{α z:Type}{f:α->z}{l:List α}{x:α}:(l++[x]).map f=l.map f++[f x]:=by rw[Ql];rfl
end L2
namespace L2
open PySem PySem.Spec PyProof.Rows ZS
section
variable{X:Cx}{WE:WX}
def SqH(H:Hp)(a:Addr)(ts:List (List Int)):Prop:=∃ads:List Addr,(H a=some (.lst (ads.map V.ref))\/H a=some (.tup (ads.map V.ref)))/\ads.length=ts.length/\∀j,j<ts.length->H (ads.getD j 0)=some (.tup ((ts.getD j []).map V.int))
theorem pU:∀{ads:List Addr}{its:List Value},Vals (ads.map V.ref) its->its=ads.map Value.ref
 | [],_,r=>by cases r;rfl
 |a::ads,_,r=>by
  cases r with
  |cons h t=>
   cases h;rw[pU t];rfl
theorem qG:∀{its:List Value}{ns:List Int},IntsAre its ns->ItemsAre (intKind prog w) ns its
 |_,_,.nil=>.nil
 |_,_,.cons n t r=>.cons (intKind_is prog w n t) (qG r)
theorem SqH.at(I:Inv X pins σ H s)(h:SqH H a ts):∃(ads:List Addr)(k:Bool),ads.length=ts.length/\pO s.heap a (ads.map Value.ref).toArray k/\∀j,j<ts.length->IsTupleKey (intKind X.prog X.w) s.heap (ts.getD j []) (ads.getD j 0):=by
 obtain⟨ads,h,hl,hk⟩:=h;have hkey:∀j,j<ts.length->IsTupleKey (intKind X.prog X.w) s.heap (ts.getD j []) (ads.getD j 0):=λj hj=>by
  obtain⟨its,rv,⟨o,e,c,n,d⟩,hz⟩:=I.tuple (SqT.of (hk j hj));exact⟨o,_,n,e,c,d,by simpa using qG (intsAre_of rv)⟩
 rcases h with h |h
 ·obtain⟨its,rv,pl,hz⟩:=I.list (SqL.of h);rw[pU rv]at pl;exact⟨ads,true,hl,pl.isList,hkey⟩
 ·obtain⟨its,rv,pl,hz⟩:=I.tuple (SqT.of h);rw[pU rv]at pl;exact⟨ads,false,hl,pl,hkey⟩
def MZ(te:TE):TE:=λσ H Q=>te σ H λx H1=>((∃(a:Addr)(ns:List Int),x=.ref a/\SqI H1 a ns/\ns.length<=300/\Q (.int (b_ ns).length) H1)\/∃(a:Addr)(ts:List (List Int)),x=.ref a/\SqH H1 a ts/\ts.length<=300/\Q (.int (uq ts).length) H1)
theorem K0{e:Expr}{te:TE}{p1 p2 pos1 pos2:Pos}(hc:X.calm=true)(hgs:Gl X "len")(hms:X.mg "len"=none)(hgt:Gl X "set")(hmt:X.mg "set"=none)(hbs:bootBuiltins "len"=some (.builtin "len"))(hbt:bootBuiltins "set"=some (.type "set"))(hu:X.A.units+64<cLine)(he:PE X e te)
  (hs:starEach [e] X.env=(false,eval e X.env)::starEach [] X.env:=by rfl)
  (hs2:starEach [Expr.Call (.Name "set" p2) [e] [] pos2] X.env=(false,eval (Expr.Call (.Name "set" p2) [e] [] pos2) X.env)::starEach [] X.env:=by rfl) :
  PE X (.Call (.Name "len" p1) [.Call (.Name "set" p2) [e] [] pos2] [] pos1) (MZ te):=by
 intro pins s σ H Q I h;refine Pt (dH I hgs hms hbs ?_);rw[hs2];refine Pz (by show(false||(backTo pos1 (starEach ([]:List Expr) X.env)).any (·.1))=false;rfl) (Px ?_);show wpAny _ _ (spliced ((false,eval (Expr.Call (.Name "set" p2) [e] [] pos2) X.env)::backTo pos1 (starEach [] X.env))) _ _ s;refine PK ?_;have hA:=(eP he iw hs) pos2 pins s σ H (λvs H1=>∃x,vs=[x]/\((∃(a:Addr)(ns:List Int),x=.ref a/\SqI H1 a ns/\ns.length<=300/\Q (.int (b_ ns).length) H1)\/∃(a:Addr)(ts:List (List Int)),x=.ref a/\SqH H1 a ts/\ts.length<=300/\Q (.int (uq ts).length) H1)) I (by
  refine cast (OZ (te σ H) ?_) h;funext y H2;refine propext ⟨λq=>⟨y,rfl,q⟩,λ⟨y',e',q⟩=>?_⟩;cases e';exact q)
 refine Uw (dH I hgt hmt hbt (OH (thn hA λus s1 ⟨vs,H1,I1,r1,x,e1,hq⟩=>?_) hs rfl));subst e1;obtain⟨u,rfl,rx⟩:=vals1 r1;have hA0:X.A.handled=none:=I.ok.hd hc;rcases hq with⟨a,ns,e2,hx,hn,q⟩ |⟨a,ts,e2,hx,hn,q⟩
 ·subst e2;cases rx;obtain⟨its,k,hI,pl⟩:=hx.at I1;refine uy hA0 k pl (by simpa using hI) hn λh' tk ks S1 S2 S3=>?_;refine NP ?_;obtain⟨o,es,ep,t,pl',g1,g2,g3,g4,g5,g6,g7,g8,⟨g9,g10,g11⟩,g12,g13,g14,g15⟩:=S1;have lks:es.size=ks.length:=by
   have:=fH g12;rw[tv,Om]at this;exact this
  refine call_len_set (s:=⟨h',s1.gens,s1.drawn,tk,s1.os⟩) g1 g2 g3 (fits_of g5 (by rw[g8,lks];simpa using g10) ⋯) ⋯ ?_;rw[lks,jV g14 S2];exact⟨.int _,H1,I1.kept (t':=tk+1+1) S3,⟨_,rfl⟩,q⟩
 ·subst e2;cases rx;obtain⟨ads,k,hl2,pl,hkey⟩:=hx.at I1;refine An hA0 k pl ts ads rfl hl2 hn (by show X.A.units+1+1+1<cLine;omega) hkey λh' tk ks S1 S2 S3=>?_;refine NP ?_;obtain⟨o,es,ep,t,g1,g2,g3,g4,lks,g6⟩:=S1;refine call_len_set (s:=⟨h',s1.gens,s1.drawn,tk,s1.os⟩) g1 g2 g3 g4 ⋯ ?_;rw[lks,S2];exact⟨.int _,H1,I1.kept (t':=tk+1+1) S3,⟨_,rfl⟩,q⟩
def nh:List D->Option (List (List Int))
 | []=>some []
 | .tup xs::r=>(intsOf xs).bind λa=>(nh r).map (a::·)
 |_=>none
theorem rY:∀ts:List (List Int),nh (ts.map λt=>D.tup (t.map D.int))=some ts
 | []=>rfl
 |t::ts=>by
  rw[N4,nh,rY ts,show intsOf (t.map D.int)=some t by rw[rB (λx=>x) t];simp];rfl
theorem uO:∀{vs:List V}{ds:List D}{ts:List (List Int)},aJ G vs ds->nh ds=some ts->∃ads:List Addr,vs=ads.map V.ref/\ads.length=ts.length/\∀j,j<ts.length->G (ads.getD j 0)=some (.tup ((ts.getD j []).map V.int))
 |_,_,ts,.nil,e=>by
  cases e;exact⟨[],rfl,rfl,λj hj=>by cases hj⟩
 |_,_,ts,.cons (v:=v) (d:=d) r rs,e=>by
  cases d with
  |tup xs=>
   rw[nh]at e;obtain⟨a,e1,e2⟩:=QK.mp e;obtain⟨ts',e3,e4⟩:=PC.mp e2;subst e4;obtain⟨ads,q1,q2,q3⟩:=uO rs e3;cases r with
   |tup h rr=>
    rename_i b us;rw[lj e1]at rr;rw[aJ.qj rr]at h;refine⟨b::ads,by rw[q1];rfl,by simp[q2],λj hj=>?_⟩;cases j with
    |zero=>exact h
    |succ j=>exact q3 j (by simpa using hj)
  |_=>cases e
def oLX(x:Vl)(S:Sto):R Vl:=match cT x S with
 |some ds=>(match intsOf ds with
  |some ns=>if ns.length<=300 then .ok (.d (.int (b_ ns).length)) S else .bad
  |none=>(match nh ds with
   |some ts=>if ts.length<=300 then .ok (.d (.int (uq ts).length)) S else .bad
   |none=>.bad))
 |none=>.bad
theorem Ae{e:Expr}{xa:XE}{p1 p2 pos1 pos2:Pos}[n:NS e](hc:X.calm=true)(hgs:Gl X "len")(hms:X.mg "len"=none)(hgt:Gl X "set")(hmt:X.mg "set"=none)(hbs:bootBuiltins "len"=some (.builtin "len"))(hbt:bootBuiltins "set"=some (.type "set"))(hu:X.A.units+64<cLine)(he:RE X WE e xa)
  (hs2:starEach [Expr.Call (.Name "set" p2) [e] [] pos2] X.env=(false,eval (Expr.Call (.Name "set" p2) [e] [] pos2) X.env)::starEach [] X.env:=by rfl) :
  RE X WE (.Call (.Name "len" p1) [.Call (.Name "set" p2) [e] [] pos2] [] pos1) (xUn oLX xa):=
 ⟨(K0 hc hgs hms hgt hmt hbs hbt hu he.h (n.eq _ X.env) hs2).weak λσ H Q ⟨μ,S,τ,hr,sr,p⟩=>⟨μ,S,τ,hr,sr,p.bind λv x S1 μ1 H1 st1 r1 p1=>by
  unfold oLX at p1;split at p1
  ·rename_i ds e0;split at p1
   ·rename_i ns e1;split at p1
    ·obtain⟨a,rfl,sq⟩:=AX (ns:=ns) st1.hr r1 (by rw[e0];exact e1);exact .inl ⟨a,ns,rfl,sq,‹_›,p1.here st1.hr (Rep.int _)⟩
    ·exact p1.elim
   ·split at p1
    ·rename_i ts e1;split at p1
     ·rename_i hb;obtain⟨a,us,rfl,ha,rr⟩:=jr st1.hr r1 e0;obtain⟨ads,rfl,hl,hk⟩:=uO rr e1;exact .inr ⟨a,ts,rfl,⟨ads,ha,hl,λj hj=>dj _ _ (hk j hj)⟩,hb,p1.here st1.hr (Rep.int _)⟩
     ·exact p1.elim
    ·exact p1.elim
  ·exact p1.elim⟩⟩
end
def eE(xs ys:List D):List Vl:=List.zipWith (λx y=>Vl.d (.tup [x,y])) xs ys
theorem nv:(eE xs ys).length=min xs.length ys.length:=by simp[eE]
theorem kx{xs ys:List D}{i:Nat}{z:Vl}(h:(eE xs ys)[i]?=some z):∃x y,xs[i]?=some x/\ys[i]?=some y/\z=.d (.tup [x,y]):=by
 unfold eE at h;rw[List.getElem?_zipWith]at h;cases q:xs[i]? with
 |none=>rw[q]at h;cases h
 |some x=>
  cases q2:ys[i]? with
  |none=>rw[q,q2]at h;cases h
  |some y=>rw[q,q2]at h;cases h;exact⟨x,y,rfl,rfl,rfl⟩
def z_:D->Option (Bool×List D)
 | .tup xs=>some (false,xs)
 | .lst xs=>some (true,xs)
 |_=>none
def Am(zs:List Vl)(S:Sto):R Its:=match zs with
 | [.d x,.d y]=>(match z_ x,z_ y with
  |some p,some q=>.ok ⟨eE p.2 q.2,none⟩ S
  |_,_=>.bad)
 |_=>.bad
def iZp(as:XA):XI:=λτ S=>(as τ S).bind Am
section
variable{X:Cx}{WE:WX}{K:NO}{mg:Str->Option Value}{μ:Nat->Addr}{S:Sto}{H:Hp}
theorem vR(r:Rep G v x)(h:z_ x=some p):∃a vs,v=.ref a/\G a=some (Sq p.1 vs)/\aJ G vs p.2:=by
 cases r with
 |tup g rs=>cases h;exact⟨_,_,rfl,g,rs⟩
 |lst g rs=>cases h;exact⟨_,_,rfl,g,rs⟩
 |_=>cases h
theorem JR{vs us:List V}(g:vh μ S H t=some (Sq b vs))(rs:aJ (vh μ S H) vs xs)(g2:vh μ S H u=some (Sq c us))(rs2:aJ (vh μ S H) us ys)(hz:vs.length<=sizeLine):ig K mg μ S H (Itg b c t u) ⟨eE xs ys,none⟩where
 ok:=True.intro
 len:=by show(eE xs ys).length<=sizeLine;rw[nv];rw[rs.length]at hz;omega
 go:=λi z μ' S' H' st _ e=>by
  obtain⟨x,y,e1,e2,_⟩:=kx e;obtain⟨a,q1,_⟩:=rs.get' e1;obtain⟨b,q2,_⟩:=rs2.get' e2;exact⟨vs,us,a,b,(bA (st.vis _ _ g)).2,(bA (st.vis _ _ g2)).2,q1,q2⟩
 yld:=λi z μ' S' H' v H2 st _ e yy=>by
  obtain⟨p,a,b,hp,rfl,rfl,y1,y2⟩:=yy;obtain⟨x,y,e1,e2,rfl⟩:=kx e;have q1:=y1 vs (bA (st.vis _ _ g)).2;have q2:=y2 us (bA (st.vis _ _ g2)).2;obtain⟨x',e3,r1⟩:=rs.get q1;obtain⟨y',e4,r2⟩:=rs2.get q2;rw[e1]at e3;cases e3;rw[e2]at e4;cases e4;have st2:=Step.new st.hr hp (.tup [a,b]);exact⟨st2,Rep.tup (cS cV (st.hr.nal hp)) (.cons (Rep.mono (st.trans st2).vis r1) (.cons (Rep.mono (st.trans st2).vis r2) .nil))⟩
 stop:=λi μ' S' H' st _ hi=>by
  replace hi:(eE xs ys).length=i:=hi
  rw[nv]at hi;have l1:=rs.length;have l2:=rs2.length;exact⟨vs,us,(bA (st.vis _ _ g)).2,(bA (st.vis _ _ g2)).2,by omega,by omega,by omega⟩
theorem B5(hg:Gl X "zip")(hm:X.mg "zip"=none)(ha:RA X WE [a,b] xa)(hb:bootBuiltins "zip"=some (.type "zip"):=by decide+kernel)
  (hs:starEach [a,b] X.env=[(false,eval a X.env),(false,eval b X.env)]:=by rfl) (hs2:starEach [b] X.env=[(false,eval b X.env)]:=by rfl):RI X WE (.Tuple es kk tp) (.Call (.Name "zip" p) [a,b] [] pos) (iZp xa):=⟨by
 intro pins s σ H R I h;obtain⟨μ,S,τ,hr,sr,pp⟩:=h;refine Uw (dH I hg hm hb (OH (thn (ha.h pos pins s σ H (λvs H1=>∃μ1 S1 zs,HR μ1 S1 H1/\cn X.K X.mg μ1 S1 H1 vs zs/\bg (ig X.K X.mg) WE μ1 S1 H1 (Am zs S1) R) I ?_) λus s1 ⟨vs,H1,I1,r1,q1⟩=>?_) (by rw[hs,hs2]) (by rw[hs2];rfl)))
 ·exact⟨μ,S,τ,hr,sr,pp.bind λv x S1 μ1 H1 st1 r1 p1=>⟨μ1,S1,x,st1.hr,r1,p1⟩⟩
 ·obtain⟨μ1,S1,zs,hr1,rz,p1⟩:=q1;have fp:∀b∈[s1.heap.objs.size+4,s1.heap.objs.size+2,s1.heap.objs.size+3,s1.heap.objs.size,s1.heap.objs.size+1],s1.heap.objs.size<=b:=by
   intro b hb;simp only[NU,Oj,O6]at hb;rcases hb with z |z |z |z |z<;>rw[z]
   ·exact P7 _ _
   ·exact P7 _ _
   ·exact P7 _ _
   ·exact NW _
   ·exact P7 _ _
  unfold Am at p1;split at p1
  ·split at p1
   ·rename_i p q e1 e2;cases rz with
    |cons q1 q2=>cases q2 with
     |cons q2 q3=>
      cases q3;obtain⟨u1,u2,rfl,ru,rw'⟩:=r1.two;obtain⟨t,vs,rfl,g,rs⟩:=vR q1 e1;obtain⟨u,us,rfl,g2,rs2⟩:=vR q2 e2;cases ru;cases rw';obtain⟨its,rv,pl,hz⟩:=I1.sq (bA g).2;obtain⟨its2,rv2,pl2,hz2⟩:=I1.sq (bA g2).2;refine uM p.1 q.1 pl pl2 λh' z1 z2 z3 z4 z5 hk=>?_;refine R_ (s:={ s1 with heap:=h' }) z1 ?_;have I2:Inv X pins σ H1 { s1 with heap:=h' }:=I1.kept (t':=s1.toks) hk;exact⟨s1.heap.objs.size+4,_,_,_,H1,rfl,I2,pN p.1 q.1 t u s1.heap.objs.size,⟨z1,z2,⟨_,_,z3⟩,z4,z5⟩,λb hb=>I1.mq (fp b hb) (I1.hok.fresh (fp b hb)),p1.here hr1 (JR g rs g2 rs2 hz)⟩
   ·exact p1.elim
  ·exact p1.elim⟩
end
def xLf(f:List D->D->Sto->R Vl)(o e:XE):XE:=λτ S=>(o τ S).bind λx S1=>match x with
 | .d (.lst xs)=>(e τ S1).bind λy S2=>(match y with
  | .d z=>f xs z S2
  |_=>.bad)
 |_=>.bad
def Dd(r:V->List V->Hp->VK->Prop)(f:List D->D->Sto->R Vl):Prop:=∀(K:NO)(mg:Str->Option Value)(WE:WX)(μ:Nat->Addr)(S:Sto)(H:Hp)(a:Addr)(xs:List D)(vs:List V)(w:V)(z:D)(Q:VK),HR μ S H->H a=some (.lst vs)->aJ (vh μ S H) vs xs->Rep (vh μ S H) w z->bg (bu K mg) WE μ S H (f xs z S) Q->r (.ref a) [w] H Q
section
variable{X:Cx}{WE:WX}
theorem Ft{r:V->List V->Hp->VK->Prop}{f:List D->D->Sto->R Vl}{name:Str}{id:String}{o e:Expr}{xo xe:XE}{apos cpos:Pos}(slot:Slot "list" name id)(hty:typeOf (.builtin id)=pure (.type "method_descriptor"))(hm:MtM X id r)(hf:Dd r f)(ho:RE X WE o xo)(he:RE X WE e xe)
  (hbase:attributeBase o name X.env (eval o X.env)=eval o X.env:=by rfl)
  (hfew:((backTo cpos (starEach [e] X.env)).all (λx=>!x.1)&&(backToKw cpos (keywordEach [] X.env)).all (λx=>x.1.isSome)&&decide ([e].length+([]:List Keyword).length+(if([]:List Keyword).isEmpty then 0 else 1)<30))=true:=by rfl)
  (hline:(apos.endLine==cpos.line)=true:=by rfl) (hs:starEach [e] X.env=(false,eval e X.env)::starEach [] X.env:=by rfl):RE X WE (.Call (.Attribute o name apos) [e] [] cpos) (xLf f xo xe):=
 ⟨(Fv slot hty hm ho.h he.h hbase hfew hline hs).weak λσ H Q ⟨μ,S,τ,hr,sr,p⟩=>⟨μ,S,τ,hr,sr,p.bind λv x S1 μ1 H1 st1 r1 p1=>by
  try dsimp only at p1
  split at p1
  ·rename_i xs;cases(show Rep (vh μ1 S1 H1) v (.lst _)from r1)with
   | @lst a vs _ g rs=>
    refine⟨a,vs,rfl,(bA g).2,μ1,S1,τ,st1.hr,sr.step st1,p1.bind λw y S2 μ2 H2 st2 r2 p2=>?_⟩
    try dsimp only at p2
    split at p2
    ·exact hf X.K X.mg WE μ2 S2 H2 a xs vs w _ Q st2.hr (bA (st2.vis _ _ g)).2 (rs.mono st2.vis) r2 p2
    ·exact p2.elim
  ·exact p1.elim⟩⟩
end
def sx(x y:Vl)(S:Sto):R Vl:=match dv x S,dv y S with
 |some a,some b=>if a.length+b.length<=100000 then .ok (.r S.length) (S++[.lst (a++b)])else .bad
 |_,_=>.bad
section
variable{K:NO}{mg:Str->Option Value}
theorem DE:cQ K mg zT sx:=by
 intro WE μ S H v w x y Q hr rx ry p;unfold sx at p;split at p
 ·rename_i a b e1 e2;split at p
  ·obtain⟨p1,us,rfl,h1,r1⟩:=eL hr rx e1;obtain⟨p2,ws,rfl,h2,r2⟩:=eL hr ry e2;have l1:=r1.length;have l2:=r2.length;exact .inl (.inr ⟨p1,p2,rfl,rfl,.inr ⟨us,ws,h1,h2,l9 ⋯,λq hq=>p.Ak hr (r1.append r2) q hq⟩⟩)
  ·exact p.elim
 ·exact p.elim
end
set_option maxRecDepth 100000
set_option maxRecDepth 100000
set_option maxRecDepth 100000
theorem GC(xs:List Value):slicePick xs.toArray none none (some (-1))=xs.reverse.toArray:=by
 unfold slicePick sliceBounds sliceRange;simp only[QH,NX];simp only[show¬((-1:Int)>0)from by decide,SA];have hc:(if((xs.length:Nat):Int)-1 > -1 then(((xs.length:Nat):Int)-1 - -1 - -1-1) / (- -1)else 0).toNat=xs.length:=by
  split
  ·rw[show((xs.length:Nat):Int)-1 - -1 - -1-1=(xs.length:Nat) by omega];simp
  ·omega
 rw[hc,Ru];congr 1;have:=Hq xs;rw[<-this];congr 1;funext m;simp only[Function.comp];congr 2;omega
def LR(te ts:TE):TE:=λσ H Q=>te σ H λx H1=>ts σ H1 λy H2=>∃a xs,x=.ref a/\y=.int (-1)/\H2 a=some (.lst xs)/\∀p,H2 p=none->Q (.ref p) (upd H2 p (.lst xs.reverse))
theorem He{X:Cx}{e st:Expr}{te ts:TE}{p2 pos:Pos}(he:PE X e te)(hs:PE X st ts):PE X (.Subscript e (.Slice none none (some st) p2) pos) (LR te ts):=by
 intro pins s σ H Q I h;refine Uy (thn (he pins s σ H _ I h) λv s1 ⟨x,H1,I1,r1,q1⟩=>?_);refine wpAny_Slice ?_;rw[UE];refine NP (NP ?_);rw[WA];refine thn (hs pins s1 σ H1 _ I1 q1) λu s2 ⟨y,H2,I2,r2,q2⟩=>?_;obtain⟨a,xs,rfl,rfl,hx,q⟩:=q2;cases r1;obtain⟨tk,rfl⟩:=r2;have I3:Inv X pins σ H2 { s2 with heap:=s2.heap.push { cls:=.type "slice",data:=.fields #[.none,.none,.int (-1) tk] } }:=I2.kept (t':=s2.toks) λb ob q=>NR _ q;obtain⟨its,r,ht,hz⟩:=I3.list (SqL.of hx);show wpAny (model X.prog X.w) X.A (subscriptTail e (.Slice none none (some st) p2) (.ref a) (.ref s2.heap.objs.size)) (EP X pins σ Q) X.xe { s2 with heap:=s2.heap.push { cls:=.type "slice",data:=.fields #[.none,.none,.int (-1) tk] } };refine VE (ops:=[.ref a,.ref s2.heap.objs.size]) ht.isList.typeIs PySem.F.slot_list_getitem.lookup (Tv ht.isList (U2 ..) .none .none (.int (-1) tk) (by decide) ?_ (by rw[NX,<-r.length];exact hz)) (by with_unfolding_all rfl);rw[GC];refine⟨.ref _,_,I3.laid (t':=s2.toks) (o:=.lst xs.reverse) (λb ob q=>NR _ q) (NW _) ?_,rfl,q _ (I3.hok.fresh (NW _))⟩;exact⟨by rw[Sw];exact hz,_,_,r.reverse,N5 _ rfl⟩
def vz(x y:Vl)(S:Sto):R Vl:=match dv x S,y with
 |some xs,.d (.int i)=>if i=-1 then .ok (.d (.lst xs.reverse)) S else .bad
 |_,_=>.bad
theorem Gq{X:Cx}{WE:WX}{e st:Expr}{xa xb:XE}{p2 pos:Pos}(he:RE X WE e xa)(hs:RE X WE st xb):RE X WE (.Subscript e (.Slice none none (some st) p2) pos) (xOp vz xa xb):=
 ⟨(He he.h hs.h).weak λσ H Q ⟨μ,S,τ,hr,sr,p⟩=>⟨μ,S,τ,hr,sr,p.bind λv x S1 μ1 H1 st1 r1 p1=>⟨μ1,S1,τ,st1.hr,sr.step st1,p1.bind λw y S2 μ2 H2 st2 r2 p2=>by
  have rv:=r1.step st2;unfold vz at p2;split at p2
  ·rename_i hl;split at p2
   ·rename_i hi;obtain⟨a,vs,rfl,h,rs⟩:=eL st2.hr rv hl;exact⟨a,vs,rfl,by rw[bM r2,hi],h,λq hq=>p2.mi st2.hr rs.reverse q hq⟩
   ·exact p2.elim
  ·exact p2.elim⟩⟩⟩
set_option maxRecDepth 100000
def Ep(sc:Scope):Scope:={ sc with names:=sc.names.map λ(n,k)=>if k==NameKind.free then(n,NameKind.cell)else(n,k) }
section
variable{X0:Cx}{WE:WX}{tg elt iter:Expr}{ifs:List Expr}{scope esc:Scope}{EN:List Str}{pos:Pos}{it:XI}{g:XG}{t:XT}{e:XE}{k:Nat}{fin:Nat->List D->Sto->R Vl}{C0:Addr}{s0:Shared}{H0:Hp}{fp0:List Addr}
theorem HZ(hfin:nq fin)(N:List Str)(hi:RI (bP X0 esc EN C0 s0 H0 fp0) WE tg iter it)(hg:∀C s H fp,LQ scope N->RG (bP (bP X0 esc EN C0 s0 H0 fp0) scope N C s H fp) WE tg g)(ht:∀C s H fp,RTs (bP (bP X0 esc EN C0 s0 H0 fp0) scope N C s H fp) WE ifs t)(he:∀C s H fp,RE (bP (bP X0 esc EN C0 s0 H0 fp0) scope N C s H fp) WE elt e)
  (hE:EN.Nodup:=by decide+kernel) (hd:N.Nodup:=by decide+kernel) (Sc:eX (Ep esc) scope EN N k:=by exact⟨rfl,by decide+kernel,by decide+kernel,by decide+kernel,by decide+kernel,by decide+kernel⟩) (h1:(bP X0 esc EN C0 s0 H0 fp0).env.scope=Ep esc:=by exact rfl) (hc:X0.calm=true:=by exact rfl)
  (hs:∀x,foldedSetIterable iter (bP X0 esc EN C0 s0 H0 fp0).env x=pure x:=by intro _;rfl):RE (bP X0 esc EN C0 s0 H0 fp0) WE (.ListComp elt [⟨tg,iter,ifs,0⟩] scope pos) (rg fin it k g t e):=
 cu (esc:=Ep esc) hfin N ⟨hE⟩ hi hg ht he hd Sc h1 rfl hc hs
end
def least(ns:List Int)(n:Int):Int:=ns.foldl (λm k=>if k<m then k else m) n
set_option maxRecDepth 100000
def sg(c:Nat):Str:=⟨#[c]⟩
def Itx(x:Str):It:=⟨λi _=>i<x.cps.size,λi H v H'=>H'=H/\∃c,x.cps[i]?=some c/\v=.str (sg c),λi _=>x.cps.size<=i⟩
theorem Bz{P:Program}{w:World}{K:NO}{tg:Expr}(it:Addr)(x:Str)(t:Tok):Turn P w K tg (Itx x) [it] it (λi h=>h.IsStrIter it "str_ascii_iterator" x t i)where
 mem:=by simp
 obj:=λi h st b hb=>by
  have e:b=it:=by simpa using hb
  subst e;obtain⟨o,e,c,d⟩:=st;exact⟨o,e,λv z=>by rw[d]at z;cases z⟩
 keep:=λi h h' st k=>by
  obtain⟨o,e,r⟩:=st;exact⟨o,k it (by simp) o e,r⟩
 item:=by
  intro X hP hw hK hc i pins s σ H E I hf st hg;subst hP hw hK;have hg:i<x.cps.size:=hg;have hx:x.cps[i]?=some x.cps[i]:=Pk hg;obtain⟨f0,f1,f2,f3,f4,f5⟩:=hf it (by simp);refine wpAny_pyNext_ascii_item st hx λh' st' sb=>?_;have I1:Inv X pins σ H { s with heap:=h',toks:=s.toks+1 }:=I.turned (t':=s.toks+1) (λb o hb e=>(sb.2 b hb).trans e) f0 f1 f3 f4 f5;obtain⟨o,e,c,d⟩:=id st';exact⟨_,rfl,ve (s:={ s with heap:=h',toks:=s.toks+1 }) e c d (by decide) ⟨.str (sg x.cps[i]),H,I1,⟨_,rfl⟩,⟨rfl,_,hx,rfl⟩,st',λb hb=>(hf b hb).1⟩⟩
 done:=by
  intro X hP hw hK hc i pins s σ H E I hf st hg;subst hP hw hK;obtain⟨f0,f1,f2,f3,f4,f5⟩:=hf it (by simp);exact wpAny_pyNext_ascii_end (I.ok.hd hc) st (Uc hg) λh' eb=>⟨rfl,I.turned (t':=s.toks) (λb o hb e=>eb b o hb e) f0 f1 f3 f4 f5⟩
 self:=λ_ _ _ _ _ st h=>wpAny_pyIter_striter_ascii st h
section
variable{X:Cx}{WE:WX}{K:NO}{mg:Str->Option Value}{μ:Nat->Addr}{S:Sto}{H:Hp}
theorem F8(hr:HR μ S H)(hm:x.cps.size<=sizeLine):ig K mg μ S H (Itx x) ⟨x.cps.toList.map λc=>Vl.d (.str (sg c)),none⟩where
 ok:=True.intro
 len:=by simpa using hm
 go:=λi z μ' S' H' st _ e=>by
  have:=(NZ.mp e).1;exact(show i<x.cps.size by simpa using this)
 yld:=λi z μ' S' H' u H2 st _ e y=>by
  obtain⟨rfl,c,hc,rfl⟩:=y;rw[Ow,OY,hc]at e;cases e;exact⟨Step.refl st.hr,Rep.str _⟩
 stop:=λi μ' S' H' st _ hi=>(show x.cps.size<=i by simpa using Qf hi)
def AM(e:XE):XI:=λτ S=>(e τ S).bind λz S1=>match z with
 | .d (.str x)=>if x.cps.size<=1000/\x.cps.all (· <128)=true then .ok ⟨x.cps.toList.map λc=>Vl.d (.str (sg c)),none⟩ S1 else .bad
 |_=>.bad
theorem zb{tg l:Expr}{xl:XE}(hl:RE X WE l xl):RI X WE tg l (AM xl):=⟨by
 intro pins s σ H Rr I h;obtain⟨μ,S,τ,hr,sr,p⟩:=h;refine thn (hl.h pins s σ H _ I ⟨μ,S,τ,hr,sr,p.bind (Q:=λv H1=>∃μ1 S1 z,HR μ1 S1 H1/\bu X.K X.mg μ1 S1 H1 v z/\bg (ig X.K X.mg) WE μ1 S1 H1 (match z with
   | .d (.str x)=>if x.cps.size<=1000/\x.cps.all (· <128)=true then .ok ⟨x.cps.toList.map λc=>Vl.d (.str (sg c)),none⟩ S1 else .bad
   |_=>.bad) Rr) λv x S1 μ1 H1 st1 r1 p1=>⟨μ1,S1,x,st1.hr,r1,p1⟩⟩) λv s1 ⟨u,H1,I1,ru,μ1,S1,z,hr1,r1,p1⟩=>?_
 split at p1
 ·split at p1
  ·rename_i hc;cases(show Rep (vh μ1 S1 H1) u (.str _)from r1)with
   |str _=>
    obtain⟨t,rfl⟩:=ru;refine wpAny_pyIter_ascii hc.2 ?_;refine⟨s1.heap.objs.size,[s1.heap.objs.size],_,_,H1,rfl,I1.kept (t':=s1.toks) λb o e=>NR _ e,Bz _ _ t,⟨_,N5 _ rfl,rfl,rfl⟩,λb hb=>?_,p1.here hr1 (F8 hr1 (N7 hc.1 (by decide)))⟩;rw[N6.mp hb];exact I1.mq (NW _) (I1.hok.fresh (NW _))
  ·exact p1.elim
 ·exact p1.elim⟩
end
set_option maxRecDepth 100000
section
variable{X:Cx}
def JL:R2:=λx y H Q=>∃d z,Rep H x d/\y=.str z/\Q (.bl (D.eqv d (.str z))) H
theorem c9(hu:X.A.units+64<cLine):OpR X (compareOp .Eq) JL:=by
 intro pins s σ H x y v u Q I rx ry h;obtain⟨d,z,r,rfl,q⟩:=h;obtain⟨t,rfl⟩:=ry;have hu':X.A.units<cLine:=by omega
 have go:∀b,SeqAt.RcAt X.A s v (.str z t) b->D.eqv d (.str z)=b->wpAny (model X.prog X.w) X.A (compareOp .Eq v (.str z t)) (EP X pins σ Q) X.xe s:=λb hr e=>hr X.prog X.w X.xe _ ⟨.bl b,H,I,rfl,by rw[<-e];exact q⟩;cases r with
 |non=>cases rx;exact go _ (Yp z t) rfl
 |bl b=>cases rx;exact go _ (Yq b z t) rfl
 |int i=>obtain⟨t2,rfl⟩:=rx;exact go _ (Yw i t2 z t) rfl
 |str a=>obtain⟨t2,rfl⟩:=rx;exact go _ (Yx a t2 z t) rfl
 |tup h r=>
  cases rx;obtain⟨its,rv,p,hz⟩:=I.tuple (SqT.of h);exact go _ (Ya z t p hu') rfl
 |lst h r=>
  cases rx;obtain⟨its,rv,p,hz⟩:=I.list (SqL.of h);exact go _ (Yr z t p.isList hu') rfl
def Fs:R2:=λx y H Q=>∃(p:Addr)(d:D)(ws:List Str),y=.ref p/\H p=some (.tup (ws.map V.str))/\Rep H x d/\Q (.bl (!ws.any λe=>D.eqv (.str e) d)) H
theorem Gd(hu:X.A.units+64<cLine):OpR X (compareOp .NotIn) Fs:=by
 classical
 intro pins s σ H x y v u Q I rx ry h;obtain⟨p,d,ws,rfl,hq,rd,q⟩:=h;cases ry;obtain⟨its,r,pl,hz⟩:=I.tuple (SqT.of hq);have key:∀w∈its,∃a∈ws,∃t,w=Value.str a t:=by
  intro w hw;obtain⟨j,hj⟩:=Qj.mp hw;have hlt:=(NZ.mp hj).1;have l1:=r.length;rw[tv]at l1;have e1:(ws.map V.str)[j]?=some (V.str (ws[j]'⋯)):=by rw[Ow,NV ⋯];rfl
  obtain⟨a1,b1,c1⟩:=r.get e1;rw[hj]at b1;cases b1;obtain⟨t,rfl⟩:=c1;exact⟨_,PM _,t,rfl⟩
 refine UQ (λw=>match w with | .str a _=>D.eqv (.str a) d |_=>false) pl (λw hw=>?_) ⟨.bl _,H,I,rfl,?_⟩
 ·obtain⟨a,_,t,rfl⟩:=key w (by simpa using hw);exact xA I 60 X.A.in1 (.str a) x (.str a t) v (.str a) d (by show X.A.units+1+60<cLine;omega) (by simp[D.depth]) ⟨t,rfl⟩ rx (.str a) rd
 ·rw[VH];refine cast (OZ (λb=>Q (.bl (!b)) H) ?_) q;have:∀{vs:List V}{its:List Value}{ws:List Str},vs=ws.map V.str->Vals vs its->(ws.any λe=>D.eqv (.str e) d)=its.any λw=>match w with | .str a _=>D.eqv (.str a) d |_=>false:=by
   intro vs its ws e r
   induction r generalizing ws with
   |nil=>cases ws with |nil=>rfl |cons a l=>cases e
   |cons h _ ih=>
    cases ws with
    |nil=>cases e
    |cons a l=>
     cases e;obtain⟨t,rfl⟩:=h;rw[QN,QN,ih rfl]
  exact this rfl r
def FG:List V->Hp->VK->Prop:=λvs H Q=>∃x,vs=[.str x]/\x.length<=sizeLine/\Q (.int x.length) H
theorem pK:cG X (.builtin "len") FG:=by
 intro pins s σ H vs us Q I r h;obtain⟨x,rfl,hx,q⟩:=h;exact qV pins s σ H _ us Q I r ⟨.str x,_,rfl,⟨hx,rfl⟩,q⟩
def Nl:V->Option Int->Option Int->Hp->VK->Prop:=λv lo hi H Q=>∃x,v=.str x/\x.length<=sizeLine/\Q (.str (Txt.slice x lo hi)) H
theorem M3:SlR X Nl:=by
 intro pins s σ H x v vl vu lo hi sl Q I rx hs pl pu h;obtain⟨y,rfl,hy,q⟩:=h;obtain⟨t,rfl⟩:=rx;refine⟨"str",_,F.slot_str_getitem.lookup,RC _ _ _,?_⟩;cases pl with
 |none=>
  cases pu with
  |none=>exact QL (l:=none) (u:=none) (st:=none) hs rfl (So ⟨N7 (Txt.slice_le y _ _) hy,λt' k=>⟨.str _,H,I.tok _,⟨_,rfl⟩,q⟩⟩)
  |int j u=>exact QL (l:=none) (u:=some (j,u)) (st:=none) hs rfl (So ⟨N7 (Txt.slice_le y _ _) hy,λt' k=>⟨.str _,H,I.tok _,⟨_,rfl⟩,q⟩⟩)
 |int i w=>
  cases pu with
  |none=>exact QL (l:=some (i,w)) (u:=none) (st:=none) hs rfl (So ⟨N7 (Txt.slice_le y _ _) hy,λt' k=>⟨.str _,H,I.tok _,⟨_,rfl⟩,q⟩⟩)
  |int j u=>exact QL (l:=some (i,w)) (u:=some (j,u)) (st:=none) hs rfl (So ⟨N7 (Txt.slice_le y _ _) hy,λt' k=>⟨.str _,H,I.tok _,⟨_,rfl⟩,q⟩⟩)
def EU:R2:=λx y H Q=>∃a b,x=.str a/\y=.str b/\Q (.bl (!Txt.contains b a)) H
theorem G3:OpR X (compareOp .NotIn) EU:=by
 intro pins s σ H x y v u Q I rx ry h;obtain⟨a,b,rfl,rfl,q⟩:=h;obtain⟨t,rfl⟩:=rx;obtain⟨t2,rfl⟩:=ry;exact P.notIn_str ⟨.bl _,H,I,rfl,q⟩
end
section
variable{X:Cx}{WE:WX}{K:NO}{mg:Str->Option Value}
def da(x y:Vl)(S:Sto):R Vl:=match x,y with
 | .d d,.d (.str z)=>.ok (.d (.bl (D.eqv d (.str z)))) S
 |_,_=>.bad
theorem cM:cQ K mg JL da:=by
 intro WE μ S H v w x y Q hr rx ry p;unfold da at p;split at p
 ·cases(show Rep (vh μ S H) w (.str _)from ry);exact⟨_,_,Rep.mono dj rx,rfl,p.here hr (Rep.bl _)⟩
 ·exact p.elim
def wordsOf:List D->Option (List Str)
 | []=>some []
 | .str x::l=>(wordsOf l).map (x::·)
 |_=>none
theorem nK:∀{ds:List D}{ws:List Str},wordsOf ds=some ws->ds=ws.map D.str
 | [],ws,h=>by cases h;rfl
 | .str x::l,ws,h=>by
  unfold wordsOf at h;cases q:wordsOf l with
  |none=>rw[q]at h;cases h
  |some u=>rw[q]at h;cases h;rw[nK q];rfl
 | .non::_,_,h=>by cases h
 | .bl _::_,_,h=>by cases h
 | .int _::_,_,h=>by cases h
 | .tup _::_,_,h=>by cases h
 | .lst _::_,_,h=>by cases h
theorem ny:∀{vs:List V}{ws:List Str},aJ H vs (ws.map D.str)->vs=ws.map V.str
 | [],[],_=>rfl
 | [],_::_,h=>by cases h
 |_::_,[],h=>by cases h
 |v::vs,w::ws,h=>by
  cases h with
  |cons h1 h2=>cases h1;rw[ny h2];rfl
def rT(x y:Vl)(S:Sto):R Vl:=match x,y with
 | .d d,.d (.tup ds)=>(match wordsOf ds with
  |some ws=>.ok (.d (.bl (!ws.any λe=>D.eqv (.str e) d))) S
  |none=>.bad)
 |_,_=>.bad
theorem DU:cQ K mg Fs rT:=by
 intro WE μ S H v w x y Q hr rx ry p;unfold rT at p;split at p
 ·split at p
  ·rename_i ws e;have:=nK e;subst this;obtain⟨a,vs,rfl,h,g,rs⟩:=mw ry;have:=ny rs;subst this;exact⟨a,_,ws,rfl,h,Rep.mono dj rx,p.here hr (Rep.bl _)⟩
  ·exact p.elim
 ·exact p.elim
def qb(xs:List Vl)(S:Sto):R Vl:=match xs with
 | [.d (.str x)]=>if x.length<=1000 then .ok (.d (.int x.length)) S else .bad
 |_=>.bad
theorem pf:il K mg FG qb:=by
 intro WE μ S H vs xs Q hr rs p;unfold qb at p;split at p
 ·split at p
  ·obtain⟨v,rfl,r⟩:=rs.one;cases(show Rep (vh μ S H) v (.str _)from r);exact⟨_,rfl,N7 ‹_› (by decide),p.here hr (Rep.int _)⟩
  ·exact p.elim
 ·exact p.elim
def iO(x:Vl)(lo hi:Option Int)(S:Sto):R Vl:=match x with
 | .d (.str x)=>if x.length<=1000 then .ok (.d (.str (Txt.slice x lo hi))) S else .bad
 |_=>.bad
theorem mL{e:Expr}{lo hi:Option Expr}{xa:XE}{xl xh:XO}{p2 pos:Pos}(he:RE X WE e xa)(hl:RO X WE lo xl)(hh:RO X WE hi xh):RE X WE (.Subscript e (.Slice lo hi none p2) pos) (xSl iO xa xl xh):=
 ⟨(rn M3 he.h hl.h hh.h).weak λσ H Q ⟨μ,S,τ,hr,sr,p⟩=>⟨μ,S,τ,hr,sr,p.bind λv x S1 μ1 H1 st1 r1 p1=>⟨μ1,S1,τ,st1.hr,sr.step st1,p1.bind λi i' S2 μ2 H2 st2 r2 p2=>⟨μ2,S2,τ,st2.hr,sr.step (st1.trans st2),p2.bind λj j' S3 μ3 H3 st3 r3 p3=>by
  cases(show i=i' from r2);cases(show j=j' from r3);have rv:=r1.step (st2.trans st3);unfold iO at p3;split at p3
  ·split at p3
   ·cases(show Rep (vh μ3 S3 H3) v (.str _)from rv);exact⟨_,rfl,N7 ‹_› (by decide),p3.here st3.hr (Rep.str _)⟩
   ·exact p3.elim
  ·exact p3.elim⟩⟩⟩⟩
def vg(x y:Vl)(S:Sto):R Vl:=match x,y with
 | .d (.str a),.d (.str b)=>.ok (.d (.bl (!Txt.contains b a))) S
 |_,_=>.bad
theorem DI:cQ K mg EU vg:=by
 intro WE μ S H v w x y Q hr rx ry p;unfold vg at p;split at p
 ·cases(show Rep (vh μ S H) v (.str _)from rx);cases(show Rep (vh μ S H) w (.str _)from ry);exact⟨_,_,rfl,rfl,p.here hr (Rep.bl _)⟩
 ·exact p.elim
end
set_option maxRecDepth 100000
inductive DL:List (Option Expr)->List Expr->List (Str×Int)->Prop
 |nil:DL [] [] []
 |cons {k:Str} {n:Int} {i j:Nat} {p q:Pos} {ks:List (Option Expr)} {vs:List Expr} {l:List (Str×Int)}:DL ks vs l->DL (some (.Constant (.str k) i p)::ks) (.Constant (.int n) j q::vs) ((k,n)::l)
inductive DLv:List (Str×Int)->List (Value×Value)->Prop
 |nil:DLv [] []
 |cons {k:Str} {n:Int} {t u:Tok} {l:List (Str×Int)} {r:List (Value×Value)}:DLv l r->DLv ((k,n)::l) ((.str k t,.int n u)::r)
theorem DLv.all(h:DLv l r):allStrKeys r=true/\(strPairs r).map (·.1)=l.map (·.1):=by
 induction h with
 |nil=>exact⟨rfl,rfl⟩
 |cons _ ih=>exact⟨ih.1,by simp only[strPairs,N4,ih.2]⟩
theorem DLv.at(h:DLv l r)(e:l.lookup k=some n):∃t,valueAt (strPairs r) k=some (.int n t):=by
 induction h with
 |nil=>cases e
 | @cons k' n' t u l r _ ih=>
  unfold valueAt;rw[strPairs,Sr];by_cases q:k'=k
  ·subst q;rw[Sh]at e;cases e;exact⟨u,by simp⟩
  ·rw[OC,PZ (λz=>q z.symm)]at e;obtain⟨t',e'⟩:=ih e;refine⟨t',?_⟩;unfold valueAt at e';rw[show decide ((k',Value.int n' u).1=k)=false from gV q];exact e'
section
variable{X:Cx}{WE:WX}{pins:List (Addr×Obj)}{σ:St}{H:Hp}{s:Shared}
theorem Inv.Ke(I:Inv X pins σ H s)(e:s.heap.get? a=some o)(h0:H a=none)(h1:a≠X.env.locals)(h2:a∉X.fs)(h3:∀v,o.data≠.cell v):Inv X ((a,o)::pins) σ H s:=
 ⟨I.ok,I.os,I.bare,I.base,I.loc,I.cell,I.free,I.freeC,λp hp=>by
  rcases Oz.mp hp with z |z
  ·exact I.pin p (OR _ z)
  ·rcases NU.mp z with z |z
   ·subst z;exact⟨e,h0,h1,h2,h3⟩
   ·exact I.pin p (Oe _ z),I.hok,I.len⟩
theorem Inv.BV(I:Inv X (p::pins) σ H s):Inv X pins σ H s:=
 ⟨I.ok,I.os,I.bare,I.base,I.loc,I.cell,I.free,I.freeC,λq hq=>I.pin q (by
  rcases Oz.mp hq with z |z
  ·exact OR _ z
  ·exact Oe _ (Oh _ z)),I.hok,I.len⟩
theorem zj(h:DL ks vs kvs):∀{s:Shared}{pos:Pos}{Q:List (Value×Value)->Shared->Prop},
  (∀(l:List (Value×Value))(t:Nat),DLv kvs l->Q l { s with toks:=t })->wpAny (model X.prog X.w) X.A (evalPairs (pairTrees ks vs X.env pos)) Q X.xe s:=by
 induction h with
 |nil=>intro s pos Q q;exact pairTrees_nil_walk (q [] s.toks .nil)
 |cons _ ih=>
  intro s pos Q q;refine pairTrees_cons_walk (UY (SH (ih λl t h=>?_)));exact q _ t (.cons h)
def tDl(kvs:List (Str×Int))(ti:TE):TE:=λσ H Q=>ti σ H λy H1=>∃k n,y=.str k/\kvs.lookup k=some n/\Q (.int n) H1
theorem Mv(h:DL ks vs kvs)(hi:PE X ix ti)(hall:ks.all (·.isSome)=true)(hl:ks.length=vs.length)(h0:ks≠[])(hlen:ks.length<=15)(hn:(kvs.map (·.1)).Nodup)(hs:mS ix) :
  PE X (.Subscript (.Dict ks vs pd) ix pos) (tDl kvs ti):=by
 intro pins s σ H Q I q;refine Uy (V7 (knd:=strKind X.prog X.w) hall hl h0 hlen (zj h λl t hv=>?_));have hv2:=hv.all;refine VL hv2.1 (by rw[hv2.2];exact hn) (V8 _) λh' hm hsb=>?_;obtain⟨o,es,ep,ho,hex,hd,r⟩:=id hm;have I1:Inv X pins σ H { s with heap:=h',toks:=t+l.length }:=I.kept (t':=t+l.length) λb ob e=>(hsb.2 b (Og (N2 e))).trans (NR _ e);have fp:=I.mq (NW _) (I.hok.fresh (NW _));obtain⟨f0,f1,f2,f3,f4,f5⟩:=fp;have I2:=I1.Ke ho f0 f1 f2 (λv z=>by rw[hd]at z;cases z);refine thn (hi _ _ σ H _ I2 q) λu s2 ⟨y,H2,I3,ry,k,n,e,hk,q2⟩=>?_;subst e;obtain⟨tk,rfl⟩:=ry;obtain⟨t2,e2⟩:=hv.at hk;have hp:=(I3.pin (s.heap.objs.size,o) (Oe _ (Oq ..))).1;have hm2:s2.heap.DictOf (strKind X.prog X.w) s.heap.objs.size (strPairs l):=⟨o,es,ep,hp,hex,hd,r⟩;refine VE (ops:=[.str k tk,.ref s.heap.objs.size]) (T:="dict") hm2.mapOf.typeIs slot_dict_getitem.lookup (wpAny_getItem_of (knd:=strKind X.prog X.w) (k:=k) (by simp[WO,P5]) hm2.mapOf e2 ⟨.int n,H2,I3.BV.tok _,⟨_,rfl⟩,q2⟩) (hs _ _)
def xDl(kvs:List (Str×Int))(a:XE):XE:=λτ S=>(a τ S).bind λz S1=>match z with
 | .d (.str k)=>(match kvs.lookup k with
  |some n=>.ok (.d (.int n)) S1
  |none=>.bad)
 |_=>.bad
theorem Mu(h:DL ks vs kvs)(hi:RE X WE ix xi)(hn:(kvs.map (·.1)).Nodup:=by decide)(hall:ks.all (·.isSome)=true:=by rfl)(hl:ks.length=vs.length:=by rfl)(h0:ks≠[]:=by exact VM _ _)(hlen:ks.length<=15:=by decide)(hs:mS ix:=by exactλ_ _=>rfl) :
  RE X WE (.Subscript (.Dict ks vs pd) ix pos) (xDl kvs xi):=
 ⟨(Mv h hi.h hall hl h0 hlen hn hs).weak λσ H Q ⟨μ,S,τ,hr,sr,p⟩=>⟨μ,S,τ,hr,sr,p.bind λv x S1 μ1 H1 st1 r1 p1=>by
  try dsimp only at p1
  split at p1
  ·split at p1
   ·cases(show Rep (vh μ1 S1 H1) v (.str _)from r1);exact⟨_,_,rfl,‹_›,p1.here st1.hr (Rep.int _)⟩
   ·exact p1.elim
  ·exact p1.elim⟩⟩
end
section
variable{X:Cx}{WE:WX}{a b c d:Expr}{ta tb tc td:TE}{xa xb xc xd:XE}{pos:Pos}
def za(r r' r'':R2)(ta tb tc td:TE):TE:=λσ H Q=>ta σ H λx H1=>tb σ H1 λy H2=>r x y H2 λz H3=>∃k,z=.bl k /\
 (if k=true then tc σ H3 λw H4=>r' y w H4 λz' H5=>∃k',z'=.bl k'/\(if k'=true then td σ H5 λu H6=>r'' w u H6 Q else Q (.bl false) H5)else Q (.bl false) H3)
theorem Bo(ho:OpR X (compareOp op) r)(ho':OpR X (compareOp op') r')(ho'':OpR X (compareOp op'') r'')(ha:PE X a ta)(hb:PE X b tb)(hc:PE X c tc)(hd:PE X d td)
  (hm:lastMarks [op,op',op''] [b,c,d]=false:=by with_unfolding_all rfl):PT X (.Compare a [op,op',op''] [b,c,d] pos) (zm (za r r' r'' ta tb tc td)):=by
 intro pins s σ H Q I h;refine isTrue_chain (thn (ha pins s σ H _ I h) λv s1 ⟨x,H1,I1,r1,q1⟩=>Wt (thn (hb pins s1 σ H1 _ I1 q1) λu s2 ⟨y,H2,I2,r2,q2⟩=>
  thn (ho pins s2 σ H2 x y v u _ I2 r1 r2 q2) λd s3 ⟨z,H3,I3,r3,k,e,q3⟩=>?_)) hm
 subst e;cases r3;refine O3 ?_;cases k with
 |false=>
  obtain⟨k',e',q'⟩:=q3;cases e';exact Xj ⟨H3,I3,q'⟩
 |true=>
  refine Xk (Wt (thn (hc pins s3 σ H3 _ I3 q3) λw' s4 ⟨z',H4,I4,r4,q4⟩=>thn (ho' pins s4 σ H4 y z' u w' _ I4 r2 r4 q4) λd' s5 ⟨z2,H5,I5,r5,k2,e2,q5⟩=>?_));subst e2;cases r5;refine O3 ?_;cases k2 with
  |false=>
   obtain⟨k',e',q'⟩:=q5;cases e';exact Xj ⟨H5,I5,q'⟩
  |true=>
   refine Xk (test_last (thn (hd pins s5 σ H5 _ I5 q5) λw2 s6 ⟨z3,H6,I6,r6,q6⟩=>thn (ho'' pins s6 σ H6 z' z3 w' w2 _ I6 r4 r6 q6) λd3 s7 ⟨z4,H7,I7,r7,k3,e3,q7⟩=>?_));subst e3;cases r7;exact O3 ⟨H7,I7,q7⟩
def m_(f f' f'':Vl->Vl->Sto->R Vl)(a b c d:XE):XE:=λτ S=>(a τ S).bind λx S1=>(b τ S1).bind λy S2=>(f x y S2).bind λz S3=>match z with
 | .d (.bl k)=>if k=true then(c τ S3).bind λw S4=>(f' y w S4).bind λz' S5=>(match z' with
  | .d (.bl k')=>if k'=true then(d τ S5).bind λu S6=>f'' w u S6 else .ok (.d (.bl false)) S5
  |_=>.bad)else .ok (.d (.bl false)) S3
 |_=>.bad
theorem AW(hf:cQ X.K X.mg r f)(hf':cQ X.K X.mg r' f')(hf'':cQ X.K X.mg r'' f'')(h:trE X.K X.mg WE (m_ f f' f'' xa xb xc xd) σ H Q) :
  za r r' r'' (trE X.K X.mg WE xa) (trE X.K X.mg WE xb) (trE X.K X.mg WE xc) (trE X.K X.mg WE xd) σ H Q:=by
 obtain⟨μ,S,τ,hr,sr,p⟩:=h;refine⟨μ,S,τ,hr,sr,p.bind λv x S1 μ1 H1 st1 r1 p1=>?_⟩;refine⟨μ1,S1,τ,st1.hr,sr.step st1,p1.bind λw y S2 μ2 H2 st2 r2 p2=>?_⟩;refine hf WE μ2 S2 H2 v w x y _ st2.hr (r1.step st2) r2 (p2.bind λz zz S3 μ3 H3 st3 r3 p3=>?_)
 try dsimp only at p3
 split at p3
 ·cases(show Rep (vh μ3 S3 H3) z (.bl _)from r3);refine⟨_,rfl,?_⟩;split at p3
  ·rename_i k hk;rw[NT hk];have s3:=st1.trans (st2.trans st3);refine⟨μ3,S3,τ,st3.hr,sr.step s3,p3.bind λq qq S4 μ4 H4 st4 r4 p4=>?_⟩;refine hf' WE μ4 S4 H4 w q y qq _ st4.hr (r2.step (st3.trans st4)) r4 (p4.bind λz2 zz2 S5 μ5 H5 st5 r5 p5=>?_)
   try dsimp only at p5
   split at p5
   ·cases(show Rep (vh μ5 S5 H5) z2 (.bl _)from r5);refine⟨_,rfl,?_⟩;split at p5
    ·rename_i k2 hk2;rw[NT hk2];refine⟨μ5,S5,τ,st5.hr,sr.step (s3.trans (st4.trans st5)),p5.bind λq2 qq2 S6 μ6 H6 st6 r6 p6=>?_⟩;exact hf'' WE μ6 S6 H6 q q2 qq qq2 Q st6.hr (r4.step (st5.trans st6)) r6 p6
    ·rename_i k2 hk2;rw[N1 hk2];exact p5.here st5.hr (Rep.bl _)
   ·exact p5.elim
  ·rename_i k hk;rw[N1 hk];exact p3.here st3.hr (Rep.bl _)
 ·exact p3.elim
theorem B4(ho:OpR X (compareOp op) r)(hf:cQ X.K X.mg r f)(ho':OpR X (compareOp op') r')(hf':cQ X.K X.mg r' f')(ho'':OpR X (compareOp op'') r'')(hf'':cQ X.K X.mg r'' f'')(ha:RE X WE a xa)(hb:RE X WE b xb)(hc:RE X WE c xc)(hd:RE X WE d xd)
  (hm:lastMarks [op,op',op''] [b,c,d]=false:=by with_unfolding_all rfl):RT X WE (.Compare a [op,op',op''] [b,c,d] pos) (aE (m_ f f' f'' xa xb xc xd)):=⟨(Bo ho ho' ho'' ha.h hb.h hc.h hd.h hm).weak λ_ _ _ h=>AW hf hf' hf'' (tq h)⟩
end
set_option maxRecDepth 100000
section
variable{X:Cx}
def E6:List V->Hp->VK->Prop:=λvs H Q=>∃n:Int,vs=[.int n]/\n.natAbs<2 ^ 60/\Q (.str (Po (toString n))) H
theorem dD:cG X (.type "str") E6:=by
 intro pins s σ H vs us Q I r h;obtain⟨n,rfl,hn,q⟩:=h;obtain⟨u,rfl,rx⟩:=vals1 r;obtain⟨t,rfl⟩:=rx;have hl:n.natAbs.log2<1920:=by
  by_cases z:n.natAbs=0
  ·rw[z];decide
  ·have:=(Nat.log2_lt z).mpr hn;omega
 exact PySem.P.str_of_int hl ⟨.str _,H,I.tok _,⟨_,rfl⟩,q⟩
def Ff:List V->Hp->VK->Prop:=λvs H Q=>∃(x:Str)(n:Int),vs=[.str x]/\QA x=some n/\x.length<=640/\Q (.int n) H
theorem A8:cG X (.type "int") Ff:=by
 intro pins s σ H vs us Q I r h;obtain⟨x,n,rfl,hn,hl,q⟩:=h;obtain⟨u,rfl,rx⟩:=vals1 r;obtain⟨t,rfl⟩:=rx;exact XQ hn hl ⟨.int _,H,I.tok _,⟨_,rfl⟩,q⟩
def Ji:R2:=λx y H Q=>∃a b,x=.str a/\y=.str b/\Q (.bl (Txt.contains b a)) H
theorem Jq:OpR X (compareOp .In) Ji:=by
 intro pins s σ H x y v u Q I rx ry h;obtain⟨a,b,rfl,rfl,q⟩:=h;obtain⟨t,rfl⟩:=rx;obtain⟨t2,rfl⟩:=ry;exact P.in_str ⟨.bl _,H,I,rfl,q⟩
def tSm(r:V->List V->Hp->VK->Prop)(to te:TE):TE:=λσ H Q=>to σ H λx H1=>∃z,x=.str z/\te σ H1 λy H2=>r (.str z) [y] H2 Q
theorem Ma{r:V->List V->Hp->VK->Prop}{name:Str}{id:String}{o e:Expr}{to te:TE}{apos cpos:Pos}(slot:Slot "str" name id)(hty:typeOf (.builtin id)=pure (.type "method_descriptor"))(hm:MtM X id r)(ho:PE X o to)(he:PE X e te)
  (hbase:attributeBase o name X.env (eval o X.env)=eval o X.env:=by rfl)
  (hfew:((backTo cpos (starEach [e] X.env)).all (λx=>!x.1)&&(backToKw cpos (keywordEach [] X.env)).all (λx=>x.1.isSome)&&decide ([e].length+([]:List Keyword).length+(if([]:List Keyword).isEmpty then 0 else 1)<30))=true:=by rfl)
  (hline:(apos.endLine==cpos.line)=true:=by rfl) (hs:starEach [e] X.env=(false,eval e X.env)::starEach [] X.env:=by rfl):PE X (.Call (.Attribute o name apos) [e] [] cpos) (tSm r to te):=by
 intro pins s σ H Q I h;refine R4 hbase hfew hline rfl (thn (ho pins s σ H _ I h) λv s1 ⟨x,H1,I1,r1,z,e0,q1⟩=>?_);subst e0;have r1':=r1;obtain⟨t,rfl⟩:=r1';refine⟨"str",_,PySem.F.plainAttrs_str,slot,hty,RC _ _ _,(λ_ e=>nomatch e),?_⟩;have hA:=(eP he iw hs) cpos pins s1 σ H1 (λvs H2=>∃y,vs=[y]/\r (.str z) [y] H2 Q) I1 (by
  refine cast (OZ (te σ H1) ?_) q1;funext y H2;refine propext ⟨λq=>⟨y,rfl,q⟩,λ⟨y',e',q⟩=>?_⟩;cases e';exact q)
 rw[hs]at hA ⊢;refine Pz (by show(false||(backTo cpos (starEach ([]:List Expr) X.env)).any (·.1))=false;rfl) (Px ?_);exact thn hA λus s2 ⟨vs,H2,I2,r2,y,e2,q2⟩=>hm pins s2 σ H2 (.str z) vs _ us Q I2 r1 r2 (by rw[e2];exact q2)
def yC:V->List V->Hp->VK->Prop:=λx vs H Q=>∃a b,x=.str a/\vs=[.str b]/\Q (.bl (Txt.startswith a b)) H
theorem Br:MtM X "str.startswith" yC:=by
 intro pins s σ H x vs v us Q I rx rv h;obtain⟨a,b,rfl,rfl,q⟩:=h;obtain⟨t,rfl⟩:=rx;obtain⟨u,rfl,ru⟩:=vals1 rv;obtain⟨t2,rfl⟩:=ru;exact SC.startswith ⟨.bl _,H,I,rfl,q⟩
theorem uc:∀{ws:List Str}{its:List Value},Vals (ws.map V.str) its->∃l:List (Str×Tok),its=strValues l/\l.map (·.1)=ws
 | [],_,r=>by cases r;exact⟨[],rfl,rfl⟩
 |w::ws,_,r=>by
  cases r with
  |cons h r=>
   obtain⟨t,rfl⟩:=h;obtain⟨l,e1,e2⟩:=uc r;exact⟨(w,t)::l,by rw[e1];rfl,by rw[N4,e2]⟩
def rJoin:V->List V->Hp->VK->Prop:=λx vs H Q=>∃(a:Str)(l:Addr)(ws:List Str),x=.str a/\vs=[.ref l]/\H l=some (.lst (ws.map V.str))/\JoinOk a ws=true/\Q (.str (Txt.join a ws)) H
theorem iX:MtM X "str.join" rJoin:=by
 intro pins s σ H x vs v us Q I rx rv h;obtain⟨a,l,ws,rfl,rfl,hl,hj,q⟩:=h;obtain⟨t,rfl⟩:=rx;obtain⟨u,rfl,ru⟩:=vals1 rv;cases ru;obtain⟨its,r,pl,hz⟩:=I.list (SqL.of hl);obtain⟨k,rfl,e2⟩:=uc r;exact SC.join pl.isList e2 hj λt' tk=>⟨.str _,H,I.tok _,⟨_,rfl⟩,q⟩
end
section
variable{X:Cx}{WE:WX}{K:NO}{mg:Str->Option Value}
def dX(xs:List Vl)(S:Sto):R Vl:=match xs with
 | [.d (.int n)]=>if n.natAbs<2 ^ 60 then .ok (.d (.str (Po (toString n)))) S else .bad
 |_=>.bad
theorem dA:il K mg E6 dX:=by
 intro WE μ S H vs xs Q hr rs p;unfold dX at p;split at p
 ·split at p
  ·obtain⟨v,rfl,r⟩:=rs.one;cases(show Rep (vh μ S H) v (.int _)from r);exact⟨_,rfl,‹_›,p.here hr (Rep.str _)⟩
  ·exact p.elim
 ·exact p.elim
def sd(xs:List Vl)(S:Sto):R Vl:=match xs with
 | [.d (.str x)]=>(match QA x with
  |some n=>if x.length<=640 then .ok (.d (.int n)) S else .bad
  |none=>.bad)
 |_=>.bad
theorem CW:il K mg Ff sd:=by
 intro WE μ S H vs xs Q hr rs p;unfold sd at p;split at p
 ·split at p
  ·rename_i n e;split at p
   ·obtain⟨v,rfl,r⟩:=rs.one;cases(show Rep (vh μ S H) v (.str _)from r);exact⟨_,_,rfl,e,‹_›,p.here hr (Rep.int _)⟩
   ·exact p.elim
  ·exact p.elim
 ·exact p.elim
def zK(x y:Vl)(S:Sto):R Vl:=match x,y with
 | .d (.str a),.d (.str b)=>.ok (.d (.bl (Txt.contains b a))) S
 |_,_=>.bad
theorem HH:cQ K mg Ji zK:=by
 intro WE μ S H v w x y Q hr rx ry p;unfold zK at p;split at p
 ·cases(show Rep (vh μ S H) v (.str _)from rx);cases(show Rep (vh μ S H) w (.str _)from ry);exact⟨_,_,rfl,rfl,p.here hr (Rep.bl _)⟩
 ·exact p.elim
def Af(r:V->List V->Hp->VK->Prop)(f:Str->Vl->Sto->R Vl):Prop:=∀(K:NO)(mg:Str->Option Value)(WE:WX)(μ:Nat->Addr)(S:Sto)(H:Hp)(a:Str)(w:V)(z:Vl)(Q:VK),HR μ S H->bu K mg μ S H w z->bg (bu K mg) WE μ S H (f a z S) Q->r (.str a) [w] H Q
def xSm(f:Str->Vl->Sto->R Vl)(o e:XE):XE:=λτ S=>(o τ S).bind λx S1=>match x with
 | .d (.str a)=>(e τ S1).bind λz S2=>f a z S2
 |_=>.bad
theorem dY{r:V->List V->Hp->VK->Prop}{f:Str->Vl->Sto->R Vl}{name:Str}{id:String}{o e:Expr}{xo xe:XE}{apos cpos:Pos}(slot:Slot "str" name id)(hty:typeOf (.builtin id)=pure (.type "method_descriptor"))(hm:MtM X id r)(hf:Af r f)(ho:RE X WE o xo)(he:RE X WE e xe)
  (hbase:attributeBase o name X.env (eval o X.env)=eval o X.env:=by rfl)
  (hfew:((backTo cpos (starEach [e] X.env)).all (λx=>!x.1)&&(backToKw cpos (keywordEach [] X.env)).all (λx=>x.1.isSome)&&decide ([e].length+([]:List Keyword).length+(if([]:List Keyword).isEmpty then 0 else 1)<30))=true:=by rfl)
  (hline:(apos.endLine==cpos.line)=true:=by rfl) (hs:starEach [e] X.env=(false,eval e X.env)::starEach [] X.env:=by rfl):RE X WE (.Call (.Attribute o name apos) [e] [] cpos) (xSm f xo xe):=
 ⟨(Ma slot hty hm ho.h he.h hbase hfew hline hs).weak λσ H Q ⟨μ,S,τ,hr,sr,p⟩=>⟨μ,S,τ,hr,sr,p.bind λv x S1 μ1 H1 st1 r1 p1=>by
  try dsimp only at p1
  split at p1
  ·cases(show Rep (vh μ1 S1 H1) v (.str _)from r1);exact⟨_,rfl,μ1,S1,τ,st1.hr,sr.step st1,p1.bind λw y S2 μ2 H2 st2 r2 p2=>hf X.K X.mg WE μ2 S2 H2 _ w y Q st2.hr r2 p2⟩
  ·exact p1.elim⟩⟩
def kc(a:Str)(z:Vl)(S:Sto):R Vl:=match z with
 | .d (.str b)=>.ok (.d (.bl (Txt.startswith a b))) S
 |_=>.bad
theorem yk:Af yC kc:=by
 intro K mg WE μ S H a w z Q hr rw' p;unfold kc at p;split at p
 ·cases(show Rep (vh μ S H) w (.str _)from rw');exact⟨_,_,rfl,rfl,p.here hr (Rep.bl _)⟩
 ·exact p.elim
def eI(a:Str)(z:Vl)(S:Sto):R Vl:=match dv z S with
 |some ds=>(match wordsOf ds with
  |some ws=>if JoinOk a ws=true then .ok (.d (.str (Txt.join a ws))) S else .bad
  |none=>.bad)
 |none=>.bad
theorem fU:Af rJoin eI:=by
 intro K mg WE μ S H a w z Q hr rw' p;unfold eI at p;split at p
 ·rename_i ds e1;split at p
  ·rename_i ws e2;split at p
   ·obtain⟨l,vs,rfl,hl,rs⟩:=eL hr rw' e1;have:=nK e2;subst this;have:=ny rs;subst this;exact⟨_,l,ws,rfl,rfl,hl,‹_›,p.here hr (Rep.str _)⟩
   ·exact p.elim
  ·exact p.elim
 ·exact p.elim
end
end L2
namespace L2
open PySem PySem.Spec PyProof.Rows Builtin Builtin.Str
set_option maxRecDepth 100000
section
variable{X:Cx}
def B3:V->List V->Hp->VK->Prop:=λx vs H Q=>∃a b:Str,x=.str a/\vs=[.str b]/\(b.length==0)=false/\a.length<=sizeLine/\(partsBetween a (occurrences a b 0 a.length (a.length+1)) b.length).length<=sizeLine/\∀l,H l=none->Q (.ref l) (upd H l (.lst ((Txt.split a b).map V.str)))
theorem pX:∀l:List (Str×Tok),Vals ((l.map (·.1)).map V.str) (strValues l)
 | []=>.nil
 |(w,t)::l=>.cons ⟨t,rfl⟩ (pX l)
theorem eG:MtM X "str.split" B3:=by
 intro pins s σ H x vs v us Q I rx rv h;obtain⟨a,b,rfl,rfl,hb,hz,hz2,q⟩:=h;obtain⟨t,rfl⟩:=rx;obtain⟨u,rfl,ru⟩:=vals1 rv;obtain⟨t2,rfl⟩:=ru;have fin:∀(l:List (Str×Tok))(tk:Nat),l.map (·.1)=Txt.split a b->EP X pins σ Q (.ref s.heap.objs.size) { s with heap:=s.heap.push { cls:=.type "list",data:=.seq (strValues l).toArray },toks:=tk }:=by
  intro l tk e;have hz3:(Txt.split a b).length<=sizeLine:=by
   unfold Txt.split;split
   ·exact(show 1<=sizeLine by decide)
   ·split
    ·exact(show 1<=sizeLine by decide)
    ·exact hz2
  refine⟨.ref s.heap.objs.size,_,I.laid (t':=tk) (λb o e=>NR _ e) (NW _) (show cR X.prog X.w _ _ _ (.lst ((Txt.split a b).map V.str))from⟨by rw[tv];exact hz3,strValues l,0,by rw[<-e];exact pX l,N5 _ rfl⟩),rfl,q _ (I.hok.fresh (NW _))⟩
 cases h1:(decide (a.length<b.length)||decide (strKind a<strKind b))
 ·cases hf:(occurrences a b 0 a.length (a.length+1)).isEmpty
  ·refine RF TM (RC _ _ _) Ti (SS _ _) (meets_str_split_sep a b t t2 h1 hb hf hz hz2) ?_;show wants _ _ _ { s with toks:=_,heap:=s.heap.push { cls:=.type "list",data:=.seq (strsFrom s.toks (partsBetween a (occurrences a b 0 a.length (a.length+1)) b.length)).toArray } };rw[strsFrom_eq];exact fin (numbered s.toks _) _ ((numbered_texts _ _).trans ((N1 (Sx h1)).trans (N1 (Sx hf))).symm)
  ·exact RF TM (RC _ _ _) Ti (SS _ _) (meets_str_split_not_found a b t t2 h1 hb hf) (fin [(a,t)] s.toks ((N1 (Sx h1)).trans (NT hf)).symm)
 ·exact RF TM (RC _ _ _) Ti (SS _ _) (meets_str_split_cannot_occur a b t t2 h1) (fin [(a,t)] s.toks (NT h1).symm)
end
section
variable{X:Cx}{WE:WX}{K:NO}{mg:Str->Option Value}
theorem jD:∀ws:List Str,aJ H (ws.map V.str) (ws.map D.str)
 | []=>.nil
 |w::ws=>.cons (.str w) (jD ws)
def dI(a:Str)(z:Vl)(S:Sto):R Vl:=match z with
 | .d (.str b)=>if(b.length==0)=false/\a.length<=1000/\(partsBetween a (occurrences a b 0 a.length (a.length+1)) b.length).length<=2000 then .ok (.d (.lst ((Txt.split a b).map D.str))) S else .bad
 |_=>.bad
theorem di:Af B3 dI:=by
 intro K mg WE μ S H a w z Q hr rw' p;unfold dI at p;split at p
 ·split at p
  ·rename_i h;cases(show Rep (vh μ S H) w (.str _)from rw');exact⟨_,_,rfl,rfl,h.1,N7 h.2.1 (by decide),N7 h.2.2 (by decide),λl hl=>p.mi hr (jD _) l hl⟩
  ·exact p.elim
 ·exact p.elim
def pI(x y:Vl)(S:Sto):R Vl:=match x,y with
 | .d (.str z),.d (.int i)=>(match atI z.cps.toList i with
  |some c=>if z.length<=1000 then .ok (.d (.str ⟨#[c]⟩)) S else .bad
  |none=>.bad)
 |_,_=>.bad
theorem Gz:cQ K mg Ih pI:=by
 intro WE μ S H v w x y Q hr rx ry p;unfold pI at p;split at p
 ·split at p
  ·rename_i c e;split at p
   ·cases(show Rep (vh μ S H) v (.str _)from rx);cases(show Rep (vh μ S H) w (.int _)from ry);exact⟨_,_,c,rfl,rfl,N7 ‹_› (by decide),e,p.here hr (Rep.str _)⟩
   ·exact p.elim
  ·exact p.elim
 ·exact p.elim
theorem Kj(ha:RE X WE a xa)(hb:RE X WE b xb)(hs:mS b:=by exactλ_ _=>rfl):RE X WE (.Subscript a b pos) (xOp pI xa xb):=⟨(FH Im ha.h hb.h hs).weak λ_ _ _ h=>two (X:=X) Gz h⟩
end
set_option maxRecDepth 100000
def M6(w:World)(K:NO)(a:Addr)(tb:List (Str×List Str)):Prop:=∃(es:Array DictEntry)(n:Nat),K.lookup a=some ⟨.type "dict",none,.dict es n,#[]⟩/\V9 w.params es.toList/\(a==sysModules)=false /\
 ∀k,match tb.lookup k with
  |some ws=>∃b,findBy P5 es k=some (.ref b)/\pE K b ws
  |none=>findBy P5 es k=none
def Fm(w:World)(K:NO)(mg:Str->Option Value)(x:Str)(tb:List (Str×List Str)):Prop:=∃a,mg x=some (.ref a)/\M6 w K a tb
def xH(K:NO):List DictEntry->List (Str×List Str)->Prop
 | [],[]=>True
 |e::r,(k,ws)::tb=>(∃t,e.key=.str k t)/\(∃b,e.val=.ref b/\pE K b ws)/\xH K r tb
 |_,_=>False
theorem xH.find{K:NO}(k:Str):∀{l:List DictEntry}{tb:List (Str×List Str)},xH K l tb->match tb.lookup k with
  |some ws=>∃b,(l.find? λe=>P5 k e.key).map (·.val)=some (.ref b)/\pE K b ws
  |none=>(l.find? λe=>P5 k e.key).map (·.val)=none
 | [],[],_=>rfl
 |e::r,(k',ws)::tb,h=>by
  obtain⟨⟨t,h1⟩,⟨b,h2,h3⟩,h4⟩:=h;have ih:=xH.find k h4;rw[Sr,h1];by_cases q:k=k'
  ·subst q;rw[Sh];exact⟨b,by simp[P5,h2],h3⟩
  ·rw[OC,PZ q,show P5 k (.str k' t)=false by simpa[P5]usingλz=>q z.symm];exact ih
 | [],_::_,h=>h.elim
 |_::_,[],h=>h.elim
theorem L3{w:World}{K:NO}{h:Heap}{mg:Str->Option Value}{x:Str}{A:Addr}{es:Array DictEntry}{n:Nat}{tb:List (Str×List Str)}(X:K.In h)(G:h.Ns mainGlobals mg)(a:Vb K mainGlobals x=some (some (.ref A)))
  (l:K.lookup A=some ⟨.type "dict",none,.dict es n,#[]⟩) (k:V9 w.params es.toList) (s:(A==sysModules)=false) (e:xH K es.toList tb):Fm w K mg x tb:=
 ⟨A,UL X G a,es,n,l,k,s,λk=>by
  have:=e.find k;obtain⟨es⟩:=es;unfold findBy;rw[List.find?_toArray];exact this⟩
theorem rV{K:NO}{b:Addr}{l:List Value}{n:Nat}{dd:Option Addr}{sl:Array (Option Value)}{ws:List Str}(hl:K.lookup b=some ⟨.type "tuple",dd,.seq l.toArray n,sl⟩)(r:Vals (ws.map V.str) l)(hz:l.length<=10):pE K b ws:=
 ⟨_,_,n,hl,rfl,rfl,N7 (by simpa using hz) (by decide),by simpa using r⟩
theorem pE.sq{K:NO}(h:pE K a ws):SqT K H a (ws.map V.str):=.inr h
section
variable{X:Cx}{WE:WX}{ix o b c:Expr}{ti tx:TE}{xi xc:XE}{x:Str}{tb:List (Str×List Str)}
def Mb(K:NO)(tb:List (Str×List Str))(ti tx:TE):TE:=λσ H Q=>ti σ H λy H1=>tx σ H1 λz H2=>∃k,y=.str k/\(match tb.lookup k with
 |some ws=>∀b,pE K b ws->Q (.ref b) H2
 |none=>Q z H2)
theorem GI(F:Fm X.w X.K X.mg x tb)(hg:Gl X x)(he:PE X b ti)(hf:PE X c tx)(m:M2 X (.Name x p) "get" apos b c cpos)(hd:(x==("__debug__":Str))=false:=by decide):PE X (.Call (.Attribute (.Name x p) "get" apos) [b,c] [] cpos) (Mb X.K tb ti tx):=by
 intro pins s σ H Q I h;obtain⟨a,hm,es,n,hl,hk,hsm,hfi⟩:=F;refine Vw m.base m.few m.line TV Q8 Ut (ni I hg hm ?_ hd);have hmo0:=V_ (prog:=X.prog) I.kIn hl hk;refine⟨hmo0.typeIs,λb q=>?_,?_⟩
 ·cases q;exact⟨_,I.kIn _ _ hl,rfl⟩
 rw[m.trees];refine Pz rfl (Px (PK (thn (he pins s σ H _ I h) λiv s2 ⟨y,H2,I2,ry,q2⟩=>
  PK (thn (hf pins s2 σ H2 _ I2 q2) λfv s3 ⟨z,H3,I3,rz,k,ey,q3⟩=>Te ?_))))
 subst ey;obtain⟨t,rfl⟩:=ry;have hmo:=V_ (prog:=X.prog) I3.kIn hl hk;refine call_meetsIn Q8 hmo.typeIs Uh (TX _ _ _) (Ui (strKind X.prog X.w) a (strKind_is X.prog X.w k t) hsm fv) ⟨_,hmo,?_⟩;have h4:=hfi k;split at q3
 ·rename_i ws e;rw[e]at h4;obtain⟨b,e2,hb⟩:=h4;exact⟨.ref b,H3,I3.tok _,by rw[e2];exact rfl,q3 b hb⟩
 ·rename_i e;rw[e]at h4;exact⟨z,H3,I3.tok _,by rw[h4];exact rz,q3⟩
def ql(tb:List (Str×List Str))(i c:XE):XE:=λτ S=>(i τ S).bind λy S1=>(c τ S1).bind λz S2=>match y with
 | .d (.str k)=>(match tb.lookup k with
  |some ws=>.ok (.kt ws) S2
  |none=>.ok z S2)
 |_=>.bad
theorem F7(F:Fm X.w X.K X.mg x tb)(hk:RE X WE b xi)(he:RE X WE c xc)(hg:Gl X x:=by rfl)(m:M2 X (.Name x p) "get" apos b c cpos:=by exact⟨rfl,rfl,rfl,rfl⟩)(hd:(x==("__debug__":Str))=false:=by decide) :
  RE X WE (.Call (.Attribute (.Name x p) "get" apos) [b,c] [] cpos) (ql tb xi xc):=
 ⟨(GI F hg hk.h he.h m hd).weak λσ H Q ⟨μ,S,τ,hr,sr,p⟩=>⟨μ,S,τ,hr,sr,p.bind λv x S1 μ1 H1 st1 r1 p1=>⟨μ1,S1,τ,st1.hr,sr.step st1,p1.bind λu y S2 μ2 H2 st2 r2 p2=>by
  try dsimp only at p2
  split at p2
  ·cases(show Rep (vh μ1 S1 H1) v (.str _)from r1);refine⟨_,rfl,?_⟩;split at p2
   ·exactλb hb=>p2.here st2.hr ⟨b,rfl,hb⟩
   ·exact p2.here st2.hr r2
  ·exact p2.elim⟩⟩⟩
end
def sqV(z:Vl):Option (Bool×List D):=match z with
 | .d x=>z_ x
 | .kt ws=>some (false,ws.map D.str)
 |_=>none
def SqG(K:NO)(b:Bool)(H:Hp)(a:Addr)(xs:List V):Prop:=match b with
 |true=>SqL K H a xs
 |false=>SqT K H a xs
def Lw(K:NO):List V->Hp->VK->Prop:=λxs H Q=>∃p ys,xs=[.ref p]/\(SqL K H p ys\/SqT K H p ys)/\Q (.int ys.length) H
def se(xs:List Vl)(S:Sto):R Vl:=match xs with
 | [z]=>(match sqV z with
  |some p=>.ok (.d (.int p.2.length)) S
  |none=>.bad)
 |_=>.bad
section
variable{X:Cx}{WE:WX}{K:NO}{mg:Str->Option Value}{μ:Nat->Addr}{S:Sto}{H:Hp}
theorem SqT.mono(k:eD H H')(h:SqT K H l xs):SqT K H' l xs:=by
 rcases h with(h |⟨o,h⟩) |h
 ·exact .inl (.inl (k _ _ h))
 ·exact .inl (.inr ⟨o,k _ _ h⟩)
 ·exact .inr h
theorem SqG.mono(k:eD H H')(h:SqG K b H l xs):SqG K b H' l xs:=by
 cases b with
 |true=>exact SqL.mono k h
 |false=>exact SqT.mono k h
theorem Inv.sqG(I:Inv X pins σ H s)(h:SqG X.K b H t xs):∃its:List Value,Vals xs its/\jy b s.heap t its.toArray/\xs.length<=sizeLine:=by
 cases b with
 |true=>obtain⟨its,rv,p,hz⟩:=I.list h;exact⟨its,rv,p.isList,hz⟩
 |false=>obtain⟨its,rv,p,hz⟩:=I.tuple h;exact⟨its,rv,p,hz⟩
theorem Inv.y9(I:Inv X pins σ H s)(h:SqG X.K b H t xs)(h':SqG X.K b H t ys):xs=ys:=by
 cases b with
 |true=>exact I.qX h h'
 |false=>exact I.uz h h'
theorem Inv.kne(I:Inv X pins σ H s)(f:eZ X pins H b)(hk:X.K.lookup t=some o):t≠b:=by
 rintro rfl;have e:=I.ok.mod.kin _ _ hk;rcases f.2.2.2.1 with z |z
 ·exact I.ok.noex _ _ e z
 ·exact absurd (Oo (N2 (I.ok.bs _ _ e).1) z) (Pf _)
theorem Inv.sne(I:Inv X pins σ H s)(f:eZ X pins H b)(h:SqG X.K c H t xs):t≠b:=by
 have g:(∃o,H t=some o)\/∃o,X.K.lookup t=some o:=by
  cases c with
  |true=>
   rcases h with(h |⟨o,h⟩) |⟨o,_,_,h,_⟩
   ·exact .inl ⟨_,h⟩
   ·exact .inl ⟨_,h⟩
   ·exact .inr ⟨_,h⟩
  |false=>
   rcases h with(h |⟨o,h⟩) |⟨o,_,_,h,_⟩
   ·exact .inl ⟨_,h⟩
   ·exact .inl ⟨_,h⟩
   ·exact .inr ⟨_,h⟩
 rcases g with⟨o,g⟩ |⟨o,g⟩
 ·rintro rfl;rw[f.1]at g;cases g
 ·exact I.kne f g
theorem tE(r:bu K mg μ S H v z)(h:sqV z=some p):∃a vs,v=.ref a/\SqG K p.1 (vh μ S H) a vs/\aJ (vh μ S H) vs p.2:=by
 cases z with
 |d x=>
  obtain⟨a,vs,e,g,rs⟩:=vR (show Rep (vh μ S H) v x from r) h;refine⟨a,vs,e,?_,rs⟩;obtain⟨b,xs⟩:=p;cases b with
  |true=>exact SqL.of g
  |false=>exact SqT.of g
 |kt ws=>
  cases h;obtain⟨a,e,k⟩:=r;exact⟨a,ws.map V.str,e,k.sq,jD ws⟩
 |_=>cases h
theorem Bi:il K mg (Lw K) se:=by
 intro WE μ S H vs xs Q hr rs p;unfold se at p;split at p
 ·obtain⟨v,rfl,r⟩:=rs.one;split at p
  ·rename_i q e;obtain⟨a,us,rfl,g,rr⟩:=tE r e;refine⟨a,us,rfl,?_,by rw[rr.length];exact p.here hr (Rep.int _)⟩;have g':=SqG.mono dj g
   revert g'
   cases q.1 with
   |true=>exact .inl
   |false=>exact .inr
  ·exact p.elim
 ·exact p.elim
def Itk(K:NO)(b c:Bool)(t u:Addr):It:=
  ⟨λi H=>∃xs ys x y,SqG K b H t xs/\SqG K c H u ys/\xs[i]?=some x/\ys[i]?=some y,λi H v H'=>∃p x y,H p=none/\v=.ref p/\H'=upd H p (.tup [x,y])/\(∀xs,SqG K b H t xs->xs[i]?=some x)/\∀ys,SqG K c H u ys->ys[i]?=some y,
   λi H=>∃xs ys,SqG K b H t xs/\SqG K c H u ys/\i<=xs.length/\i<=ys.length/\(i=xs.length\/i=ys.length)⟩
theorem CN{P:Program}{w:World}{K:NO}{es:List Expr}{kk:Nat}{tp:Pos}(b c:Bool)(t u N:Addr) :
  Turn P w K (.Tuple es kk tp) (Itk K b c t u) [N+4,N+2,N+3,N,N+1] (N+4)
   (λi h=>IsZip h (N+4) (N+2) (N+3) .none/\IsPair h (N+2) (.ref N) (.ref (N+1))/\(∃a b,IsPair h (N+3) a b)/\gX b h N t i/\gX c h (N+1) u i)where
 mem:=by simp
 obj:=(pN (P:=P) (w:=w) (K:=K) (es:=es) (kk:=kk) (tp:=tp) b c t u N).obj
 keep:=(pN (P:=P) (w:=w) (K:=K) (es:=es) (kk:=kk) (tp:=tp) b c t u N).keep
 item:=by
  intro X hP hw hK hc i pins s σ H E I hf st hg;subst hP hw hK;obtain⟨h1,h2,⟨a0,b0,h3⟩,h4,h5⟩:=st;obtain⟨xs,ys,x,y,hx,hy,ex,ey⟩:=hg;obtain⟨its,rv,p,hz⟩:=I.sqG hx;obtain⟨its2,rv2,p2,hz2⟩:=I.sqG hy;obtain⟨a,ha,ra⟩:=rv.get ex;obtain⟨b1,hb,rb⟩:=rv2.get ey;have D0:=rN (N:=N) (t:=t) (u:=u) (λc hc=>I.sne (hf c hc) hx) (λc hc=>I.sne (hf c hc) hy);have hA:X.A.in1.handled=none:=I.ok.hd hc;have tn:t≠N:=I.sne (hf N (by simp)) hx;have un:u≠N+1:=I.sne (hf (N+1) (by simp)) hy;have la:i<its.toArray.size:=by
   have:=(NZ.mp ha).1;simpa using this
  have lb:i<its2.toArray.size:=by
   have:=(NZ.mp hb).1;simpa using this
  refine ug D0 (fR b hA N t tn its.toArray) (fR c hA (N+1) u un its2.toArray) h1 (.inl rfl) h2 h3 ⟨h4,p⟩ ⟨h5,p2⟩ la lb λx' y' g1 tk px py z1 z2 z3 z4 z5 z6 z7 k1=>?_;obtain rfl:x'=a:=by
   have e:its.toArray[i]?=some x':=px;rw[Pa,ha]at e;exact(Ou e).symm
  obtain rfl:y'=b1:=by
   have e:its2.toArray[i]?=some y':=py;rw[Pa,hb]at e;exact(Ou e).symm
  refine⟨_,rfl,Tn (s:={ s with heap:=g1,toks:=tk }) z1 λg2 y1 e2=>?_⟩
  replace e2:OD (N+4) g1 g2:=e2
  have hl4:N+4<s.heap.objs.size:=N2 h1;have d:∀i j:Nat,i≠j->(N+i:Nat)≠N+j:=λi j h e=>h (Su e);have ht2:IsPair g2 s.heap.objs.size x' y':=e2.extBut _ _ (Qd hl4) z6;have k2:∀c o,c∉[N+4,N+2,N+3,N,N+1]->s.heap.get? c=some o->g2.get? c=some o:=λc o hc q=>by
   have c4:c≠N+4:=λz=>hc (by simp[z]);have c3:c≠N+3:=λz=>hc (by simp[z]);have c0:c≠N:=λz=>hc (by simp[z]);have c1:c≠N+1:=λz=>hc (by simp[z]);exact e2.extBut c o c4 (k1 c o c4 c3 c0 c1 q)
  have I2:Inv X pins σ (upd H s.heap.objs.size (.tup [x,y])) { s with heap:=g2,toks:=tk }:=by
   refine I.rk (fp:=[N+4,N+2,N+3,N,N+1]) (NW _) k2 hf ?_;exact⟨by show 2<=sizeLine;decide,[x',y'],.cons ra (.cons rb .nil),⟨_,ht2,rfl,_,rfl⟩⟩
  refine⟨.ref s.heap.objs.size,_,I2,rfl,⟨s.heap.objs.size,x,y,I.hok.fresh (NW _),rfl,rfl,λzs hz=>by rw[I.y9 hz hx];exact ex,λzs hz=>by rw[I.y9 hz hy];exact ey⟩,⟨y1,e2.extBut _ _ (d 2 4 (by decide)) z2,⟨_,_,e2.extBut _ _ (d 3 4 (by decide)) z3⟩,mR z4.1 λo q=>e2.extBut _ _ (d 0 4 (by decide)) q,mR z5.1 λo q=>e2.extBut _ _ (d 1 4 (by decide)) q⟩,λb hb=>?_⟩;have hlt:b<s.heap.objs.size:=by
   simp only[NU,Oj,O6]at hb;rcases hb with z |z |z |z |z
   ·rw[z];exact hl4
   ·rw[z];exact N2 h2
   ·rw[z];exact N2 h3
   ·obtain⟨o,q,_⟩:=ke h4;rw[z];exact N2 q
   ·obtain⟨o,q,_⟩:=ke h5;rw[z];exact N2 q
  rw[bf (Og hlt)];exact(hf b hb).1
 done:=by
  intro X hP hw hK hc i pins s σ H E I hf st hg;subst hP hw hK;obtain⟨h1,h2,⟨a0,b0,h3⟩,h4,h5⟩:=st;obtain⟨xs,ys,hx,hy,lx,ly,hend⟩:=hg;obtain⟨its,rv,p,hz⟩:=I.sqG hx;obtain⟨its2,rv2,p2,hz2⟩:=I.sqG hy;have D0:=rN (N:=N) (t:=t) (u:=u) (λc hc=>I.sne (hf c hc) hx) (λc hc=>I.sne (hf c hc) hy);have hA:X.A.in1.handled=none:=I.ok.hd hc;have tn:t≠N:=I.sne (hf N (by simp)) hx;have un:u≠N+1:=I.sne (hf (N+1) (by simp)) hy;have l1:=rv.length;have l2:=rv2.length;refine wq D0 (fR b hA N t tn its.toArray) (fR c hA (N+1) u un its2.toArray) h1 (.inl rfl) h2 h3 ⟨h4,p⟩ ⟨h5,p2⟩ ?_ λh' tk hk=>⟨rfl,?_⟩
  ·simp only[NX];omega
  ·refine I.zc (fp:=[N+4,N+2,N+3,N,N+1]) (λc o hc q=>?_) hf;exact hk c o (λz=>hc (by simp[z])) (λz=>hc (by simp[z])) (λz=>hc (by simp[z])) (λz=>hc (by simp[z])) q
 self:=λ_ _ _ _ _ st h=>R_ st.1 h
def Ax(zs:List Vl)(S:Sto):R Its:=match zs with
 | [x,y]=>(match sqV x,sqV y with
  |some p,some q=>.ok ⟨eE p.2 q.2,none⟩ S
  |_,_=>.bad)
 |_=>.bad
def iZk(as:XA):XI:=λτ S=>(as τ S).bind Ax
theorem HA{vs us:List V}(g:SqG K b (vh μ S H) t vs)(rs:aJ (vh μ S H) vs xs)(g2:SqG K c (vh μ S H) u us)(rs2:aJ (vh μ S H) us ys)(hz:vs.length<=sizeLine):ig K mg μ S H (Itk K b c t u) ⟨eE xs ys,none⟩where
 ok:=True.intro
 len:=by show(eE xs ys).length<=sizeLine;rw[nv];rw[rs.length]at hz;omega
 go:=λi z μ' S' H' st _ e=>by
  obtain⟨x,y,e1,e2,_⟩:=kx e;obtain⟨a,q1,_⟩:=rs.get' e1;obtain⟨b,q2,_⟩:=rs2.get' e2;exact⟨vs,us,a,b,SqG.mono dj (g.mono st.vis),SqG.mono dj (g2.mono st.vis),q1,q2⟩
 yld:=λi z μ' S' H' v H2 st _ e yy=>by
  obtain⟨p,a,b,hp,rfl,rfl,y1,y2⟩:=yy;obtain⟨x,y,e1,e2,rfl⟩:=kx e;have q1:=y1 vs (SqG.mono dj (g.mono st.vis));have q2:=y2 us (SqG.mono dj (g2.mono st.vis));obtain⟨x',e3,r1⟩:=rs.get q1;obtain⟨y',e4,r2⟩:=rs2.get q2;rw[e1]at e3;cases e3;rw[e2]at e4;cases e4;have st2:=Step.new st.hr hp (.tup [a,b]);exact⟨st2,Rep.tup (cS cV (st.hr.nal hp)) (.cons (Rep.mono (st.trans st2).vis r1) (.cons (Rep.mono (st.trans st2).vis r2) .nil))⟩
 stop:=λi μ' S' H' st _ hi=>by
  replace hi:(eE xs ys).length=i:=hi
  rw[nv]at hi;have l1:=rs.length;have l2:=rs2.length;exact⟨vs,us,SqG.mono dj (g.mono st.vis),SqG.mono dj (g2.mono st.vis),by omega,by omega,by omega⟩
theorem Ht(hg:Gl X "zip")(hm:X.mg "zip"=none)(ha:RA X WE [a,b] xa)(hb:bootBuiltins "zip"=some (.type "zip"):=by decide+kernel)
  (hs:starEach [a,b] X.env=[(false,eval a X.env),(false,eval b X.env)]:=by rfl) (hs2:starEach [b] X.env=[(false,eval b X.env)]:=by rfl):RI X WE (.Tuple es kk tp) (.Call (.Name "zip" p) [a,b] [] pos) (iZk xa):=⟨by
 intro pins s σ H R I h;obtain⟨μ,S,τ,hr,sr,pp⟩:=h;refine Uw (dH I hg hm hb (OH (thn (ha.h pos pins s σ H (λvs H1=>∃μ1 S1 zs,HR μ1 S1 H1/\cn X.K X.mg μ1 S1 H1 vs zs/\bg (ig X.K X.mg) WE μ1 S1 H1 (Ax zs S1) R) I ?_) λus s1 ⟨vs,H1,I1,r1,q1⟩=>?_) (by rw[hs,hs2]) (by rw[hs2];rfl)))
 ·exact⟨μ,S,τ,hr,sr,pp.bind λv x S1 μ1 H1 st1 r1 p1=>⟨μ1,S1,x,st1.hr,r1,p1⟩⟩
 ·obtain⟨μ1,S1,zs,hr1,rz,p1⟩:=q1;have fp:∀b∈[s1.heap.objs.size+4,s1.heap.objs.size+2,s1.heap.objs.size+3,s1.heap.objs.size,s1.heap.objs.size+1],s1.heap.objs.size<=b:=by
   intro b hb;simp only[NU,Oj,O6]at hb;rcases hb with z |z |z |z |z<;>rw[z]
   ·exact P7 _ _
   ·exact P7 _ _
   ·exact P7 _ _
   ·exact NW _
   ·exact P7 _ _
  unfold Ax at p1;split at p1
  ·split at p1
   ·rename_i p q e1 e2;cases rz with
    |cons q1 q2=>cases q2 with
     |cons q2 q3=>
      cases q3;obtain⟨u1,u2,rfl,ru,rw'⟩:=r1.two;obtain⟨t,vs,rfl,g,rs⟩:=tE q1 e1;obtain⟨u,us,rfl,g2,rs2⟩:=tE q2 e2;cases ru;cases rw';obtain⟨its,rv,pl,hz⟩:=I1.sqG (SqG.mono dj g);obtain⟨its2,rv2,pl2,hz2⟩:=I1.sqG (SqG.mono dj g2);refine uM p.1 q.1 pl pl2 λh' z1 z2 z3 z4 z5 hk=>?_;refine R_ (s:={ s1 with heap:=h' }) z1 ?_;have I2:Inv X pins σ H1 { s1 with heap:=h' }:=I1.kept (t':=s1.toks) hk;exact⟨s1.heap.objs.size+4,_,_,_,H1,rfl,I2,CN p.1 q.1 t u s1.heap.objs.size,⟨z1,z2,⟨_,_,z3⟩,z4,z5⟩,λb hb=>I1.mq (fp b hb) (I1.hok.fresh (fp b hb)),p1.here hr1 (HA g rs g2 rs2 hz)⟩
   ·exact p1.elim
  ·exact p1.elim⟩
end
set_option maxRecDepth 100000
section
variable{X:Cx}{WE:WX}
theorem DLv.get(h:DLv l r)(k:Str)(dn:Int)(tk:Tok):∃t,(valueAt (strPairs r) k).getD (.int dn tk)=.int ((l.lookup k).getD dn) t:=by
 induction h with
 |nil=>exact⟨tk,rfl⟩
 | @cons k' n' t u l r _ ih=>
  unfold valueAt;rw[strPairs,Sr];by_cases q:k'=k
  ·subst q;rw[Sh];exact⟨u,by simp⟩
  ·rw[OC,PZ (λz=>q z.symm),show decide ((k',Value.int n' u).1=k)=false from gV q];exact ih
def tDg(kvs:List (Str×Int))(dn:Int)(ti:TE):TE:=λσ H Q=>ti σ H λy H1=>∃k,y=.str k/\Q (.int ((kvs.lookup k).getD dn)) H1
theorem Lx(h:DL ks vs kvs)(hi:PE X ix ti)(hall:ks.all (·.isSome)=true)(hl:ks.length=vs.length)(h0:ks≠[])(hlen:ks.length<=15)(hn:(kvs.map (·.1)).Nodup)(m:M2 X (.Dict ks vs pd) "get" apos ix (.Constant (.int dn) j pc) cpos) :
  PE X (.Call (.Attribute (.Dict ks vs pd) "get" apos) [ix,.Constant (.int dn) j pc] [] cpos) (tDg kvs dn ti):=by
 intro pins s σ H Q I q;refine Vw m.base m.few m.line TV Q8 Ut (V7 (knd:=strKind X.prog X.w) hall hl h0 hlen (zj h λl t hv=>?_));have hv2:=hv.all;refine VL hv2.1 (by rw[hv2.2];exact hn) (V8 _) λh' hm hsb=>?_;obtain⟨o,es,ep,ho,hex,hd,r⟩:=id hm;have I1:Inv X pins σ H { s with heap:=h',toks:=t+l.length }:=I.kept (t':=t+l.length) λb ob e=>(hsb.2 b (Og (N2 e))).trans (NR _ e);obtain⟨f0,f1,f2,f3,f4,f5⟩:=I.mq (NW _) (I.hok.fresh (NW _));have I2:=I1.Ke ho f0 f1 f2 (λv z=>by rw[hd]at z;cases z);refine⟨hm.typeIs,λb e=>?_,?_⟩
 ·cases e;exact⟨o,ho,hex.2.1⟩
 rw[m.trees];refine Pz rfl (Px (PK (thn (hi _ _ σ H _ I2 q) λu s2 ⟨y,H2,I3,ry,k,e,q2⟩=>PK (SH (Te ?_)))));subst e;obtain⟨tk,rfl⟩:=ry;have hp:=(I3.pin (s.heap.objs.size,o) (Oe _ (Oq ..))).1;have hm2:s2.heap.DictOf (strKind X.prog X.w) s.heap.objs.size (strPairs l):=⟨o,es,ep,hp,hex,hd,r⟩;refine call_meetsIn Q8 hm2.typeIs Uh (TX _ _ _) (Ui (strKind X.prog X.w) _ (k:=k) (by simp[WO,P5]) (PZ (Qd I.big)) _) ⟨_,hm2.mapOf,?_⟩;obtain⟨t2,e2⟩:=hv.get k dn s2.toks;rw[e2];exact⟨.int _,H2,(I3.BV.tok _).tok _,⟨_,rfl⟩,q2⟩
def xDg(kvs:List (Str×Int))(dn:Int)(a:XE):XE:=λτ S=>(a τ S).bind λz S1=>match z with
 | .d (.str k)=>.ok (.d (.int ((kvs.lookup k).getD dn))) S1
 |_=>.bad
theorem LC(h:DL ks vs kvs)(hi:RE X WE ix xi)(hn:(kvs.map (·.1)).Nodup:=by decide)(hall:ks.all (·.isSome)=true:=by rfl)(hl:ks.length=vs.length:=by rfl)(h0:ks≠[]:=by exact VM _ _)(hlen:ks.length<=15:=by decide)(m:M2 X (.Dict ks vs pd) "get" apos ix (.Constant (.int dn) j pc) cpos:=by exact⟨rfl,rfl,rfl,rfl⟩) :
  RE X WE (.Call (.Attribute (.Dict ks vs pd) "get" apos) [ix,.Constant (.int dn) j pc] [] cpos) (xDg kvs dn xi):=
 ⟨(Lx h hi.h hall hl h0 hlen hn m).weak λσ H Q ⟨μ,S,τ,hr,sr,p⟩=>⟨μ,S,τ,hr,sr,p.bind λv x S1 μ1 H1 st1 r1 p1=>by
  try dsimp only at p1
  split at p1
  ·cases(show Rep (vh μ1 S1 H1) v (.str _)from r1);exact⟨_,rfl,p1.here st1.hr (Rep.int _)⟩
  ·exact p1.elim⟩⟩
end
set_option maxRecDepth 100000
def HF(h B:Heap)(e:Addr)(cls:Value)(od:Option Addr)(fl:Value):Prop:=
 ∃oe vs T oT ts,h.get? e=some oe/\(oe.cls=cls/\oe.dict=od)/\oe.data=.fields vs/\vs[1]?=some (.ref T)/\B.get? T=none/\T≠e/\h.get? T=some oT/\oT.data=.fields ts/\ts[3]?=some fl
def dR(B:Heap)(l:List Env)(e:Addr)(cls:Value)(od:Option Addr)(fl:Value)(h:Heap):Prop:=B.StaysIn h/\B.get? e=none/\h.FunFrames B l/\HF h B e cls od fl
theorem dR.there(x:dR B l e cls od fl h):∃ob,h.get? e=some ob/\ob.cls=cls/\ob.dict=od/\∃vs,ob.data=.fields vs:=by
 obtain⟨_,_,_,oe,vs,_,_,_,he,hc,hd,_⟩:=x;exact⟨oe,he,hc.1,hc.2,vs,hd⟩
theorem tL(f:Array Value->Array Value)(o:Obj):(o.mapFields f).dict=o.dict:=by
 obtain⟨c,d,dt,sl⟩:=o;cases dt<;>rfl
section
variable{M:Model}{A:Around}{E:Value->Shared->Prop}{s:Shared}{B:Heap}{env:Env}{outer:List Env}{L e:Addr}{Q:Unit->Shared->Prop}{cls:Value}{od:Option Addr}
theorem CL(hfr:A.frames=some (env::outer))(hl:s.heap.FunFrames B (env::outer))(hf:env.frame=some L)
  (he:s.heap.get? e=some oe) (hkb:B.StaysIn s.heap) (hen:B.get? e=none) (hd:oe.data=.fields vs) (hsz:1<vs.size)
  (h:∀h',dR B (env::outer) e oe.cls oe.dict (rawInt L) h'->s.heap.UpToSlots h'->Q () { s with heap:=h' }) :
  wpAny M A (do let a<-frameOf env;let pl<-entryPlaceOf L hadNext;let b<-UU head a .none (rawInt L) .none pl;setField (.ref e) 1 b) Q E s:=by
 have hene:e∉(env::outer).filterMap (·.frame):=λhm=>by
  obtain⟨_,o,ho,hnf⟩:=hl.mem hm;rw[he]at ho;injection ho with ho;subst ho;exact hnf vs hd
 refine ar (wpAny_frameOf_fun hfr hl hf λh1 hs1=>?_);refine ar (wpAny_entryPlaceOf λpl hpl=>?_);unfold UU newFields;refine ar (O4 ?_ (hpl.sizeOk5 _ _ _ _ _));have he1:h1.get? e=some oe:=(hs1.2.1 e hene).trans he;have kb1:B.StaysIn h1:=λb o hbo=>(hs1.2.1 b λhm=>by rw[(hl.mem hm).1]at hbo;cases hbo).trans (hkb b o hbo);have hTe:h1.objs.size≠e:=Qd (N2 he1);generalize ho:({ cls:=.type "traceback",dict:=none,data:=.fields ([head,.ref L,.none,rawInt L,.none]++(if pl.isEmpty then N_ 6 Value.none else pl)).toArray }:Obj)=ob;have he2:=NR (h:=h1) ob he1;refine Q4 he2 hd hsz ?_;have hd3:=QR hd (·.setIfInBounds 1 (Value.ref h1.objs.size));have he3:=Pp (R8 (·.setIfInBounds 1 (Value.ref h1.objs.size))) he2 (Sf hd3);have hT3:=(P4 (h1.push ob) (R8 (·.setIfInBounds 1 (Value.ref h1.objs.size))) (PD hTe)).trans (N5 h1 (by rw[<-ho];rfl));have keep:∀b o,b≠e->h1.get? b=some o->((h1.push ob).update e (R8 (·.setIfInBounds 1 (Value.ref h1.objs.size)))).get? b=some o:=λb o hbe hb=>by
  rw[P4 _ _ (PD hbe)];exact NR _ hb
 have noRecord:∀b o,s.heap.get? b=some o->(∀vs,o.data≠.fields vs)->b≠e:=λb o hb hnf q=>by
  rw[q,he]at hb;injection hb with hb;subst hb;exact hnf vs hd
 refine h _ ⟨λb o hbo=>keep b o (λq=>by rw[q,hen]at hbo;cases hbo) (kb1 b o hbo),hen,hl.of_keeps λb o hb hnf=>?_,?_⟩ λb o hb hnf=>?_
 ·obtain⟨sl,hs⟩:=hs1.2.2 b o hb;exact⟨_,keep b _ (noRecord b o hb hnf) hs,rfl⟩
 ·exact⟨_,_,h1.objs.size,_,_,he3,⟨Vp _ _,tL _ _⟩,hd3,by simp[hsz],kb1.fresh,hTe,hT3,by rw[<-ho],by first |(simp;done) |(rcases hpl with rfl |⟨_,_,_,_,_,_,_,rfl⟩<;>simp)⟩
 ·obtain⟨sl,hs⟩:=hs1.2.2 b o hb;exact⟨sl,keep b _ (noRecord b o hb hnf) hs⟩
theorem K6(hfr:A.frames=some (env::outer))(hl:s.heap.FunFrames B (env::outer))(hf:env.frame=some L)
  (he:s.heap.get? e=some oe) (hkb:B.StaysIn s.heap) (hen:B.get? e=none) (hd:oe.data=.fields vs) (h1:vs[1]?=some .none)
  (h:∀h',dR B (env::outer) e oe.cls oe.dict (rawInt L) h'->s.heap.UpToSlots h'->Q () { s with heap:=h' }):wpAny M A (noteFrame (.ref e) env) Q E s:=by
 unfold noteFrame;simp only[hf];refine ar (OS he hd h1 ?_);rw[N1 (by decide)];exact CL hfr hl hf he hkb hen hd (Qp.mp h1).1 h
theorem zG(hfr:A.frames=some (env::outer))(hf:env.frame=some L)(hfl:dR B (env::outer) e cls od fl s.heap)
  (h:∀h' fl',dR B (env::outer) e cls od fl' h'->s.heap.UpToSlots h'->Q () { s with heap:=h' }):wpAny M A (noteFrame (.ref e) env) Q E s:=by
 have hfl0:=hfl;obtain⟨hkb,hen,hl,oe,vs,T,oT,ts,he,⟨rfl,rfl⟩,hd,h1,hnT,hTe,hT,hdT,h3⟩:=hfl;unfold noteFrame;simp only[hf];refine ar (OS he hd h1 ?_);rw[NT (show(Value.ref T != Value.none)=true from by simp)];refine ar (OS hT hdT h3 ?_);by_cases q:(fl==rawInt L)=true
 ·rw[NT q];exact NP (h s.heap fl hfl0 λb o hb _=>⟨o.slots,hb⟩)
 rw[N1 q];refine ar (Q4 hT hdT (Qp.mp h3).1 ?_);have other:∀b,b≠T->(s.heap.update T (R8 (·.setIfInBounds 3 Value.none))).get? b=s.heap.get? b:=λb hb=>P4 _ _ (PD hb);have noRecord:∀b o,s.heap.get? b=some o->(∀vs,o.data≠.fields vs)->b≠T:=λb o hb hnf q=>by
  rw[q,hT]at hb;injection hb with hb;subst hb;exact hnf ts hdT
 exact CL hfr (hl.of_keeps λb o hb hnf=>⟨o,(other b (noRecord b o hb hnf)).trans hb,rfl⟩) hf ((other e (PD hTe)).trans he)
  (λb o hbo=>(other b λq=>by rw[q,hnT]at hbo;cases hbo).trans (hkb b o hbo)) hen hd (Qp.mp h1).1
  λh' x1 x4=>h h' _ x1 λb o hb hnf=>x4 b o ((other b (noRecord b o hb hnf)).trans hb) hnf
theorem FR{f:Option Addr}(hfl:dR B l e cls od fl s.heap)(h:∀h',dR B l e cls od (f.elim Value.none λf=>rawInt f) h'->s.heap.UpToSlots h'->Q () { s with heap:=h' }):wpAny M A (setFlight (.ref e) f) Q E s:=by
 obtain⟨hkb,hen,hl,oe,vs,T,oT,ts,he,hc,hd,h1,hnT,hTe,hT,hdT,h3⟩:=hfl;have other:∀b,b≠T->(s.heap.update T (R8 (·.setIfInBounds 3 (f.elim Value.none λf=>rawInt f)))).get? b=s.heap.get? b:=λb hb=>P4 _ _ (PD hb);have noRecord:∀b o,s.heap.get? b=some o->(∀vs,o.data≠.fields vs)->b≠T:=λb o hb hnf q=>by
  rw[q,hT]at hb;injection hb with hb;subst hb;exact hnf ts hdT
 unfold setFlight;refine ar (OS he hd h1 ?_);rw[NT (show(Value.ref T != Value.none)=true from by simp)];have hz:=(Qp.mp h3).1;refine Q4 hT hdT hz (h _ ⟨λb o hbo=>(other b λq=>by rw[q,hnT]at hbo;cases hbo).trans (hkb b o hbo),hen,hl.of_keeps λb o hb hnf=>⟨o,(other b (noRecord b o hb hnf)).trans hb,rfl⟩,?_⟩ λb o hb hnf=>⟨o.slots,(other b (noRecord b o hb hnf)).trans hb⟩);exact⟨oe,vs,T,_,_,(other e (PD hTe)).trans he,hc,hd,h1,hnT,hTe,Pp _ hT (Sf (QR hdT _)),QR hdT _,by simp[hz]⟩
theorem Ab(hfl:dR B l e cls od fl s.heap)(h:∀h',dR B l e cls od .none h'->s.heap.UpToSlots h'->Q () { s with heap:=h' }):wpAny M A (setFlight (.ref e) none) Q E s:=FR hfl h
theorem BK{up0:Heap}(hn:∀{Q:Unit->Shared->Prop},(∀h' fl',dR B (env::outer) e cls od fl' h'->up0.UpToSlots h'->Q () { s with heap:=h' })->wpAny M A (noteFrame (.ref e) env) Q E s)
  (h:∀h',dR B outer e cls od .none h'->up0.UpToSlots h'->Q () { s with heap:=h' }):wpAny M A (leaving env (.ref e)) Q E s:=by
 unfold leaving;refine ar (hn λh1 _ f1 u1=>Ab f1 λh2 f2 u2=>h h2 ?_ (u1.trans u2));obtain⟨k1,k2,⟨_,_,k3⟩,k4⟩:=f2;exact⟨k1,k2,k3,k4⟩
end
structure hG(P:Program)(w:World)(outer:List Env)(ch:List Addr)(H:Hp)(s:Shared)(a:Addr)(H':Hp)(s':Shared)(B:Heap):Prop where
 os:s'.os=s.os
 bare:AllBare s'.gens
 un:Un (frs outer) ch H H' s.heap s'.heap
 hok:HOk P w H' s'.heap
 new:s.heap.get? a=none
 free:H' a=none
 trk:∀b o,H' b=some o->∃u,B.get? b=some u
 old:∀b o,s.heap.get? b=some o->H b=none->b∉frs outer->b∉ch->B.get? b=some o
 dm:∀b o,H b=some o->∃o',H' b=some o'
theorem cR.some_at(x:cR P w H h a o):∃u,h.get? a=some u:=by
 cases o with
 |lst xs=>obtain⟨_,_,_,_,e⟩:=x;exact⟨_,e⟩
 |tup xs=>obtain⟨_,_,_,ob,e,_⟩:=x;exact⟨_,e⟩
 |dK kvs=>obtain⟨_,_,_,_,o,_,_,e,_⟩:=x;exact⟨_,e⟩
 |dT kvs=>obtain⟨_,_,_,_,o,_,_,e,_⟩:=x;exact⟨_,e⟩
 |set S n=>obtain⟨o,_,_,_,e,_⟩:=x;exact⟨_,e⟩
 |ins C dx fs=>obtain⟨_,_,_,e,_⟩:=x;exact⟨_,e⟩
 |own y=>exact x
 |xd fs=>obtain⟨_,⟨_,_,_,e,_⟩,_⟩:=x;exact⟨_,e⟩
 |rng lo hi=>obtain⟨_,_,_,e⟩:=x;exact⟨_,e⟩
 |frz ob u=>obtain⟨e,_⟩:=x;exact⟨_,e⟩
 |tbl ps=>exact⟨_,x⟩
 |met f y=>exact⟨_,x⟩
 |ext φ=>exact x.2.1
theorem HOk.Lv{h h' B:Heap}(x:HOk P w H h)(trk:∀b o,H b=some o->∃u,B.get? b=some u)(k:B.StaysIn h)(k':B.StaysIn h'):HOk P w H h':=λa o e=>
 have st:∀b o u,H b=some o->h.get? b=some u->h'.get? b=some u:=λb o u e q=>by
  obtain⟨v,hv⟩:=trk b o e;have:=k b v hv;rw[q]at this;cases this;exact k' b u hv
 (x a o e).ma (λb u hb q=>by
  rcases hb with rfl |hb
  ·exact st _ _ _ e q
  ·exact st _ _ _ hb q) (λ_ q=>q) λ_ _ q=>q
theorem hG.E_{s s':Shared}{B h':Heap}(F:hG P w outer ch H s a H' s' B)(hB:B.StaysIn s'.heap)(ff:s'.heap.FunFrames B outer)(hB':B.StaysIn h')(up:∀b o,b∈frs outer->s'.heap.get? b=some o->(∀vs,o.data≠.fields vs)->∃sl,h'.get? b=some { o with slots:=sl }):hG P w outer ch H s a H' { s' with heap:=h' } B where
 os:=F.os
 bare:=F.bare
 un:=⟨λb o e n hb hx=>hB' b o (F.old b o e n hb hx),λb o e n hb hx=>by
   obtain⟨sl,e1⟩:=F.un.slot b o e n hb hx;obtain⟨_,o2,e2,nf⟩:=ff.mem hb;rw[e1]at e2;cases e2;obtain⟨sl2,e3⟩:=up b _ hb e1 nf;exact⟨sl2,e3⟩,F.un.free,λb o e hx=>by
   cases q:H b with
   |some u=>
    obtain⟨u',q'⟩:=F.dm b u q;obtain⟨v,hv⟩:=F.trk b u' q';exact⟨v,hB' b v hv⟩
   |none=>
    by_cases hb:b∈frs outer
    ·obtain⟨sl,e1⟩:=F.un.slot b o e q hb hx;obtain⟨_,o2,e2,nf⟩:=ff.mem hb;rw[e1]at e2;cases e2;obtain⟨sl2,e3⟩:=up b _ hb e1 nf;exact⟨_,e3⟩
    ·exact⟨o,hB' b o (F.old b o e q hb hx)⟩,F.un.tups,F.un.frzs,F.un.tbls⟩
 hok:=F.hok.Lv F.trk hB hB'
 new:=F.new
 free:=F.free
 trk:=F.trk
 old:=F.old
 dm:=F.dm
theorem hG.move{s s':Shared}{B h':Heap}(F:hG P w outer ch H s a H' s' B)(hB:B.StaysIn s'.heap)(ff:s'.heap.FunFrames B outer)(hB':B.StaysIn h')(up:s'.heap.UpToSlots h'):hG P w outer ch H s a H' { s' with heap:=h' } B:=F.E_ hB ff hB' λb o _=>up b o
section
variable{X:Cx}{pins:List (Addr×Obj)}{σ:St}{H H':Hp}{s s':Shared}{a:Addr}{B h':Heap}
theorem Inv.vv(I:Inv X pins σ H s)(F:hG X.prog X.w X.stack ch H s a H' s' B)(hf:∀b∈ch,eZ X pins H b):Inv X pins σ H' s':=I.EZ F.os F.un F.hok F.bare λb hb=>by
 obtain⟨g0,g1,g2,g3,g4,g5⟩:=hf b hb;exact⟨g3,g1,g4,g5⟩
theorem Inv.Fn(I:Inv X pins σ H' s')(hst:X.stack=X.env::X.outer)(hex:X.ex=[])(hB:B.StaysIn s'.heap)(ff:s'.heap.FunFrames B X.outer)(trk:∀b o,H' b=some o->∃u,B.get? b=some u)
  (old:∀b o,X.s₀.heap.get? b=some o->X.H₀ b=none->b∉X.fs->B.get? b=some o) (new:X.s₀.heap.get? a=none) (free:H' a=none) (dm:∀b o,X.H₀ b=some o->∃o',H' b=some o') (hB':B.StaysIn h') (up:s'.heap.UpToSlots h') :
  hG X.prog X.w X.outer [] X.H₀ X.s₀ a H' { s' with heap:=h' } B:=by
 have u:=I.base;rw[hex]at u;have F0:hG X.prog X.w X.outer [] X.H₀ X.s₀ a H' s' B:=⟨I.os,I.bare,u,I.hok,new,free,trk,λb o e n hb _=>old b o e n hb,dm⟩;exact F0.move hB ff hB' up
end
def pV(G:Hp)(od:Option Addr)(xs:List (Str×D)):Prop:=xs≠[]->∃(dx:Addr)(vs:List V),od=some dx/\vs.length=xs.length/\G dx=some (.xd ((xs.map (·.1)).zip vs))/\aJ G vs (xs.map (·.2))
theorem pV.mono(h:pV G od xs)(k:eD G G'):pV G' od xs:=λn=>by
 obtain⟨dx,vs,q1,q2,q3,q4⟩:=h n;exact⟨dx,vs,q1,q2,k _ _ q3,q4.mono k⟩
def CXE(P:Program)(w:World):CXT:=λouter H s E e s'=>∃(a C:Addr)(od:Option Addr)(H':Hp)(B:Heap),e=.ref a/\hG P w outer [] H s a H' s' B/\dR B outer a (.ref C) od .none s'.heap/\E (.ref C) od H'
def XOk(X:Cx)(WE:WX):Prop:=∀(pins:List (Addr×Obj))(σ:St)(H:Hp)(s:Shared)(a C:Addr)(od:Option Addr)(c:Str)(xs:List (Str×D))(S:Sto)(μ:Nat->Addr)(H':Hp)(s':Shared)(B:Heap)(ch:List Addr)(fl:Value),
 Inv X pins σ H s->(∀b∈ch,eZ X pins H b)->hG X.prog X.w X.stack ch H s a H' s' B->dR B X.stack a (.ref C) od fl s'.heap->X.mg c=some (.ref C)->HR μ S H'->pV (vh μ S H') od xs->WE c xs S μ H'->X.xe (.ref a) s'
def XMk(X:Cx)(WE:WX):Prop:=∀(pins:List (Addr×Obj))(σ:St)(H:Hp)(s:Shared)(a C:Addr)(c:Str)(xs:List (Str×D))(oe:Obj)(vs:Array Value)(S:Sto)(μ:Nat->Addr),
 Inv X pins σ H s->s.heap.get? a=some oe->oe.cls=.ref C->oe.data=.fields vs->vs[1]?=some .none->H a=none->X.s₀.heap.get? a=none->X.mg c=some (.ref C)->HR μ S H->pV (vh μ S H) oe.dict xs->WE c xs S μ H->X.xe (.ref a) s
section
variable{P:Program}{w:World}{K:NO}{mg:Str->Option Value}{base:Heap}{N:List Str}{qual:Str}{scope:Scope}{f:Addr}{cd:Value}{A:Around}{outer:List Env}{s:Shared}{H:Hp}{E:XK}
def tJ(mg:Str->Option Value)(H:Hp)(E:XK):WX:=λc xs S μ H'=>(∀b o,H b=some o->∃o',H' b=some o')/\∀(C:Addr)(od:Option Addr),mg c=some (.ref C)->pV (vh μ S H') od xs->E (.ref C) od H'
theorem Ge:XOk (gT (CXE P w) P w K mg base N qual scope f cd A outer s H E) (tJ mg H E):=by
 intro pins σ H1 s1 a C od c xs S μ H' s' B ch fl0 I hch F fl hm hr hx hw;have I':=I.vv F hch;show wpAny (model P w) (A.deeper (envOfC qual scope s.heap.objs.size f cd)) (leaving (envOfC qual scope s.heap.objs.size f cd) (.ref a)) _ _ s';refine BK (λh=>zG (L:=s.heap.objs.size) I.ok.frames rfl fl h) λh' fl' up=>?_;have ff:s'.heap.FunFrames B (envOfC qual scope s.heap.objs.size f cd::outer):=fl.2.2.1;refine⟨a,C,od,H',B,rfl,I'.Fn rfl rfl fl.1 ff.2.2 F.trk (λb o e n hb=>?_) ?_ F.free hw.1 fl'.1 up,fl',hw.2 C od hm hx⟩
 ·have e1:=I.base.keep b o e n hb (by intro z;cases z);have n1:=I.base.free b o e n (by intro z;cases z);refine F.old b o e1 n1 (λz=>?_) λz=>?_
  ·rcases NU.mp (I.mx b z)with z |z
   ·rw[z]at e;exact absurd (N2 e) (Pf _)
   ·exact hb z
  ·rcases(hch b z).2.2.2.1 with z |z
   ·cases z
   ·exact absurd (Oo (N2 e) z) (Pf _)
 ·cases q:s.heap.get? a with
  |none=>exact q
  |some o=>
   obtain⟨o',e'⟩:=I.base.there a o q (by intro z;cases z);rw[F.new]at e';cases e'
theorem Ha:XMk (gT (CXE P w) P w K mg base N qual scope f cd A outer s H E) (tJ mg H E):=by
 intro pins σ H1 s1 a C c xs oe vs S μ I ho hoc hod ho1 fa fn hm hr hx hw;have st:=I.stack;have stf:=I.tG;have naf:a∉frs (envOfC qual scope s.heap.objs.size f cd::outer):=λz=>by
  obtain⟨_,o,ho',hnf⟩:=st.mem z;rw[ho]at ho';cases ho';exact hnf vs hod
 have hin:∀env∈(envOfC qual scope s.heap.objs.size f cd::outer),∀b,env.frame=some b->b∈a::frs (envOfC qual scope s.heap.objs.size f cd::outer):=λenv he b hb=>.tail _ (QP.mpr ⟨env,he,hb⟩);have hl:=PySem.W.funFrames_hide st hin;have hs:(Qb s1.heap (a::frs (envOfC qual scope s.heap.objs.size f cd::outer))).StaysIn s1.heap:=λb o q=>SG _ q;have trk:∀b o,H1 b=some o->∃u,(Qb s1.heap (a::frs (envOfC qual scope s.heap.objs.size f cd::outer))).get? b=some u:=λb o e=>by
  obtain⟨u,hu⟩:=(I.hok b o e).some_at;refine⟨u,Rg _ hu λz=>?_⟩;rcases NU.mp z with rfl |z
  ·rw[fa]at e;cases e
  ·rw[stf b z]at e;cases e
 show wpAny (model P w) (A.deeper (envOfC qual scope s.heap.objs.size f cd)) (leaving (envOfC qual scope s.heap.objs.size f cd) (.ref a)) _ _ s1;refine BK (λh=>K6 (L:=s.heap.objs.size) I.ok.frames hl rfl ho hs (Sj _ (.head _)) hod ho1 λh' x y=>h h' _ x y) λh2 fl' up=>?_;rw[hoc]at fl';refine⟨a,C,oe.dict,H1,_,rfl,I.Fn (B:=Qb s1.heap (a::frs (envOfC qual scope s.heap.objs.size f cd::outer))) rfl rfl hs hl.2.2 trk (λb o e n hb=>?_) fn fa hw.1 fl'.1 up,fl',hw.2 C _ hm hx⟩;have e1:=I.base.keep b o e n hb (by intro z;cases z);refine Rg _ e1 λz=>?_;rcases NU.mp z with rfl |z
 ·rw[fn]at e;cases e
 rcases NU.mp (I.mx b z)with z |z
 ·rw[z]at e;exact absurd (N2 e) (Pf _)
 ·exact hb z
end
section
variable{X:Cx}{pins:List (Addr×Obj)}{σ:St}{H:Hp}{s:Shared}{a:Addr}
theorem Inv.MT(I:Inv X pins σ H s)(n:s.heap.get? a=none):H a=none:=by
 cases q:H a with
 |none=>rfl
 |some o=>
  obtain⟨u,hu⟩:=(I.hok a o q).some_at;rw[n]at hu;cases hu
theorem Inv.Nh(I:Inv X pins σ H s)(n:s.heap.get? a=none)(hex:X.ex=[]:=by exact rfl):X.s₀.heap.get? a=none:=by
 cases q:X.s₀.heap.get? a with
 |none=>rfl
 |some o=>
  obtain⟨o',e'⟩:=I.base.there a o q (by rw[hex];intro z;cases z);rw[n]at e';cases e'
end
def WEx(mg:Str->Option Value)(E:XK):WX:=λc xs S μ H'=>∀(C:Addr)(od:Option Addr),mg c=some (.ref C)->pV (vh μ S H') od xs->E (.ref C) od H'
def spX(K:NO)(mg:Str->Option Value)(F:XF):Sp:=λvs H Q E=>∃μ S us,HR μ S H/\cn K mg μ S H vs us/\bg (bu K mg) (WEx mg E) μ S H (F us S) Q
def OkX(P:Program)(w:World)(K:NO)(mg:Str->Option Value)(lev:Nat)(x:Str)(ps:List Str)(M:XF):Prop:=∃(f:Addr)(fd:FuncData),mg x=some (.ref f)/\Qx K (.ref f)=true/\(∀us:List Value,us.length=ps.length->bindArgs fd ⟨us,[]⟩=pure (ps.zip us))/\∀base,gr P w K mg base (CXE P w) lev f fd ps (spX K mg M)
def eg(F:XF)(as:XA):XE:=λτ S=>(as τ S).bind λus S1=>F us S1
def kB(c:Str)(a:XE):XS:=λτ S=>(a τ S).bind λ_ S1=>.ex c [] S1
section
variable{X:Cx}{WE:WX}{e:Expr}{es:List Expr}{pos p:Pos}{lev j:Nat}{ps:List Str}{F:XF}{x:Str}{ts:XA}
theorem fm[n:NS e](G:OkX X.prog X.w X.K X.mg lev x ps F)(hx:XOk X WE)(hr:dE j X.A)(ha:RA X WE (e::es) ts)(hj:lev<=j:=by decide)(hg:Gl X x:=by exact rfl)
  (hdb:(x==("__debug__":Str))=false:=by decide) (hpl:(backTo pos (starEach es X.env)).any (·.1)=false:=by rfl):RE X WE (.Call (.Name x p) (e::es) [] pos) (eg F ts):=by
 obtain⟨f,fd,hm,hk,hb,G⟩:=G;refine⟨(yZ (E:=λCv od H'=>∃c xs S μ,X.mg c=some Cv/\HR μ S H'/\pV (vh μ S H') od xs/\WE c xs S μ H') (G X.base) (hr.mono hj) hg hm hk (.all hb) .nil ?_ ha.h hdb (n.eq es X.env) hpl).weak λσ H Q ⟨μ,S,τ,hr,sr,p⟩=>⟨μ,S,τ,hr,sr,p.bind λvs xs S1 μ1 H1 st1 r1 p1=>?_⟩⟩
 ·rintro pins σ H s e s' I ⟨a,C,od,H',B,rfl,F,fl,c,xs,S,μ,hm,hr,hf,hw⟩;exact hx pins σ H s a C od c xs S μ H' s' B [] .none I (λb z=>absurd z Oj) F fl hm hr hf hw
 ·rw[Rm];refine⟨μ1,S1,xs,st1.hr,r1,?_⟩;generalize F xs S1=res at p1;cases res with
  |ok a S'=>exact p1
  |ex c ys S'=>exactλμ' H' st C od hC hf=>⟨c,ys,S',μ',hC,st.hr,hf,p1 μ' H' st⟩
  |bad=>exact p1
end
def Ec(K:NO)(mg:Str->Option Value)(c:Str):Prop:=∃C:Addr,mg c=some (.ref C)/\UM K C [.type "ValueError",.type "Exception",.type "BaseException",.type "object"] "ValueError.__new__"=true
theorem Lj{K:NO}{h:Heap}(X:K.In h)(G:h.Ns mainGlobals mg)(a:Vb K mainGlobals c=some (some (.ref C)))(q:UM K C [.type "ValueError",.type "Exception",.type "BaseException",.type "object"] "ValueError.__new__"=true):Ec K mg c:=⟨C,UL X G a,q⟩
open PySem.W in
theorem Gh {K:NO} {h:Heap} (X:K.In h) (q:UM K C bmB newId=true):∃bm N nm q bs hdct sn sub ab col dd k0 k1 k2 k3 k5 mN,h.get? C=some (excClassObj nm q C N bs bm hdct sn sub ab col dd k0 k1 k2 k3 k5 newId)/\h.Ns N mN/\mN "__init__"=none/\OwnTail h bmB bm:=by
 unfold excIn at q
 split at q
 ·rename_i dd cd sl ho
  split at q
  ·rename_i C' bm k0 k1 k2 k3 n k5 hm hs
   simp only[N3,O_,Bool.not_eq_true']at q
   obtain⟨⟨⟨⟨⟨rfl,rfl⟩,hdel⟩,ht⟩,hok⟩,hni⟩:=q
   obtain⟨nm,bs,mro,ns,qn,hd,sn,sub,ab,col,del⟩:=cd
   dsimp only at hm hdel hok hni
   subst hm hdel
   have hsl:sl=#[k0,k1,k2,k3,some (.builtin n),k5]:=by
    obtain⟨l⟩:=sl
    simp only at hs
    rw[hs]
   subst hsl
   exact⟨bm,ns,nm,qn,bs,hd,sn,sub,ab,col,dd,k0,k1,k2,k3,k5,_,X _ _ ho,.of_isNs (isNs_of_in X hok),nsMap_none_of_in X hok hni,tail_of_in X ht⟩
  ·cases q
 ·cases q
section
variable{X:Cx}{WE:WX}{e:Expr}{xe:XE}{c:Str}{np cpos pos:Pos}
theorem nJ(O:Ec X.K X.mg c)(hmk:XMk X WE)(he:RA X WE [e] (aa xe aj))(hex:X.ex=[]:=by exact rfl)(hc:X.calm=true:=by exact rfl)(hg:Gl X c:=by exact rfl)(hd:(c==("__debug__":Str))=false:=by decide)
  (hs:starEach [e] X.env=[(false,eval e X.env)]:=by rfl):RS X WE (.Raise (some (.Call (.Name c np) [e] [] cpos)) none pos) (kB c xe):=⟨by
 intro pins s σ H D I h;obtain⟨μ,S,τ,hr,sr,p⟩:=h;obtain⟨C,hm,hq⟩:=O;obtain⟨bm,N,nm,q,bs,hdct,sn,sub,ab,col,dd,k0,k1,k2,k3,k5,mN,hC,hN,hni,T⟩:=Gh I.mod.kin hq;refine wpAny_Raise_call_subT (C:=C) (nm:=nm) (q:=q) (N:=N) (bs:=bs) (bm:=bm) (hdct:=hdct) (sn:=sn) (sub:=sub) (ab:=ab) (col:=col) (dd:=dd) (k0:=k0) (k1:=k1) (k2:=k2) (k3:=k3) (k5:=k5)
  Tb (mN:=mN) (T.hasType Tb.hasBase) (I.ok.hd hc) (by rw[hs];rfl) hni (ni I hg hm ⟨rfl,?_⟩ hd)
 have ha:=he.h cpos pins s σ H (λvs H1=>∃(v:V),vs=[v]/\∃μ1 S1,HR μ1 S1 H1/\WE c [] S1 μ1 H1) I ⟨μ,S,τ,hr,sr,?_⟩
 ·rw[hs]at ha ⊢;refine Px (Pm ha (λus s2 z=>?_) λ_ _ y=>y);obtain⟨vs,H1,I1,r1,v,rfl,μ1,S1,hr1,hw⟩:=z;have l1:=r1.length;refine⟨rfl,?_,I1.bk _ _ hC,hN.keeps I1.bk,T.keeps I1.bk,λh' a hx=>?_⟩
  ·show us.length<=sizeLine;rw[<-l1];exact(by decide:1<=sizeLine)
  ·obtain⟨t,ht,_⟩:=hx.there;refine hmk pins σ H1 { s2 with heap:=h' } a C c [] _ _ S1 μ1 (I1.kept (t':=s2.toks) hx.keeps) ht rfl rfl rfl (I1.MT hx.new) (I1.Nh hx.new hex) hm hr1 (λz=>absurd rfl z) hw
 ·unfold kB at p;unfold aa aj;have q:bg (RlS X.K X.mg) WE μ S H ((xe τ S).bind λx S1=>(.ex c [] S1:R (Fl×Nv))) D.at:=p;generalize xe τ S=res at q ⊢;cases res with
  |ok x S1=>
   intro b μ' H' st rv;cases rv with
   |cons r1 r2=>
    cases r2;exact⟨_,rfl,μ',S1,st.hr,q μ' H' st⟩
  |ex c' ys S1=>exact q
  |bad=>exact q⟩
end
section
variable{P:Program}{w:World}{K:NO}{mg:Str->Option Value}{base:Heap}
theorem Ln{x qual:Str}{st:Stmt}{f:Addr}{fd:FuncData}{N ps:List Str}{lev:Nat}{m:XS}(F:Fun K x qual st f fd)(Sc:i6 N ps (bE st))
  (hb:∀(cdv:Value)(A:Around)(outer:List Env)(s:Shared)(H:Hp)(E:XK),dE lev (A.deeper (envOfC qual (bE st) s.heap.objs.size f cdv))->RB (gT (CXE P w) P w K mg base N qual (bE st) f cdv A outer s H E) (tJ mg H E) (eV st) m) :
  gr P w K mg base (CXE P w) (lev+1) f fd ps (spX K mg (aY ps.length N.length m)):=by
 obtain⟨oc,od,kV,doc,pm,an,cdv,ct,osl,rfl,lk,hcd⟩:=F.ex;refine Fi lk hcd Sc (λvs H Q E h=>?_) (λA outer s H vs Q E hr h=>?_)
 ·obtain⟨μ,S,us,hr,rs,p⟩:=h;unfold aY at p;split at p
  ·rw[rs.length];assumption
  ·exact p.elim
 ·refine⟨_,(hb cdv A outer s H E hr).h,?_⟩;obtain⟨μ,S,us,hr,rs,p⟩:=h;unfold aY at p;split at p
  ·rename_i hl;have sr:c_ K mg μ S H (start N vs) (us.map some++N_ (N.length-ps.length) none):=by
    rw[<-hl];exact c_.beg rs
   refine⟨μ,S,_,hr,sr,?_⟩;generalize m (us.map some++N_ (N.length-ps.length) none) S=res at p;cases res with
   |bad=>exact p.elim
   |ex c xs S'=>exactλμ' H' st=>⟨st.dm,λC od hC hf=>p μ' H' st.take C od hC (hf.mono eW)⟩
   |ok q S'=>
    obtain⟨fl,q'⟩:=q;rintro⟨fv,z'⟩ μ' H' st ⟨sr',fr⟩;cases fl with
    |nx=>
     cases fv with
     |nx=>exact sf (K:=K) (mg:=mg) (v:=.non) (z:=.d .non) st Rep.non p
     |_=>exact(show False from fr).elim
    |rt z=>
     cases fv with
     |rt v=>exact sf st fr p
     |_=>exact(show False from fr).elim
    |bk=>exact(show False from p).elim
    |ct=>exact(show False from p).elim
  ·exact p.elim
end
theorem tK{K:NO}{mg:Str->Option Value}{P:Program}{w:World}{x:Str}{st:Stmt}{ps:List Str}{lev:Nat}{k n:Nat}{m:XS}{M:XF}(N:List Str)(F:Df K mg x st)
  (hb:∀(base:Heap)(f:Addr)(cdv:Value)(A:Around)(outer:List Env)(s:Shared)(H:Hp)(E:XK),dE lev (A.deeper (envOfC x (bE st) s.heap.objs.size f cdv))->LQ (bE st) N->XOk (gT (CXE P w) P w K mg base N x (bE st) f cdv A outer s H E) (tJ mg H E)->XMk (gT (CXE P w) P w K mg base N x (bE st) f cdv A outer s H E) (tJ mg H E)->RB (gT (CXE P w) P w K mg base N x (bE st) f cdv A outer s H E) (tJ mg H E) (eV st) m)
  (hM:M=aY k n m:=by rfl) (hk:ps.length=k:=by rfl) (hn:N.length=n:=by rfl) (Sc:i6 N ps (bE st):=by exact⟨rfl,rfl,rfl,by decide+kernel,rfl,by decide+kernel,by decide+kernel⟩)
  (hbd:∀(kV doc pm:Value)(an:Option Addr)(cdv ct:Value)(us:List Value),us.length=ps.length->bindArgs (QC x x (j7 st) (eV st) (bE st) .none kV doc pm an cdv ct) ⟨us,[]⟩=pure (ps.zip us):=by
   intro _ _ _ _ _ _
   repeat refine lnS λ_=>?_
   exact ln0 rfl):OkX P w K mg (lev+1) x ps M:=by
 subst hM hk hn;obtain⟨f,fd,F,hm⟩:=F;refine⟨f,fd,hm,F.kp,?_,λbase=>Ln F Sc λcdv A outer s H E hr=>hb base f cdv A outer s H E hr ⟨Sc.nd⟩ Ge Ha⟩;obtain⟨oc,od,kV,doc,pm,an,cdv,ct,osl,rfl,lk,hcd⟩:=F.ex;exact hbd kV doc pm an cdv ct
abbrev Cx.dZ(X:Cx)(pins:List (Addr×Obj))(E:Value->Shared->Prop):Cx:={ X with pn:=X.pn++pins,xe:=E }
section
variable{X:Cx}{pins pins':List (Addr×Obj)}{σ:St}{H:Hp}{s:Shared}{E:Value->Shared->Prop}
theorem Cx.Ok.dZ(ok:X.Ok):(X.dZ pins E).Ok:=⟨ok.mod,ok.kind,ok.glob,ok.blt,ok.above,ok.inj,ok.has,ok.cab,ok.hd,ok.frames,ok.stk,ok.exf,ok.bs,ok.bsz,ok.noex,ok.exfs,ok.iK,ok.frf⟩
theorem Cx.Ok.fF(ok:(X.dZ pins E).Ok):X.Ok:=⟨ok.mod,ok.kind,ok.glob,ok.blt,ok.above,ok.inj,ok.has,ok.cab,ok.hd,ok.frames,ok.stk,ok.exf,ok.bs,ok.bsz,ok.noex,ok.exfs,ok.iK,ok.frf⟩
theorem Inv.dZ(I:Inv X pins σ H s):Inv (X.dZ pins E) [] σ H s:=⟨I.ok.dZ,I.os,I.bare,I.base,I.loc,I.cell,I.free,I.freeC,λp hp=>I.pin p (by simpa using hp),I.hok,I.len⟩
theorem Inv.fF(I:Inv (X.dZ pins E) pins' σ H s):Inv X pins σ H s:=⟨I.ok.fF,I.os,I.bare,I.base,I.loc,I.cell,I.free,I.freeC,λp hp=>I.pin p (OR _ hp),I.hok,I.len⟩
theorem SP.fF{D:Ends}(h:SP (X.dZ pins E) [] D f s'):SP X pins D f s':=by
 cases f with
 |next=>obtain⟨σ',H',I,q⟩:=h;exact⟨σ',H',I.fF,q⟩
 |brk=>obtain⟨σ',H',I,q⟩:=h;exact⟨σ',H',I.fF,q⟩
 |cont=>obtain⟨σ',H',I,q⟩:=h;exact⟨σ',H',I.fF,q⟩
 |ret u=>obtain⟨v,σ',H',I,r,q⟩:=h;exact⟨v,σ',H',I.fF,r,q⟩
theorem Inv.LS(I:Inv X pins σ H s)(n:H a=none)(h0:X.s₀.heap.get? a=none)(hl:a≠X.env.locals)(hc:∀x c,X.env.cells.lookup x=some c->a≠c)(hp:∀p∈X.pn++pins,p.1≠a)(new:cR X.prog X.w (upd H a o) s.heap a o):Inv X pins σ (upd H a o) s:=by
 have sm:∀b u,H b=some u->upd H a o b=some u:=λb u q=>by rw[bf (bJ q n)];exact q
 refine⟨I.ok,I.os,I.bare,⟨I.base.keep,I.base.slot,λb u q n' hx=>?_,I.base.there,λb xs q=>sm _ _ (I.base.tups b xs q),λb u xs q=>sm _ _ (I.base.frzs b u xs q),λb ps q=>?_⟩,I.loc,I.cell,?_,λx c q=>?_,λp hpp=>?_,λb u q=>?_,I.len⟩
 ·rw[bf (λz=>by rw[z,h0]at q;cases q)];exact I.base.free b u q n' hx
 ·obtain⟨more,e⟩:=I.base.tbls b ps q;exact⟨more,sm _ _ e⟩
 ·rw[bf (PD hl)];exact I.free
 ·rw[bf (PD (hc x c q))];exact I.freeC x c q
 ·obtain⟨e,n1,r⟩:=I.pin p hpp;exact⟨e,by rw[bf (hp p hpp)];exact n1,r⟩
 ·by_cases z:b=a
  ·subst z;rw[cV]at q;cases q;exact new
  ·rw[bf z]at q;exact(I.hok b u q).ma (λ_ _ _ e=>e) (λc e=>sm _ _ e) λc xs e=>sm _ _ e
end
section
variable{X:Cx}{pins:List (Addr×Obj)}{σ:St}{H:Hp}{s:Shared}
theorem Inv.names(I:Inv X pins σ H s)(hs:OD X.env.locals s.heap h')(hn:h'.Ns X.env.locals m')(hl:σ'.length=σ.length)
  (hv:∀(i:Nat)(x:Str)(v:V),X.N[i]?=some x->σ'[i]?=some (some v)->Vis X.env.scope x->∃u,RelV v u/\Look X.env h' m' x u):Inv X pins σ' H { s with heap:=h',toks:=t' }:=by
 have neL:∀b o,X.s₀.heap.get? b=some o->b≠X.env.locals:=λb o e=>Og (Oo (N2 e) I.ok.above);refine⟨I.ok,I.os,I.bare,⟨λb o e n hb hx=>(hs.2 b (neL b o e)).trans (I.base.keep b o e n hb hx),λb o e n hb hx=>?_,I.base.free,λb o e hx=>?_,I.base.tups,I.base.frzs,I.base.tbls⟩,⟨m',hn,hv⟩,λx c e=>?_,I.free,I.freeC,λp hp=>?_,λb o q=>?_,hl.trans I.len⟩
 ·obtain⟨sl,e1⟩:=I.base.slot b o e n hb hx;exact⟨sl,(hs.2 b (neL b o e)).trans e1⟩
 ·obtain⟨o',e1⟩:=I.base.there b o e hx;exact⟨o',(hs.2 b (neL b o e)).trans e1⟩
 ·obtain⟨v,z⟩:=I.cell x c e;exact⟨v,z.sameBut hs (I.cne x c e)⟩
 ·obtain⟨e,n,ne,nf,d⟩:=I.pin p hp;exact⟨(hs.2 p.1 ne).trans e,n,ne,nf,d⟩
 ·refine(I.hok b o q).ma (λc u hc e=>(hs.2 c ?_).trans e) (λ_ q=>q) λ_ _ q=>q;intro z;have fr:=I.free;rcases hc with rfl |hc
  ·rw[z,fr]at q;cases q
  ·rw[z,fr]at hc;cases hc
end
def vL(cs:List Str)(l9n iy:Nat)(m:XS):XS:=λτ S=>match m τ S with
 | .ok q S'=>.ok q S'
 | .ex c xs S'=>if c∈cs then .ok (.nx,(N_ l9n none).set iy (some (.xc c xs))) S' else .bad
 | .bad=>.bad
def Hit(K:NO)(mg:Str->Option Value)(c:Str):Prop:=∃C W:Addr,mg c=some (.ref C)/\mg "WishError"=some (.ref W)/\PySem.W.exmOne K (.ref C) (.ref W)=some true
section
variable{X:Cx}{WE:WX}{body:List Stmt}{m:XS}{np hpos apos py pn pos:Pos}{n y:Str}{cs:List Str}
theorem KU(ie iy:Nat)(lq:LQ esc EN)(hcs:∀c∈cs,Hit X.K X.mg c)(hb:∀(pins:List (Addr×Obj))(E':Value->Shared->Prop)(WE':WX),XOk (X.dZ pins E') WE'->RB (X.dZ pins E') WE' body m)
  (h2:X.N=EN:=by exact rfl) (hie:X.N[ie]?=some n:=by exact rfl) (hiy:X.N[iy]?=some y:=by exact rfl) (hne:y≠n:=by decide) (hkn:X.env.kindOf n=some .local:=by exact rfl) (hky:X.env.kindOf y=some .local:=by exact rfl) (hst:X.stack=X.env::X.outer:=by exact rfl) (hfr:X.env.frame=some X.env.locals:=by exact rfl)
  (hln:X.env.scope.names.lookup n=some .local:=by exact rfl) (hly:X.env.scope.names.lookup y=some .local:=by exact rfl) (hdn:(n==("__debug__":Str))=false:=by decide)
  (hg:Gl X "WishError":=by exact rfl) (hsw:swapsWith (.Name n pn) (some (.Name y py)) apos.line X.env=pure false:=by rfl) (hlen:X.N.length=l9n:=by exact rfl) (hex:X.ex=[]:=by exact rfl) :
  RS X WE (.Try body [.ExceptHandler (some (.Name "WishError" np)) (some n) [.Assign [.Name y py] (.Name n pn) apos] hpos] [] [] pos) (vL cs l9n iy m):=⟨by
 have hN:X.N.Nodup:=h2▸lq.nd;intro pins s σ H D I h;obtain⟨μ,S,τ,hr,sr,p⟩:=h;refine wpAny_Try_except ?_;have hx:XOk (X.dZ pins λe s₁=>wpAny (model X.prog X.w) X.A (noteFrame e X.env) (λ_ s2=>wpAny (model X.prog X.w) X.A (setFlight e none) (λ_ s₃=>wpAny (model X.prog X.w) X.A (handleBy e X.env [.ExceptHandler (some (.Name "WishError" np)) (some n) [.Assign [.Name y py] (.Name n pn) apos] hpos]) (SP X pins D) X.xe s₃) X.xe s2) X.xe s₁)
   (λc xs S' μ' H'=>Step μ S H μ' S' H'/\m τ S=.ex c xs S'):=by
  intro pins' σ' H1 s1 a C od c xs S2 μ2 H' s' B ch fl0 I1 hch F fl hm hr2 hf hw
  replace hch:∀b∈ch,eZ X pins H1 b:=λb hb=>by
   obtain⟨g0,g1,g2,g3,g4,g5⟩:=hch b hb;exact⟨g0,g1,g2,g3,g4,λp hp=>g5 p (OR _ hp)⟩
  obtain⟨st,em⟩:=hw
  replace I1:Inv X pins σ' H1 s1:=I1.fF
  replace F:hG X.prog X.w X.stack ch H1 s1 a H' s' B:=F
  replace fl:dR B X.stack a (.ref C) od fl0 s'.heap:=fl
  replace hm:X.mg c=some (.ref C):=hm
  unfold vL at p;rw[em]at p;dsimp only at p;by_cases hc:c∈cs
  case neg=>rw[N1 hc]at p;exact p.elim
  rw[NT hc]at p;obtain⟨C2,W,hm2,hW,hxm⟩:=hcs c hc;obtain rfl:C=C2:=by rw[hm]at hm2;cases hm2;rfl
  have frm:X.A.frames=some (X.env::X.outer):=by rw[<-hst];exact I.ok.frames
  have aL:a≠X.env.locals:=λz=>by
   obtain⟨_,⟨o,_,_,ho,_⟩,_⟩:=I1.loc;rw[<-z,F.new]at ho;cases ho
  show wpAny (model X.prog X.w) X.A (noteFrame (.ref a) X.env) _ _ s';refine zG frm hfr (hst▸fl) λh3 _ held up3=>?_;have F3:=F.move fl.1 fl.2.2.1 held.1 up3;refine Ab (s:={ s' with heap:=h3 }) held λh4 fl4 up4=>?_;have F4:=F3.move held.1 (hst▸held.2.2.1) fl4.1 up4;have I4:=I1.vv F4 hch;refine wpAny_handleBy_cons (codeAny_handlers_test ?_) (by intro q;cases q);refine Rf I4.ok.kind hg (TQ (by rw[I4.ok.glob];exact I4.mod.glob.keeps I4.bk) hW ?_) (by decide);have LT:PySem.W.Looks (model X.prog X.w) h4 (typeOf (.ref a)) (.ref C):=by
   obtain⟨ob,hob,hcc,_⟩:=fl4.there;rw[<-hcc];exact(YD hob).andThen .now
  refine PySem.W.exm_one I4.kIn LT hxm _ _ _ _ (λ_ _ e=>e) ?_;refine codeAny_handlers_suite_as ?_;refine Ab fl4 λh5 fl5 up5=>?_;have F5:=F4.move fl4.1 (hst▸fl4.2.2.1) fl5.1 up5;have I5:=I1.vv F5 hch;have I5w:Inv X pins (N_ X.N.length none) H' _:=I5.weak (by rw[P9];exact I5.len.symm) λi v e=>by
   rw[Pu]at e;split at e<;>cases e
  have I5t:Inv X pins (N_ X.N.length none) (upd H' a (.ext (excAt a C od))) { s' with heap:=h5 }:=I5w.LS F.free (by
    cases q:X.s₀.heap.get? a with
    |none=>rfl
    |some o=>
     obtain⟨o',e'⟩:=I1.base.there a o q (by rw[hex];intro z;cases z);rw[F.new]at e';cases e') aL (λx c' q z=>by
    obtain⟨v,oc,ho,_⟩:=I1.cell x c' q;rw[<-z,F.new]at ho;cases ho) (λp hp z=>by
    have:=(I1.pin p hp).1;rw[z,F.new]at this;cases this) (by
    obtain⟨ob,hob,hcc,hcd,hcf⟩:=fl5.there;exact⟨⟨ob,hob,hcc,λd e=>hcd.trans e,hcf⟩,⟨ob,hob⟩,λh1 h2 ⟨o,e1,e2,e3⟩ k=>⟨o,k o e1,e2,e3⟩⟩)
  refine kv I5t hN hie (.inl hln) (v:=.ref a) (u:=.ref a) rfl (λs6 I6=>?_) (.inr hln);refine Tr (Vh ?_ hsw);obtain⟨m6,hn6,hl6⟩:=id I6.loc;obtain⟨u6,ru6,l6⟩:=hl6 ie n (.ref a) hie (by rw[Qi (by rw[P9];exact(NZ.mp hie).1)]) (.inl hln);have l6':m6 n=some u6:=by
   rcases l6 with⟨_,e⟩ |⟨k,_⟩
   ·exact e
   ·rcases k with k |k<;>(rw[hkn]at k;cases k)
  refine Uu (Uv I6.ok.kind hkn hn6 l6' ?_) hdn;refine kv I6 hN hiy (.inl hly) ru6 (λs7 I7=>?_) (.inr hly);refine Rj ?_;obtain⟨m7,hn7,hl7⟩:=id I7.loc;refine wpAny_nameGoes_keeps hkn hn7 (by rw[I7.ok.kind];rfl) λh8 v8 hn8 hs8=>?_;have hiyl:iy<X.N.length:=(NZ.mp hiy).1;refine⟨(N_ X.N.length none).set iy (some (.ref a)),_,I7.names hs8 hn8 (by simp) (λi x v e1 e2 e3=>?_),?_⟩
  ·have hi:i=iy:=by
    by_cases z:iy=i
    ·exact z.symm
    ·rw[Qr z,Pu]at e2;split at e2<;>cases e2
   subst hi;rw[Qi (by rw[P9];exact hiyl)]at e2;cases e2;rw[hiy]at e1;cases e1;obtain⟨u,ru,lu⟩:=hl7 i y (.ref a) hiy (by rw[Qi (by simp;exact hiyl)]) e3;refine⟨u,ru,?_⟩;rcases lu with⟨k,e⟩ |⟨k,_⟩
   ·exact .inl ⟨k,by simp only[hne,SA];exact e⟩
   ·rcases k with k |k<;>(rw[hky]at k;cases k)
  ·have st2:=Step.new st.hr F.free (.ext (excAt a C od));refine p (FlV.nx,(N_ X.N.length none).set iy (some (.ref a))) μ2 _ (st.trans st2) ⟨⟨by simp[hlen],λi x e=>?_⟩,True.intro⟩;dsimp only at e ⊢;rw[RX]at e ⊢;by_cases z:iy=i
   ·subst z;rw[NT rfl]at e ⊢;rw[P9]at e ⊢;rw[<-hlen,NT hiyl]at e;cases e;exact⟨.ref a,by rw[NT hiyl],a,C,rfl,hm,od,cS cV (st.hr.nal F.free),hf.mono st2.vis⟩
   ·rw[N1 z,Pu]at e;split at e<;>cases e
 refine Pm ((hb pins _ _ hx).h [] s σ H D I.dZ ⟨μ,S,τ,hr,sr,?_⟩) (λf s1 z=>?_) (λe s1 z=>z)
 ·unfold vL at p;generalize em:m τ S=res at p;cases res with
  |ok q S'=>exact p
  |ex c xs S'=>exactλμ' H' st=>⟨st,rfl⟩
  |bad=>exact p.elim
 ·have z':=SP.fF z;cases f with
  |next=>exact Rj z'
  |_=>exact z'⟩
end
end L2
namespace L2
open PySem PySem.Spec PyProof.Rows PySem.W Builtin Builtin.ObjectAttr Builtin.Getset_descriptor
set_option maxRecDepth 100000
structure Cf(K:NO)(mg:Str->Option Value)(c:Str)(C:Addr):Prop where
 bound:mg c=some (.ref C)
 cls:isClsIn K C=true
 ty:typeIn K (.ref C)=some (.type "type")
 exc:subIn K (.ref C) (.type "BaseException")=some true
 val:subIn K (.ref C) (.type "ValueError")=some true
 ga:findIn K (.ref C) "__getattribute__"=some (some (.builtin "BaseException.__getattribute__"))
 gn:findIn K (.ref C) "__getattr__"=some none
 gc:findIn K (.ref C) "__class__"=some (some (.builtin "object.__class__"))
 ob:mroIn K C (.type "object")=some true
section
variable{prog:Program}{w:World}{A:Around}{E:Value->Shared->Prop}{h:Heap}{g:Array GenState}{d:Drawn}{t:Nat}{os:OsState}{a C:Addr}{o:Obj}{K:NO}{mg:Str->Option Value}{c:Str}
theorem mE{M:Model}(hx:h.get? a=some o)(hc:o.cls=.ref C):Looks M h (typeOf (.ref a)) (.ref C):=by
 rw[<-hc];exact(Looks.ld hx).andThen .now
theorem JG{R:Result->Shared->Prop}(X:K.In h)(F:Cf K mg c C)(hx:h.get? a=some o)(hc:o.cls=.ref C)(hq:R (.ok (.ret (.ref C))) ⟨h,g,d,t,os⟩) :
  codeAny (model prog w) A (.call (.builtin "getset_descriptor.__get__") ⟨[.builtin "object.__class__",.ref a,.ref C],[]⟩) R ⟨h,g,d,t,os⟩:=by
 have L0:=mE (M:=model prog w) hx hc;have L1:=looks_mroIn (M:=model prog w) X F.ob;refine Sn Yb.plain KF.entry_gs (Yb.check _ _ _ _ _ _ _ _ KF.type_class (KF.args_gs _ _ _) ?_);unfold Builtin.«getset_descriptor.__get__» descrGet;rw[dga_obj];refine ar (NP ?_);unfold descrGetter descrCheckInstance descrNameAndClass isInstance;simp only[KF.owner_class]
 repeat lk
 refine⟨SQ _ (by decide+kernel),PY KF.entry_class ?_⟩;unfold Builtin.«object.__class__» shownTypeOf
 repeat lk
 exact hq
theorem C6{tk:Tok}{Q:Fin->Shared->Prop}(X:K.In h)(F:Cf K mg c C)(hx:h.get? a=some o)(hc:o.cls=.ref C)(hq:Q (.done (.ret (.ref C))) ⟨h,g,d,t,os⟩) :
  wpAny (model prog w) A (Builtin.«object.__getattribute__» ⟨[.ref a,.str "__class__" tk],[]⟩) Q E ⟨h,g,d,t,os⟩:=by
 have L0:=mE (M:=model prog w) hx hc;have L1:=Vd (M:=model prog w) X F.gc;have hT5:(⟨h,g,d,t,os⟩:Shared).TypeIs (.builtin "object.__class__") "getset_descriptor":=SU;have f5:=SU;have f6:=PySem.F.slot_gs_get.lookup;have f7:=PySem.F.slot_gs_set.lookup
 repeat (any_goals (first |assumption |with_reducible refine L0.at ?_ |with_reducible refine L1.at ?_ |wp_step))
 refine JG X F hx hc ?_
 repeat (any_goals (first |assumption |wp_step))
theorem EG{M:Model}{nameV:Value}{Q:Unit->Shared->Prop}(X:K.In h)(F:Cf K mg c C)(hx:h.get? a=some o)(hc:o.cls=.ref C)(hq:Q () ⟨h,g,d,t,os⟩):wpAny M A (checkBuiltinCall "BaseException.__getattribute__" ⟨[.ref a,nameV],[]⟩) Q E ⟨h,g,d,t,os⟩:=by
 have hk:builtinKind "BaseException.__getattribute__"=some .slot:=by decide+kernel
 have hsplit:splitId "BaseException.__getattribute__"=some ("BaseException","__getattribute__"):=by decide+kernel
 have L0:=mE (M:=M) hx hc;have L1:=looks_subIn (M:=M) X F.exc;have ha:=PySem.F.args_bexc_ga (.ref a) nameV;simp only[checkBuiltinCall,hk,hsplit];refine ar ?_
 ·unfold isInstance
  repeat (first |with_reducible refine ar (L0.at ?_) |with_reducible refine ar (L1.at ?_) |with_reducible refine L0.at ?_ |with_reducible refine L1.at ?_ |wp_step)
  exact hq
theorem Gb{tk:Tok}{R:Result->Shared->Prop}(X:K.In h)(F:Cf K mg c C)(hx:h.get? a=some o)(hc:o.cls=.ref C)(hq:R (.ok (.ret (.ref C))) ⟨h,g,d,t,os⟩) :
  codeAny (model prog w) A (.call (.builtin "BaseException.__getattribute__") ⟨[.ref a,.str "__class__" tk],[]⟩) R ⟨h,g,d,t,os⟩:=
 Sn (by decide+kernel) PySem.F.entry_bexc_ga (EG X F hx hc (C6 X F hx hc hq))
theorem K8{tk:Tok}{Q:Value->Shared->Prop}(X:K.In h)(F:Cf K mg c C)(hx:h.get? a=some o)(hc:o.cls=.ref C)(hq:Q (.ref C) ⟨h,g,d,t,os⟩) :
  wpAny (model prog w) A (getAttrBy (.ref a) (.str "__class__" tk) false) Q E ⟨h,g,d,t,os⟩:=by
 have L0:=mE (M:=model prog w) hx hc;have L1:=Vd (M:=model prog w) X F.ga;have L2:=Vd (M:=model prog w) X F.gn;have f3:=PySem.F.attr_ValueError.ga.bind (.ref a);have hx2:(Value.builtin "BaseException.__getattribute__" == Value.builtin "object.__getattribute__")=false:=by decide+kernel
 have hx1:(onTheHeap (Value.ref C)&&Value.builtin "BaseException.__getattribute__" == Value.builtin "object.__getattribute__")=false:=by rw[hx2];rfl
 repeat (any_goals (first |assumption |with_reducible refine L0.at ?_ |with_reducible refine L1.at ?_ |with_reducible refine L2.at ?_ |wp_step))
 refine Gb X F hx hc ?_
 repeat (any_goals (first |assumption |wp_step))
theorem Hx{Q:Option Value->Shared->Prop}(X:K.In h)(F:Cf K mg c C)(hx:h.get? a=some o)(hc:o.cls=.ref C)(hq:Q (some (.ref C)) ⟨h,g,d,t+1,os⟩):wpAny (model prog w) A (getAttr? (.ref a) "__class__") Q E ⟨h,g,d,t,os⟩:=by
 unfold getAttr? getAttrBy?
 repeat (any_goals (first |assumption |with_reducible apply K8 X F hx hc |wp_step))
end
theorem KN{K:NO}{mg:Str->Option Value}{c:Str}{C a:Addr}(F:Cf K mg c C):KitX K (.ref a) (.ref C) (λh=>∃o,h.get? a=some o/\o.cls=.ref C)where
 ty:=λ_ _ _ ⟨o,hx,hc⟩=>mE hx hc
 it:=λ_ _ X _=>by
  obtain⟨cdD,hcD⟩:=QB.mp F.cls;unfold clsIn at hcD;split at hcD
  ·rename_i c' d' cd' sl' ho;intro A' Q' E' s' k q;unfold isType loadHead;exact ar (wpAny_loadPart (k _ _ (X _ _ ho)) (NP q))
  ·cases hcD
 ne:=λh tp dd its n sl X htp=>by
  obtain⟨cdD,hcD⟩:=QB.mp F.cls;refine Bool.eq_false_iff.mpr λq=>?_;have e:C=tp:=R7 (O_.mp q);subst e;unfold clsIn at hcD;split at hcD
  ·rename_i c' d' cd' sl' ho;have z:=(X _ _ ho).symm.trans htp;cases z
  ·cases hcD
 ca:=λ{_ _ _ _ _ s} X ⟨o,hx,hc⟩ k=>by
  obtain⟨h,g,d,t,os⟩:=s;exact Hx X F hx hc k
def Isb(K:NO)(mg:Str->Option Value)(c d:Str)(b:Bool):Prop:=∃C D:Addr,mg c=some (.ref C)/\mg d=some (.ref D)/\subIn K (.ref C) (.ref D)=some b/\(b=true\/(Value.ref C==Value.ref D)=false)
def Isa(K:NO)(mg:Str->Option Value)(c:Str)(v:Value)(b:Bool):Prop:=∃C:Addr,Cf K mg c C/\kitOne K (.ref C) v=some b
theorem Lh{K:NO}{h:Heap}{mg:Str->Option Value}{c:Str}{C:Addr}(X:K.In h)(G:h.Ns mainGlobals mg)(a:nsIn K mainGlobals c=some (some (.ref C)))(b1:isClsIn K C=true)(b2:typeIn K (.ref C)=some (.type "type"))(b3:subIn K (.ref C) (.type "BaseException")=some true)(b4:subIn K (.ref C) (.type "ValueError")=some true)(b5:findIn K (.ref C) "__getattribute__"=some (some (.builtin "BaseException.__getattribute__")))(b6:findIn K (.ref C) "__getattr__"=some none)(b7:findIn K (.ref C) "__class__"=some (some (.builtin "object.__class__")))(b8:mroIn K C (.type "object")=some true):∃C,Cf K mg c C:=⟨C,mg_of X G a,b1,b2,b3,b4,b5,b6,b7,b8⟩
theorem Jd{K:NO}{h:Heap}{mg:Str->Option Value}{c d:Str}{C D:Addr}{b:Bool}(X:K.In h)(G:h.Ns mainGlobals mg)(a:nsIn K mainGlobals c=some (some (.ref C)))(a':nsIn K mainGlobals d=some (some (.ref D)))(q:subIn K (.ref C) (.ref D)=some b)(z:b=true\/(Value.ref C==Value.ref D)=false):Isb K mg c d b:=⟨C,D,mg_of X G a,mg_of X G a',q,z⟩
theorem ia{K:NO}{mg:Str->Option Value}{c d:Str}{b:Bool}(h1:∃C,Cf K mg c C)(h2:∃D,Cf K mg d D)(h:Isb K mg c d b):∃D,mg d=some (.ref D)/\Isa K mg c (.ref D) b:=by
 obtain⟨C,F⟩:=h1;obtain⟨D,G⟩:=h2;obtain⟨C',D',e1,e2,q,z⟩:=h;obtain rfl:C=C':=by rw[F.bound]at e1;cases e1;rfl
 obtain rfl:D=D':=by rw[G.bound]at e2;cases e2;rfl
 refine⟨D,G.bound,C,F,?_⟩;unfold kitOne;by_cases hb:(Value.ref C==Value.ref D)=true
 ·rw[NT hb];rcases z with rfl |z
  ·rfl
  ·rw[z]at hb;cases hb
 ·rw[N1 hb];unfold kitCls;dsimp only;rw[NT (by rw[show(clsIn K D).isSome=true from G.cls,G.ty];rfl),q]
theorem JB{K:NO}{mg:Str->Option Value}{c:Str}(h1:∃C,Cf K mg c C)(h2:∃D,Cf K mg "WishError" D)(h:Isb K mg c "WishError" true):Hit K mg c:=by
 obtain⟨C,F⟩:=h1;obtain⟨D,G⟩:=h2;obtain⟨C',D',e1,e2,q,z⟩:=h;obtain rfl:C=C':=by rw[F.bound]at e1;cases e1;rfl
 obtain rfl:D=D':=by rw[G.bound]at e2;cases e2;rfl
 refine⟨C,D,F.bound,G.bound,?_⟩;unfold exmOne kitCls;dsimp only;rw[NT (by rw[G.exc];rfl),NT (by rw[show(clsIn K D).isSome=true from G.cls,G.ty];rfl),q]
theorem iv{K:NO}{mg:Str->Option Value}{c:Str}(h1:∃C,Cf K mg c C):Isa K mg c (.type "ValueError") true:=by
 obtain⟨C,F⟩:=h1;refine⟨C,F,?_⟩;unfold kitOne kitCls;rw[N1 (by intro z;cases(O_.mp z))];dsimp only;rw[NT (by decide+kernel),F.val]
def bX(c d:Str):Bool:=d== "WishError" || c==d
structure XsF(K:NO)(mg:Str->Option Value)(cs ex:List Str):Prop where
 cf:∀c∈ex,∃C,Cf K mg c C
 sb:∀c∈cs,∀d∈ex,Isb K mg c d (bX c d)
 le:∀c∈cs,c∈ex
section
variable{K:NO}{mg:Str->Option Value}{cs ex:List Str}
theorem lY(F:XsF K mg cs ex){d:Str}(h:d∈ex):∀c∈cs,∃D,mg d=some (.ref D)/\Isa K mg c (.ref D) (bX c d):=λc hc=>ia (F.cf c (F.le c hc)) (F.cf d h) (F.sb c hc d h)
theorem M9(F:XsF K mg cs ex)(h:("WishError":Str)∈ex):∀c∈cs,Hit K mg c:=λc hc=>JB (F.cf c (F.le c hc)) (F.cf _ h) (F.sb c hc _ h)
theorem Nu(F:XsF K mg cs ex):∀c∈cs,Isa K mg c (.type "ValueError") true:=λc hc=>iv (F.cf c (F.le c hc))
end
theorem Gx{K:NO}{h:Heap}{mg:Str->Option Value}{c d:Str}{C D:Addr}{b b':Bool}(X:K.In h)(G:h.Ns mainGlobals mg)(a:nsIn K mainGlobals c=some (some (.ref C)))(a':nsIn K mainGlobals d=some (some (.ref D)))(q:subIn K (.ref C) (.ref D)=some b)(z:b=true\/(Value.ref C==Value.ref D)=false)(e:b=b'):Isb K mg c d b':=e▸Jd X G a a' q z
def isX(cs:List Str)(f:Str->Bool)(z:Vl)(S:Sto):R Vl:=match z with
 | .xc c _=>if c∈cs then .ok (.d (.bl (f c))) S else .bad
 |_=>.bad
section
variable{X:Cx}{WE:WX}{e:Expr}{xa:XE}{nm:Str}{p p2 pos:Pos}{cs:List Str}{f:Str->Bool}
theorem yE{v:Value}{y:V}[n:NS e](hT:PE X (.Name nm p2) (tC y))(ry:∀u,RelV y u->u=v)(hI:∀c∈cs,Isa X.K X.mg c v (f c))(hm:X.mg "isinstance"=none)(ha:RE X WE e xa)(hg:Gl X "isinstance":=by exact rfl)
  (hb:bootBuiltins "isinstance"=some (.builtin "isinstance"):=by decide+kernel)
  (hs2:starEach [.Name nm p2] X.env=(false,eval (.Name nm p2) X.env)::starEach [] X.env:=by rfl) (hpl:(backTo pos (starEach [.Name nm p2] X.env)).any (·.1)=false:=by rfl) :
  RE X WE (.Call (.Name "isinstance" p) [e,.Name nm p2] [] pos) (xUn (isX cs f) xa):=⟨by
 have he:=n.eq [.Name nm p2] X.env;intro pins s σ H Q I h;refine Pt (dH I hg hm hb ?_ (by decide) (by decide));refine QQ (thn ((eP ha.h (eP hT iw hs2) he) pos pins s σ H (λvs H1=>∃x μ1 S1 z,vs=[x,y]/\HR μ1 S1 H1/\bu X.K X.mg μ1 S1 H1 x z/\bg (bu X.K X.mg) WE μ1 S1 H1 (isX cs f z S1) Q) I ?_) λus s1 ⟨vs,H1,I1,r1,q1⟩=>?_) he hpl
 ·obtain⟨μ,S,τ,hr,sr,p⟩:=h;exact⟨μ,S,τ,hr,sr,p.bind λv x S1 μ1 H1 st1 r1 p1=>⟨v,μ1,S1,x,rfl,st1.hr,r1,p1⟩⟩
 ·obtain⟨x,μ1,S1,z,rfl,hr1,rz,p1⟩:=q1;obtain⟨u1,u2,rfl,ru,rw'⟩:=r1.two;cases ry u2 rw';unfold isX at p1;split at p1
  ·rename_i c xs;split at p1
   ·rename_i hc;obtain⟨a,C,rfl,hmc,od,hH,_⟩:=rz;cases ru;obtain⟨C',F,hk⟩:=hI c hc;obtain rfl:C=C':=R7 (Ou (hmc.symm.trans F.bound));obtain⟨o,ho,hcls,_⟩:=(I1.hok a _ (bA hH).2).1;exact kia_one (KN F) I1.kIn ⟨o,ho,hcls⟩ hk (by intro z;cases z) λtk=>⟨.bl (f c),H1,I1.tok tk,rfl,p1.here hr1 (Rep.bl _)⟩
   ·exact p1.elim
  ·exact p1.elim⟩
theorem fG[n:NS e](hI:∀c∈cs,∃D,X.mg nm=some (.ref D)/\Isa X.K X.mg c (.ref D) (f c))(hD:∃D,Cf X.K X.mg nm D)(hm:X.mg "isinstance"=none)(ha:RE X WE e xa)(hg:Gl X "isinstance":=by exact rfl)(hg2:Gl X nm:=by exact rfl)(hd:(nm==("__debug__":Str))=false:=by decide)
  (hb:bootBuiltins "isinstance"=some (.builtin "isinstance"):=by decide+kernel)
  (hs2:starEach [.Name nm p2] X.env=(false,eval (.Name nm p2) X.env)::starEach [] X.env:=by rfl) (hpl:(backTo pos (starEach [.Name nm p2] X.env)).any (·.1)=false:=by rfl) :
  RE X WE (.Call (.Name "isinstance" p) [e,.Name nm p2] [] pos) (xUn (isX cs f) xa):=by
 obtain⟨D,G⟩:=hD;exact yE (v:=.ref D) (y:=.ref D) (HG hg2 G.bound rfl hd) (λu r=>r) (λc hc=>by
  obtain⟨D',e,h⟩:=hI c hc;rw[G.bound]at e;cases e;exact h) hm ha hg hb hs2 hpl
end
theorem mn:∀bs:List Bool,ReadsAll hp (bs.map Value.bool) (bs.map PyData.bool) []
 | []=>.nil
 |b::bs=>.cons (as:=[]) (bs:=[]) (.bool b) (mn bs)
theorem t6(bs:List Bool):(bs.map PyData.bool).all Shape.bool.has=true:=by
 rw[Rw,Oi];intro b _;rfl
theorem oh(k:Bool):∀bs:List Bool,Xs (.bool k) (bs.map PyData.bool)=(bs.count k:Nat)
 | []=>rfl
 |b::bs=>by
  rw[N4,Xs,oh k bs,List.count_cons];cases b<;>cases k<;>simp[Spec.same]<;>omega
theorem uD:∀{ns:List Bool}{j:Nat},j<ns.idxOf k->∀(h2:j<ns.length),(ns[j]==k)=false
 |n::r,0,h,_=>by
  by_cases e:n=k
  ·subst e;simp at h
  ·simpa using e
 |n::r,j+1,h,h2=>by
  by_cases e:n=k
  ·subst e;simp at h
  ·have hb:(n==k)=false:=by simpa using e
   have h':j<r.idxOf k:=by
    rw[List.idxOf_cons,hb]at h;exact Uj h
   exact uD h' (Uj h2)
def zg:V->List V->Hp->VK->Prop:=λx vs H Q=>∃(l:Addr)(bs:List Bool)(k:Bool),x=.ref l/\vs=[.bl k]/\H l=some (.lst (bs.map V.bl))/\Q (.int (bs.count k:Nat)) H
def yD:V->List V->Hp->VK->Prop:=λx vs H Q=>∃(l:Addr)(bs:List Bool)(k:Bool),x=.ref l/\vs=[.bl k]/\H l=some (.lst (bs.map V.bl))/\k∈bs/\bs.length<=1000/\Q (.int (bs.idxOf k:Nat)) H
section
variable{X:Cx}{WE:WX}
theorem Bf:MtM X "list.count" zg:=by
 intro pins s σ H x vs v us Q I rx rv h;obtain⟨l,bs,k,rfl,rfl,hH,q⟩:=h;cases rx;obtain⟨u,rfl,ru⟩:=rv.one;cases ru;obtain⟨its,r,pl,hz⟩:=I.list (SqL.of hH);have hits:=qf r;subst hits;refine count_list_bools (xs:=bs.map PyData.bool) (hp:=s.heap) pl.isList (mn bs) (t6 bs) ?_;rw[oh];exact⟨.int _,H,I.kept (t':=s.toks+1) λb o e=>e,⟨_,rfl⟩,q⟩
theorem A4:MtM X "list.index" yD:=by
 intro pins s σ H x vs v us Q I rx rv h;obtain⟨l,bs,k,rfl,rfl,hH,hk,hb,q⟩:=h;cases rx;obtain⟨u,rfl,ru⟩:=rv.one;cases ru;obtain⟨its,r,pl,hz⟩:=I.list (SqL.of hH);have hits:=qf r;subst hits;obtain⟨⟨cls,dd,data,sl⟩,ho,hc,n,hd⟩:=pl.isList;simp only at hc hd;subst hc hd;have hj:bs.idxOf k<bs.length:=List.idxOf_lt_length_iff.mpr hk;refine RF TY ⟨_,ho,rfl⟩ PySem.F.entry_list_index (PySem.F.args_list_index_2 _ _)
  (Xt l (bs.map Value.bool).toArray n dd sl (.bool k) (isBoolOf k) (bs.idxOf k) (by simpa using hj) ⋯ ?_ ?_) ⟨ho,λy hy=>eq_isBoolOf k (mn (hp:=s.heap) bs) (t6 bs) y (by simpa using hy) _ _,?_⟩
 ·simp only[UA,VN,isBoolOf];simpa using List.getElem_idxOf hj
 ·intro j hjs hlt;simp only[UA,VN,isBoolOf];exact uD hlt (by simpa using hjs)
 ·exact⟨.int _,H,I.kept (t':=s.toks+1) λb o e=>e,⟨_,rfl⟩,q⟩
end
def Au(xs:List D)(z:D)(S:Sto):R Vl:=match z,iq xs with
 | .bl k,some bs=>.ok (.d (.int (bs.count k:Nat))) S
 |_,_=>.bad
def zE(xs:List D)(z:D)(S:Sto):R Vl:=match z,iq xs with
 | .bl k,some bs=>if k∈bs/\bs.length<=1000 then .ok (.d (.int (bs.idxOf k:Nat))) S else .bad
 |_,_=>.bad
theorem BB:Dd zg Au:=by
 intro K mg WE μ S H a xs vs w z Q hr h rs rw' p;unfold Au at p;split at p
 ·rename_i k bs e1;cases rw';rw[nP e1]at rs;rw[aJ.rJ rs]at h;exact⟨_,bs,k,rfl,rfl,h,p.here hr (Rep.int _)⟩
 ·exact p.elim
theorem Bt:Dd yD zE:=by
 intro K mg WE μ S H a xs vs w z Q hr h rs rw' p;unfold zE at p;split at p
 ·rename_i k bs e1;split at p
  ·rename_i hc;cases rw';rw[nP e1]at rs;rw[aJ.rJ rs]at h;exact⟨_,bs,k,rfl,rfl,h,hc.1,hc.2,p.here hr (Rep.int _)⟩
  ·exact p.elim
 ·exact p.elim
theorem xy{x:Value}{env env':Env}(h:env.frame=env'.frame):noteFrame x env=noteFrame x env':=by
 unfold noteFrame PySem.frameOf;rw[h]
theorem A_{h h' B:Heap}{C:Addr}(sb:OD C h h'):∀{l:List Env},C∉frs l->h.FunFrames B l->h'.FunFrames B l
 | [],_,_=>trivial
 |env::r,n,⟨a,⟨L,o,e,b,c,d⟩,q⟩=>by
  have n2:C≠L/\C∉frs r:=by
   unfold frs at n ⊢;rw[Ot,e]at n;exact⟨λz=>n (by rw[z];exact .head _),λz=>n (.tail _ z)⟩
  exact⟨a,⟨L,o,e,b,(sb.2 L (PD n2.1)).trans c,d⟩,A_ sb n2.2 q⟩
theorem none_of{B B':Heap}(k:∀b o,B'.get? b=some o->B.get? b=some o){b:Addr}(n:B.get? b=none):B'.get? b=none:=by
 cases z:B'.get? b with
 |none=>rfl
 |some u=>rw[k _ _ z]at n;cases n
theorem yT{h B B':Heap}(k:∀b o,B'.get? b=some o->B.get? b=some o):∀{l:List Env},h.FunFrames B l->h.FunFrames B' l
 | [],_=>trivial
 |env::r,⟨a,⟨L,o,e,b,c,d⟩,q⟩=>⟨a,⟨L,o,e,none_of k b,c,d⟩,yT k q⟩
theorem dR.hide{B B' h:Heap}(x:dR B l e cls od fl h)(k:∀b o,B'.get? b=some o->B.get? b=some o):dR B' l e cls od fl h:=by
 obtain⟨k1,k2,k3,oe,vs,T,oT,ts,a1,a2,a3,a4,a5,a6⟩:=x;exact⟨λb o q=>k1 b o (k b o q),none_of k k2,yT k k3,oe,vs,T,oT,ts,a1,a2,a3,a4,none_of k a5,a6⟩
theorem dR.but{B h h':Heap}{C:Addr}(x:dR B l e cls od fl h)(sb:OD C h h')(hB:B.get? C=none)(hn:h.Ns C m)(hl:C∉frs l)(he:e≠C):dR B l e cls od fl h':=by
 obtain⟨k1,k2,k3,oe,vs,T,oT,ts,a1,a2,a3,a4,a5,a6,a7,a8,a9⟩:=x;have hT:T≠C:=λz=>by
  obtain⟨o,es,ep,ho,hd,_⟩:=hn;rw[z,ho]at a7;cases a7;rw[hd]at a8;cases a8
 exact⟨λb o q=>(sb.2 b λz=>by rw[z,hB]at q;cases q).trans (k1 b o q),k2,A_ sb hl k3,oe,vs,T,oT,ts,(sb.2 e he).trans a1,a2,a3,a4,a5,a6,(sb.2 T hT).trans a7,a8,a9⟩
section
variable{X:Cx}{WE:WX}{scope:Scope}{N:List Str}{elt:Expr}
theorem Kv{pins pt:List (Addr×Obj)}{σ:St}{C:Addr}{s3:Shared}{H3:Hp}{fp:List Addr}(hx:XOk X WE)(hst:X.stack=X.env::X.outer)(hfr:X.env.frame=some X.env.locals)(hC:s3.heap.objs.size=C)(I3:Inv X pins σ H3 s3)(f3:∀b∈fp,eZ X pins H3 b)(hpt:∀b∈fp,∃o,(b,o)∈pt) :
  XOk ((bP X scope N C s3 H3 fp).dZ pt (notedBy (model X.prog X.w) X.A (compEnvC scope (gu X.env scope.names []) C X.env) (zD X C))) (WEd WE H3):=by
 intro pins' σ' H1 s1 a Cc od c xs S2 μ2 H' s' B ch fl0 I1 hch F fl hm hr2 hf hw;obtain⟨dm,hw⟩:=hw;have I2:=I1.vv F hch;have frm:X.A.frames=some (X.env::X.outer):=by rw[<-hst];exact I3.ok.frames
 replace F:hG X.prog X.w X.stack ch H1 s1 a H' s' B:=F
 replace fl:dR B X.stack a (.ref Cc) od fl0 s'.heap:=fl
 have nC:H' C=none:=I2.free;have aC:a≠C:=λz=>by
  obtain⟨_,⟨o,_,_,ho,_⟩,_⟩:=I1.loc
  replace ho:s1.heap.get? C=some o:=ho
  rw[<-z,F.new]at ho;cases ho
 have afp:a∉fp:=λz=>by
  obtain⟨o,ho⟩:=hpt a z;have:=(I1.pin (a,o) (OR _ (Oe _ ho))).1;rw[F.new]at this;cases this
 have b3:Un (frs X.stack) fp H3 H1 s3.heap s1.heap:=I1.base;have ltC:∀b o,s3.heap.get? b=some o->b≠C:=λb o e=>Og (SJ (N2 e) hC);have hB:∀b o,(Qb B [C]).get? b=some o->B.get? b=some o:=λb o q=>SG _ q;have hBC:(Qb B [C]).get? C=none:=Sj _ (.head _);have get:∀{b o},B.get? b=some o->b≠C->(Qb B [C]).get? b=some o:=λe n=>Rg _ e λz=>n (N6.mp z);have F0:hG X.prog X.w X.stack fp H3 s3 a H' s' (Qb B [C]):=⟨F.os.trans I1.os,F.bare,I2.base,F.hok,by
   cases q:s3.heap.get? a with
   |none=>rfl
   |some o=>
    obtain⟨o',e⟩:=b3.there a o q afp;rw[F.new]at e
    (cases e),F.free,λb o q=>by
   obtain⟨u,e⟩:=F.trk b o q;exact⟨u,get e λz=>by rw[z,nC]at q;cases q⟩,λb o e n hb hx'=>by
   refine get (F.old b o (b3.keep b o e n hb hx') (b3.free b o e n hx') hb λz=>?_) (ltC b o e);rcases(hch b z).2.2.2.1 with q |q
   ·exact hx' q
   ·exact absurd (N2 e) (X8.mpr q),dm⟩
 have fl1:=fl.hide hB;show wpAny (model X.prog X.w) X.A (noteFrame (.ref a) (compEnvC scope (gu X.env scope.names []) C X.env)) _ _ s';rw[xy (env:=compEnvC scope (gu X.env scope.names []) C X.env) (env':=X.env) rfl];refine zG frm hfr (hst▸fl1) λh4 fl4 held up4=>?_;have F4:=F0.move fl1.1 fl1.2.2.1 held.1 up4;have hCn:C∉frs X.stack:=λz=>by
  have:=I3.Dp (a:=C) (Qf hC);rw[hst]at z;unfold frs at z;rw[Ot,hfr]at z;rcases NU.mp z with z |z
  ·exact absurd I3.lt (by rw[hC,z];exact Pf _)
  ·exact this z
 obtain⟨m,⟨o,es,ep,ho,hd,hrr⟩,_⟩:=I2.loc;obtain⟨sl,ho4⟩:=up4 C o ho λvs z=>by rw[hd]at z;cases z
 have ns4:h4.Ns C m:=⟨_,es,ep,ho4,hd,hrr⟩;refine⟨m,ns4,λh5 sb cenv hc=>?_⟩;have fl5:=dR.but (hst▸held) sb hBC ns4 hCn aC;have F5:=F4.E_ held.1 (hst▸held.2.2.1) fl5.1 λb o' hb e _=>⟨o'.slots,(sb.2 b λz=>hCn (z▸hb)).trans e⟩;unfold PySem.passOn;have fl5':=fl5;obtain⟨_,_,_,oe,vs,T,oT,ts,a1,_,a3,a4,_⟩:=fl5';refine ar (OS a1 a3 a4 ?_);rw[N1 (by simp)];refine ar (FR fl5 λh6 fl6 up6=>?_);have F6:=F5.move fl5.1 fl5.2.2.1 fl6.1 up6;exact Vz (hx pins σ H3 s3 a Cc od c xs S2 μ2 H' _ _ fp _ I3 f3 F6 fl6 hm hr2 hf hw)
theorem HB{e:XE}(hx:XOk X WE)(hst:X.stack=X.env::X.outer)(hfr:X.env.frame=some X.env.locals)(he:∀C s H fp pt E' WE',XOk ((bP X scope N C s H fp).dZ pt E') WE'->RE ((bP X scope N C s H fp).dZ pt E') WE' elt e) :
  LCE X scope N elt λH3=>trE X.K X.mg (WEd WE H3) e:=λpins σ C s3 H3 fp pt s σ' H' Q hC I3 f3 hpt I q=>
 Pm ((he C s3 H3 fp pt _ _ (Kv hx hst hfr hC I3 f3 hpt)).h [] s σ' H' Q I.dZ q) (λ_ _ ⟨v,H5,I5,r5,q5⟩=>⟨v,H5,I5.fF,r5,q5⟩) λ_ _ z=>z
theorem pk{tg iter:Expr}{ifs:List Expr}{pos:Pos}{it:XI}{g:XG}{t:XT}{e:XE}{k:Nat}{fin:Nat->List D->Sto->R Vl}{esc:Scope}{EN:List Str}(hx:XOk X WE)(hfin:nq fin)(N:List Str)(q:LQ esc EN)(hi:RI X WE tg iter it)(hg:∀C s H fp,LQ scope N->RG (bP X scope N C s H fp) WE tg g)(ht:∀C s H fp,RTs (bP X scope N C s H fp) WE ifs t)
  (he:∀C s H fp pt E' WE',XOk ((bP X scope N C s H fp).dZ pt E') WE'->RE ((bP X scope N C s H fp).dZ pt E') WE' elt e) (hd:N.Nodup:=by decide+kernel)
  (Sc:eX esc scope EN N k:=by exact⟨rfl,by decide+kernel,by decide+kernel,by decide+kernel,by decide+kernel,by decide+kernel⟩) (h1:X.env.scope=esc:=by exact rfl) (h2:X.N=EN:=by exact rfl) (hc:X.calm=true:=by exact rfl) (hs:∀x,foldedSetIterable iter X.env x=pure x:=by intro _;rfl) (hst:X.stack=X.env::X.outer:=by exact rfl) (hfr:X.env.frame=some X.env.locals:=by exact rfl):RE X WE (.ListComp elt [⟨tg,iter,ifs,0⟩] scope pos) (rg fin it k g t e):=
 ⟨(B9 hc Sc h1 h2 hi.h (λC s H fp=>(hg C s H fp ⟨hd⟩).h) (λC s H fp=>(ht C s H fp).h) (HB hx hst hfr he) hs).weak λσ H Q h=>CV (X:=X) hfin h⟩
theorem D_(G:OkE X.prog X.w X.K X.mg lev x ps F)(hr:dE j X.A)(hj:lev<=j:=by decide)(hg:Gl X x:=by exact rfl)(hdb:(x==("__debug__":Str))=false:=by decide):RE X WE (.Call (.Name x p) [] [] pos) (aw F aj):=by
 obtain⟨f,fd,hm,hk,hb,G⟩:=G;exact⟨(C9 (G X.base) (hr.mono hj) hg hm hk (.all hb) .nil E2 hdb).weak λσ H Q ⟨μ,S,τ,hr,sr,p⟩=>⟨μ,S,[],hr,.nil,bg.noX p⟩⟩
end
theorem mM{n d k:Nat}:HT.sIx n d (some (k:Int))=min k n:=by
 unfold HT.sIx
 first |(dsimp only;split<;>omega) |(simp;omega) |omega
theorem qZ:HT.sIx n d none=d:=rfl
theorem mQ{xs:List D}{k:Nat}:dG xs none (some (k:Int))=xs.take k:=by
 unfold dG;rw[qZ,mM,List.drop_zero,Xu];by_cases h:k<=xs.length
 ·rw[Ss h]
 ·rw[Sd ⋯,Py (NW _),Py ⋯]
theorem kR{xs:List D}{k:Nat}:dG xs (some (k:Int)) none=xs.drop k:=by
 unfold dG;rw[qZ,mM];by_cases h:k<=xs.length
 ·rw[Ss h,Py (by simp)]
 ·rw[Sd ⋯,QY (NW _),QY ⋯];simp
theorem Be{xs:List D}{a b:Nat}:dG xs (some (a:Int)) (some (b:Int))=(xs.drop a).take (b-a):=by
 unfold dG;rw[mM,mM];by_cases h:a<=xs.length
 ·rw[Ss h];by_cases hb:b<=xs.length
  ·rw[Ss hb]
  ·rw[Sd ⋯,Py (by simp),Py (by simp;omega)]
 ·rw[Sd (show xs.length<=a by omega),QY (NW _),QY ⋯];simp
theorem sQ(ns:List Int):D.bY (ns.map D.int)=0:=by
 induction ns with
 |nil=>rfl
 |cons n ns ih=>simp[D.bY,D.depth,ih]
theorem fW:∀(xs ys:List Int),D.cJ (xs.map D.int) (ys.map D.int)=decide (xs=ys)
 | [],[]=>by simp[D.cJ]
 | [],y::ys=>by simp[D.cJ]
 |x::xs,[]=>by simp[D.cJ]
 |x::xs,y::ys=>by
  simp only[N4,D.cJ,D.eqv,fW xs ys];by_cases h:x=y
  ·by_cases h2:xs=ys<;>simp[h,h2]
  ·simp[h]
theorem cP{xs:List D}{i:Nat}{z:D}(h:xs[i]?=some z):atI xs (i:Int)=some z:=by
 have hi:=(NZ.mp h).1;unfold atI;rw[rG ⋯ ⋯];show xs[((i:Nat):Int).toNat]?=_;rw[OQ];exact h
theorem j3{xs:List D}{x:D}:atI (x::xs) 0=some x:=cP (i:=0) rfl
theorem JA{xs:List D}{i:Int}(h0:0<=i)(h1:i<xs.length):∃z,atI xs i=some z/\z∈xs:=by
 have hk:i.toNat<xs.length:=by omega
 refine⟨xs[i.toNat],?_,PM hk⟩;have:=cP (xs:=xs) (i:=i.toNat) (NV hk);rw[show((i.toNat:Nat):Int)=i by omega]at this;exact this
def zp1(r:R (List Vl)):R Its:=r.bind Am
theorem Ly:iZp as τ S=zp1 (as τ S):=bp rfl
theorem MA:zp1 (.ok [.d (.tup xs),.d (.tup ys)] S)=.ok ⟨eE xs ys,none⟩ S:=bp rfl
theorem ME:zp1 (.ok [.d (.lst xs),.d (.lst ys)] S)=.ok ⟨eE xs ys,none⟩ S:=bp rfl
theorem yt(e:cT x S=some (ns.map D.int))(h:ns.length<=300):oLX x S=.ok (.d (.int (b_ ns).length)) S:=by
 unfold oLX;rw[e];dsimp only;rw[show intsOf (ns.map D.int)=some ns by rw[rB (λx=>x) ns];simp];dsimp only;rw[NT h]
theorem Dm(e:cT x S=some (ts.map λt=>D.tup (t.map D.int)))(h:ts.length<=300):oLX x S=.ok (.d (.int (uq ts).length)) S:=by
 unfold oLX;rw[e];dsimp only;cases ts with
 |nil=>
  rw[show intsOf (([]:List (List Int)).map λt=>D.tup (t.map D.int))=some []from rfl];rfl
 |cons t ts=>
  rw[show intsOf ((t::ts).map λt=>D.tup (t.map D.int))=none from rfl,rY];dsimp only;rw[NT h]
end L2
set_option maxHeartbeats 4000000
namespace My
open PySem L2
def csX:List Str:=["NoText"]
def eH:List (Str×List Str):=[("unlike",["numbers"]),("many",["numbers","tuples"]),("sum",["numbers","numbers","number","number"]),("row",["numbers","tuples","numbers"]),("hand",["numbers","numbers"])]
noncomputable def uG:XS:=(fQ (DT (xSl wU (ae 0) (cp (xC (.int 12))) (cp (xC (.int 63))))) (gTu 2 (gCo (gNm 2) (gCo (gNm 3) gN0))) (aR (xOp aU (xOp oIx (ae 1) (xOp oMod (ae 2) (xC (.int 12)))) (ae 3)) (gSb (ae 1) (xOp oMod (ae 2) (xC (.int 12))) gL)))
noncomputable def uw:XS:=(ay (aR (xN su (aa (xSl wU (ae 0) bO (cp (xC (.int 12)))) aj)) (gNm 1))
 (ay uG
 (aD (xN mkM (aa (xFz (ae 1)) (aa (xC (.int 0)) (aa (xC (.int 0)) aj)))))))
noncomputable def nE:XF:=aY 1 4 uw
noncomputable def qI:XS:=(ay (xIf (aE (xOp oGe (ae 0) (xOp zw (xC (.int 10)) (xC (.int 18))))) (aD (ae 0)) aN)
 (ay (aR (xOp oMod (xOp aU (xOp aU (xOp ju (xOp oMod (ae 0) (xC (.int 1000000007))) (xC (.int 69069))) (xOp ju (ae 1) (xC (.int 40503)))) (xC (.int 977))) (xC (.int 2147483629))) (gNm 2))
 (ay (aR (xOp oMod (xOp aU (xOp aU (xOp ju (ae 2) (ae 2)) (xOp ju (ae 1) (xC (.int 7919)))) (xOp oMod (ae 0) (xC (.int 65537)))) (xC (.int 2147483587))) (gNm 3))
 (ay (aR (xOp oMod (xOp aU (xOp aU (xOp ju (ae 3) (ae 3)) (xOp ju (ae 2) (xC (.int 31)))) (xC (.int 5))) (xC (.int 2147483563))) (gNm 4))
 (aD (xOp aU (xOp ju (xOp aU (xOp ju (ae 2) (xC (.int 2147483659))) (ae 3)) (xC (.int 2147483693))) (ae 4)))))))
noncomputable def ib:XF:=aY 2 5 qI
noncomputable def ue:XS:=(ay (xIf (aE (xOp oLt (xOp oIx (ae 0) (xC (.int 2))) (ae 1))) (ay (aR (xOp oIx (ae 0) (xC (.int 1))) (gNm 2))
 (ay (aR (xC (.int 0)) (gNm 3))
 (ay (xIf (aE (xOp oLt (ae 2) (xN bh (aa (xOp oIx (ae 0) (xC (.int 0))) aj)))) (aR (xOp oIx (xOp oIx (ae 0) (xC (.int 0))) (ae 2)) (gNm 3)) (xIf (aE (xOp oGt (xN bh (aa (xOp oIx (ae 0) (xC (.int 0))) aj)) (xC (.int 0)))) (aR (xOp oMod (xOp oIx (xOp oIx (ae 0) (xC (.int 0))) (xOp oMod (xOp aU (xOp ju (ae 2) (xC (.int 5))) (xC (.int 3))) (xN bh (aa (xOp oIx (ae 0) (xC (.int 0))) aj)))) (xOp aU (xOp zw (xC (.int 10)) (xC (.int 17))) (ae 2))) (gNm 3)) aN))
 (ay (aR (xOp aU (ae 2) (xC (.int 1))) (gSb (ae 0) (xC (.int 1)) gL))
 (aR (aw ib (aa (ae 3) (aa (ae 2) aj))) (gSb (ae 0) (xC (.int 2)) gL)))))) aN)
 (ay (aR (xOp oMod (xOp oIx (ae 0) (xC (.int 2))) (ae 1)) (gNm 4))
 (ay (aR (xOp oDiv (xOp oIx (ae 0) (xC (.int 2))) (ae 1)) (gSb (ae 0) (xC (.int 2)) gL))
 (aD (ae 4)))))
noncomputable def aV:XF:=aY 2 5 ue
noncomputable def qH:XS:=(fQ (iM (aa (xOp aU (xC (.int 1)) (aw aV (aa (ae 0) (aa (ae 1) aj)))) aj)) (gNm 4) (ay (aR (xOp aU (ae 2) (aw aV (aa (ae 0) (aa (xC (.int 5)) aj)))) (gNm 5))
 (ay (xIf (aE (xOp oEq (aw aV (aa (ae 0) (aa (xC (.int 6)) aj))) (xC (.int 0)))) (aR (xOp n5 (aw aV (aa (ae 0) (aa (xC (.int 19)) aj))) (xC (.int 9))) (gNm 5)) aN)
 (xIf (aE (xOp iW (ae 5) (ae 3))) (iF (xLm jG (ae 3) (ae 5))) aN))))
noncomputable def qO:XS:=(ay (aR (xN mkM aj) (gNm 3))
 (ay qH
 (aD (xN cH (aa (xN nG (aa (ae 3) aj)) aj)))))
noncomputable def jS:XF:=aY 3 6 qO
noncomputable def r0:XE:=(xLC (iM (aa (xOp aU (xC (.int 1)) (aw aV (aa (ae 0) (aa (ae 1) aj)))) aj)) 1 (gNm 0) (λ_ S=>.ok true S) (aw jS (aa (ae 1) (aa (ae 3) (aa (ae 4) aj)))))
noncomputable def rX:XS:=(ay (aR (xOp n5 (aw aV (aa (ae 0) (aa (xC (.int 15)) aj))) (xC (.int 9))) (gNm 3))
 (aD (xN cH (aa r0 aj))))
noncomputable def lO:XF:=aY 3 4 rX
noncomputable def ub:XS:=(ay (aR (xC (.int 0)) (gSb (ae 0) (xC (.int 2)) gL))
 (aD (ae 0)))
noncomputable def nO:XF:=aY 1 1 ub
noncomputable def jJ:XE:=(xLC (bZ (ae 0)) 1 (gNm 0) (λ_ S=>.ok true S) (xN dX (aa (ae 0) aj)))
noncomputable def jK:XS:=(aD (ik (aE (xOp oEq (ae 0) (xN mkT aj))) (xC (.str "-")) (xSm eI (xC (.str ",")) jJ)))
noncomputable def cU:XF:=aY 1 1 jK
noncomputable def lN:XE:=(xLC (bZ (ae 0)) 1 (gNm 0) (λ_ S=>.ok true S) (aw cU (aa (ae 0) aj)))
noncomputable def lX:XS:=(aD (xSm eI (xC (.str " ")) lN))
noncomputable def f_:XF:=aY 1 1 lX
noncomputable def gv:XE:=(xLC (bZ (ae 0)) 1 (gNm 0) (λ_ S=>.ok true S) (xOp aU (xOp aU (xOp aU (xOp aU (xN dX (aa (xOp oIx (ae 0) (xC (.int 0))) aj)) (xC (.str ":"))) (xN dX (aa (xOp oIx (ae 0) (xC (.int 1))) aj))) (xC (.str ":"))) (xN dX (aa (xOp oIx (ae 0) (xC (.int 2))) aj))))
noncomputable def jM:XS:=(ay (xIf (aE (xOp oEq (ae 0) (xN mkT aj))) (aD (xC (.str "-"))) aN)
 (aD (xSm eI (xC (.str ",")) gv)))
noncomputable def fg:XF:=aY 1 1 jM
noncomputable def mz:XS:=(ay (aR (xN mkM (aa (xOp oIx (ae 0) (xC (.int 0))) (aa (aw cU (aa (xOp oIx (ae 0) (xC (.int 1))) aj)) aj))) (gNm 1))
 (ay (xIf (aE (xOp oIn (xOp oIx (ae 0) (xC (.int 0))) (xN mkT (aa (xC (.str "many")) (aa (xC (.str "row")) aj))))) (iF (xLm jG (ae 1) (aw fg (aa (xOp oIx (ae 0) (xC (.int 2))) aj)))) aN)
 (ay (xIf (aE (xOp oIn (xOp oIx (ae 0) (xC (.int 0))) (xN mkT (aa (xC (.str "sum")) (aa (xC (.str "hand")) aj))))) (iF (xLm jG (ae 1) (aw cU (aa (xOp oIx (ae 0) (xC (.int 2))) aj)))) aN)
 (ay (xIf (aE (xOp da (xOp oIx (ae 0) (xC (.int 0))) (xC (.str "sum")))) (aR (xOp sx (ae 1) (xN mkL (aa (xN dX (aa (xOp oIx (ae 0) (xC (.int 3))) aj)) (aa (xN dX (aa (xOp oIx (ae 0) (xC (.int 4))) aj)) aj)))) (gNm 1)) aN)
 (ay (xIf (aE (xOp da (xOp oIx (ae 0) (xC (.int 0))) (xC (.str "row")))) (iF (xLm jG (ae 1) (aw cU (aa (xOp oIx (ae 0) (xC (.int 3))) aj)))) aN)
 (aD (xSm eI (xC (.str " ")) (ae 1))))))))
noncomputable def gH:XF:=aY 1 2 mz
noncomputable def ir:XE:=(xLC (iM (aa (ae 3) aj)) 1 (gNm 0) (λ_ S=>.ok true S) (xLm wN (ae 3) (aw aV (aa (ae 1) (aa (xN bh (aa (ae 3) aj)) aj)))))
noncomputable def lr:XS:=(ay (aR (xN (lrg EJ) (aa (xN bh (aa (ae 1) aj)) aj)) (gNm 2))
 (ay (aR (xOp aU (xC (.int 1)) (aw aV (aa (ae 0) (aa (xN bh (aa (ae 2) aj)) aj)))) (gNm 3))
 (ay (xIf (aE (xOp oGt (aw aV (aa (ae 0) (aa (xC (.int 3)) aj))) (xC (.int 0)))) (aR (xN bh (aa (ae 2) aj)) (gNm 3)) aN)
 (aD (xN cH (aa ir aj))))))
noncomputable def fZ:XF:=aY 2 4 lr
noncomputable def lT:XS:=(ay (xIf (aE (xOp oEq (aw aV (aa (ae 0) (aa (xC (.int 8)) aj))) (xC (.int 0)))) (aD (xOp n5 (aw aV (aa (ae 0) (aa (xC (.int 19)) aj))) (xC (.int 9)))) aN)
 (ay (aR (xOp oIx (ae 1) (aw aV (aa (ae 0) (aa (xN bh (aa (ae 1) aj)) aj)))) (gNm 2))
 (ay (aR (xOp aU (xOp oIx (ae 2) (aw aV (aa (ae 0) (aa (xN bh (aa (ae 2) aj)) aj)))) (xOp oIx (xN mkL (aa (xC (.int 0)) (aa (xC (.int 0)) (aa (xC (.int 0)) (aa (xC (.int 1)) (aa (xUn e9 (xC (.int 1))) aj)))))) (aw aV (aa (ae 0) (aa (xC (.int 5)) aj))))) (gNm 3))
 (aD (xN xQ (aa (xUn e9 (xC (.int 9))) (aa (xN rm (aa (xC (.int 9)) (aa (ae 3) aj))) aj)))))))
noncomputable def eS:XF:=aY 2 4 lT
noncomputable def qF:XS:=(fQ (iM (aa (aw aV (aa (ae 0) (aa (xC (.int 5)) aj))) aj)) (gNm 3) (ay (aR (aw eS (aa (ae 0) (aa (ae 1) aj))) (gNm 4))
 (xIf (aE (xOp iW (ae 4) (ae 2))) (iF (xLm jG (ae 2) (ae 4))) aN)))
noncomputable def qD:XS:=(fQ (bZ (xN nG (aa (ae 2) aj))) (gNm 4) (ay (aR (xOp oIx (xN mkL (aa (xC (.int 0)) (aa (xC (.int 0)) (aa (xC (.int 1)) (aa (xC (.int 1)) (aa (xC (.int 2)) (aa (aw aV (aa (ae 0) (aa (xC (.int 5)) aj))) aj))))))) (aw aV (aa (ae 0) (aa (xC (.int 6)) aj)))) (gNm 6))
 (iF (xLm jG (ae 5) (xN mkT (aa (ae 4) (aa (ae 6) (aa (xN rm (aa (xC (.int 4)) (aa (xOp aU (ae 6) (xOp oIx (xN mkL (aa (xC (.int 0)) (aa (xC (.int 0)) (aa (xC (.int 1)) (aa (xC (.int 4)) (aa (aw aV (aa (ae 0) (aa (xC (.int 5)) aj))) aj)))))) (aw aV (aa (ae 0) (aa (xC (.int 5)) aj))))) aj))) aj))))))))
noncomputable def qE:XS:=(ay (aR (xN mkM aj) (gNm 2))
 (ay qF
 (ay (aR (xN mkM aj) (gNm 5))
 (ay qD
 (aD (xN cH (aa (ae 5) aj)))))))
noncomputable def jO:XF:=aY 2 7 qE
noncomputable def rO:XS:=(fQ (iM (aa (aw aV (aa (ae 0) (aa (xC (.int 13)) aj))) aj)) (gNm 4) (ay (aR (aw aV (aa (ae 0) (aa (ae 2) aj))) (gNm 5))
 (ay (aR (xN mkT (aa (ae 5) (aa (aw eS (aa (ae 0) (aa (ae 1) aj))) (aa (xOp oIx (xN mkL (aa (aw aV (aa (ae 0) (aa (ae 2) aj))) (aa (xOp oMod (xOp aU (ae 5) (xC (.int 1))) (ae 2)) aj))) (aw aV (aa (ae 0) (aa (xC (.int 2)) aj)))) aj)))) (gNm 6))
 (xIf (aE (xOp iW (ae 6) (ae 3))) (iF (xLm jG (ae 3) (ae 6))) aN))))
noncomputable def sh:XS:=(ay (aR (xOp aU (xC (.int 2)) (aw aV (aa (ae 0) (aa (xC (.int 3)) aj)))) (gNm 2))
 (ay (aR (xN mkM aj) (gNm 3))
 (ay rO
 (aD (xN cH (aa (ae 3) aj))))))
noncomputable def lW:XF:=aY 2 7 sh
noncomputable def pR:XE:=(xLC (bZ (ae 3)) 1 (gNm 0) (λ_ S=>.ok true S) (xOp n5 (aw aV (aa (ae 1) (aa (xC (.int 7)) aj))) (xC (.int 3))))
noncomputable def pT:XS:=(fQ (iZp (aa (ae 3) (aa (ae 4) aj))) (gTu 2 (gCo (gNm 6) (gCo (gNm 7) gN0))) (aR (xOp aU (ae 5) (xOp ju (ae 7) (xOp oIx (xOp oIx (ae 1) (ae 6)) (aw aV (aa (ae 0) (aa (xN bh (aa (xOp oIx (ae 1) (ae 6)) aj)) aj)))))) (gNm 5)))
noncomputable def pz:XE:=(xLC (iM (aa (xC (.int 4)) aj)) 1 (gNm 0) (aE (xOp oEq (aw aV (aa (ae 1) (aa (xC (.int 3)) aj))) (xC (.int 0)))) (ae 0))
noncomputable def pW:XE:=(xLC (bZ (ae 3)) 1 (gNm 0) (λ_ S=>.ok true S) (xOp aU (xC (.int 1)) (aw aV (aa (ae 1) (aa (xOp oIx (xN mkL (aa (xC (.int 4)) (aa (xC (.int 2)) aj))) (aw aV (aa (ae 1) (aa (xC (.int 2)) aj)))) aj)))))
noncomputable def oP:XS:=(ay (aR (aw fZ (aa (ae 0) (aa (ae 1) aj))) (gNm 3))
 (ay (xIf (aE (xOp oEq (ae 2) (xC (.int 0)))) (aD (xN mkT (aa (xC (.str "unlike")) (aa (ae 3) aj)))) aN)
 (ay (xIf (aE (xOp oEq (ae 2) (xC (.int 1)))) (aD (xN mkT (aa (xC (.str "many")) (aa (ae 3) (aa (aw jO (aa (ae 0) (aa (ae 1) aj))) aj))))) aN)
 (ay (xIf (aE (xOp oEq (ae 2) (xC (.int 2)))) (ay (aR (xN cH (aa pR aj)) (gNm 4))
 (ay (aR (xC (.int 0)) (gNm 5))
 (ay pT
 (ay (aR (xN xQ (aa (xUn e9 (xC (.int 99))) (aa (xN rm (aa (xC (.int 99)) (aa (xOp aU (ae 5) (xOp oIx (xN mkL (aa (xC (.int 0)) (aa (xC (.int 0)) (aa (xC (.int 1)) (aa (xUn e9 (xC (.int 4))) (aa (xC (.int 9)) aj)))))) (aw aV (aa (ae 0) (aa (xC (.int 5)) aj))))) aj))) aj))) (gNm 8))
 (ay (aR (xN rm (aa (xC (.int 99)) (aa (xOp aU (ae 8) (xOp oIx (xN mkL (aa (xC (.int 0)) (aa (xC (.int 0)) (aa (xC (.int 1)) (aa (xC (.int 2)) (aa (xC (.int 7)) aj)))))) (aw aV (aa (ae 0) (aa (xC (.int 5)) aj))))) aj))) (gNm 9))
 (ay (xIf (aE (xOp oEq (aw aV (aa (ae 0) (aa (xC (.int 6)) aj))) (xC (.int 0)))) (ay (aR (xOp n5 (aw aV (aa (ae 0) (aa (xC (.int 199)) aj))) (xC (.int 99))) (gNm 8))
 (aR (xOp aU (ae 8) (aw aV (aa (ae 0) (aa (xOp n5 (xC (.int 100)) (ae 8)) aj)))) (gNm 9))) aN)
 (aD (xN mkT (aa (xC (.str "sum")) (aa (ae 3) (aa (ae 4) (aa (ae 8) (aa (ae 9) aj))))))))))))) aN)
 (ay (xIf (aE (xOp oEq (ae 2) (xC (.int 3)))) (ay (aR (xN cH (aa pz aj)) (gNm 10))
 (aD (xN mkT (aa (xC (.str "row")) (aa (ae 3) (aa (aw lW (aa (ae 0) (aa (ae 1) aj))) (aa (ae 10) aj))))))) aN)
 (aD (xN mkT (aa (xC (.str "hand")) (aa (ae 3) (aa (xN cH (aa pW aj)) aj))))))))))
noncomputable def je:XF:=aY 3 11 oP
noncomputable def jC:XE:=(xLC (AM (ae 2)) 1 (gNm 0) (aE (xOp vg (ae 0) (ae 2))) (ae 0))
noncomputable def oz:XS:=(ay (aR (xC (.str " !\"#$&'()*+,-./0123456789:;<=>?@ABCDEFGHIJKLMNOPQRSTUVWXYZ[\\]^_`")) (gNm 2))
 (ay (aR (xOp aU (ae 2) (xC (.str "abcdefghijklmnopqrstuvwxyz{|}~\t\n"))) (gNm 2))
 (ay (aR jC (gNm 3))
 (aD (xOp oIx (ae 3) (aw aV (aa (ae 0) (aa (xN bh (aa (ae 3) aj)) aj))))))))
noncomputable def ic:XF:=aY 2 4 oz
noncomputable def n8:XS:=(aD (aw ic (aa (ae 0) (aa (xC (.str "")) aj))))
noncomputable def g_:XF:=aY 1 1 n8
noncomputable def qB:XS:=(ay (aR (aw aV (aa (ae 0) (aa (xOp aU (xN qb (aa (ae 1) aj)) (xC (.int 1))) aj))) (gNm 2))
 (aD (xOp aU (xOp aU (xSl iO (ae 1) bO (cp (ae 2))) (aw g_ (aa (ae 0) aj))) (xSl iO (ae 1) (cp (xOp aU (ae 2) (aw aV (aa (ae 0) (aa (xC (.int 2)) aj))))) bO))))
noncomputable def jY:XF:=aY 2 3 qB
noncomputable def qS:XS:=(ay (aR (aw aV (aa (ae 0) (aa (xOp aU (xN qb (aa (ae 1) aj)) (xC (.int 1))) aj))) (gNm 2))
 (ay (aR (xSm dI (ae 1) (xC (.str " "))) (gNm 3))
 (ay (aR (aw aV (aa (ae 0) (aa (xN bh (aa (ae 3) aj)) aj))) (gNm 4))
 (ay (aR (xN mkL (aa (xC (.str "")) (aa (xC (.str "-")) (aa (xC (.str "0")) (aa (xC (.str "-0")) (aa (xC (.str "00")) (aa (xC (.str "01")) (aa (xC (.str "+1")) (aa (xC (.str "1_0")) (aa (xC (.str "100")) (aa (xC (.str "-100")) (aa (xC (.str "0,,1")) (aa (xC (.str "0,1,")) (aa (xC (.str ":")) (aa (xC (.str "0:1")) (aa (xC (.str "0:1:2:3")) aj)))))))))))))))) (gNm 5))
 (ay (aR (xOp aU (ae 5) (xN mkL (aa (xC (.str "0:0:1,1:0:1")) (aa (xC (.str "unlike")) (aa (xC (.str "many")) (aa (xC (.str "sum")) (aa (xC (.str "row")) (aa (xC (.str "hand")) (aa (xC (.str "stand")) (aa (xC (.str "Row")) (aa (xC (.str "3,2")) (aa (xC (.str "1,1")) aj)))))))))))) (gNm 5))
 (ay (aR (xOp oIx (ae 5) (aw aV (aa (ae 0) (aa (xC (.int 25)) aj)))) (gNm 6))
 (ay (aR (aw aV (aa (ae 0) (aa (xC (.int 10)) aj))) (gNm 7))
 (ay (xIf (aE (xOp oLt (ae 7) (xC (.int 4)))) (aD (aw jY (aa (ae 0) (aa (ae 1) aj)))) aN)
 (ay (xIf (aE (xOp oEq (ae 7) (xC (.int 4)))) (aD (xOp aU (xSl iO (ae 1) bO (cp (ae 2))) (xSl iO (ae 1) (cp (xOp aU (ae 2) (xC (.int 1)))) bO))) aN)
 (ay (xIf (aE (xOp oEq (ae 7) (xC (.int 5)))) (aD (xSl iO (ae 1) bO (cp (ae 2)))) aN)
 (ay (aR (xN mkL (aa (xOp aU (xSl oSl (ae 3) bO (cp (ae 4))) (xSl oSl (ae 3) (cp (xOp aU (ae 4) (xC (.int 1)))) bO)) (aa (xOp aU (xSl oSl (ae 3) bO (cp (xOp aU (ae 4) (xC (.int 1))))) (xSl oSl (ae 3) (cp (ae 4)) bO)) (aa (xOp aU (xOp aU (xSl oSl (ae 3) bO (cp (ae 4))) (xOp vz (xSl oSl (ae 3) (cp (ae 4)) (cp (xOp aU (ae 4) (xC (.int 2))))) (xUn e9 (xC (.int 1))))) (xSl oSl (ae 3) (cp (xOp aU (ae 4) (xC (.int 2)))) bO)) aj)))) (gNm 8))
 (aD (xSm eI (xC (.str " ")) (xOp oIx (xOp aU (ae 8) (xN mkL (aa (xOp aU (xOp aU (xSl oSl (ae 3) bO (cp (ae 4))) (xN mkL (aa (ae 6) aj))) (xSl oSl (ae 3) (cp (xOp aU (ae 4) (xC (.int 1)))) bO)) aj))) (xOp n5 (ae 7) (xC (.int 6)))))))))))))))))
noncomputable def gg:XF:=aY 2 9 qS
noncomputable def tX(s_l_same:XF):XE:=(xLC (iZp (aa (ae 0) (aa (ae 1) aj))) 2 (gTu 2 (gCo (gNm 0) (gCo (gNm 1) gN0))) (λ_ S=>.ok true S) (aw s_l_same (aa (ae 0) (aa (ae 1) aj))))
noncomputable def uC(s_l_same:XF):XS:=(ay (xIf (aE (xOp oIs (ae 1) (xC .non))) (aD (xOp oIs (ae 0) (xC .non))) aN)
 (ay (xIf (xOr (bN (xUn (cL "bool") (ae 1))) (bN (xUn (cL "bool") (ae 0)))) (aD (bT (xUn (cL "bool") (ae 1)) (bT (xUn (cL "bool") (ae 0)) (xOp oEq (ae 0) (ae 1))))) aN)
 (ay (xIf (bN (xUn (cL "int") (ae 1))) (aD (bT (xUn (cL "int") (ae 0)) (xOp oEq (ae 0) (ae 1)))) aN)
 (ay (xIf (bN (xUn (cL "str") (ae 1))) (aD (bT (xUn (cL "str") (ae 0)) (xOp oEq (ae 0) (ae 1)))) aN)
 (ay (xIf (xOr (aE (xOp oNe (xUn (cL "tuple") (ae 1)) (xUn (cL "tuple") (ae 0)))) (aE (xOp oNe (xUn (cL "list") (ae 1)) (xUn (cL "list") (ae 0))))) (aD (xC (.bl false))) aN)
 (ay (xIf (aE (xOp oNe (xN bh (aa (ae 0) aj)) (xN bh (aa (ae 1) aj)))) (aD (xC (.bl false))) aN)
 (aD (xOp iW (xC (.bl false)) (tX s_l_same)))))))))
noncomputable def dQ:Nat->XF
 |0=>aY 2 2 BS
 |n+1=>aY 2 2 (uC (dQ n))
noncomputable def kW:XE:=(xLC (AM (ae 1)) 1 (gNm 0) (λ_ S=>.ok true S) (xOp zK (ae 0) (xC (.str "0123456789"))))
noncomputable def oQ:XS:=(ay (aR (ik (bN (xSm kc (ae 0) (xC (.str "-")))) (xSl iO (ae 0) (cp (xC (.int 1))) bO) (ae 0)) (gNm 1))
 (ay (xIf (xOr (bV (aE (ft oLe oLe (xC (.int 1)) (xN qb (aa (ae 1) aj)) (xC (.int 2))))) (bV (bN (xN kS (aa kW aj))))) (aD (xC (.bl false))) aN)
 (aD (rC (xOp da (ae 0) (xC (.str "0"))) (xOp oNe (xOp pI (ae 1) (xC (.int 0))) (xC (.str "0")))))))
noncomputable def jd:XF:=aY 1 2 oQ
noncomputable def mY:XS:=(ay (xIf (bV (bN (aw jd (aa (ae 0) aj)))) (kB "NoText" (xC (.str "this is no number"))) aN)
 (aD (xN sd (aa (ae 0) aj))))
noncomputable def d8:XF:=aY 1 1 mY
noncomputable def lA:XS:=(aD (ik (aE (xOp da (ae 0) (xC (.str "-")))) (xN mkL aj) (xSm dI (ae 0) (xC (.str ",")))))
noncomputable def dh:XF:=aY 1 1 lA
noncomputable def iu:XE:=(xLC (bZ (aw dh (aa (ae 0) aj))) 1 (gNm 0) (λ_ S=>.ok true S) (eg d8 (aa (ae 0) aj)))
noncomputable def lQ:XS:=(aD (xN cH (aa iu aj)))
noncomputable def eM:XF:=aY 1 1 lQ
noncomputable def qL:XS:=(aD (bT (xUn (cL "int") (ae 0)) (sA (xUn (cL "bool") (ae 0)))))
noncomputable def jT:XF:=aY 1 1 qL
noncomputable def p7:XS:=(aD (bT (aw jT (aa (ae 0) aj)) (ft oLe oLe (ae 1) (ae 0) (ae 2))))
noncomputable def cX:XF:=aY 3 3 p7
noncomputable def oG:XE:=(xLC (bZ (ae 0)) 1 (gNm 0) (λ_ S=>.ok true S) (aw cX (aa (ae 0) (aa (ae 2) (aa (ae 3) aj)))))
noncomputable def oE:XS:=(aD (bT (xUn (cL "tuple") (ae 0)) (xN kS (aa oG aj))))
noncomputable def c8:XF:=aY 3 3 oE
noncomputable def fz:XE:=(xLC (zB (aa (xC (.int 1)) (aa (xN bh (aa (ae 0) aj)) aj))) 1 (gNm 0) (λ_ S=>.ok true S) (xOp oLt (xOp oIx (ae 1) (xOp n5 (ae 0) (xC (.int 1)))) (xOp oIx (ae 1) (ae 0))))
noncomputable def jw:XS:=(aD (xN kS (aa fz aj)))
noncomputable def dB:XF:=aY 1 1 jw
noncomputable def ou:XS:=(aD (bT (aw c8 (aa (ae 0) (aa (xUn e9 (xC (.int 9))) (aa (xC (.int 9)) aj)))) (bT (ft oLe oLe (xC (.int 1)) (xN bh (aa (ae 0) aj)) (xC (.int 4))) (aw dB (aa (ae 0) aj)))))
noncomputable def iB:XF:=aY 1 1 ou
noncomputable def qR:XE:=(xLC (bZ (ae 0)) 1 (gNm 0) (λ_ S=>.ok true S) (aw iB (aa (ae 0) aj)))
noncomputable def qK:XS:=(ay (xIf (xOr (bV (bN (xUn (cL "tuple") (ae 0)))) (bV (aE (ft oLe oLe (xC (.int 1)) (xN bh (aa (ae 0) aj)) (xC (.int 4)))))) (aD (xC (.bl false))) aN)
 (aD (xN kS (aa qR aj))))
noncomputable def jW:XF:=aY 1 1 qK
noncomputable def jB:XE:=(xLC (bZ (xSm dI (ae 0) (xC (.str " ")))) 1 (gNm 0) (λ_ S=>.ok true S) (eg eM (aa (ae 0) aj)))
noncomputable def oi:XS:=(ay (aR (xN cH (aa jB aj)) (gNm 1))
 (ay (xIf (bV (bN (aw jW (aa (ae 1) aj)))) (kB "NoText" (xC (.str "this is no text of a stand"))) aN)
 (aD (ae 1))))
noncomputable def ip:XF:=aY 1 2 oi
noncomputable def jx:XE:=(xLC (bZ (xSm dI (ae 0) (xC (.str ":")))) 1 (gNm 0) (λ_ S=>.ok true S) (eg d8 (aa (ae 0) aj)))
noncomputable def oj:XS:=(aD (xN cH (aa jx aj)))
noncomputable def h_:XF:=aY 1 1 oj
noncomputable def jI:XE:=(xLC (bZ (aw dh (aa (ae 1) aj))) 1 (gNm 0) (λ_ S=>.ok true S) (eg h_ (aa (ae 0) aj)))
noncomputable def oq:XS:=(ay (xIf (aE (xOp da (ae 0) (xC (.str "number")))) (aD (eg d8 (aa (ae 1) aj))) aN)
 (ay (xIf (aE (xOp da (ae 0) (xC (.str "numbers")))) (aD (eg eM (aa (ae 1) aj))) aN)
 (aD (xN cH (aa jI aj)))))
noncomputable def fT:XF:=aY 2 2 oq
noncomputable def jF:XS:=(aD (xOp oEq (xUn oLX (ae 0)) (xN bh (aa (ae 0) aj))))
noncomputable def dN:XF:=aY 1 1 jF
noncomputable def pZ:XS:=(aD (bT (aw c8 (aa (ae 0) (aa (xC (.int 0)) (aa (xC (.int 3)) aj)))) (bT (ft oLe oLe (xC (.int 1)) (xN bh (aa (ae 0) aj)) (xC (.int 4))) (aw dN (aa (ae 0) aj)))))
noncomputable def jf:XF:=aY 1 1 pZ
noncomputable def sI:XS:=(aD (bT (aw cX (aa (ae 0) (aa (ae 2) (aa (ae 3) aj)))) (bT (aw cX (aa (ae 1) (aa (ae 2) (aa (ae 3) aj)))) (xOp oLe (ae 0) (ae 1)))))
noncomputable def jl:XF:=aY 4 4 sI
noncomputable def qC:XS:=(ay (xIf (xOr (bV (bN (xUn (cL "tuple") (ae 0)))) (aE (xOp oNe (xN bh (aa (ae 0) aj)) (xC (.int 3))))) (aD (xC (.bl false))) aN)
 (aD (bT (aw cX (aa (xOp oIx (ae 0) (xC (.int 0))) (aa (xUn e9 (xC (.int 9))) (aa (xC (.int 9)) aj)))) (aw jl (aa (xOp oIx (ae 0) (xC (.int 1))) (aa (xOp oIx (ae 0) (xC (.int 2))) (aa (xC (.int 0)) (aa (xC (.int 4)) aj))))))))
noncomputable def jP:XF:=aY 1 1 qC
noncomputable def n_:XE:=(xLC (bZ (ae 0)) 1 (gNm 0) (λ_ S=>.ok true S) (aw jP (aa (ae 0) aj)))
noncomputable def ox:XE:=(xLC (bZ (ae 0)) 1 (gNm 0) (λ_ S=>.ok true S) (xOp oIx (ae 0) (xC (.int 0))))
noncomputable def oH:XS:=(ay (xIf (xOr (bV (bN (xUn (cL "tuple") (ae 0)))) (aE (xOp oGt (xN bh (aa (ae 0) aj)) (xC (.int 4))))) (aD (xC (.bl false))) aN)
 (aD (bT (xN kS (aa n_ aj)) (aw dB (aa ox aj)))))
noncomputable def iG:XF:=aY 1 1 oH
noncomputable def rP:XS:=(aD (bT (xOp oEq (xN bh (aa (ae 0) aj)) (xC (.int 3))) (aw iG (aa (xOp oIx (ae 0) (xC (.int 2))) aj))))
noncomputable def lU:XF:=aY 1 1 rP
noncomputable def t7:XS:=(ay (xIf (xOr (aE (xOp oNe (xN bh (aa (ae 0) aj)) (xC (.int 5)))) (bV (bN (aw c8 (aa (xOp oIx (ae 0) (xC (.int 2))) (aa (xUn e9 (xC (.int 3))) (aa (xC (.int 3)) aj))))))) (aD (xC (.bl false))) aN)
 (aD (bT (xOp oEq (xN bh (aa (xOp oIx (ae 0) (xC (.int 2))) aj)) (xN bh (aa (xOp oIx (ae 0) (xC (.int 1))) aj))) (aw jl (aa (xOp oIx (ae 0) (xC (.int 3))) (aa (xOp oIx (ae 0) (xC (.int 4))) (aa (xUn e9 (xC (.int 99))) (aa (xC (.int 99)) aj))))))))
noncomputable def nA:XF:=aY 1 1 t7
noncomputable def sR:XS:=(ay (xIf (xOr (bV (bN (xUn (cL "tuple") (ae 0)))) (aE (xOp oNe (xN bh (aa (ae 0) aj)) (xC (.int 3))))) (aD (xC (.bl false))) aN)
 (aD (bT (aw cX (aa (xOp oIx (ae 0) (xC (.int 0))) (aa (xC (.int 0)) (aa (xC (.int 3)) aj)))) (bT (aw cX (aa (xOp oIx (ae 0) (xC (.int 1))) (aa (xUn e9 (xC (.int 9))) (aa (xC (.int 9)) aj)))) (aw cX (aa (xOp oIx (ae 0) (xC (.int 2))) (aa (xC (.int 0)) (aa (xC (.int 3)) aj))))))))
noncomputable def kZ:XF:=aY 1 1 sR
noncomputable def oR:XE:=(xLC (bZ (ae 0)) 1 (gNm 0) (λ_ S=>.ok true S) (aw kZ (aa (ae 0) aj)))
noncomputable def pA:XS:=(ay (xIf (xOr (bV (bN (xUn (cL "tuple") (ae 0)))) (aE (xOp oGt (xN bh (aa (ae 0) aj)) (xC (.int 12))))) (aD (xC (.bl false))) aN)
 (aD (bT (xN kS (aa oR aj)) (aw dN (aa (ae 0) aj)))))
noncomputable def ja:XF:=aY 1 1 pA
noncomputable def uF:XS:=(aD (bT (xOp oEq (xN bh (aa (ae 0) aj)) (xC (.int 4))) (bT (aw ja (aa (xOp oIx (ae 0) (xC (.int 2))) aj)) (bT (aw c8 (aa (xOp oIx (ae 0) (xC (.int 3))) (aa (xC (.int 0)) (aa (xC (.int 3)) aj)))) (aw dB (aa (xOp oIx (ae 0) (xC (.int 3))) aj))))))
noncomputable def nr:XF:=aY 1 1 uF
noncomputable def rS:XS:=(aD (bT (xOp oEq (xN bh (aa (ae 0) aj)) (xC (.int 3))) (bT (aw c8 (aa (xOp oIx (ae 0) (xC (.int 2))) (aa (xC (.int 1)) (aa (xC (.int 4)) aj)))) (xOp oEq (xN bh (aa (xOp oIx (ae 0) (xC (.int 2))) aj)) (xN bh (aa (xOp oIx (ae 0) (xC (.int 1))) aj))))))
noncomputable def lD:XF:=aY 1 1 rS
noncomputable def jL:XS:=(ay (aR (xOp oIx (ae 0) (xC (.int 0))) (gNm 1))
 (ay (xIf (aE (xOp da (ae 1) (xC (.str "unlike")))) (aD (xOp oEq (xN bh (aa (ae 0) aj)) (xC (.int 2)))) aN)
 (ay (xIf (aE (xOp da (ae 1) (xC (.str "many")))) (aD (aw lU (aa (ae 0) aj))) aN)
 (ay (xIf (aE (xOp da (ae 1) (xC (.str "sum")))) (aD (aw nA (aa (ae 0) aj))) aN)
 (ay (xIf (aE (xOp da (ae 1) (xC (.str "row")))) (aD (aw nr (aa (ae 0) aj))) aN)
 (aD (bT (xOp da (ae 1) (xC (.str "hand"))) (aw lD (aa (ae 0) aj)))))))))
noncomputable def fe:XF:=aY 1 2 jL
noncomputable def s_:XS:=(ay (xIf (xOr (bV (bN (xUn (cL "tuple") (ae 0)))) (aE (xOp oLt (xN bh (aa (ae 0) aj)) (xC (.int 2))))) (aD (xC (.bl false))) aN)
 (aD (bT (aw jf (aa (xOp oIx (ae 0) (xC (.int 1))) aj)) (aw fe (aa (ae 0) aj)))))
noncomputable def lC:XF:=aY 1 1 s_
noncomputable def hV:XE:=(xLC (iZk (aa (ae 2) (aa (xSl oSl (ae 1) (cp (xC (.int 1))) bO) aj))) 2 (gTu 2 (gCo (gNm 0) (gCo (gNm 1) gN0))) (λ_ S=>.ok true S) (eg fT (aa (ae 0) (aa (ae 1) aj))))
noncomputable def oW:XS:=(ay (aR (xSm dI (ae 0) (xC (.str " "))) (gNm 1))
 (ay (aR (ql eH (xOp oIx (ae 1) (xC (.int 0))) (xN mkT aj)) (gNm 2))
 (ay (xIf (aE (xOp oNe (xN bh (aa (ae 1) aj)) (xOp aU (xN se (aa (ae 2) aj)) (xC (.int 1))))) (kB "NoText" (xC (.str "this is no text of a wish"))) aN)
 (ay (aR (xN cH (aa (xOp aU (xSl oSl (ae 1) bO (cp (xC (.int 1)))) hV) aj)) (gNm 3))
 (ay (xIf (bV (bN (aw lC (aa (ae 3) aj)))) (kB "NoText" (xC (.str "this is no text of a wish"))) aN)
 (aD (ae 3)))))))
noncomputable def gD:XF:=aY 1 4 oW
noncomputable def pM:XS:=(ay (aR (xN mkL (aa (xUn (isX csX (bX · "Free")) (ae 0)) (aa (xUn (isX csX (bX · "NoLine")) (ae 0)) (aa (xUn (isX csX (bX · "NoName")) (ae 0)) aj)))) (gNm 1))
 (ay (aR (xOp aU (ae 1) (xN mkL (aa (xUn (isX csX (bX · "NoStand")) (ae 0)) (aa (xUn (isX csX (bX · "NoText")) (ae 0)) (aa (xUn (isX csX (bX · "NoWish")) (ae 0)) aj))))) (gNm 1))
 (ay (aR (xOp aU (ae 1) (xN mkL (aa (xUn (isX csX (bX · "NoWorth")) (ae 0)) (aa (xUn (isX csX (bX · "Settled")) (ae 0)) (aa (xUn (isX csX (bX · "TooMany")) (ae 0)) aj))))) (gNm 1))
 (ay (xIf (xOr (aE (xOp oNe (xLf Au (ae 1) (xC (.bl true))) (xC (.int 1)))) (xOr (bV (bN (xUn (isX csX (bX · "WishError")) (ae 0)))) (bV (bN (xUn (isX csX (λ_=>true)) (ae 0)))))) (aD (xC (.str "odd"))) aN)
 (aD (xOp oIx (xN mkL (aa (xC (.str "free")) (aa (xC (.str "line")) (aa (xC (.str "name")) (aa (xC (.str "stand")) (aa (xC (.str "text")) (aa (xC (.str "wish")) (aa (xC (.str "worth")) (aa (xC (.str "fixed")) (aa (xC (.str "many")) aj)))))))))) (xLf zE (ae 1) (xC (.bl true)))))))))
noncomputable def jc:XF:=aY 1 2 pM
noncomputable def ui:XS:=(ay (aR (xC .non) (gNm 2))
 (ay (aR (xC .non) (gNm 3))
 (ay (vL csX 5 2 (xIf (aE (xOp oEq (ae 0) (xC (.int 0)))) (aR (eg ip (aa (ae 1) aj)) (gNm 3)) (aR (eg gD (aa (ae 1) aj)) (gNm 3))))
 (aD (ik (aE (xOp oIs (ae 2) (xC .non))) (xN mkL (aa (xC (.str "told")) (aa (ae 3) aj))) (xN mkL (aa (aw jc (aa (ae 2) aj)) aj)))))))
noncomputable def iV:XF:=aY 2 5 ui
noncomputable def iR:XS:=(fQ (zB (aa (xUn e9 (xC (.int 99))) (aa (xC (.int 100)) aj))) (gNm 1) (xIf (aE (xOp oEq (ae 0) (xN dX (aa (ae 1) aj)))) (aD (ae 1)) aN))
noncomputable def mC:XS:=(ay iR
 (aD (xC .non)))
noncomputable def dF:XF:=aY 1 2 mC
noncomputable def lE:XE:=(xLC (bZ (xSm dI (ae 0) (xC (.str ",")))) 1 (gNm 0) (λ_ S=>.ok true S) (aw dF (aa (ae 0) aj)))
noncomputable def lP:XS:=(aD (ik (aE (xOp da (ae 0) (xC (.str "-")))) (xN mkT aj) (xN cH (aa lE aj))))
noncomputable def de:XF:=aY 1 1 lP
noncomputable def oC:XS:=(aD (bT (xUn (cL "int") (ae 0)) (sA (xUn (cL "bool") (ae 0)))))
noncomputable def fV:XF:=aY 1 1 oC
noncomputable def oB:XE:=(xLC (bZ (ae 1)) 1 (gNm 0) (xOr (bV (bN (aw fV (aa (ae 0) aj)))) (xOr (aE (xOp oLt (ae 0) (xUn e9 (xC (.int 9))))) (aE (xOp oGt (ae 0) (xC (.int 9)))))) (xC (.int 1)))
noncomputable def jH:XS:=(fQ (bZ (ae 0)) (gNm 1) (ay (xIf (xOr (bV (bN (xUn (cL "tuple") (ae 1)))) (xOr (aE (xOp oLt (xN bh (aa (ae 1) aj)) (xC (.int 1)))) (aE (xOp oGt (xN bh (aa (ae 1) aj)) (xC (.int 4)))))) (aD (xC (.bl false))) aN)
 (ay (xIf (aE (xOp oNe oB (xN mkL aj))) (aD (xC (.bl false))) aN)
 (xIf (aE (xOp oNe (xN qe (aa (ae 1) aj)) (xUn oSS (ae 1)))) (aD (xC (.bl false))) aN))))
noncomputable def oA:XS:=(ay (xIf (xOr (bV (bN (xUn (cL "tuple") (ae 0)))) (xOr (aE (xOp oLt (xN bh (aa (ae 0) aj)) (xC (.int 1)))) (aE (xOp oGt (xN bh (aa (ae 0) aj)) (xC (.int 4)))))) (aD (xC (.bl false))) aN)
 (ay jH
 (aD (xC (.bl true)))))
noncomputable def iI:XF:=aY 1 2 oA
noncomputable def oo:XE:=(xLC (bZ (xSm dI (ae 0) (xC (.str " ")))) 1 (gNm 0) (λ_ S=>.ok true S) (aw de (aa (ae 0) aj)))
noncomputable def ow:XS:=(ay (aR (xN cH (aa oo aj)) (gNm 1))
 (aD (ik (bN (aw iI (aa (ae 1) aj))) (ae 1) (xC .non))))
noncomputable def iD:XF:=aY 1 2 ow
noncomputable def lh:XE:=(xLC (bZ (xSm dI (ae 0) (xC (.str ",")))) 1 (gNm 0) (λ_ S=>.ok true S) (xSm dI (ae 0) (xC (.str ":"))))
noncomputable def lR:XE:=(xLC (bZ (ae 0)) 1 (gNm 0) (λ_ S=>.ok true S) (aw dF (aa (ae 0) aj)))
noncomputable def ij:XE:=(xLC (bZ (ae 1)) 1 (gNm 0) (λ_ S=>.ok true S) (xN cH (aa lR aj)))
noncomputable def lH:XS:=(ay (xIf (aE (xOp da (ae 0) (xC (.str "-")))) (aD (xN mkT aj)) aN)
 (ay (aR lh (gNm 1))
 (aD (xN cH (aa ij aj)))))
noncomputable def gj:XF:=aY 1 2 lH
noncomputable def oZ:XE:=(xLC (bZ (ae 0)) 1 (gNm 0) (xOr (bV (bN (aw fV (aa (ae 0) aj)))) (xOr (aE (xOp oLt (ae 0) (ae 2))) (aE (xOp oGt (ae 0) (ae 3))))) (xC (.int 1)))
noncomputable def pB:XS:=(ay (xIf (bV (bN (xUn (cL "tuple") (ae 0)))) (aD (xC (.bl false))) aN)
 (aD (xOp oEq oZ (xN mkL aj))))
noncomputable def bU:XF:=aY 3 3 pB
noncomputable def pD:XE:=(xLC (bZ (ae 0)) 1 (gNm 0) (xOr (bV (bN (aw bU (aa (ae 0) (aa (xUn e9 (xC (.int 9))) (aa (xC (.int 9)) aj)))))) (aE (xOp oNe (xN bh (aa (ae 0) aj)) (xC (.int 3))))) (xC (.int 1)))
noncomputable def pv:XS:=(ay (xIf (xOr (bV (bN (xUn (cL "tuple") (ae 0)))) (aE (xOp oGt (xN bh (aa (ae 0) aj)) (ae 1)))) (aD (xC (.bl false))) aN)
 (aD (xOp oEq pD (xN mkL aj))))
noncomputable def eB:XF:=aY 2 2 pv
noncomputable def kF:XE:=(xLC (bZ (xOp oIx (ae 0) (xC (.int 2)))) 1 (gNm 0) (bV (aE (m_ oLe oLe oLe (xC (.int 0)) (xOp oIx (ae 0) (xC (.int 1))) (xOp oIx (ae 0) (xC (.int 2))) (xC (.int 4))))) (xC (.int 1)))
noncomputable def kq:XE:=(xLC (bZ (xOp oIx (ae 0) (xC (.int 2)))) 1 (gNm 0) (λ_ S=>.ok true S) (xOp oIx (ae 0) (xC (.int 0))))
noncomputable def kM:XE:=(xLC (bZ (xOp oIx (ae 0) (xC (.int 2)))) 1 (gNm 0) (λ_ S=>.ok true S) (xOp oIx (ae 0) (xC (.int 0))))
noncomputable def kO:XE:=(xLC (bZ (xOp oIx (ae 0) (xC (.int 2)))) 1 (gNm 0) (bV (bN (aw bU (aa (xN mkT (aa (xOp oIx (ae 0) (xC (.int 0))) (aa (xOp oIx (ae 0) (xC (.int 2))) aj))) (aa (xC (.int 0)) (aa (xC (.int 3)) aj)))))) (xC (.int 1)))
noncomputable def oO:XS:=(ay (xIf (xOr (bV (bN (xUn (cL "tuple") (ae 0)))) (xOr (aE (xOp oLt (xN bh (aa (ae 0) aj)) (xC (.int 2)))) (aE (xOp rT (xOp oIx (ae 0) (xC (.int 0))) (xN mkT (aa (xC (.str "unlike")) (aa (xC (.str "many")) (aa (xC (.str "sum")) (aa (xC (.str "row")) (aa (xC (.str "hand")) aj)))))))))) (aD (xC (.bl false))) aN)
 (ay (xIf (xOr (bV (bN (aw bU (aa (xOp oIx (ae 0) (xC (.int 1))) (aa (xC (.int 0)) (aa (xC (.int 3)) aj)))))) (xOr (bV (aE (ft oLe oLe (xC (.int 1)) (xN bh (aa (xOp oIx (ae 0) (xC (.int 1))) aj)) (xC (.int 4))))) (aE (xOp oLt (xUn oLX (xOp oIx (ae 0) (xC (.int 1)))) (xN bh (aa (xOp oIx (ae 0) (xC (.int 1))) aj)))))) (aD (xC (.bl false))) aN)
 (ay (xIf (aE (xOp oNe (xN bh (aa (ae 0) aj)) (xDl [("unlike",2),("many",3),("sum",5),("row",4),("hand",3)] (xOp oIx (ae 0) (xC (.int 0)))))) (aD (xC (.bl false))) aN)
 (ay (xIf (aE (xOp da (xOp oIx (ae 0) (xC (.int 0))) (xC (.str "many")))) (ay (xIf (xOr (bV (bN (aw eB (aa (xOp oIx (ae 0) (xC (.int 2))) (aa (xC (.int 4)) aj))))) (aE (xOp oNe kF (xN mkL aj)))) (aD (xC (.bl false))) aN)
 (aD (xOp oEq kq (xUn oSS kM)))) aN)
 (ay (xIf (aE (xOp da (xOp oIx (ae 0) (xC (.int 0))) (xC (.str "sum")))) (ay (xIf (xOr (bV (bN (aw bU (aa (xOp oIx (ae 0) (xC (.int 2))) (aa (xUn e9 (xC (.int 3))) (aa (xC (.int 3)) aj)))))) (aE (xOp oNe (xN bh (aa (xOp oIx (ae 0) (xC (.int 2))) aj)) (xN bh (aa (xOp oIx (ae 0) (xC (.int 1))) aj))))) (aD (xC (.bl false))) aN)
 (aD (bT (aw bU (aa (xSl oSl (ae 0) (cp (xC (.int 3))) bO) (aa (xUn e9 (xC (.int 99))) (aa (xC (.int 99)) aj)))) (xOp oLe (xOp oIx (ae 0) (xC (.int 3))) (xOp oIx (ae 0) (xC (.int 4))))))) aN)
 (ay (xIf (aE (xOp da (xOp oIx (ae 0) (xC (.int 0))) (xC (.str "row")))) (ay (xIf (xOr (bV (bN (aw eB (aa (xOp oIx (ae 0) (xC (.int 2))) (aa (xC (.int 12)) aj))))) (bV (bN (aw bU (aa (xOp oIx (ae 0) (xC (.int 3))) (aa (xC (.int 0)) (aa (xC (.int 3)) aj))))))) (aD (xC (.bl false))) aN)
 (ay (xIf (aE (xOp oNe kO (xN mkL aj))) (aD (xC (.bl false))) aN)
 (aD (bT (xOp oEq (xUn oLX (xOp oIx (ae 0) (xC (.int 2)))) (xN bh (aa (xOp oIx (ae 0) (xC (.int 2))) aj))) (xOp oEq (xN qe (aa (xOp oIx (ae 0) (xC (.int 3))) aj)) (xUn oSS (xOp oIx (ae 0) (xC (.int 3))))))))) aN)
 (aD (rC (xOp da (xOp oIx (ae 0) (xC (.int 0))) (xC (.str "unlike"))) (bT (aw bU (aa (xOp oIx (ae 0) (xC (.int 2))) (aa (xC (.int 1)) (aa (xC (.int 4)) aj)))) (xOp oEq (xN bh (aa (xOp oIx (ae 0) (xC (.int 2))) aj)) (xN bh (aa (xOp oIx (ae 0) (xC (.int 1))) aj))))))))))))
noncomputable def cI:XF:=aY 1 1 oO
noncomputable def kP:XS:=(ay (aR (xSm dI (ae 0) (xC (.str " "))) (gNm 1))
 (ay (xIf (aE (xOp oNe (xN bh (aa (ae 1) aj)) (xDg [("unlike",2),("many",3),("sum",5),("row",4),("hand",3)] 0 (xOp oIx (ae 1) (xC (.int 0)))))) (aD (xC .non)) aN)
 (ay (aR (xN mkT (aa (xOp oIx (ae 1) (xC (.int 0))) (aa (aw de (aa (xOp oIx (ae 1) (xC (.int 1))) aj)) aj))) (gNm 2))
 (ay (xIf (aE (xOp oIn (xOp oIx (ae 1) (xC (.int 0))) (xN mkT (aa (xC (.str "many")) (aa (xC (.str "row")) aj))))) (aR (xOp aU (ae 2) (xN mkT (aa (aw gj (aa (xOp oIx (ae 1) (xC (.int 2))) aj)) aj))) (gNm 2)) aN)
 (ay (xIf (aE (xOp oIn (xOp oIx (ae 1) (xC (.int 0))) (xN mkT (aa (xC (.str "sum")) (aa (xC (.str "hand")) aj))))) (aR (xOp aU (ae 2) (xN mkT (aa (aw de (aa (xOp oIx (ae 1) (xC (.int 2))) aj)) aj))) (gNm 2)) aN)
 (ay (xIf (aE (xOp da (xOp oIx (ae 1) (xC (.int 0))) (xC (.str "sum")))) (aR (xOp aU (ae 2) (xN mkT (aa (aw dF (aa (xOp oIx (ae 1) (xC (.int 3))) aj)) (aa (aw dF (aa (xOp oIx (ae 1) (xC (.int 4))) aj)) aj)))) (gNm 2)) aN)
 (ay (xIf (aE (xOp da (xOp oIx (ae 1) (xC (.int 0))) (xC (.str "row")))) (aR (xOp aU (ae 2) (xN mkT (aa (aw de (aa (xOp oIx (ae 1) (xC (.int 3))) aj)) aj))) (gNm 2)) aN)
 (aD (ik (bN (aw cI (aa (ae 2) aj))) (ae 2) (xC .non))))))))))
noncomputable def eF:XF:=aY 1 3 kP
noncomputable def xj:XS:=(ay (aR (ik (aE (xOp oEq (ae 0) (xC (.int 0)))) (aw iD (aa (ae 1) aj)) (aw eF (aa (ae 1) aj))) (gNm 2))
 (aD (ik (aE (xOp sP (ae 2) (xC .non))) (xN mkL (aa (xC (.str "told")) (aa (ae 2) aj))) (xN mkL (aa (xC (.str "text")) aj)))))
noncomputable def kg:XF:=aY 2 3 xj
noncomputable def gY:XE:=(xLC (iM (aa (xC (.int 13)) aj)) 1 (gNm 0) (λ_ S=>.ok true S) (xOp aU (xOp aU (xOp aU (xOp aU (xN dX (aa (xOp oMod (ae 0) (xC (.int 4))) aj)) (xC (.str ":"))) (xN dX (aa (xOp n5 (xOp oDiv (ae 0) (xC (.int 4))) (xC (.int 1))) aj))) (xC (.str ":"))) (xN dX (aa (xOp oMod (xOp aU (ae 0) (xC (.int 1))) (xC (.int 4))) aj))))
noncomputable def iA:XE:=(xLC (iM (aa (xC (.int 5)) aj)) 1 (gNm 0) (λ_ S=>.ok true S) (xOp aU (xN dX (aa (ae 0) aj)) (xC (.str ":0:4"))))
noncomputable def hU:XE:=(xLC (bZ (xN mkL (aa (xC (.int 12)) (aa (xC (.int 13)) aj)))) 1 (gNm 0) (λ_ S=>.ok true S) (xOp aU (xOp aU (xC (.str "row 1,0 ")) (xSm eI (xC (.str ",")) (xSl oSl (ae 1) bO (cp (ae 0))))) (xC (.str " 0,3"))))
noncomputable def gZ:XE:=(xLC (bZ (xN mkL (aa (xC (.int 4)) (aa (xC (.int 5)) aj)))) 1 (gNm 0) (λ_ S=>.ok true S) (xOp aU (xC (.str "many 0 ")) (xSm eI (xC (.str ",")) (xSl oSl (ae 2) bO (cp (ae 0))))))
noncomputable def kY:XS:=(ay (aR gY (gNm 0))
 (ay (aR iA (gNm 1))
 (ay (aR hU (gNm 2))
 (aD (xOp aU (ae 2) gZ)))))
noncomputable def fY:XF:=aY 0 3 kY
noncomputable def wd:XE:=(xLC (iM (aa (xC (.int 5)) aj)) 1 (gNm 0) (λ_ S=>.ok true S) (xN mkT (aa (xC (.int 1)) (aa (aw gH (aa (aw je (aa (ae 2) (aa (ae 4) (aa (ae 0) aj)))) aj)) aj))))
noncomputable def wk:XS:=(fQ (bZ (xN mkL (aa (ae 6) (aa (aw gg (aa (ae 1) (aa (ae 6) aj))) (aa (aw gg (aa (ae 1) (aa (aw gg (aa (ae 1) (aa (ae 6) aj))) aj))) aj))))) (gNm 7) (xIf (bV (bN (aw (dQ 10) (aa (aw iV (aa (ae 5) (aa (ae 7) aj))) (aa (aw kg (aa (ae 5) (aa (ae 7) aj))) aj))))) (aD (xC (.bl false))) aN))
noncomputable def xk:XS:=(fQ (bZ (ae 4)) (gTu 2 (gCo (gNm 5) (gCo (gNm 6) gN0))) wk)
noncomputable def CG:XS:=(fQ (iM (aa (xC (.int 4)) aj)) (gNm 2) (ay (aR (aw lO (aa (aw nO (aa (ae 1) aj)) (aa (xC (.int 4)) (aa (xC (.int 4)) aj)))) (gNm 3))
 (ay (aR (xN mkM (aa (xN mkT (aa (xC (.int 0)) (aa (aw f_ (aa (ae 3) aj)) aj))) aj)) (gNm 4))
 (ay (iF (xLm qm (ae 4) wd))
 xk))))
noncomputable def vP:XS:=(fQ (iM (aa (xC (.int 2)) aj)) (gNm 5) (xIf (bV (bN (aw (dQ 10) (aa (aw iV (aa (ae 5) (aa (ae 6) aj))) (aa (aw kg (aa (ae 5) (aa (ae 6) aj))) aj))))) (aD (xC (.bl false))) aN))
noncomputable def BN:XS:=(fQ (bZ (xOp aU (xOp aU (ae 8) (xN mkL (aa (xC (.str "many 0 -")) aj))) (aw fY aj))) (gNm 6) vP)
noncomputable def CZ:XS:=(ay (aR (aw nE (aa (ae 0) aj)) (gNm 1))
 (ay CG
 (ay (aR (xN mkL (aa (xC (.str "")) (aa (xC (.str " ")) (aa (xC (.str "-")) (aa (xC (.str "0")) (aa (xC (.str "0 ")) (aa (xC (.str " 0")) (aa (xC (.str "0  1")) (aa (xC (.str "0\n")) (aa (xC (.str "unlike 0\n")) (aa (xC (.str "unlike")) (aa (xC (.str "unlike -")) (aa (xC (.str "hand 0 -")) aj))))))))))))) (gNm 8))
 (ay (aR (xOp aU (ae 8) (xN mkL (aa (xC (.str "sum 0 0 0 -0")) (aa (xC (.str "row 0 - 0")) (aa (xC (.str "row 0 0:0:0,0:0:0 0")) (aa (xC (.str "sum 0 1 -99 99")) (aa (xC (.str "sum 0 1 -100 99")) aj))))))) (gNm 8))
 (ay BN
 (aD (xC (.bl true))))))))
noncomputable def Ag:XF:=aY 1 9 CZ
local macro_rules | `(tactic| walk_at "mx") => do
 let a:=("Ly MA ME Ay vq Kw Fg Ba BU LY MD DO Lz ML J_ Jo tN K5 IS K7 L9 MC MH LA AY IE Hh Hs Hr J6 Jg Jc G8 HI JC Ik IW CY yH Fo FV Nr MW yB Ki FP Lu Ml BW G5 MX MN Mi LZ LW Mj MU LB LP MM mX ck jR Lb FW LN v9 LK fo Jz oS xJ vt sE jg LL Mk Lp LO Fd Fu E8 AQ vV vi wb xf J9 Ig MB Jw J2 JM Ls Nd Kq MJ Md Mo Me Ld Ms Mm Ks Jf KZ JX ED DG K9 Ja KR Kn K3 GQ Lk LD Lm MS LJ zl Io Kk JJ KC Kz Ir HW Ij KH IJ JT KQ Hk GV KI IY Jy gO C_ Eb Dr xP".splitOn " ").toArray.map λs=>Xv (Lean.Name.mkStr `L2 s)
 let b:=("List.getElem?_cons_zero List.getElem?_cons_succ List.set_cons_zero List.set_cons_succ List.map_cons List.map_nil List.length_cons List.length_nil List.cons_append List.nil_append List.replicate_succ List.replicate_zero List.append_nil Nat.reduceSub Nat.reduceAdd Nat.zero_add Bool.not_true Bool.not_false decide_true decide_false beq_self_eq_true if_true if_false Int.reduceNeg".splitOn " ").toArray.map λs=>Xv s.toName
 `(tactic| simp only [$[$a:term],*,$[$b:term],*,↓reduceIte])
local macro_rules | `(tactic| walk_at "mo") => `(tactic| first
  |rw[Ao (by first |decide |omega)]
  |rw[FT (by first |exact Fp (by decide) (by decide) |exact Or.inl ⟨by omega,by omega⟩ |exact Or.inr ⟨by omega,by omega⟩)]
  |rw[FI ⟨by first |decide |omega,by first |decide |omega⟩]
  |rw[zr ⟨by decide,by decide,by decide⟩]
  |rw[CT (by first |(simp only[N9,T7,tv];omega) |(simp;omega))]
  |rw[vY (by first |(simp only[N9,T7,tv];omega) |(simp;omega))]
  |rw[qp ⋯]
  |rw[vE ⋯])
local macro_rules | `(tactic| walk_at "mm") => `(tactic| repeat (first | walk_at "mx" | walk_at "mo"))
local macro_rules | `(tactic| erw [$rs,*]) => `(tactic| (rw [$rs,*]; walk_at "mx"))
local macro_rules | `(tactic| simp? [$ls,*]) => `(tactic| repeat (first | walk_at "mx" | simp only [Rv, $ls,*]))
def fI(cells:List Int)(at' pool:Int):Ob:=.lst [.lst (cells.map D.int),.int at',.int pool]
def Pen(o:Ob):Prop:=∃cells at' pool,o=fI cells at' pool/\cells.length<=63/\0<=at'/\0<=pool
theorem ak:leave S (.ok (.rt (.d x),τ) S)=.ok (.d x) S:=by rw[nX,vO,Rc]
theorem fX{S R:Sto}:leave S (.ok (.rt (.d x),τ) (S++R))=.ok (.d x) S:=by rw[nX,vO,Q7]
theorem cO:leave S (.ok (.rt (.d x),τ) S')=.ok (.d x) (S'.take S.length):=by rw[nX,vO]
theorem Bm(cell at':Int)(h:0<=at')(S:Sto):∃r:Int,0<=r/\ib [.d (.int cell),.d (.int at')] S=.ok (.d (.int r)) S:=by
 unfold ib;rw[eh];unfold qI;walk_at"mx";erw[zr ⟨by decide,by decide,by decide⟩];by_cases hc:(10:Int) ^ (18:Int).toNat<=cell
 ·rw[NQ hc];refine⟨cell,Int.le_trans (by decide) hc,?_⟩;walk_at"mx";exact ak
 ·rw[gV hc];walk_at"mm";generalize hone:(cell % 1000000007*69069+at'*40503+977) % 2147483629=one;have o1:0<=one:=by rw[<-hone];exact Qm _ (by decide)
  have o2:one<2147483629:=by rw[<-hone];exact P_ _ (by decide)
  walk_at"mm";generalize htwo:(one*one+at'*7919+cell % 65537) % 2147483587=two;have o3:0<=two:=by rw[<-htwo];exact Qm _ (by decide)
  have o4:two<2147483587:=by rw[<-htwo];exact P_ _ (by decide)
  walk_at"mm";generalize hthree:(two*two+one*31+5) % 2147483563=three;have o5:0<=three:=by rw[<-hthree];exact Qm _ (by decide)
  walk_at"mm";exact⟨(one*2147483659+two)*2147483693+three,by omega,ak⟩
theorem rK{R:Sto}:oIx (.r 0) (.d (.int 0)) (fI cells at' pool::R)=.ok (.d (.lst (cells.map D.int))) (fI cells at' pool::R):=vB rfl rfl
theorem Mq{R:Sto}:oIx (.r 0) (.d (.int 1)) (fI cells at' pool::R)=.ok (.d (.int at')) (fI cells at' pool::R):=vB rfl rfl
theorem zS{R:Sto}:oIx (.r 0) (.d (.int 2)) (fI cells at' pool::R)=.ok (.d (.int pool)) (fI cells at' pool::R):=vB rfl rfl
theorem Ia{R:Sto}:gL (.r 0) (.d (.int 1)) (.d (.int v)) (fI cells at' pool::R)=.ok () (fI cells v pool::R):=bp rfl
theorem wQ{R:Sto}:gL (.r 0) (.d (.int 2)) (.d (.int v)) (fI cells at' pool::R)=.ok () (fI cells at' v::R):=bp rfl
theorem d7{ns:List Int}{i:Int}(h0:0<=i)(h1:i<ns.length):∃n,atI (ns.map D.int) i=some (.int n)/\n∈ns:=by
 have hk:i.toNat<ns.length:=by omega
 refine⟨ns[i.toNat],?_,PM hk⟩;unfold atI;rw[rG h0 (by simpa using h1)];show(ns.map D.int)[i.toNat]?=_;rw[Ow,NV hk];rfl
theorem cB{R:Sto}:(o'::R).take (o::R).length=o'::R:=by rw[show(o::R).length=(o'::R).length from rfl,Rc]
theorem a_{o:Ob}{R:Sto}{m:Int}(hp:Pen o)(h0:0<m)(h1:m<1073741824):∃(k:Int)(o':Ob),0<=k/\k<m/\Pen o'/\aV [.r 0,.d (.int m)] (o::R)=.ok (.d (.int k)) (o'::R):=by
 obtain⟨cells,at',pool,rfl,hl,ha,hq⟩:=hp;unfold aV;rw[eh];unfold ue;have tail:∀(at2 pool2:Int)(o2 o3:Option Vl),0<=at2->0<=pool2->∃(k:Int)(o':Ob),0<=k/\k<m/\Pen o' /\
   leave (fI cells at' pool::R) ((ay (aR (xOp oMod (xOp oIx (ae 0) (xC (.int 2))) (ae 1)) (gNm 4)) (ay (aR (xOp oDiv (xOp oIx (ae 0) (xC (.int 2))) (ae 1)) (gSb (ae 0) (xC (.int 2)) gL)) (aD (ae 4)))) [some (.r 0),some (.d (.int m)),o2,o3,none] (fI cells at2 pool2::R))=.ok (.d (.int k)) (o'::R):=by
  intro at2 pool2 o2 o3 g1 g2;walk_at"mx";rw[zS];walk_at"mm";rw[zS];walk_at"mm";rw[wQ];walk_at"mm";exact⟨pool2 % m,_,Qm _ ⋯,P_ _ h0,⟨cells,at2,pool2 / m,rfl,hl,g1,Int.ediv_nonneg g2 ⋯⟩,by rw[cO,cB]⟩
 erw[ck,fo];rw[zS];walk_at"mm";by_cases hc:pool<m
 ·erw[NQ hc];rw[Mq];walk_at"mm";rw[rK];walk_at"mm";have fin:∀cell:Int,∃(k:Int)(o':Ob),0<=k/\k<m/\Pen o'/\leave (fI cells at' pool::R) (sq1 ((ay (aR (xOp aU (ae 2) (xC (.int 1))) (gSb (ae 0) (xC (.int 1)) gL)) (aR (aw ib (aa (ae 3) (aa (ae 2) aj))) (gSb (ae 0) (xC (.int 2)) gL))) [some (.r 0),some (.d (.int m)),some (.d (.int at')),some (.d (.int cell)),none] (fI cells at' pool::R))
    (ay (aR (xOp oMod (xOp oIx (ae 0) (xC (.int 2))) (ae 1)) (gNm 4)) (ay (aR (xOp oDiv (xOp oIx (ae 0) (xC (.int 2))) (ae 1)) (gSb (ae 0) (xC (.int 2)) gL)) (aD (ae 4)))))=.ok (.d (.int k)) (o'::R):=by
   intro cell;erw[ck,xJ];rw[Ia];rw[AQ,sE,jR,xJ,yB];obtain⟨r,hr,er⟩:=Bm cell at' ha (fI cells (at'+1) pool::R);simp only[yH,CY,vq,Ay,Fo,FV,Ki,er,FP,vt,Fd,Fu,E8,Kw,wQ,AQ,sE,jR];exact tail (at'+1) r _ _ ⋯ hr
  by_cases hin:at'<((cells.map D.int).length:Int)
  ·erw[NQ hin];rw[rK];obtain⟨n,en,_⟩:=d7 (ns:=cells) ha (by simpa using hin);walk_at"mx";rw[cb en];rw[vt,jg,sE,jR];exact fin n
  ·erw[gV hin];rw[rK];walk_at"mm";by_cases hpos:(0:Int)<((cells.map D.int).length:Int)
   ·erw[NQ hpos];rw[rK];walk_at"mm";rw[rK];walk_at"mm";obtain⟨n,en,_⟩:=d7 (ns:=cells) (i:=(at'*5+3) % ((cells.map D.int).length:Int)) (Qm _ ⋯) (by have:=P_ (at'*5+3) hpos;simpa using this);erw[cb en];erw[zr ⟨by decide,by decide,by decide⟩];rw[Ao (by have:(0:Int)<10 ^ (17:Int).toNat:=(by decide);omega)];rw[vt,jg,sE,jR];exact fin _
   ·rw[gV hpos];rw[oS,mX,jR];exact fin 0
 ·rw[gV hc];rw[oS,mX,jR];exact tail at' pool _ _ ha hq
structure GoodW(m:Int)(ws:List Int):Prop where
 rise:ws.Pairwise (· <·)
 lim:∀w∈ws,-9<=w/\w<=9
 pos:1<=ws.length
 le:(ws.length:Int)<=m
def aF(ns:List Int):D:=.tup (ns.map D.int)
theorem B1{R:Sto}(hp:Pen o)(h0:0<most)(h1:most<=50)(n0:-9<=near)(n1:near<=5):∃(ws:List Int)(o':Ob),GoodW most ws/\Pen o'/\jS [.r 0,.d (.int most),.d (.int near)] (o::R)=.ok (.d (aF ws)) (o'::R):=by
 unfold jS;rw[mK];unfold qO;walk_at"mx";obtain⟨k,o1,k0,k1,hp1,e1⟩:=a_ (R:=R++[.lst []]) hp h0 ⋯;obtain⟨τ',S',e2,o2,ws,x4,x5,hp2,rfl,rfl,nd,lim,le,pos⟩:=fS (show _=qH [some (.r 0),some (.d (.int most)),some (.d (.int near)),some (.r (R.length+1)),none,none] (o::(R++[.lst []]))from rfl)
  (S1:=o1::(R++[.lst []])) (gd:=none) (items:=(NY (1+k).toNat).map λi=>Vl.d (.int (i:Nat))) (by walk_at"mx";rw[e1];walk_at"mm")
  (λi τ S=>∃(o':Ob)(ws:List Int)(x4 x5:Option Vl),Pen o'/\τ=[some (.r 0),some (.d (.int most)),some (.d (.int near)),some (.r (R.length+1)),x4,x5]/\S=o'::(R++[.lst (ws.map D.int)])/\ws.Nodup/\(∀w∈ws,-9<=w/\w<=9)/\ws.length<=i/\(0<i->0<ws.length))
  ⟨o1,[],none,none,hp1,rfl,rfl,Qz,by simp,NW _,by omega⟩ (by
   rintro i z τ S hz ⟨o',ws,x4,x5,hp',rfl,rfl,nd,lim,le,pos⟩;have hi:i<(1+k).toNat:=by simpa using(NZ.mp hz).1
   obtain⟨a,oa,a0,a1,hpa,ea⟩:=a_ (R:=R++[.lst (ws.map D.int)]) (m:=5) hp' (by decide) (by decide);obtain⟨b,ob,b0,b1,hpb,eb⟩:=a_ (R:=R++[.lst (ws.map D.int)]) (m:=6) hpa (by decide) (by decide);obtain⟨c,oc,c0,c1,hpc,ec⟩:=a_ (R:=R++[.lst (ws.map D.int)]) (m:=19) hpb (by decide) (by decide);have fin:∀(v:Int)(q:Ob)(x5':Option Vl),-9<=v->v<=9->Pen q->x5'=some (.d (.int v))->∃fl τ2 S2,(xIf (aE (xOp iW (ae 5) (ae 3))) (iF (xLm jG (ae 3) (ae 5))) aN) [some (.r 0),some (.d (.int most)),some (.d (.int near)),some (.r (R.length+1)),some z,x5'] (q::(R++[.lst (ws.map D.int)]))=.ok (fl,τ2) S2/\(fl=.nx\/fl=.ct) /\
     ∃(o':Ob)(ws:List Int)(x4 x5:Option Vl),Pen o'/\τ2=[some (.r 0),some (.d (.int most)),some (.d (.int near)),some (.r (R.length+1)),x4,x5]/\S2=o'::(R++[.lst (ws.map D.int)])/\ws.Nodup/\(∀w∈ws,-9<=w/\w<=9)/\ws.length<=i+1/\(0<i+1->0<ws.length):=by
    rintro v q _ v0 v1 hq rfl;walk_at"mx";rw[w_ (ns:=ws) ka];by_cases hm:v∈ws
    ·erw[NQ hm];exact⟨_,_,_,rfl,.inl rfl,q,ws,_,_,hq,rfl,rfl,nd,lim,by omega,λ_=>Ud hm⟩
    ·erw[gV hm];erw[jX (by rw[tv];omega)];refine⟨_,_,_,rfl,.inl rfl,q,ws++[v],_,_,hq,rfl,by rw[Ql];rfl,?_,?_,by simp;omega,λ_=>by simp⟩
     ·rw[RY];refine⟨nd,by simp,λx hx y hy=>?_⟩;rw[N6.mp hy];rintro rfl;exact hm hx
     ·intro w hw;rcases Oz.mp hw with e |e
      ·exact lim w e
      ·rw[N6.mp e];omega
   by_cases hb:b=0
   ·subst hb;obtain⟨fl,τ2,S2,f1,f2,f3⟩:=fin (c-9) oc _ ⋯ ⋯ hpc rfl;refine⟨_,_,fl,τ2,S2,jg,?_,f2,True.intro,f3⟩;walk_at"mx";erw[ea];erw[eb];erw[ec];erw[<-f1]
   ·obtain⟨fl,τ2,S2,f1,f2,f3⟩:=fin (near+a) ob _ ⋯ ⋯ hpb rfl;refine⟨_,_,fl,τ2,S2,jg,?_,f2,True.intro,f3⟩;walk_at"mx";erw[ea];erw[eb];erw[gV hb];rw[<-f1];walk_at"mx")
 erw[e2];rw[i8]at le pos;erw[yF ka ⋯];refine⟨sortI ws,o2,⟨wm nd,λw hw=>lim w ((uu ws w).mp hw),by rw[jo];exact pos ⋯,by rw[jo];omega⟩,hp2,?_⟩;rw[cO];simp[aF]
structure lK(n m:Int)(wss:List (List Int)):Prop where
 pos:1<=wss.length
 le:(wss.length:Int)<=n
 all:∀ws∈wss,GoodW m ws
def cg(wss:List (List Int)):D:=.tup (wss.map aF)
theorem Ef{R:Sto}(hp:Pen o)(h0:0<names)(h1:names<=50)(m0:0<most)(m1:most<=50):∃(wss:List (List Int))(o':Ob),lK names most wss/\Pen o'/\lO [.r 0,.d (.int names),.d (.int most)] (o::R)=.ok (.d (cg wss)) (o'::R):=by
 unfold lO;rw[mK];unfold rX;walk_at"mx";obtain⟨k,o1,k0,k1,hp1,e1⟩:=a_ (R:=R) (m:=15) hp (by decide) (by decide);erw[e1];obtain⟨j,o2,j0,j1,hp2,e2⟩:=a_ (R:=R) hp1 h0 ⋯;obtain⟨acc,Q,e4,hl,o3,wss,hp3,rfl,rfl,hw,hg⟩:=pq (show _=r0 [some (.r 0),some (.d (.int names)),some (.d (.int most)),some (.d (.int (k-9)))] (o1::R)from rfl) (S1:=o2::R) (items:=(NY (1+j).toNat).map λi=>Vl.d (.int (i:Nat))) (by walk_at"mx";rw[e2];walk_at"mm")
  (λi acc Q=>∃(o':Ob)(wss:List (List Int)),Pen o'/\acc=wss.map aF/\Q=o'::R/\wss.length=i/\∀ws∈wss,GoodW most ws) ⟨o2,[],hp2,rfl,rfl,rfl,by simp⟩ (by
   rintro i z acc Q hz ⟨o',wss,hp',rfl,rfl,hw,hg⟩ _;obtain⟨hi,rfl⟩:=i_ hz;obtain⟨ws,o3,gw,hp3,e3⟩:=B1 (R:=R++[.lst (wss.map aF)]) (near:=k-9) hp' m0 m1 ⋯ ⋯;refine⟨aF ws,o3::R,?_,rfl,o3,wss++[ws],hp3,fj.symm,rfl,by simp[hw],λx hx=>?_⟩
   ·walk_at"mx";erw[e3]
   ·rcases Oz.mp hx with e |e
    ·exact hg x e
    ·rw[N6.mp e];exact gw)
 erw[e4];rw[i8]at hw;exact⟨wss,o3,⟨by omega,by omega,hg⟩,hp3,by rw[cO,cB];rfl⟩
theorem HD{R:Sto}(hp:Pen o):∃o',Pen o'/\nO [.r 0] (o::R)=.ok (.r 0) (o'::R):=by
 obtain⟨cells,at',pool,rfl,hl,ha,hq⟩:=hp;unfold nO;rw[ba];unfold ub;walk_at"mx";erw[wQ];refine⟨fI cells at' 0,⟨cells,at',0,rfl,hl,ha,VC 0⟩,?_⟩;rw[nX];unfold out;dsimp only;rw[NT (by simp),cB]
theorem DQ{xs:List D}{i:Nat}{z:Vl}(h:(fK 0 xs)[i]?=some z):∃x,xs[i]?=some x/\z=.d (.tup [.int i,x]):=by
 rw[lJ]at h;cases q:xs[i]? with
 |none=>rw[q]at h;cases h
 |some x=>rw[q]at h;cases h;exact⟨x,rfl,by rw[TK]⟩
theorem Hn(ns:List Int):∃o,Pen o/\nE [.sc ns] []=.ok (.r 0) [o]:=by
 unfold nE;rw[ba];unfold uw;walk_at"mx";rw[show(12:Int)=((12:Nat):Int)from rfl,mQ,<-QO];obtain⟨τ',S',e2,cs,x2,x3,rfl,rfl,hl⟩:=fS (show _=uG [some (.sc ns),some (.r 0),none,none] [.lst ((ns.take 12).map D.int)]from rfl)
  (S1:=[.lst ((ns.take 12).map D.int)]) (gd:=none) (items:=fK 0 (((ns.map D.int).drop 12).take (63-12))) (by
   walk_at"mx";rw[show(12:Int)=((12:Nat):Int)from rfl,show(63:Int)=((63:Nat):Int)from rfl,Be])
  (λi τ S=>∃(cs:List Int)(x2 x3:Option Vl),τ=[some (.sc ns),some (.r 0),x2,x3]/\S=[.lst (cs.map D.int)]/\cs.length=(ns.take 12).length) ⟨_,none,none,rfl,rfl,rfl⟩ (by
   rintro i z τ S hz ⟨cs,x2,x3,rfl,rfl,hl⟩;obtain⟨x,ex,rfl⟩:=DQ hz;have hx:x∈ns.map D.int:=Qv (Qg (OE ex));obtain⟨v,_,rfl⟩:=Of.mp hx;have hlen:12<ns.length:=by
    have:=(NZ.mp ex).1;simp at this;omega
   have hcs:cs.length=12:=by rw[hl];simp;omega
   have h0:0<=((i:Nat):Int) % 12:=Qm _ (by decide);have h1:((i:Nat):Int) % 12<12:=P_ _ (by decide);obtain⟨c,ec,_⟩:=d7 (ns:=cs) (i:=((i:Nat):Int) % 12) h0 ⋯;have hix:ixN (cs.map D.int).length (((i:Nat):Int) % 12)=some (((i:Nat):Int) % 12).toNat:=rG h0 (by rw[tv];omega);refine⟨_,_,.nx,_,_,by walk_at"mm";rfl,by
    walk_at"mm";rw[vB (xs:=cs.map D.int) rfl ec];walk_at"mm";rw[show gL (.r 0) (.d (.int (((i:Nat):Int) % 12))) (.d (.int (c+v))) [Ob.lst (cs.map D.int)]=.ok () [.lst ((cs.map D.int).set (((i:Nat):Int) % 12).toNat (.int (c+v)))] by
     unfold gL;simp only[RK,hix];rfl]
    walk_at"mx";rfl,.inl rfl,True.intro,cs.set (((i:Nat):Int) % 12).toNat (c+v),_,_,rfl,by rw[List.map_set],by rw[Qe];exact hl⟩)
 erw[e2];refine⟨fI cs 0 0,⟨cs,0,0,rfl,by rw[hl];simp;omega,VC 0,VC 0⟩,?_⟩;rfl
theorem uB(f:α->z):∀(l:List α)(k:Nat),(l.eraseIdx k).map f=(l.map f).eraseIdx k
 | [],_=>rfl
 |_::_,0=>rfl
 |x::l,k+1=>by
  rw[RL,N4,N4,RL,uB f l k]
structure jZ(k:Nat)(ns:List Int):Prop where
 dom:∀n∈ns,0<=n/\n<(k:Int)
 pos:1<=ns.length
 le:ns.length<=k
 nd:ns.Nodup
theorem u9{R:Sto}(hp:Pen o)(h0:1<=wss.length)(h1:wss.length<=50):∃(ns:List Int)(o':Ob),jZ wss.length ns/\Pen o'/\fZ [.r 0,.d (cg wss)] (o::R)=.ok (.d (aF ns)) (o'::R):=by
 unfold fZ;rw[eh];unfold lr cg;walk_at"mx";erw[tv,JS ⋯];have hr:(NY ((wss.length:Nat):Int).toNat).map (λi=>D.int ((i:Nat):Int))=((NY wss.length).map λi=>((i:Nat):Int)).map D.int:=by rw[OQ,Ov];rfl
 rw[hr];generalize hL:((NY wss.length).map λi=>((i:Nat):Int))=L0;have lL:L0.length=wss.length:=by rw[<-hL];simp
 have dL:∀n∈L0,0<=n/\n<(wss.length:Int):=by
  intro n hn;rw[<-hL]at hn;obtain⟨i,hi,rfl⟩:=Of.mp hn;have:=Ol.mp hi;omega
 have nL:L0.Nodup:=by
  rw[<-hL];exact YB _ (λa b(h:a≠b)=>by omega) TC
 rw[wZ (xs:=L0.map D.int) (by walk_at"mx"),tv,lL];obtain⟨a,o1,a0,a1,hp1,e1⟩:=a_ (R:=R++[.lst (L0.map D.int)]) (m:=(wss.length:Int)) hp ⋯ ⋯;walk_at"mx";erw[e1];obtain⟨b,o2,b0,b1,hp2,e2⟩:=a_ (R:=R++[.lst (L0.map D.int)]) (m:=3) hp1 (by decide) (by decide);erw[e2];have fin:∀(many:Int),1<=many->many<=wss.length->∃(ns left:List Int)(o':Ob),jZ wss.length ns/\Pen o' /\
   ir [some (.r 0),some (.d (.tup (wss.map aF))),some (.r (R.length+1)),some (.d (.int many))] (o2::(R++[.lst (L0.map D.int)]))=.ok (.d (.lst (ns.map D.int))) (o'::(R++[.lst (left.map D.int)])):=by
  intro many m0 m1;obtain⟨acc,Q,e4,hl,o3,ns,left,hp3,rfl,rfl,hw,hlen,hmem,hnd⟩:=pq (show _=ir [some (.r 0),some (.d (.tup (wss.map aF))),some (.r (R.length+1)),some (.d (.int many))] (o2::(R++[.lst (L0.map D.int)]))from rfl) (S1:=o2::(R++[.lst (L0.map D.int)])) (items:=(NY many.toNat).map λi=>Vl.d (.int (i:Nat))) (by walk_at"mm")
   (λi acc Q=>∃(o':Ob)(ns left:List Int),Pen o'/\acc=ns.map D.int/\Q=o'::(R++[.lst (left.map D.int)])/\ns.length=i/\left.length+i=wss.length/\(∀n,n∈ns++left->0<=n/\n<(wss.length:Int))/\(ns++left).Nodup) ⟨o2,[],L0,hp2,rfl,rfl,rfl,by omega,by simpa using dL,by simpa using nL⟩ (by
    rintro i z acc Q hz ⟨o',ns,left,hp',rfl,rfl,hw,hlen,hmem,hnd⟩ _;obtain⟨hi,rfl⟩:=i_ hz;obtain⟨c,o3,c0,c1,hp3,e3⟩:=a_ (R:=R++[.lst (left.map D.int),.lst (ns.map D.int)]) (m:=(left.length:Int)) hp' ⋯ ⋯;have hc:c.toNat<left.length:=by omega
    have hge:(left.map D.int)[c.toNat]?=some (.int left[c.toNat]):=by rw[Ow,NV hc];rfl
    have pe:(left[c.toNat]::left.eraseIdx c.toNat).Perm left:=nR left c.toNat hc;have pa:((ns++[left[c.toNat]])++left.eraseIdx c.toNat).Perm (ns++left):=by
     rw[Qq];exact Ur ns pe
    refine⟨.int left[c.toNat],o3::(R++[.lst ((left.eraseIdx c.toNat).map D.int)]),?_,by simp,o3,ns++[left[c.toNat]],left.eraseIdx c.toNat,hp3,fj.symm,rfl,by simp[hw],?_,λn hn=>hmem n (pa.mem_iff.mp hn),pa.nodup_iff.mpr hnd⟩
    ·walk_at"mx";erw[show(R++[Ob.lst (left.map D.int)]++[Ob.lst (ns.map D.int)])=R++[.lst (left.map D.int),.lst (ns.map D.int)] by simp];erw[wZ (xs:=left.map D.int) (by walk_at"mx"),tv];erw[e3];erw[Mw ⋯ hge];rw[uB];simp
    ·rw[S_ hc];omega)
  rw[i8]at hw hlen;exact⟨ns,left,o3,⟨λn hn=>hmem n (OR _ hn),by omega,by omega,(RY.mp hnd).1⟩,hp3,e4⟩
 by_cases hb:0<b
 ·erw[NQ hb];erw[wZ (xs:=L0.map D.int) (by walk_at"mx"),tv,lL];obtain⟨ns,left,o3,gn,hp3,e4⟩:=fin (wss.length:Int) ⋯ ⋯;erw[e4];refine⟨ns,o3,gn,hp3,?_⟩;rw[cO];simp[aF]
 ·erw[gV hb];obtain⟨ns,left,o3,gn,hp3,e4⟩:=fin (1+a) ⋯ ⋯;erw[e4];refine⟨ns,o3,gn,hp3,?_⟩;rw[cO];simp[aF]
theorem ints_get{ps:List Int}{i:Nat}{z:Vl}(h:((ps.map D.int).map Vl.d)[i]?=some z):∃p,ps[i]?=some p/\z=.d (.int p):=by
 rw[Ow,Ow]at h;cases q:ps[i]? with
 |none=>rw[q]at h;cases h
 |some p=>rw[q]at h;cases h;exact⟨p,rfl,rfl⟩
theorem take_snoc{α:Type}{ps:List α}{i:Nat}{p:α}(h:ps[i]?=some p):ps.take (i+1)=ps.take i++[p]:=by
 rw[Tg,h];rfl
theorem Cn(e:S[n]?=some (.lst xs)):cH [.r n] S=.ok (.d (.tup xs)) S:=by
 unfold cH;dsimp only;rw[vn e]
theorem yS{R:Sto}(hp:Pen o)(g:lK n m wss)(hn:n<=50)(hm:m<=50):∃(w:Int)(o':Ob),(-9<=w/\w<=9)/\Pen o'/\eS [.r 0,.d (cg wss)] (o::R)=.ok (.d (.int w)) (o'::R):=by
 have g0:=g.pos;have g1:=g.le;unfold eS;rw[eh];unfold lT;obtain⟨a,o1,a0,a1,hp1,e1⟩:=a_ (R:=R) (m:=8) hp (by decide) (by decide);walk_at"mx";erw[e1];by_cases ha:a=0
 ·rw[NQ ha];obtain⟨b,o2,b0,b1,hp2,e2⟩:=a_ (R:=R) (m:=19) hp1 (by decide) (by decide);walk_at"mx";erw[e2];exact⟨b-9,o2,by omega,hp2,by rw[cO,cB]⟩
 ·rw[gV ha];obtain⟨b,o2,b0,b1,hp2,e2⟩:=a_ (R:=R) (m:=(wss.length:Int)) hp1 ⋯ ⋯;unfold cg;walk_at"mx";erw[tv,e2];have hb:b.toNat<wss.length:=by omega
  have hat:atI (wss.map aF) b=some (aF wss[b.toNat]):=by
   obtain⟨k,rfl⟩:=RN b0;exact cP (by rw[Ow,NV (by simpa using hb)];rfl)
  have gw:=g.all _ (PM hb);generalize wss[b.toNat]=ws at hat gw;have w0:=gw.pos;have w1:=gw.le;erw[aX hat];obtain⟨c,o3,c0,c1,hp3,e3⟩:=a_ (R:=R) (m:=(ws.length:Int)) hp2 ⋯ ⋯;erw[show aF ws=.tup (ws.map D.int)from rfl];erw[tv,e3];obtain⟨v,ev,_⟩:=d7 (ns:=ws) (i:=c) c0 c1;rw[aX ev];obtain⟨d,o4,d0,d1,hp4,e4⟩:=a_ (R:=R) (m:=5) hp3 (by decide) (by decide);walk_at"mx";erw[e4];obtain⟨u,eu,_⟩:=d7 (ns:=[0,0,0,1,-1]) (i:=d) d0 (by simpa using d1);erw[cb (show atI [D.int 0,D.int 0,D.int 0,D.int 1,D.int (-1)] d=some (.int u)from eu)];refine⟨_,o4,?_,hp4,by rw[cO,cB]⟩;split<;>split at *<;>omega
abbrev Tri:=Int×Int×Int
def bC(t:Tri):D:=.tup [.int t.1,.int t.2.1,.int t.2.2]
structure Fx(bs:List Tri):Prop where
 le:bs.length<=4
 rise:(bs.map (·.1)).Pairwise (· <·)
 lim:∀b∈bs,(-9<=b.1/\b.1<=9)/\0<=b.2.1/\b.2.1<=b.2.2/\b.2.2<=4
theorem A9{o:Ob}{R:Sto}{wss:List (List Int)}{n m:Int}(hp:Pen o)(g:lK n m wss)(hn:n<=50)(hm:m<=50):∃(bs:List Tri)(o':Ob),Fx bs/\Pen o'/\jO [.r 0,.d (cg wss)] (o::R)=.ok (.d (.tup (bs.map bC))) (o'::R):=by
 unfold jO;rw[eh];unfold qE;walk_at"mx";obtain⟨a,o1,a0,a1,hp1,e1⟩:=a_ (R:=R++[.lst []]) (m:=5) hp (by decide) (by decide);obtain⟨τ',S',e2,o2,ws,x3,x4,hp2,rfl,rfl,nd,lim,le⟩:=fS (show _=qF [some (.r 0),some (.d (cg wss)),some (.r (R.length+1)),none,none,none,none] (o::(R++[.lst []]))from rfl)
  (S1:=o1::(R++[.lst []])) (gd:=none) (items:=(NY a.toNat).map λi=>Vl.d (.int (i:Nat))) (by
   walk_at"mx";rw[e1];walk_at"mm")
  (λi τ S=>∃(o':Ob)(ws:List Int)(x3 x4:Option Vl),Pen o'/\τ=[some (.r 0),some (.d (cg wss)),some (.r (R.length+1)),x3,x4,none,none]/\S=o'::(R++[.lst (ws.map D.int)])/\ws.Nodup/\(∀w∈ws,-9<=w/\w<=9)/\ws.length<=i) ⟨o1,[],none,none,hp1,rfl,rfl,Qz,λ_ h=>(by cases h),NW 0⟩ (by
   rintro i z τ S hz ⟨o',ws,x3,x4,hp',rfl,rfl,nd,lim,le⟩;obtain⟨hi,rfl⟩:=i_ hz;obtain⟨w,o3,hw,hp3,e3⟩:=yS (R:=R++[.lst (ws.map D.int)]) hp' g hn hm;by_cases hin:w∈ws
   ·refine⟨_,_,.nx,_,_,by walk_at"mx";rfl,by
     walk_at"mx";erw[e3];erw[w_ (ns:=ws) ka,NQ hin];rfl,.inl rfl,True.intro,o3,ws,_,_,hp3,rfl,rfl,nd,lim,by omega⟩
   ·refine⟨_,_,.nx,_,_,by walk_at"mx";rfl,by
     walk_at"mx";erw[e3];erw[w_ (ns:=ws) ka,gV hin];erw[jX (by rw[tv];omega)];rfl,.inl rfl,True.intro,o3,ws++[w],_,_,hp3,rfl,by rw[fj],?_,?_,by simp;omega⟩
    ·exact RY.mpr ⟨nd,by simp,λx hx y hy=>by rw[N6.mp hy];exactλe=>hin (e▸hx)⟩
    ·intro x hx;rcases Oz.mp hx with q |q
     ·exact lim x q
     ·rw[N6.mp q];exact hw)
 rw[i8]at le;erw[e2];obtain⟨τ',S',e3,o3,bs,x4',x6,hp3,rfl,rfl,hb1,hb2⟩:=fS (show _=qD [some (.r 0),some (.d (cg wss)),some (.r (R.length+1)),x3,x4,some (.r ((R++[Ob.lst (ws.map D.int)]).length+1)),none] (o2::(R++[Ob.lst (ws.map D.int)]++[Ob.lst []]))from rfl)
  (S1:=o2::(R++[Ob.lst (ws.map D.int)]++[Ob.lst []])) (gd:=none) (items:=((sortI ws).map D.int).map Vl.d) (by
   walk_at"mx";rw[yF (ns:=ws) (by simp) ⋯];walk_at"mx")
  (λi τ S=>∃(o':Ob)(bs:List Tri)(x4 x6:Option Vl),Pen o'/\τ=[some (.r 0),some (.d (cg wss)),some (.r (R.length+1)),x3,x4,some (.r ((R++[Ob.lst (ws.map D.int)]).length+1)),x6]/\S=o'::(R++[Ob.lst (ws.map D.int)]++[Ob.lst (bs.map bC)])/\bs.map (·.1)=(sortI ws).take i/\∀b∈bs,0<=b.2.1/\b.2.1<=b.2.2/\b.2.2<=4) ⟨o2,[],x4,none,hp2,rfl,rfl,rfl,λ_ h=>(by cases h)⟩ (by
   rintro i z τ S hz ⟨o',bs,x4,x6,hp',rfl,rfl,hb1,hb2⟩;obtain⟨w,ew,rfl⟩:=ints_get hz;have hi:=(NZ.mp ew).1;rw[jo]at hi;have hlb:bs.length<=4:=by
    have:=OZ R0 hb1;simp only[tv,OL,jo]at this;omega
   generalize hR:R++[Ob.lst (ws.map D.int)]=R';obtain⟨b,o3,b0,b1,hp3,e3⟩:=a_ (R:=R'++[.lst (bs.map bC)]) (m:=5) hp' (by decide) (by decide);obtain⟨c,o4,c0,c1,hp4,e4⟩:=a_ (R:=R'++[.lst (bs.map bC)]) (m:=6) hp3 (by decide) (by decide);obtain⟨d,o5,d0,d1,hp5,e5⟩:=a_ (R:=R'++[.lst (bs.map bC)]) (m:=5) hp4 (by decide) (by decide);obtain⟨e,o6,f0,f1,hp6,e6⟩:=a_ (R:=R'++[.lst (bs.map bC)]) (m:=5) hp5 (by decide) (by decide);obtain⟨low,el,ml⟩:=d7 (ns:=[0,0,1,1,2,b]) (i:=c) c0 (by simpa using c1);obtain⟨up,eu,mu⟩:=d7 (ns:=[0,0,1,4,d]) (i:=e) f0 (by simpa using f1);have hlow:0<=low/\low<=4:=by
    simp only[NU,Oj,O6]at ml;omega
   have hup:0<=up:=by
    simp only[NU,Oj,O6]at mu;omega
   refine⟨_,_,.nx,_,_,by walk_at"mx";rfl,by
    walk_at"mx";erw[e3];erw[e4];erw[cb (show atI [D.int 0,D.int 0,D.int 1,D.int 1,D.int 2,D.int b] c=some (.int low)from el)];erw[e5];erw[e6];erw[cb (show atI [D.int 0,D.int 0,D.int 1,D.int 4,D.int d] e=some (.int up)from eu)];erw[jX (by rw[tv];omega)];rfl,.inl rfl,True.intro,o6,bs++[(w,low,if low+up<4 then low+up else 4)],some (.d (.int w)),some (.d (.int low)),hp6,rfl,by rw[fj];rfl,?_,?_⟩
   ·rw[fj,hb1,take_snoc ew]
   ·intro x hx;rcases Oz.mp hx with q |q
    ·exact hb2 x q
    ·rw[N6.mp q];refine⟨hlow.1,?_,?_⟩<;>dsimp only<;>split<;>omega)
 erw[e3];rw[show((List.map D.int (sortI ws)).map Vl.d).length=(sortI ws).length by simp,Rc]at hb1;erw[show cH [.r ((R++[Ob.lst (ws.map D.int)]).length+1)] (o3::(R++[Ob.lst (ws.map D.int)]++[Ob.lst (bs.map bC)]))=.ok (.d (.tup (bs.map bC))) (o3::(R++[Ob.lst (ws.map D.int)]++[Ob.lst (bs.map bC)]))from Cn (by simp)];refine⟨bs,o3,⟨?_,?_,?_⟩,hp3,?_⟩
 ·have:=OZ R0 hb1;simp only[tv,jo]at this;omega
 ·rw[hb1];exact wm nd
 ·intro b hb;refine⟨lim b.1 ?_,hb2 b hb⟩;rw[<-uu,<-hb1];exact Of.mpr ⟨b,hb,rfl⟩
 ·rw[cO];simp
structure Fq(ds:List Tri):Prop where
 le:ds.length<=12
 nd:ds.Nodup
 lim:∀d∈ds,(0<=d.1/\d.1<=3)/\(-9<=d.2.1/\d.2.1<=9)/\0<=d.2.2/\d.2.2<=3
theorem GR(a b:Tri):D.eqv (bC a) (bC b)=decide (a=b):=by
 obtain⟨a1,a2,a3⟩:=a;obtain⟨b1,b2,b3⟩:=b;simp only[bC,D.eqv,D.cJ,WQ];rw[OW];simp only[N3,O_,PX,Prod.mk.injEq]
theorem n4:∀ds:List Tri,D.bY (ds.map bC)<=1
 | []=>by simp[D.bY]
 |d::ds=>by
  have:=n4 ds;rw[N4,D.bY,show D.depth (bC d)=1 from rfl];omega
theorem GS(z:Tri)(ds:List Tri):inD (bC z) (ds.map bC)=decide (z∈ds):=by
 unfold inD;rw[Vc,OW,R9,PX];constructor
 ·rintro⟨x,hx,e⟩;have e':D.eqv (bC x) (bC z)=true:=e;rw[GR,PX]at e';rw[<-e'];exact hx
 ·intro h;exact⟨z,h,by show D.eqv (bC z) (bC z)=true;exact D.eqv_refl _⟩
theorem Cj{ds:List Tri}(e:S[n]?=some (.lst (ds.map bC))):iW (.d (bC z)) (.r n) S=.ok (.d (.bl (!decide (z∈ds)))) S:=by
 have hd:=n4 ds;unfold iW inX;dsimp only;rw[vn e];dsimp only;rw[show D.flat (bC z)=false from rfl,N1 (by simp),AL e];dsimp only;rw[NT ⋯,GS]
theorem DA{o:Ob}{R:Sto}{wss:List (List Int)}{n m:Int}(hp:Pen o)(g:lK n m wss)(hn:n<=50)(hm:m<=50):∃(ds:List Tri)(o':Ob),Fq ds/\Pen o'/\lW [.r 0,.d (cg wss)] (o::R)=.ok (.d (.tup (ds.map bC))) (o'::R):=by
 unfold lW;rw[eh];unfold sh;obtain⟨s,o0,s0,s1,hp0,e0⟩:=a_ (R:=R) (m:=3) hp (by decide) (by decide);walk_at"mx";erw[e0];obtain⟨a,o1,a0,a1,hp1,e1⟩:=a_ (R:=R++[.lst []]) (m:=13) hp0 (by decide) (by decide);obtain⟨τ',S',e2,o2,ds,x4,x5,x6,hp2,rfl,rfl,nd,lim,le⟩:=fS (show _=rO [some (.r 0),some (.d (cg wss)),some (.d (.int (2+s))),some (.r (R.length+1)),none,none,none] (o0::(R++[.lst []]))from rfl)
  (S1:=o1::(R++[.lst []])) (gd:=none) (items:=(NY a.toNat).map λi=>Vl.d (.int (i:Nat))) (by
   walk_at"mx";rw[e1];walk_at"mm")
  (λi τ S=>∃(o':Ob)(ds:List Tri)(x4 x5 x6:Option Vl),Pen o'/\τ=[some (.r 0),some (.d (cg wss)),some (.d (.int (2+s))),some (.r (R.length+1)),x4,x5,x6]/\S=o'::(R++[.lst (ds.map bC)])/\ds.Nodup/\(∀d∈ds,(0<=d.1/\d.1<=3)/\(-9<=d.2.1/\d.2.1<=9)/\0<=d.2.2/\d.2.2<=3)/\ds.length<=i) ⟨o1,[],none,none,none,hp1,rfl,rfl,Qz,λ_ h=>(by cases h),NW 0⟩ (by
   rintro i z τ S hz ⟨o',ds,x4,x5,x6,hp',rfl,rfl,nd,lim,le⟩;obtain⟨hi,rfl⟩:=i_ hz;obtain⟨q,o3,q0,q1,hp3,e3⟩:=a_ (R:=R++[.lst (ds.map bC)]) (m:=2+s) hp' ⋯ ⋯;obtain⟨w,o4,hw,hp4,e4⟩:=yS (R:=R++[.lst (ds.map bC)]) hp3 g hn hm;obtain⟨b,o5,b0,b1,hp5,e5⟩:=a_ (R:=R++[.lst (ds.map bC)]) (m:=2+s) hp4 ⋯ ⋯;obtain⟨c,o6,c0,c1,hp6,e6⟩:=a_ (R:=R++[.lst (ds.map bC)]) (m:=2) hp5 (by decide) (by decide);have hq0:0<=(q+1) % (2+s):=Qm _ ⋯;have hq1:(q+1) % (2+s)<2+s:=P_ _ ⋯;obtain⟨p,ep,mp⟩:=d7 (ns:=[b,(q+1) % (2+s)]) (i:=c) c0 (by simpa using c1);have hp3':0<=p/\p<=3:=by
    simp only[NU,Oj,O6]at mp;omega
   have pre:∀(k:XS),True:=λ_=>True.intro;by_cases hin:((q,w,p):Tri)∈ds
   ·refine⟨_,_,.nx,_,_,by walk_at"mx";rfl,by
     walk_at"mx";erw[e3];erw[e4];rw[e5];walk_at"mm";erw[e6];erw[cb (show atI [D.int b,D.int ((q+1) % (2+s))] c=some (.int p)from ep)];erw[show D.tup [D.int q,D.int w,D.int p]=bC (q,w,p)from rfl,Cj (ds:=ds) ka,NQ hin];rfl,.inl rfl,True.intro,o6,ds,_,_,_,hp6,rfl,rfl,nd,lim,by omega⟩
   ·refine⟨_,_,.nx,_,_,by walk_at"mx";rfl,by
     walk_at"mx";erw[e3];erw[e4];rw[e5];walk_at"mm";erw[e6];erw[cb (show atI [D.int b,D.int ((q+1) % (2+s))] c=some (.int p)from ep)];erw[show D.tup [D.int q,D.int w,D.int p]=bC (q,w,p)from rfl,Cj (ds:=ds) ka,gV hin];erw[jX (by rw[tv];omega)];rfl,.inl rfl,True.intro,o6,ds++[(q,w,p)],_,_,_,hp6,rfl,by rw[fj],?_,?_,by simp;omega⟩
    ·exact RY.mpr ⟨nd,by simp,λx hx y hy=>by rw[N6.mp hy];exactλe=>hin (e▸hx)⟩
    ·intro x hx;rcases Oz.mp hx with z |z
     ·exact lim x z
     ·rw[N6.mp z];exact⟨by dsimp only;omega,hw,hp3'⟩)
 rw[i8]at le;erw[e2];erw[Cn (xs:=ds.map bC) (by simp)];refine⟨ds,o2,⟨by omega,nd,lim⟩,hp2,?_⟩;rw[cO];simp
inductive Wi where
 |unl (ns:List Int) |man (ns:List Int) (bs:List Tri) |sum (ns ws:List Int) (lo hi:Int) |row (ns:List Int) (ds:List Tri) (es:List Int) |han (ns ls:List Int)
def Wi.names:Wi->List Int
 | .unl ns=>ns
 | .man ns _=>ns
 | .sum ns _ _ _=>ns
 | .row ns _ _=>ns
 | .han ns _=>ns
def wiD:Wi->D
 | .unl ns=>.tup [.str "unlike",aF ns]
 | .man ns bs=>.tup [.str "many",aF ns,.tup (bs.map bC)]
 | .sum ns ws lo hi=>.tup [.str "sum",aF ns,aF ws,.int lo,.int hi]
 | .row ns ds es=>.tup [.str "row",aF ns,.tup (ds.map bC),aF es]
 | .han ns ls=>.tup [.str "hand",aF ns,aF ls]
def xS(k:Nat):Wi->Prop
 | .unl ns=>jZ k ns
 | .man ns bs=>jZ k ns/\Fx bs
 | .sum ns ws lo hi=>jZ k ns/\ws.length=ns.length/\(∀w∈ws,-3<=w/\w<=3)/\(-99<=lo/\lo<=hi/\hi<=99)
 | .row ns ds es=>jZ k ns/\Fq ds/\es.Pairwise (· <·)/\(∀e∈es,0<=e/\e<=3)/\es.length<=4
 | .han ns ls=>jZ k ns/\ls.length=ns.length/\∀l∈ls,1<=l/\l<=4
def Wi.kind:Wi->Int
 | .unl _=>0
 | .man _ _=>1
 | .sum _ _ _ _=>2
 | .row _ _ _=>3
 | .han _ _=>4
theorem Ek{wss:List (List Int)}{p:Int}(h0:0<=p)(h1:p<wss.length):atI (wss.map aF) p=some (aF (wss.getD p.toNat [])):=by
 obtain⟨k,rfl⟩:=RN h0;have hk:k<wss.length:=by omega
 exact cP (by rw[Ow,NV hk,OQ,N8,NV hk];rfl)
theorem Bs{wss:List (List Int)}{p:Int}(h0:0<=p)(h1:p<wss.length):wss.getD p.toNat []∈wss:=by
 have hk:p.toNat<wss.length:=by omega
 rw[N8,NV hk];exact PM hk
theorem Ea{xs ys:List Int}{i:Nat}{z:Vl}(h:(eE (xs.map D.int) (ys.map D.int))[i]?=some z):∃x y,xs[i]?=some x/\ys[i]?=some y/\z=.d (.tup [.int x,.int y]):=by
 obtain⟨a,b,e1,e2,rfl⟩:=kx h;rw[Ow]at e1 e2;cases q1:xs[i]? with
 |none=>rw[q1]at e1;cases e1
 |some x=>
  cases q2:ys[i]? with
  |none=>rw[q2]at e2;cases e2
  |some y=>
   rw[q1]at e1;rw[q2]at e2;cases e1;cases e2;exact⟨x,y,rfl,rfl,rfl⟩
theorem F_{o:Ob}{R:Sto}{wss:List (List Int)}{n m kind:Int}(hp:Pen o)(g:lK n m wss)(hn:n<=50)(hm:m<=50)(k0:0<=kind)(k1:kind<5):∃(wi:Wi)(o':Ob),xS wss.length wi/\wi.kind=kind/\Pen o'/\je [.r 0,.d (cg wss),.d (.int kind)] (o::R)=.ok (.d (wiD wi)) (o'::R):=by
 have g0:=g.pos;have g1:=g.le;obtain⟨ns,o1,gn,hp1,e1⟩:=u9 (R:=R) (wss:=wss) hp g0 ⋯;have gl:=gn.le;unfold je;rw[mK];unfold oP;walk_at"mx";erw[e1];by_cases h0:kind=0
 ·erw[NQ h0];exact⟨.unl ns,o1,gn,h0.symm,hp1,by rw[cO,cB];rfl⟩
 erw[gV h0];by_cases h1:kind=1
 ·erw[NQ h1];obtain⟨bs,o2,gb,hp2,e2⟩:=A9 (R:=R) hp1 g hn hm;erw[e2];exact⟨.man ns bs,o2,⟨gn,gb⟩,h1.symm,hp2,by rw[cO,cB];rfl⟩
 erw[gV h1];by_cases h2:kind=2
 ·erw[NQ h2];obtain⟨acc,Q,e4,hl,o3,ws,hp3,rfl,rfl,hw,hlim⟩:=pq (show _=pR [some (.r 0),some (.d (cg wss)),some (.d (.int kind)),some (.d (aF ns)),none,none,none,none,none,none,none] (o1::R)from rfl) (S1:=o1::R) (items:=(ns.map D.int).map Vl.d) (by unfold aF;walk_at"mx")
   (λi acc Q=>∃(o':Ob)(ws:List Int),Pen o'/\acc=ws.map D.int/\Q=o'::R/\ws.length=i/\∀w∈ws,-3<=w/\w<=3) ⟨o1,[],hp1,rfl,rfl,rfl,λ_ h=>by cases h⟩ (by
    rintro i z acc Q hz ⟨o',ws,hp',rfl,rfl,hw,hlim⟩ _;obtain⟨c,o3,c0,c1,hp3,e3⟩:=a_ (R:=R++[.lst (ws.map D.int)]) (m:=7) hp' (by decide) (by decide);refine⟨.int (c-3),o3::R,?_,rfl,o3,ws++[c-3],hp3,fj.symm,rfl,by simp[hw],λw hw=>?_⟩
    ·walk_at"mx";erw[e3]
    ·rcases Oz.mp hw with q |q
     ·exact hlim w q
     ·rw[N6.mp q];omega)
  have hw':ws.length=ns.length:=by simpa using hw
  erw[e4];obtain⟨τ',S',e5,o5,tot,x6,x7,hp5,rfl,rfl⟩:=fS (show _=pT [some (.r 0),some (.d (cg wss)),some (.d (.int kind)),some (.d (aF ns)),some (.d (.tup (ws.map D.int))),some (.d (.int 0)),none,none,none,none,none] (o3::R)from rfl)
   (S1:=o3::R) (gd:=none) (items:=eE (ns.map D.int) (ws.map D.int)) (by unfold aF;walk_at"mx")
   (λi τ S=>∃(o':Ob)(tot:Int)(x6 x7:Option Vl),Pen o'/\τ=[some (.r 0),some (.d (cg wss)),some (.d (.int kind)),some (.d (aF ns)),some (.d (.tup (ws.map D.int))),some (.d (.int tot)),x6,x7,none,none,none]/\S=o'::R) ⟨o3,0,none,none,hp3,rfl,rfl⟩ (by
    rintro i z τ S hz ⟨o',tot,x6,x7,hp',rfl,rfl⟩;obtain⟨nm,wt,en,ew,rfl⟩:=Ea hz;obtain⟨p0,p1⟩:=gn.dom nm (OE en);have gw:=g.all _ (Bs p0 p1);have hat:=Ek p0 p1;generalize wss.getD nm.toNat []=vs at gw hat;have w0:=gw.pos;have w1:=gw.le;obtain⟨c,o4,c0,c1,hp4,e4⟩:=a_ (R:=R) (m:=(vs.length:Int)) hp' ⋯ ⋯;obtain⟨v,ev,mv⟩:=d7 (ns:=vs) (i:=c) c0 c1;have lv:=gw.lim v mv;refine⟨_,_,.nx,_,_,by walk_at"mx";rfl,by
     walk_at"mx";unfold cg;erw[aX hat];erw[aX hat,show aF vs=.tup (vs.map D.int)from rfl];erw[tv,e4];erw[aX ev];erw[FT (Fp ⋯ ⋯)];rfl,.inl rfl,True.intro,o4,_,_,_,hp4,rfl,rfl⟩)
  erw[e5];obtain⟨a,oa,a0,a1,hpa,ea⟩:=a_ (R:=R) (m:=5) hp5 (by decide) (by decide);obtain⟨u,eu,_⟩:=d7 (ns:=[0,0,1,-4,9]) (i:=a) a0 (by simpa using a1);erw[ea];erw[cb (show atI [D.int 0,D.int 0,D.int 1,D.int (-4),D.int 9] a=some (.int u)from eu)];generalize hlo:(if(if tot+u<99 then tot+u else 99) > -99 then(if tot+u<99 then tot+u else 99)else -99)=lo;have blo:-99<=lo/\lo<=99:=by
   rw[<-hlo];split<;>split at *<;>omega
  obtain⟨b,ob,b0,b1,hpb,eb⟩:=a_ (R:=R) (m:=5) hpa (by decide) (by decide);obtain⟨v,ev,mv⟩:=d7 (ns:=[0,0,1,2,7]) (i:=b) b0 (by simpa using b1);have hv:0<=v:=by
   simp only[NU,Oj,O6]at mv;omega
  erw[eb];erw[cb (show atI [D.int 0,D.int 0,D.int 1,D.int 2,D.int 7] b=some (.int v)from ev)];generalize hhi:(if lo+v<99 then lo+v else 99)=hi;have bhi:lo<=hi/\hi<=99:=by
   rw[<-hhi];split<;>omega
  obtain⟨c,oc,c0,c1,hpc,ec⟩:=a_ (R:=R) (m:=6) hpb (by decide) (by decide);erw[ec];by_cases hc:c=0
  ·erw[NQ hc];obtain⟨d,od,d0,d1,hpd,ed⟩:=a_ (R:=R) (m:=199) hpc (by decide) (by decide);erw[ed];obtain⟨e,oe,f0,f1,hpe,ee⟩:=a_ (R:=R) (m:=100-(d-99)) hpd ⋯ ⋯;erw[ee];exact⟨.sum ns ws (d-99) (d-99+e),oe,⟨gn,hw',hlim,by omega⟩,h2.symm,hpe,by rw[cO,cB];rfl⟩
  ·erw[gV hc];exact⟨.sum ns ws lo hi,oc,⟨gn,hw',hlim,by omega⟩,h2.symm,hpc,by rw[cO,cB];rfl⟩
 erw[gV h2];by_cases h3:kind=3
 ·erw[NQ h3];obtain⟨acc,Q,e4,hl,o3,es,hp3,rfl,rfl,hr,hlim,hle⟩:=Fc (show _=pz [some (.r 0),some (.d (cg wss)),some (.d (.int kind)),some (.d (aF ns)),none,none,none,none,none,none,none] (o1::R)from rfl) (S1:=o1::R) (items:=(NY 4).map λi=>Vl.d (.int (i:Nat))) (by walk_at"mm";rfl)
   (λi acc Q=>∃(o':Ob)(es:List Int),Pen o'/\acc=es.map D.int/\Q=o'::R/\es.Pairwise (· <·)/\(∀e∈es,0<=e/\e<i)/\es.length<=i) ⟨o1,[],hp1,rfl,rfl,.nil,λ_ h=>(by cases h),NW 0⟩ (by
    rintro i z acc Q hz ⟨o',es,hp',rfl,rfl,hr,hlim,hle⟩ _;obtain⟨hi,rfl⟩:=i_ hz;obtain⟨c,o3,c0,c1,hp3,e3⟩:=a_ (R:=R++[.lst (es.map D.int)]) (m:=3) hp' (by decide) (by decide);refine⟨decide (c=0),o3::R,?_,rfl,λ_=>⟨.int i,o3::R,by walk_at"mx",rfl,o3,es++[(i:Int)],hp3,fj.symm,rfl,?_,?_,by simp;omega⟩,λ_=>⟨o3,es,hp3,rfl,rfl,hr,λe he=>by have:=hlim e he;omega,by omega⟩⟩
    ·walk_at"mx";erw[e3]
    ·refine Sm.mpr ⟨hr,by simp,λx hx y hy=>?_⟩;rw[N6.mp hy];exact(hlim x hx).2
    ·intro e he;rcases Oz.mp he with q |q
     ·have:=hlim e q;omega
     ·rw[N6.mp q];omega)
  rw[i8]at hlim hle;erw[e4];obtain⟨ds,o5,gd,hp5,e5⟩:=DA (R:=R) hp3 g hn hm;erw[e5];exact⟨.row ns ds es,o5,⟨gn,gd,hr,λe he=>by have:=hlim e he;omega,hle⟩,h3.symm,hp5,by rw[cO,cB];rfl⟩
 erw[gV h3];obtain⟨acc,Q,e4,hl,o3,ls,hp3,rfl,rfl,hw,hlim⟩:=pq (show _=pW [some (.r 0),some (.d (cg wss)),some (.d (.int kind)),some (.d (aF ns)),none,none,none,none,none,none,none] (o1::R)from rfl) (S1:=o1::R) (items:=(ns.map D.int).map Vl.d) (by unfold aF;walk_at"mx")
  (λi acc Q=>∃(o':Ob)(ls:List Int),Pen o'/\acc=ls.map D.int/\Q=o'::R/\ls.length=i/\∀l∈ls,1<=l/\l<=4) ⟨o1,[],hp1,rfl,rfl,rfl,λ_ h=>by cases h⟩ (by
   rintro i z acc Q hz ⟨o',ls,hp',rfl,rfl,hw,hlim⟩ _;obtain⟨b,o2,b0,b1,hp2,e2⟩:=a_ (R:=R++[.lst (ls.map D.int)]) (m:=2) hp' (by decide) (by decide);obtain⟨u,eu,mu⟩:=d7 (ns:=[4,2]) (i:=b) b0 (by simpa using b1);have hu:2<=u/\u<=4:=by
    simp only[NU,Oj,O6]at mu;omega
   obtain⟨c,o3,c0,c1,hp3,e3⟩:=a_ (R:=R++[.lst (ls.map D.int)]) (m:=u) hp2 ⋯ ⋯;refine⟨.int (1+c),o3::R,?_,rfl,o3,ls++[1+c],hp3,fj.symm,rfl,by simp[hw],λl hl=>?_⟩
   ·walk_at"mx";erw[e2];erw[cb (show atI [D.int 4,D.int 2] b=some (.int u)from eu)];erw[e3]
   ·rcases Oz.mp hl with q |q
    ·exact hlim l q
    ·rw[N6.mp q];omega)
 have hw':ls.length=ns.length:=by simpa using hw
 erw[e4];exact⟨.han ns ls,o3,⟨gn,hw',hlim⟩,(by show(4:Int)=kind;omega),hp3,by rw[cO,cB];rfl⟩
theorem eQ:isT "tuple" (.tup xs)=true:=rfl
theorem G_{ns:List Int}(h:∀k,k+1<ns.length->ns.getD k 0<ns.getD (k+1) 0):ns.Pairwise (· <·):=by
 rw[Qa];have key:∀d i,(hd:i+d+1<ns.length)->ns.getD i 0<ns.getD (i+d+1) 0:=by
  intro d
  induction d with
  |zero=>intro i hd;exact h i hd
  |succ d ih=>
   intro i hd;have a:=ih i ⋯;have b:=h (i+d+1) ⋯;rw[show i+(d+1)+1=i+d+1+1 by omega];omega
 intro i j hi hj hij;have:=key (j-i-1) i ⋯;rw[show i+(j-i-1)+1=j by omega,N8,N8,NV hi,NV hj]at this;simpa using this
theorem GB{ns:List Int}(h:ns.Pairwise (· <·))(hk:k+1<ns.length):ns.getD k 0<ns.getD (k+1) 0:=by
 rw[Qa]at h;have:=h k (k+1) ⋯ hk ⋯;rw[N8,N8,NV hk,NV ⋯];simpa using this
theorem xm{ns:List Int}:((NY (ns.length-1)).all λk=>decide (ns.getD k 0<ns.getD (k+1) 0))=decide (ns.Pairwise (· <·)):=by
 rw[OW,Oi,decide_eq_true_iff];constructor
 ·intro h;exact G_ λk hk=>by simpa using h k (Ol.mpr ⋯)
 ·intro h k hk;have:=Ol.mp hk;exact NQ (GB h ⋯)
def nbL(ns:List Int):Vl->D
 | .d (.int j)=>.bl (decide (ns.getD (j.toNat-1) 0<ns.getD j.toNat 0))
 |_=>.non
theorem zZ{ns:List Int}(h:i<ns.length):atI (ns.map D.int) (i:Int)=some (.int (ns.getD i 0)):=cP (by rw[Ow,NV h,N8,NV h];rfl)
theorem oy{ns:List Int}(h:ns.length<=1000):dB [.d (aF ns)] S=.ok (.d (.bl (decide (ns.Pairwise (· <·))))) S:=by
 unfold dB;rw[ba];unfold jw aF;walk_at"mx";have key:fz [some (.d (.tup (ns.map D.int)))] S=.ok (.d (.lst ((NY (ns.length-1)).map λk=>.bl (decide (ns.getD k 0<ns.getD (k+1) 0))))) S:=by
  unfold fz;rw[gF (items:=(NY ((ns.length:Int)-1).toNat).map λk=>Vl.d (.int (1+(k:Nat)))) (S1:=S) (by walk_at"mx";rw[tv,vE ⋯]) (nbL ns) (by
   intro z hz S;obtain⟨k,hk,rfl⟩:=Of.mp hz;have hk:=Ol.mp hk;walk_at"mx";erw[show(1:Int)+(k:Nat)-1=(k:Nat) by omega,show(1:Int)+(k:Nat)=((k+1:Nat):Int) by omega,aX (zZ ⋯)];erw[aX (zZ ⋯)];rfl)]
  rw[Ov,show((ns.length:Int)-1).toNat=ns.length-1 by omega];congr 3;refine Sy λk hk=>?_;show nbL ns (.d (.int (1+(k:Nat))))=_;rw[show(1:Int)+(k:Nat)=((k+1:Nat):Int) by omega];rfl
 erw[key];erw[jm,xm];rw[ak]
def cX1(F:XF)(r:R (List Vl)):R Vl:=r.bind λus S1=>F us S1
theorem iY:eg F as τ S=cX1 F (as τ S):=bp rfl
theorem qt:cX1 F (.ok us S)=F us S:=bp rfl
def rz1(c:Str)(r:R Vl):R (Fl×Nv):=r.bind λ_ S1=>.ex c [] S1
theorem i5:kB c a τ S=rz1 c (a τ S):=bp rfl
theorem p_:rz1 c (.ok z S)=.ex c [] S:=bp rfl
theorem qa:sq1 (.ex c xs S) b=.ex c xs S:=bp rfl
theorem nc:as1 (.ex c xs S) g τ=.ex c xs S:=bp rfl
theorem j6:leave S (.ex c xs S)=.ex c xs S:=by
 show R.ex c xs (S.take S.length)=_;rw[Rc]
def tq1(cs:List Str)(len iy:Nat)(r:R (Fl×Nv)):R (Fl×Nv):=match r with
 | .ok q S'=>.ok q S'
 | .ex c xs S'=>if c∈cs then .ok (.nx,(N_ len none).set iy (some (.xc c xs))) S' else .bad
 | .bad=>.bad
theorem mG:vL cs len iy m τ S=tq1 cs len iy (m τ S):=bp rfl
theorem qc:tq1 cs len iy (.ok q S)=.ok q S:=bp rfl
theorem E4(h:c∈cs):tq1 cs len iy (.ex c xs S)=.ok (.nx,(N_ len none).set iy (some (.xc c xs))) S:=NT h
def iz:D->Bool
 | .int _=>true
 |_=>false
def inB(lo hi:Int):D->Bool
 | .int n=>decide (lo<=n)&&decide (n<=hi)
 |_=>false
def intOf:D->Int
 | .int n=>n
 |_=>0
theorem FF:bT (xUn (cL "int") (ae 0)) (sA (xUn (cL "bool") (ae 0))) [some (.d d)] S=.ok (.d (.bl (iz d))) S:=by
  walk_at"mx";cases d<;>first
    |(rw[show∀b,isT "int" (.bl b)=true fromλ_=>rfl];walk_at"mx";rw[show∀b,isT "bool" (.bl b)=true fromλ_=>rfl];rfl)
    |(rw[show∀b,isT "int" (.int b)=true fromλ_=>rfl];walk_at"mx";rw[show∀b,isT "bool" (.int b)=false fromλ_=>rfl];rfl)
    |rfl
theorem GY:jT [.d d] S=.ok (.d (.bl (iz d))) S:=by
 unfold jT;rw[ba];unfold qL;rw[v9];erw[show([some (Vl.d d)]++N_ (1-1) none:Nv)=[some (.d d)]from rfl,FF];rw[ak]
theorem xI:fV [.d d] S=.ok (.d (.bl (iz d))) S:=by
 unfold fV;rw[ba];unfold oC;rw[v9];erw[show([some (Vl.d d)]++N_ (1-1) none:Nv)=[some (.d d)]from rfl,FF];rw[ak]
theorem gP:cX [.d d,.d (.int lo),.d (.int hi)] S=.ok (.d (.bl (inB lo hi d))) S:=by
 unfold cX;rw[mK];unfold p7;walk_at"mx";rw[GY];cases d with
 |int n=>
  erw[show iz (.int n)=true from rfl];show _=R.ok (Vl.d (D.bl (decide (lo<=n)&&decide (n<=hi)))) S;by_cases h:lo<=n
  ·rw[NQ h];walk_at"mx";rw[ak,O1]
  ·rw[gV h];walk_at"mx";rw[ak,OM]
 |_=>(rw[show iz _=false from rfl];walk_at"mx";rw[ak];rfl)
theorem c7:isT "tuple" d=(match d with | .tup _=>true |_=>false):=by cases d<;>rfl
theorem pG:c8 [.d d,.d (.int lo),.d (.int hi)] S=.ok (.d (.bl (match d with | .tup xs=>xs.all (inB lo hi) |_=>false))) S:=by
 unfold c8;rw[mK];unfold oE;walk_at"mx";rw[c7];cases d with
 |tup xs=>
  dsimp only;walk_at"mx";rw[gQ (show _=oG [some (.d (.tup xs)),some (.d (.int lo)),some (.d (.int hi))] S from rfl) (xs:=xs) (S1:=S) (by walk_at"mx") (λd=>.bl (inB lo hi d)) (by
   intro x hx S;walk_at"mx";rw[gP];walk_at"mx")]
  walk_at"mx";erw[jm];rw[ak]
 |_=>(dsimp only;walk_at"mx";rw[ak])
theorem kh:∀{xs:List D},xs.all (inB lo hi)=true->∃ns:List Int,xs=ns.map D.int/\∀n∈ns,lo<=n/\n<=hi
 | [],_=>⟨[],rfl,by simp⟩
 |d::xs,h=>by
  rw[Pg,N3]at h;obtain⟨ns,rfl,hn⟩:=kh h.2;cases d with
  |int n=>
   have h1:(decide (lo<=n)&&decide (n<=hi))=true:=h.1;rw[N3]at h1;refine⟨n::ns,rfl,λm hm=>?_⟩;rcases NU.mp hm with e |e
   ·rw[e];exact⟨Oc h1.1,Oc h1.2⟩
   ·exact hn m e
  |_=>exact absurd h.1 (by simp[inB])
theorem ki{ns:List Int}:(ns.map D.int).map intOf=ns:=by
 rw[Ov];exact(Sy λ_ _=>rfl).trans (List.map_id ns)
def cq(lo hi:Int):D->Bool
 | .tup xs=>xs.all (inB lo hi)
 |_=>false
theorem nW:c8 [.d d,.d (.int lo),.d (.int hi)] S=.ok (.d (.bl (cq lo hi d))) S:=by
 rw[pG];cases d<;>rfl
theorem fE(h:cq lo hi d=true):∃ns:List Int,d=aF ns/\∀n∈ns,lo<=n/\n<=hi:=by
 cases d with
 |tup xs=>
  obtain⟨ns,rfl,hn⟩:=kh (show xs.all (inB lo hi)=true from h);exact⟨ns,rfl,hn⟩
 |_=>cases h
theorem yp:decide (((b_ ws).length:Int)=(ws.length:Int))=decide ws.Nodup:=by
 rw[P8];constructor
 ·intro h;have h:(b_ ws).length=ws.length:=by omega
  have key:∀{ws:List Int},(b_ ws).length=ws.length->ws.Nodup:=by
   intro ws
   induction ws with
   |nil=>intro _;exact Qz
   |cons a l ih=>
    intro h;have hm:=e_;rw[Pr];by_cases ha:a∈l
    ·have e:b_ l=b_ (a::l):=kJ (λz=>by rw[e_,NU];exact⟨.inr,λq=>q.elim (λe=>e▸ha) id⟩) (dJ l);rw[<-e]at h;have:=ji l;simp at h;omega
    ·refine⟨ha,ih ?_⟩;have e:=jV (ks:=a::b_ l) (ns:=a::l) (Pr.mpr ⟨λz=>ha ((e_ a l).mp z),(dJ l).imp (λh=>Int.ne_of_lt h)⟩) (λx=>by rw[NU,NU,e_]);simp only[N9]at e h;omega
  exact key h
 ·intro h;rw[<-jV h λ_=>Vf]
theorem EH(h:ns.length<=300):dN [.d (aF ns)] S=.ok (.d (.bl (decide ns.Nodup))) S:=by
 unfold dN;rw[ba];unfold jF;walk_at"mx";rw[yt (ns:=ns) rfl h];unfold aF;walk_at"mx";rw[tv,yp,ak]
def eA:D->Bool
 | .tup xs=>xs.all (inB 0 3)&&(decide (1<=(xs.length:Int))&&decide ((xs.length:Int)<=4)&&decide ((xs.map intOf).Nodup))
 |_=>false
theorem GW:jf [.d d] S=.ok (.d (.bl (eA d))) S:=by
 unfold jf;rw[ba];unfold pZ;walk_at"mx";rw[nW];cases d with
 |tup xs=>
  show _=R.ok (Vl.d (D.bl (xs.all (inB 0 3)&&_))) S;rw[show cq 0 3 (.tup xs)=xs.all (inB 0 3)from rfl];cases h:xs.all (inB 0 3)with
  |false=>walk_at"mx";rw[ak,OM]
  |true=>
   obtain⟨ns,rfl,hn⟩:=kh h;walk_at"mx";rw[ki,tv,O1];by_cases h1:(1:Int)<=(ns.length:Int)
   ·erw[NQ h1];by_cases h2:(ns.length:Int)<=4
    ·erw[NQ h2];erw[show D.tup (ns.map D.int)=aF ns from rfl,EH ⋯];rw[ak];rfl
    ·rw[gV h2];walk_at"mx";rw[ak];rfl
   ·rw[gV h1];walk_at"mx";rw[ak];rfl
 |_=>(rw[show cq 0 3 _=false from rfl];walk_at"mx";rw[ak];rfl)
def leB:D->D->Bool
 | .int a,.int b=>decide (a<=b)
 |_,_=>false
def fN(a b:D)(lo hi:Int):Bool:=inB lo hi a&&(inB lo hi b&&leB a b)
theorem AZ:jl [.d a,.d b,.d (.int lo),.d (.int hi)] S=.ok (.d (.bl (fN a b lo hi))) S:=by
 unfold jl fN;rw[Ky];unfold sI;walk_at"mx";rw[gP];cases h:inB lo hi a with
 |false=>walk_at"mx";rw[ak];rfl
 |true=>
  walk_at"mx";rw[gP];cases h2:inB lo hi b with
  |false=>walk_at"mx";rw[ak];rfl
  |true=>
   cases a with
   |int x=>
    cases b with
    |int y=>walk_at"mx";rw[ak];rfl
    |_=>cases h2
   |_=>cases h
def pC:D->Int
 | .tup (a::_)=>intOf a
 |_=>0
def iN:D->Bool
 | .tup [a,b,c]=>inB (-9) 9 a&&fN b c 0 4
 |_=>false
def kQ:D->Bool
 | .tup [a,b,c]=>inB 0 3 a&&(inB (-9) 9 b&&inB 0 3 c)
 |_=>false
theorem Kc(h:(xs.length:Int)=3):∃a b c,xs=[a,b,c]:=by
 match xs,h with
 | [a,b,c],_=>exact⟨a,b,c,rfl⟩
 | [],h=>simp at h
 | [_],h=>simp at h
 | [_,_],h=>simp at h
 |_::_::_::_::_,h=>simp at h;omega
theorem JI{xs:List D}{f:D->D->D->Bool}(h:¬(xs.length:Int)=3):(match D.tup xs with | .tup [a,b,c]=>f a b c |_=>false)=false:=by
 match xs,h with
 | [a,b,c],h=>exact absurd rfl h
 | [],_=>rfl
 | [_],_=>rfl
 | [_,_],_=>rfl
 |_::_::_::_::_,_=>rfl
theorem Hu:jP [.d d] S=.ok (.d (.bl (iN d))) S:=by
 unfold jP;rw[ba];unfold qC;erw[ck];rw[c7];cases d with
 |tup xs=>
  dsimp only;walk_at"mx";by_cases h:(xs.length:Int)=3
  ·rw[NQ h];obtain⟨a,b,c,rfl⟩:=Kc h;walk_at"mx";erw[aX (show atI [a,b,c] 0=some a from rfl)];rw[gP];show _=R.ok (Vl.d (D.bl (inB (-9) 9 a&&fN b c 0 4))) S;cases inB (-9) 9 a with
   |false=>walk_at"mx";rw[ak];rfl
   |true=>
    walk_at"mx";erw[aX (show atI [a,b,c] 1=some b from rfl)];erw[aX (show atI [a,b,c] 2=some c from rfl)];erw[AZ];rw[ak];rfl
  ·erw[gV h];rw[ak,show iN (.tup xs)=false from JI (f:=λa b c=>inB (-9) 9 a&&fN b c 0 4) h]
 |_=>(dsimp only;walk_at"mx";rw[ak];rfl)
theorem Ju:kZ [.d d] S=.ok (.d (.bl (kQ d))) S:=by
 unfold kZ;rw[ba];unfold sR;erw[ck];rw[c7];cases d with
 |tup xs=>
  dsimp only;walk_at"mx";by_cases h:(xs.length:Int)=3
  ·rw[NQ h];obtain⟨a,b,c,rfl⟩:=Kc h;walk_at"mx";erw[aX (show atI [a,b,c] 0=some a from rfl)];rw[gP];show _=R.ok (Vl.d (D.bl (inB 0 3 a&&(inB (-9) 9 b&&inB 0 3 c)))) S;cases inB 0 3 a with
   |false=>walk_at"mx";rw[ak];rfl
   |true=>
    walk_at"mx";erw[aX (show atI [a,b,c] 1=some b from rfl)];rw[gP];cases inB (-9) 9 b with
    |false=>walk_at"mx";rw[ak];rfl
    |true=>
     walk_at"mx";erw[aX (show atI [a,b,c] 2=some c from rfl)];erw[gP];rw[ak];rfl
  ·erw[gV h];rw[ak,show kQ (.tup xs)=false from JI (f:=λa b c=>inB 0 3 a&&(inB (-9) 9 b&&inB 0 3 c)) h]
 |_=>(dsimp only;walk_at"mx";rw[ak];rfl)
abbrev Tr3:=Int×Int×Int
def trD(t:Tr3):D:=.tup [.int t.1,.int t.2.1,.int t.2.2]
theorem fw(h:inB lo hi d=true):∃n,d=.int n/\lo<=n/\n<=hi:=by
 cases d with
 |int n=>
  have h1:(decide (lo<=n)&&decide (n<=hi))=true:=h;rw[N3]at h1;exact⟨n,rfl,Oc h1.1,Oc h1.2⟩
 |_=>cases h
theorem three{f:D->D->D->Bool}{d:D}(h:(match d with | .tup [a,b,c]=>f a b c |_=>false)=true):∃a b c,d=.tup [a,b,c]/\f a b c=true:=by
 match d,h with
 | .tup [a,b,c],h=>exact⟨a,b,c,rfl,h⟩
theorem wR{d:D}(h:iN d=true):∃t:Tr3,d=trD t/\(-9<=t.1/\t.1<=9)/\0<=t.2.1/\t.2.1<=t.2.2/\t.2.2<=4:=by
 obtain⟨a,b,c,rfl,h'⟩:=three (f:=λa b c=>inB (-9) 9 a&&fN b c 0 4) h;unfold fN at h';simp only[N3]at h';obtain⟨h1,h2,h3,h4⟩:=h';obtain⟨x,rfl,x1⟩:=fw h1;obtain⟨y,rfl,y1⟩:=fw h2;obtain⟨z,rfl,z1⟩:=fw h3;have h4:y<=z:=Oc h4;exact⟨(x,y,z),rfl,x1,y1.1,h4,z1.2⟩
theorem xW{d:D}(h:kQ d=true):∃t:Tr3,d=trD t/\(0<=t.1/\t.1<=3)/\(-9<=t.2.1/\t.2.1<=9)/\0<=t.2.2/\t.2.2<=3:=by
 obtain⟨a,b,c,rfl,h'⟩:=three (f:=λa b c=>inB 0 3 a&&(inB (-9) 9 b&&inB 0 3 c)) h;simp only[N3]at h';obtain⟨h1,h2,h3⟩:=h';obtain⟨x,rfl,x1⟩:=fw h1;obtain⟨y,rfl,y1⟩:=fw h2;obtain⟨z,rfl,z1⟩:=fw h3;exact⟨(x,y,z),rfl,x1,y1,z1⟩
theorem iH{p:D->Bool}{P:Tr3->Prop}(hp:∀d,p d=true->∃t,d=trD t/\P t):∀{xs:List D},xs.all p=true->∃ts:List Tr3,xs=ts.map trD/\∀t∈ts,P t
 | [],_=>⟨[],rfl,by simp⟩
 |d::xs,h=>by
  rw[Pg,N3]at h;obtain⟨ts,rfl,ht⟩:=iH hp h.2;obtain⟨t,rfl,h1⟩:=hp d h.1;refine⟨t::ts,rfl,λm hm=>?_⟩;rcases NU.mp hm with e |e
  ·rw[e];exact h1
  ·exact ht m e
def oM:D->Bool
 | .tup xs=>decide ((xs.length:Int)<=4)&&(xs.all iN&&decide ((xs.map pC).Pairwise (· <·)))
 |_=>false
def mm:D->Bool
 | .tup xs=>decide ((xs.length:Int)<=12)&&(xs.all kQ&&decide ((xs.map λd=>match d with | .tup ys=>ys.map intOf |_=>[]).Nodup))
 |_=>false
theorem yM{ts:List Tr3}:(ts.map trD).map pC=ts.map (·.1):=by rw[Ov];rfl
theorem EI{ns:List Int}(h:ns.length<=1000):dB [.d (.lst (ns.map D.int))] S=.ok (.d (.bl (decide (ns.Pairwise (· <·))))) S:=by
 unfold dB;rw[ba];unfold jw;walk_at"mx";have key:fz [some (.d (.lst (ns.map D.int)))] S=.ok (.d (.lst ((NY (ns.length-1)).map λk=>.bl (decide (ns.getD k 0<ns.getD (k+1) 0))))) S:=by
  unfold fz;rw[gF (items:=(NY ((ns.length:Int)-1).toNat).map λk=>Vl.d (.int (1+(k:Nat)))) (S1:=S) (by walk_at"mx";rw[tv,vE ⋯]) (nbL ns) (by
   intro z hz S;obtain⟨k,hk,rfl⟩:=Of.mp hz;have hk:=Ol.mp hk;walk_at"mx";erw[show(1:Int)+(k:Nat)-1=(k:Nat) by omega,show(1:Int)+(k:Nat)=((k+1:Nat):Int) by omega,cb (zZ ⋯)];erw[cb (zZ ⋯)];rfl)]
  rw[Ov,show((ns.length:Int)-1).toNat=ns.length-1 by omega];congr 3;refine Sy λk hk=>?_;show nbL ns (.d (.int (1+(k:Nat))))=_;rw[show(1:Int)+(k:Nat)=((k+1:Nat):Int) by omega];rfl
 erw[key];erw[jm,xm];rw[ak]
theorem Eu:iG [.d d] S=.ok (.d (.bl (oM d))) S:=by
 unfold iG;rw[ba];unfold oH;erw[ck];rw[c7];cases d with
 |tup xs=>
  dsimp only;walk_at"mx";show _=R.ok (Vl.d (D.bl (decide ((xs.length:Int)<=4)&&(xs.all iN&&decide ((xs.map pC).Pairwise (· <·)))))) S;by_cases h:(4:Int)<(xs.length:Int)
  ·erw[NQ h,gV (show¬(xs.length:Int)<=4 by omega)];rw[ak];rfl
  ·erw[gV h,NQ (show(xs.length:Int)<=4 by omega)];rw[gQ (show _=n_ [some (.d (.tup xs))] S from rfl) (xs:=xs) (S1:=S) (by walk_at"mx") (λd=>.bl (iN d)) (by
    intro x hx S;walk_at"mx";rw[Hu];walk_at"mx")]
   walk_at"mx";rw[jm];cases ha:xs.all iN with
   |false=>walk_at"mx";rw[ak];rfl
   |true=>
    obtain⟨ts,rfl,ht⟩:=iH (λd=>wR) ha;walk_at"mx";rw[gQ (show _=ox [some (.d (.tup (ts.map trD)))] S from rfl) (xs:=ts.map trD) (S1:=S) (by walk_at"mx") (λd=>.int (pC d)) (by
     intro x hx S;obtain⟨t,_,rfl⟩:=Of.mp hx;walk_at"mx";unfold trD;rw[aX (show atI [D.int t.1,.int t.2.1,.int t.2.2] 0=some (.int t.1)from rfl)];rfl)]
    walk_at"mx";rw[tv]at h;erw[show((ts.map trD).map λd=>D.int (pC d))=(ts.map (·.1)).map D.int by rw[Ov,Ov];rfl,EI (by rw[tv];omega),yM];rw[ak];rfl
 |_=>(dsimp only;walk_at"mx";rw[ak];rfl)
def pQ(t:Tr3):List Int:=[t.1,t.2.1,t.2.2]
def listI:D->List Int
 | .tup ys=>ys.map intOf
 |_=>[]
theorem wc{ts:List Tr3}(h:ts.length<=300):oLX (.d (.tup (ts.map trD))) S=.ok (.d (.int (uq (ts.map pQ)).length)) S:=
 Dm (ts:=ts.map pQ) (by show some _=some _;rw[Ov];rfl) (by rw[tv];exact h)
theorem BA{ts:List Tr3}:decide (((uq (ts.map pQ)).length:Int)=(ts.length:Int))=decide ((ts.map pQ).Nodup):=by
 rw[P8,<-Cy,tv];omega
theorem wg{ts:List Tr3}:(ts.map trD).map listI=ts.map pQ:=by rw[Ov];rfl
theorem Hw{d:D}{S:Sto}:ja [.d d] S=.ok (.d (.bl (mm d))) S:=by
 unfold ja;rw[ba];unfold pA;erw[ck];rw[c7];cases d with
 |tup xs=>
  dsimp only;walk_at"mx";show _=R.ok (Vl.d (D.bl (decide ((xs.length:Int)<=12)&&(xs.all kQ&&decide ((xs.map listI).Nodup))))) S;by_cases h:(12:Int)<(xs.length:Int)
  ·erw[NQ h,gV (show¬(xs.length:Int)<=12 by omega)];rw[ak];rfl
  ·erw[gV h,NQ (show(xs.length:Int)<=12 by omega)];rw[gQ (show _=oR [some (.d (.tup xs))] S from rfl) (xs:=xs) (S1:=S) (by walk_at"mx") (λd=>.bl (kQ d)) (by
    intro x hx S;walk_at"mx";rw[Ju];walk_at"mx")]
   walk_at"mx";rw[jm];cases ha:xs.all kQ with
   |false=>walk_at"mx";rw[ak];rfl
   |true=>
    obtain⟨ts,rfl,ht⟩:=iH (λd=>xW) ha;rw[tv]at h;walk_at"mx";have e:dN [.d (.tup (ts.map trD))] S=.ok (.d (.bl (decide ((ts.map pQ).Nodup)))) S:=by
     unfold dN;rw[ba];unfold jF;walk_at"mx";erw[wc ⋯];rw[tv,BA,ak]
    erw[e,wg];rw[ak];rfl
 |_=>(dsimp only;walk_at"mx";rw[ak];rfl)
def AR(xs:List D):Bool:=match xs with | [_,_,b]=>oM b |_=>false
def fb:D->Int
 | .tup xs=>xs.length
 |_=>-1
def AO(xs:List D):Bool:=match xs with | [_,n,w,l,h]=>cq (-3) 3 w&&(decide (fb w=fb n)&&fN l h (-99) 99) |_=>false
def zC:D->Bool
 | .tup xs=>decide ((xs.map intOf).Pairwise (· <·))
 |_=>false
def zY(xs:List D):Bool:=match xs with | [_,_,b,e]=>mm b&&(cq 0 3 e&&zC e) |_=>false
def zv(xs:List D):Bool:=match xs with | [_,n,w]=>cq 1 4 w&&decide (fb w=fb n) |_=>false
def d5(xs:List D):Bool:=match xs with
 | .str w::r=>if w="unlike"then decide ((r.length:Int)=1)else if w="many"then AR (.str w::r)else if w="sum"then AO (.str w::r)else if w="row"then zY (.str w::r)else if w="hand"then zv (.str w::r)else false
 |_=>false
def mj:D->Bool
 | .tup (a::n::r)=>eA n&&d5 (a::n::r)
 |_=>false
theorem JD:lU [.d (.tup (a::n::r))] S=.ok (.d (.bl (AR (a::n::r)))) S:=by
 unfold lU;rw[ba];unfold rP;walk_at"mx"
 match r with
 | [b]=>
  erw[NQ (by simp)];erw[aX (show atI [a,n,b] 2=some b from rfl)];erw[Eu];rw[ak];rfl
 | []=>rw[gV (by simp)];walk_at"mx";rw[ak];rfl
 |_::_::_=>rw[gV (by simp;omega)];walk_at"mx";rw[ak];rfl
theorem Kt(hn:eA n=true):lD [.d (.tup (a::n::r))] S=.ok (.d (.bl (zv (a::n::r)))) S:=by
 unfold lD;rw[ba];unfold rS;walk_at"mx"
 match r with
 | [b]=>
  erw[NQ (by simp)];erw[aX (show atI [a,n,b] 2=some b from rfl)];rw[nW];show _=R.ok (Vl.d (D.bl (cq 1 4 b&&decide (fb b=fb n)))) S;cases hb:cq 1 4 b with
  |false=>walk_at"mx";rw[ak];rfl
  |true=>
   obtain⟨ws,rfl,_⟩:=fE hb;cases n with
   |tup ns=>
    walk_at"mx";rw[aX (show atI [a,.tup ns,aF ws] 2=some (aF ws)from rfl)];unfold aF;walk_at"mx";erw[aX (show atI [a,.tup ns,.tup (ws.map D.int)] 1=some (.tup ns)from rfl)];rw[ak];rfl
   |_=>cases hn
 | []=>rw[gV (by simp)];walk_at"mx";rw[ak];rfl
 |_::_::_=>rw[gV (by simp;omega)];walk_at"mx";rw[ak];rfl
theorem MG(hn:eA n=true):nA [.d (.tup (a::n::r))] S=.ok (.d (.bl (AO (a::n::r)))) S:=by
 unfold nA;rw[ba];unfold t7;erw[ck]
 match r with
 | [b,l,h]=>
  erw[NQ (by simp)];erw[aX (show atI [a,n,b,l,h] 2=some b from rfl)];rw[nW];show _=R.ok (Vl.d (D.bl (cq (-3) 3 b&&(decide (fb b=fb n)&&fN l h (-99) 99)))) S;cases hb:cq (-3) 3 b with
  |false=>walk_at"mx";rw[ak];rfl
  |true=>
   obtain⟨ws,rfl,_⟩:=fE hb;cases n with
   |tup ns=>
    walk_at"mx";rw[aX (show atI [a,.tup ns,aF ws,l,h] 2=some (aF ws)from rfl)];unfold aF;walk_at"mx";erw[aX (show atI [a,.tup ns,.tup (ws.map D.int),l,h] 1=some (.tup ns)from rfl)];show _=R.ok (Vl.d (D.bl (true&&(decide (((ws.map D.int).length:Int)=(ns.length:Int))&&fN l h (-99) 99)))) S;by_cases hl:((ws.map D.int).length:Int)=(ns.length:Int)
    ·erw[NQ hl];erw[aX (show atI [a,.tup ns,.tup (ws.map D.int),l,h] 3=some l from rfl)];erw[aX (show atI [a,.tup ns,.tup (ws.map D.int),l,h] 4=some h from rfl)];erw[AZ];rw[ak];rfl
    ·erw[gV hl];rw[ak];rfl
   |_=>cases hn
 | []=>rw[gV (by simp)];walk_at"mx";rw[ak];rfl
 | [_]=>rw[gV (by simp)];walk_at"mx";rw[ak];rfl
 | [_,_]=>rw[gV (by simp)];walk_at"mx";rw[ak];rfl
 |_::_::_::_::_=>rw[gV (by simp;omega)];walk_at"mx";rw[ak];rfl
def Fit(d:D):Prop:=∀a n b es,d=.tup [a,n,b,aF es]->(∀e∈es,0<=e/\e<=3)->es.length<=300
theorem xp{lo hi:Int}:∀{l:List Int},l.Pairwise (· <·)->(∀e∈l,lo<=e/\e<=hi)->(l.length:Int)<=max 0 (hi-lo+1)
 | [],_,_=>by simp;omega
 |x::l,h,hb=>by
  obtain⟨h1,h2⟩:=OV.mp h;have hx:=hb x (.head _);have:=xp (lo:=x+1) (hi:=hi) h2 λe he=>⟨h1 e he,(hb e (.tail _ he)).2⟩;rw[N9];omega
theorem L8(hf:Fit (.tup (a::n::r))):nr [.d (.tup (a::n::r))] S=.ok (.d (.bl (zY (a::n::r)))) S:=by
 unfold nr;rw[ba];unfold uF;walk_at"mx"
 match r with
 | [b,e]=>
  erw[NQ (by simp)];erw[aX (show atI [a,n,b,e] 2=some b from rfl)];rw[Hw];show _=R.ok (Vl.d (D.bl (mm b&&(cq 0 3 e&&zC e)))) S;cases hb:mm b with
  |false=>walk_at"mx";rw[ak];rfl
  |true=>
   walk_at"mx";erw[aX (show atI [a,n,b,e] 3=some e from rfl)];rw[nW];cases he:cq 0 3 e with
   |false=>walk_at"mx";rw[ak];rfl
   |true=>
    obtain⟨es,rfl,hes⟩:=fE he;have hl:=hf a n b es rfl hes;walk_at"mx";erw[aX (show atI [a,n,b,aF es] 3=some (aF es)from rfl)];erw[oy ⋯];rw[ak];show R.ok (Vl.d (D.bl (decide (es.Pairwise (· <·))))) S=R.ok (Vl.d (D.bl (true&&(true&&decide (((es.map D.int).map intOf).Pairwise (· <·)))))) S;rw[ki];rfl
 | []=>rw[gV (by simp)];walk_at"mx";rw[ak];rfl
 | [_]=>rw[gV (by simp)];walk_at"mx";rw[ak];rfl
 |_::_::_::_=>rw[gV (by simp;omega)];walk_at"mx";rw[ak];rfl
theorem eqw:da (.d d) (.d (.str z)) S=.ok (.d (.bl (D.eqv d (.str z)))) S:=bp rfl
theorem bD:D.eqv (.str a) (.str z)=decide (a=z):=by
 show(a==z)=_;by_cases h:a=z
 ·subst h;simp
 ·rw[gV h,O8];exact h
def sU:D->Bool
 | .str _=>false
 |_=>true
theorem sL(h:sU d=true):D.eqv d (.str z)=false:=by cases d<;>first |rfl |cases h
theorem Fj(h:sU a=true):d5 (a::r)=false:=by cases a<;>first |rfl |cases h
theorem Jb(hn:eA n=true)(hf:Fit (.tup (a::n::r))):fe [.d (.tup (a::n::r))] S=.ok (.d (.bl (d5 (a::n::r)))) S:=by
 unfold fe;rw[ba];unfold jL;erw[ck];erw[aX (show atI (a::n::r) 0=some a from j3)];rw[eqw];cases hs:sU a with
 |true=>
  erw[sL hs,Fj hs];erw[eqw,sL hs];erw[eqw,sL hs];erw[eqw,sL hs];erw[eqw,sL hs];rw[ak]
 |false=>
  cases a with
  |str w=>
   rw[bD];by_cases h1:w="unlike"
   ·erw[NQ h1];rw[ak,show d5 (.str w::n::r)=decide (((n::r).length:Int)=1)from NT h1];congr 4;exact propext (by simp only[N9];omega)
   ·erw[gV h1];rw[eqw,bD];by_cases h2:w="many"
    ·erw[NQ h2];erw[JD];rw[ak,show d5 (.str w::n::r)=AR (.str w::n::r) by unfold d5;dsimp only;rw[N1 h1,NT h2]]
    ·erw[gV h2];rw[eqw,bD];by_cases h3:w="sum"
     ·erw[NQ h3];erw[MG hn];rw[ak,show d5 (.str w::n::r)=AO (.str w::n::r) by unfold d5;dsimp only;rw[N1 h1,N1 h2,NT h3]]
     ·erw[gV h3];rw[eqw,bD];by_cases h4:w="row"
      ·erw[NQ h4];erw[L8 hf];rw[ak,show d5 (.str w::n::r)=zY (.str w::n::r) by unfold d5;dsimp only;rw[N1 h1,N1 h2,N1 h3,NT h4]]
      ·erw[gV h4];rw[eqw,bD];by_cases h5:w="hand"
       ·erw[NQ h5];erw[Kt hn];rw[ak,show d5 (.str w::n::r)=zv (.str w::n::r) by unfold d5;dsimp only;rw[N1 h1,N1 h2,N1 h3,N1 h4,NT h5]]
       ·erw[gV h5];rw[ak,show d5 (.str w::n::r)=false by unfold d5;dsimp only;rw[N1 h1,N1 h2,N1 h3,N1 h4,N1 h5]]
  |_=>cases hs
theorem IV(hf:Fit d):lC [.d d] S=.ok (.d (.bl (mj d))) S:=by
 unfold lC;rw[ba];unfold s_;erw[ck];rw[c7];cases d with
 |tup xs=>
  dsimp only;walk_at"mx"
  match xs,hf with
  | [],_=>rw[NQ (by simp)];walk_at"mx";rw[ak];rfl
  | [_],_=>rw[NQ (by simp)];walk_at"mx";rw[ak];rfl
  |a::n::r,hf=>
   erw[gV (by simp only[N9];omega)];erw[aX (show atI (a::n::r) 1=some n from cP (i:=1) rfl)];rw[GW];show _=R.ok (Vl.d (D.bl (eA n&&d5 (a::n::r)))) S;cases hn:eA n with
   |false=>walk_at"mx";rw[ak];rfl
   |true=>
    walk_at"mx";erw[Jb hn hf];rw[ak];rfl
 |_=>(dsimp only;walk_at"mx";rw[ak];rfl)
theorem rE(hf:∀d,f (.d d)=if p d then none else some (.int 1)):∀{ys:List D},∃k:List Int,(ys.map Vl.d).filterMap f=k.map D.int/\decide (k=[])=ys.all p
 | []=>⟨[],rfl,rfl⟩
 |d::ys=>by
  obtain⟨k,e,h⟩:=rE hf (ys:=ys);rw[N4];cases q:p d with
  |true=>exact⟨k,by rw[Ot,hf,NT q];exact e,by rw[Pg,q,O1];exact h⟩
  |false=>exact⟨1::k,by rw[Ot,hf,N1 (by rw[q];decide),e];rfl,by rw[Pg,q,OM];rfl⟩
theorem mU(k:List Int):D.depth (.lst (k.map D.int))<=50:=by unfold D.depth;rw[sQ];omega
theorem yn(hf:∀d,f (.d d)=if p d then none else some (.int 1)){ys:List D}:oEq (.d (.lst ((ys.map Vl.d).filterMap f))) (.d (.lst [])) S=.ok (.d (.bl (ys.all p))) S:=by
 obtain⟨k,e,h⟩:=rE hf (ys:=ys);rw[e,wz (mU k),show([]:List D)=([]:List Int).map D.int from rfl,fW,h]
theorem tD(hf:∀d,f (.d d)=if p d then none else some (.int 1)){ys:List D}:oNe (.d (.lst ((ys.map Vl.d).filterMap f))) (.d (.lst [])) S=.ok (.d (.bl (!ys.all p))) S:=by
 obtain⟨k,e,h⟩:=rE hf (ys:=ys);rw[e,Bn (mU k),show([]:List D)=([]:List Int).map D.int from rfl,fW,h]
theorem mH{p:D->Bool}{a:XE}{t:XT}{τ:Nv}{ys:List D}{S S1:Sto}(ha:a τ S=.ok (.d (.tup ys)) S1)(ht:∀d∈ys,∀S,t (some (.d d)::τ) S=.ok (!p d) S){f:Vl->Option D}(hf:∀d,f (.d d)=if p d then none else some (.int 1)):xLC (bZ a) 1 (gNm 0) t (xC (.int 1)) τ S=.ok (.d (.lst ((ys.map Vl.d).filterMap f))) S1:=by
 refine tO (by rw[wb,ha,xf]) f ?_;intro z hz S;obtain⟨d,hd,rfl⟩:=Of.mp hz;have key:=ht d hd S;constructor
 ·intro x hx;cases q:p d with
  |true=>rw[hf,NT q]at hx;cases hx
  |false=>
   rw[hf,N1 (by rw[q];decide)]at hx;cases hx;exact⟨by rw[key,q];rfl,rfl⟩
 ·intro hx;cases q:p d with
  |true=>rw[key,q];rfl
  |false=>rw[hf,N1 (by rw[q];decide)]at hx;cases hx
def onF(p:D->Bool):Vl->Option D
 | .d d=>if p d then none else some (.int 1)
 |_=>none
theorem km{d:D}{lo hi:Int}{S:Sto}:bU [.d d,.d (.int lo),.d (.int hi)] S=.ok (.d (.bl (cq lo hi d))) S:=by
 unfold bU;rw[mK];unfold pB;erw[ck];rw[c7];cases d with
 |tup xs=>
  dsimp only;walk_at"mx";rw[show oZ [some (.d (.tup xs)),some (.d (.int lo)),some (.d (.int hi))] S=.ok (.d (.lst ((xs.map Vl.d).filterMap (onF (inB lo hi))))) S from mH (p:=inB lo hi) (by walk_at"mx") (λd hd S=>by
   walk_at"mx";rw[xI];cases d with
   |int n=>
    erw[show iz (.int n)=true from rfl,show inB lo hi (.int n)=(decide (lo<=n)&&decide (n<=hi))from rfl];by_cases h:n<lo
    ·rw[NQ h,gV (show¬lo<=n by omega)];walk_at"mx";rfl
    ·rw[gV h,NQ (show lo<=n by omega)];walk_at"mx";by_cases h2:hi<n
     ·rw[NQ h2,gV (show¬n<=hi by omega)];rfl
     ·rw[gV h2,NQ (show n<=hi by omega)];rfl
   |_=>(rw[show iz _=false from rfl];walk_at"mx";rfl)) (λ_=>rfl)]
  walk_at"mx";erw[yn (p:=inB lo hi) (λ_=>rfl)];rw[ak];rfl
 |_=>(dsimp only;walk_at"mx";rw[ak];rfl)
def d6:D->Bool
 | .tup [a,b,c]=>inB (-9) 9 a&&(inB (-9) 9 b&&inB (-9) 9 c)
 |_=>false
theorem Ga:d6 d=(cq (-9) 9 d&&decide (fb d=3)):=by
 match d with
 | .tup [a,b,c]=>
  show _=([a,b,c].all (inB (-9) 9)&&decide (((3:Nat):Int)=3));simp[d6]
 | .tup []=>rfl
 | .tup [a]=>rw[show decide (fb (.tup [a])=3)=false from rfl,OX];rfl
 | .tup [a,b]=>rw[show decide (fb (.tup [a,b])=3)=false from rfl,OX];rfl
 | .tup (a::b::c::e::r)=>
  rw[gV (show¬fb (.tup (a::b::c::e::r))=3 by show¬((a::b::c::e::r).length:Int)=3;simp only[N9];omega),OX];rfl
 | .non=>rfl
 | .bl _=>rfl
 | .int _=>rfl
 | .str _=>rfl
 | .lst _=>rfl
def ER(most:Int):D->Bool
 | .tup xs=>decide ((xs.length:Int)<=most)&&xs.all d6
 |_=>false
theorem BH{d:D}{most:Int}{S:Sto}:eB [.d d,.d (.int most)] S=.ok (.d (.bl (ER most d))) S:=by
 unfold eB;rw[eh];unfold pv;erw[ck];rw[c7];cases d with
 |tup xs=>
  dsimp only;walk_at"mx";show _=R.ok (Vl.d (D.bl (decide ((xs.length:Int)<=most)&&xs.all d6))) S;by_cases h:most<(xs.length:Int)
  ·erw[NQ h,gV (show¬(xs.length:Int)<=most by omega)];rw[ak];rfl
  ·erw[gV h,NQ (show(xs.length:Int)<=most by omega)];rw[show pD [some (.d (.tup xs)),some (.d (.int most))] S=.ok (.d (.lst ((xs.map Vl.d).filterMap (onF d6)))) S from mH (p:=d6) (by walk_at"mx") (λd hd S=>by
    walk_at"mx";rw[km,Ga];cases hb:cq (-9) 9 d with
    |false=>walk_at"mx";rfl
    |true=>
     obtain⟨ns,rfl,_⟩:=fE hb;walk_at"mx";unfold aF;walk_at"mx";rfl) (λ_=>rfl)]
   walk_at"mx";erw[yn (p:=d6) (λ_=>rfl)];rw[ak];rfl
 |_=>(dsimp only;walk_at"mx";rw[ak];rfl)
noncomputable def rW:XS:=(ay (xIf (aE (xOp da (xOp oIx (ae 0) (xC (.int 0))) (xC (.str "many")))) (ay (xIf (xOr (bV (bN (aw eB (aa (xOp oIx (ae 0) (xC (.int 2))) (aa (xC (.int 4)) aj))))) (aE (xOp oNe kF (xN mkL aj)))) (aD (xC (.bl false))) aN)
 (aD (xOp oEq kq (xUn oSS kM)))) aN)
 (ay (xIf (aE (xOp da (xOp oIx (ae 0) (xC (.int 0))) (xC (.str "sum")))) (ay (xIf (xOr (bV (bN (aw bU (aa (xOp oIx (ae 0) (xC (.int 2))) (aa (xUn e9 (xC (.int 3))) (aa (xC (.int 3)) aj)))))) (aE (xOp oNe (xN bh (aa (xOp oIx (ae 0) (xC (.int 2))) aj)) (xN bh (aa (xOp oIx (ae 0) (xC (.int 1))) aj))))) (aD (xC (.bl false))) aN)
 (aD (bT (aw bU (aa (xSl oSl (ae 0) (cp (xC (.int 3))) bO) (aa (xUn e9 (xC (.int 99))) (aa (xC (.int 99)) aj)))) (xOp oLe (xOp oIx (ae 0) (xC (.int 3))) (xOp oIx (ae 0) (xC (.int 4))))))) aN)
 (ay (xIf (aE (xOp da (xOp oIx (ae 0) (xC (.int 0))) (xC (.str "row")))) (ay (xIf (xOr (bV (bN (aw eB (aa (xOp oIx (ae 0) (xC (.int 2))) (aa (xC (.int 12)) aj))))) (bV (bN (aw bU (aa (xOp oIx (ae 0) (xC (.int 3))) (aa (xC (.int 0)) (aa (xC (.int 3)) aj))))))) (aD (xC (.bl false))) aN)
 (ay (xIf (aE (xOp oNe kO (xN mkL aj))) (aD (xC (.bl false))) aN)
 (aD (bT (xOp oEq (xUn oLX (xOp oIx (ae 0) (xC (.int 2)))) (xN bh (aa (xOp oIx (ae 0) (xC (.int 2))) aj))) (xOp oEq (xN qe (aa (xOp oIx (ae 0) (xC (.int 3))) aj)) (xUn oSS (xOp oIx (ae 0) (xC (.int 3))))))))) aN)
 (aD (rC (xOp da (xOp oIx (ae 0) (xC (.int 0))) (xC (.str "unlike"))) (bT (aw bU (aa (xOp oIx (ae 0) (xC (.int 2))) (aa (xC (.int 1)) (aa (xC (.int 4)) aj)))) (xOp oEq (xN bh (aa (xOp oIx (ae 0) (xC (.int 2))) aj)) (xN bh (aa (xOp oIx (ae 0) (xC (.int 1))) aj)))))))))
theorem qi:oO=(ay (xIf (xOr (bV (bN (xUn (cL "tuple") (ae 0)))) (xOr (aE (xOp oLt (xN bh (aa (ae 0) aj)) (xC (.int 2)))) (aE (xOp rT (xOp oIx (ae 0) (xC (.int 0))) (xN mkT (aa (xC (.str "unlike")) (aa (xC (.str "many")) (aa (xC (.str "sum")) (aa (xC (.str "row")) (aa (xC (.str "hand")) aj)))))))))) (aD (xC (.bl false))) aN)
 (ay (xIf (xOr (bV (bN (aw bU (aa (xOp oIx (ae 0) (xC (.int 1))) (aa (xC (.int 0)) (aa (xC (.int 3)) aj)))))) (xOr (bV (aE (ft oLe oLe (xC (.int 1)) (xN bh (aa (xOp oIx (ae 0) (xC (.int 1))) aj)) (xC (.int 4))))) (aE (xOp oLt (xUn oLX (xOp oIx (ae 0) (xC (.int 1)))) (xN bh (aa (xOp oIx (ae 0) (xC (.int 1))) aj)))))) (aD (xC (.bl false))) aN)
 (ay (xIf (aE (xOp oNe (xN bh (aa (ae 0) aj)) (xDl [("unlike",2),("many",3),("sum",5),("row",4),("hand",3)] (xOp oIx (ae 0) (xC (.int 0)))))) (aD (xC (.bl false))) aN) rW))):=rfl
theorem Mc(ha:a τ S=.ok (.d (.str k)) S1)(hk:kvs.lookup k=some n):xDl kvs a τ S=.ok (.d (.int n)) S1:=by
 unfold xDl;rw[ha,bc];dsimp only;rw[hk]
def mD:List Str:=["unlike","many","sum","row","hand"]
theorem Aq:rT (.d d) (.d (.tup [.str "unlike",.str "many",.str "sum",.str "row",.str "hand"])) S=.ok (.d (.bl (!mD.any λe=>D.eqv (.str e) d))) S:=bp rfl
theorem MP(h:sU d=true):(mD.any λe=>D.eqv (.str e) d)=false:=by cases d<;>first |rfl |cases h
theorem Lr{w:Str}(h1:¬w="unlike")(h2:¬w="many")(h3:¬w="sum")(h4:¬w="row")(h5:¬w="hand"):(mD.any λe=>D.eqv (.str e) (.str w))=false:=by
 simp only[mD,QN,List.any_nil,bD,gV (PD h1),gV (PD h2),gV (PD h3),gV (PD h4),gV (PD h5),WB]
theorem Iy :
  (xOr (bV (bN (aw bU (aa (xOp oIx (ae 0) (xC (.int 1))) (aa (xC (.int 0)) (aa (xC (.int 3)) aj)))))) (xOr (bV (aE (ft oLe oLe (xC (.int 1)) (xN bh (aa (xOp oIx (ae 0) (xC (.int 1))) aj)) (xC (.int 4))))) (aE (xOp oLt (xUn oLX (xOp oIx (ae 0) (xC (.int 1)))) (xN bh (aa (xOp oIx (ae 0) (xC (.int 1))) aj)))))) [some (.d (.tup (a::n::r)))] S=.ok (!eA n) S:=by
 have i1:∀S,oIx (.d (.tup (a::n::r))) (.d (.int 1)) S=.ok (.d n) S:=λS=>aX (cP (i:=1) rfl);walk_at"mx";erw[i1];rw[km];cases n with
 |tup xs=>
  rw[show cq 0 3 (.tup xs)=xs.all (inB 0 3)from rfl,show eA (.tup xs)=(xs.all (inB 0 3)&&(decide (1<=(xs.length:Int))&&decide ((xs.length:Int)<=4)&&decide ((xs.map intOf).Nodup)))from rfl];cases h:xs.all (inB 0 3)with
  |false=>walk_at"mx";rfl
  |true=>
   obtain⟨ns,rfl,hn⟩:=kh h;erw[ki,tv];erw[i1];rw[tv];by_cases h1:(1:Int)<=(ns.length:Int)
   ·erw[NQ h1];by_cases h2:(ns.length:Int)<=4
    ·erw[NQ h2];erw[i1];erw[yt (ns:=ns) rfl ⋯];erw[i1];rw[tv];have le:=ji ns;have iff:=yp (ws:=ns);rw[P8]at iff;congr 1;by_cases hd:ns.Nodup
     ·rw[NQ hd,gV (by have:=iff.mpr hd;omega)];rfl
     ·rw[gV hd,NQ (by
       have:¬((b_ ns).length:Int)=(ns.length:Int):=λz=>hd (iff.mp z);omega)];rfl
    ·rw[gV h2];walk_at"mx";rfl
   ·rw[gV h1];walk_at"mx";rfl
 |_=>(rw[show cq 0 3 _=false from rfl];walk_at"mx";rfl)
theorem HJ(h5:(mD.any λe=>D.eqv (.str e) (.str w))=true)(hL:[(("unlike":Str),(2:Int)),("many",3),("sum",5),("row",4),("hand",3)].lookup w=some L) :
  cI [.d (.tup (.str w::n::r))] S=if eA n=true/\((r.length+2:Nat):Int)=L then leave S (rW [some (.d (.tup (.str w::n::r)))] S)else .ok (.d (.bl false)) S:=by
 have i0:∀S,oIx (.d (.tup (.str w::n::r))) (.d (.int 0)) S=.ok (.d (.str w)) S:=λS=>aX j3;unfold cI;erw[ba,qi,ck,fo];erw[eQ];erw[gV ⋯];erw[i0];rw[Aq,h5,Tc,K5,oS,mX,jR,ck,fo,Iy];cases hn:eA n with
 |false=>
  erw[N1 (by rintro⟨h,_⟩;cases h)];rw[ak]
 |true=>
  rw[Tc,oS,mX,jR,ck,fo,tN,Fg];rw[show(xN bh (aa (ae 0) aj)) [some (.d (.tup (.str w::n::r)))] S=.ok (.d (.int ((r.length+2:Nat):Int))) S by walk_at"mx",Ba];erw[Mc (S1:=S) (by walk_at"mx";exact i0 S) hL,BU];by_cases hl:((r.length+2:Nat):Int)=L
  ·erw[NT ⟨trivial,hl⟩,NQ hl]
  ·erw[N1 (λz=>hl z.2),gV hl];rw[ak]
def chB:D->Bool
 | .tup [_,b,c]=>leB (.int 0) b&&(leB b c&&leB c (.int 4))
 |_=>false
theorem o7(h:d6 d=true):∃t:Tr3,d=trD t/\(-9<=t.1/\t.1<=9)/\(-9<=t.2.1/\t.2.1<=9)/\-9<=t.2.2/\t.2.2<=9:=by
 obtain⟨a,b,c,rfl,h'⟩:=three (f:=λa b c=>inB (-9) 9 a&&(inB (-9) 9 b&&inB (-9) 9 c)) h;simp only[N3]at h';obtain⟨h1,h2,h3⟩:=h';obtain⟨x,rfl,x1⟩:=fw h1;obtain⟨y,rfl,y1⟩:=fw h2;obtain⟨z,rfl,z1⟩:=fw h3;exact⟨(x,y,z),rfl,x1,y1,z1⟩
theorem fA:inB lo hi (.int n)=decide (lo<=n/\n<=hi):=by
 show(decide (lo<=n)&&decide (n<=hi))=_;rw[Bool.decide_and]
theorem yU:iN d=(d6 d&&chB d):=by
 cases h:d6 d with
 |false=>
  rw[OM];cases hb:iN d with
  |false=>rfl
  |true=>
   obtain⟨t,rfl,h1,h2,h3,h4⟩:=wR hb;have:d6 (trD t)=true:=by
    show(inB (-9) 9 (.int t.1)&&(inB (-9) 9 (.int t.2.1)&&inB (-9) 9 (.int t.2.2)))=true;rw[fA,fA,fA,NQ h1,NQ ⋯,NQ ⋯];rfl
   rw[this]at h;cases h
 |true=>
  obtain⟨t,rfl,h1,h2,h3⟩:=o7 h;show(inB (-9) 9 (.int t.1)&&(inB 0 4 (.int t.2.1)&&(inB 0 4 (.int t.2.2)&&decide (t.2.1<=t.2.2))))=(true&&(decide (0<=t.2.1)&&(decide (t.2.1<=t.2.2)&&decide (t.2.2<=4))));rw[fA,fA,fA,NQ h1,OW];simp only[O1,N3,decide_eq_true_iff];omega
def enB:D->Bool
 | .tup [a,_,c]=>inB 0 3 a&&inB 0 3 c
 |_=>false
theorem G1:kQ d=(d6 d&&enB d):=by
 cases h:d6 d with
 |false=>
  rw[OM];cases hb:kQ d with
  |false=>rfl
  |true=>
   obtain⟨t,rfl,h1,h2,h3⟩:=xW hb;have:d6 (trD t)=true:=by
    show(inB (-9) 9 (.int t.1)&&(inB (-9) 9 (.int t.2.1)&&inB (-9) 9 (.int t.2.2)))=true;rw[fA,fA,fA,NQ ⋯,NQ h2,NQ ⋯];rfl
   rw[this]at h;cases h
 |true=>
  obtain⟨t,rfl,h1,h2,h3⟩:=o7 h;show(inB 0 3 (.int t.1)&&(inB (-9) 9 (.int t.2.1)&&inB 0 3 (.int t.2.2)))=(true&&(inB 0 3 (.int t.1)&&inB 0 3 (.int t.2.2)));rw[fA,fA,fA,NQ h2];simp only[O1]
theorem qo:∀xs:List D,(xs.all λd=>p d&&q d)=(xs.all p&&xs.all q)
 | []=>rfl
 |d::xs=>by
  rw[Pg,Pg,Pg,qo xs];cases p d<;>cases q d<;>simp
theorem ch3(ha:a τ S=.ok (.d (.int x)) S)(hb:b τ S=.ok (.d (.int y)) S)(hc:c τ S=.ok (.d (.int z)) S)(hd:d τ S=.ok (.d (.int u)) S):m_ oLe oLe oLe a b c d τ S=.ok (.d (.bl (decide (x<=y)&&(decide (y<=z)&&decide (z<=u))))) S:=by
 unfold m_;rw[ha,bc,hb,bc,zl,bc];dsimp only;by_cases h1:x<=y
 ·rw[NQ h1,NT rfl,hc,bc,zl,bc];dsimp only;by_cases h2:y<=z
  ·rw[NQ h2,NT rfl,hd,bc,zl];rfl
  ·rw[gV h2,N1 (by decide)];rfl
 ·rw[gV h1,N1 (by decide)];rfl
theorem Hj(hl:((r.length+2:Nat):Int)=3):leave S (rW [some (.d (.tup (.str "many" :: n::r)))] S)=.ok (.d (.bl (AR (.str "many" :: n::r)))) S:=by
 obtain⟨b,rfl⟩:∃b,r=[b]:=by
  match r,hl with
  | [b],_=>exact⟨b,rfl⟩
  | [],h=>simp at h
  |_::_::_,h=>simp at h;omega
 have i0:∀S,oIx (.d (.tup [.str "many",n,b])) (.d (.int 0)) S=.ok (.d (.str "many")) S:=λS=>aX j3;have i2:∀S,oIx (.d (.tup [.str "many",n,b])) (.d (.int 2)) S=.ok (.d b) S:=λS=>aX (cP (i:=2) rfl);unfold rW;erw[ck,fo];erw[i0];erw[eqw,bD,NQ rfl];erw[i2];rw[BH];show _=R.ok (Vl.d (D.bl (oM b))) S;cases hb:ER 4 b with
 |false=>
  walk_at"mx";rw[ak];cases b with
  |tup xs=>
   have hb:(decide ((xs.length:Int)<=4)&&xs.all d6)=false:=hb;rw[show oM (.tup xs)=(decide ((xs.length:Int)<=4)&&(xs.all iN&&decide ((xs.map pC).Pairwise (· <·))))from rfl,show(xs.all iN)=(xs.all d6&&xs.all chB) by rw[<-qo];congr 1;funext d;exact yU];congr 3;cases h1:decide ((xs.length:Int)<=4)with
   |false=>rfl
   |true=>rw[h1,O1]at hb;rw[hb];rfl
  |_=>rfl
 |true=>
  cases b with
  |tup xs=>
   have hb:(decide ((xs.length:Int)<=4)&&xs.all d6)=true:=hb;rw[N3]at hb;have hl4:(xs.length:Int)<=4:=Oc hb.1;have ht:=hb.2;walk_at"mx";rw[show kF [some (.d (.tup [.str "many",n,.tup xs]))] S=.ok (.d (.lst ((xs.map Vl.d).filterMap (onF chB)))) S from mH (p:=chB) (by walk_at"mx";exact i2 S) (λd hd S=>by
    obtain⟨t,rfl,_⟩:=o7 (Oi.mp ht d hd);erw[AY,tN,ch3 (x:=0) (y:=t.2.1) (z:=t.2.2) (u:=4) rfl (by walk_at"mx";exact aX rfl) (by walk_at"mx";exact aX rfl) rfl];rfl) (λ_=>rfl)]
   walk_at"mx";rw[tD (p:=chB) (λ_=>rfl)];rw[show oM (.tup xs)=(decide ((xs.length:Int)<=4)&&(xs.all iN&&decide ((xs.map pC).Pairwise (· <·))))from rfl,show(xs.all iN)=(xs.all d6&&xs.all chB) by rw[<-qo];congr 1;funext d;exact yU,NQ hl4,ht];cases hc:xs.all chB with
   |false=>walk_at"mx";rw[ak];rfl
   |true=>
    obtain⟨ts,rfl,_⟩:=iH (λd=>o7) ht;rw[tv]at hl4;walk_at"mx";have eC:∀S,(xLC (bZ (xOp oIx (ae 0) (xC (.int 2)))) 1 (gNm 0) (λ_ S=>.ok true S) (xOp oIx (ae 0) (xC (.int 0)))) [some (.d (.tup [.str "many",n,.tup (ts.map trD)]))] S=.ok (.d (.lst ((ts.map (·.1)).map D.int))) S:=λS=>by
     rw[gQ rfl (xs:=ts.map trD) (S1:=S) (by walk_at"mx";exact i2 S) (λd=>.int (pC d)) (by
      intro x hx S;obtain⟨t,_,rfl⟩:=Of.mp hx;walk_at"mx";exact aX rfl)]
     rw[Ov,Ov];rfl
    erw[show kq [some (.d (.tup [.str "many",n,.tup (ts.map trD)]))] S=.ok (.d (.lst ((ts.map (·.1)).map D.int))) S from eC S];erw[show kM [some (.d (.tup [.str "many",n,.tup (ts.map trD)]))] S=.ok (.d (.lst ((ts.map (·.1)).map D.int))) S from eC S];erw[zx (ns:=ts.map (·.1)) rfl (by rw[tv];omega) (by have:=ji (ts.map (·.1));rw[tv]at this;omega)];erw[wz (mU _),fW,yM];rw[ak];congr 3;rw[O1,O1,O1,P8];exact⟨λh=>by rw[h];exact dJ _,λh=>kJ (λ_=>Vf) h⟩
  |_=>cases hb
theorem IQ(hn:eA n=true)(hl:((r.length+2:Nat):Int)=5):leave S (rW [some (.d (.tup (.str "sum" :: n::r)))] S)=.ok (.d (.bl (AO (.str "sum" :: n::r)))) S:=by
  obtain⟨b,l,h,rfl⟩:∃b l h,r=[b,l,h]:=by
    match r,hl with
    | [b,l,h],_=>exact⟨b,l,h,rfl⟩
    | [],h=>simp at h
    | [_],h=>simp at h
    | [_,_],h=>simp at h
    |_::_::_::_::_,h=>simp at h;omega
  obtain⟨ns,rfl⟩:∃ns,n=.tup ns:=by cases n<;>first |exact⟨_,rfl⟩ |cases hn
  have i0:∀S,oIx (.d (.tup [.str "sum",.tup ns,b,l,h])) (.d (.int 0)) S=.ok (.d (.str "sum")) S:=λS=>aX j3;have i1:∀S,oIx (.d (.tup [.str "sum",.tup ns,b,l,h])) (.d (.int 1)) S=.ok (.d (.tup ns)) S:=λS=>aX (cP (i:=1) rfl);have i2:∀S,oIx (.d (.tup [.str "sum",.tup ns,b,l,h])) (.d (.int 2)) S=.ok (.d b) S:=λS=>aX (cP (i:=2) rfl);have i3:∀S,oIx (.d (.tup [.str "sum",.tup ns,b,l,h])) (.d (.int 3)) S=.ok (.d l) S:=λS=>aX (cP (i:=3) rfl);have i4:∀S,oIx (.d (.tup [.str "sum",.tup ns,b,l,h])) (.d (.int 4)) S=.ok (.d h) S:=λS=>aX (cP (i:=4) rfl);unfold rW;erw[ck,fo];erw[i0];erw[eqw,bD,show decide (("sum":Str)="many")=false by decide+kernel];erw[i0];erw[eqw,bD,NQ rfl];erw[i2];rw[km];show _=R.ok (Vl.d (D.bl (cq (-3) 3 b&&(decide (fb b=(ns.length:Int))&&fN l h (-99) 99)))) S;cases hb:cq (-3) 3 b with
  |false=>walk_at"mx";rw[ak];rfl
  |true=>
    obtain⟨ws,rfl,_⟩:=fE hb;unfold aF at i0 i1 i2 i3 i4 ⊢;walk_at"mx";erw[i2];erw[i1];rw[show fb (.tup (ws.map D.int))=((ws.map D.int).length:Int)from rfl];by_cases hd:((ws.map D.int).length:Int)=(ns.length:Int)
    · erw[NQ hd]
      rw[show dG [D.str "sum",.tup ns,.tup (ws.map D.int),l,h] (some 3) none=[l,h]from kR (k:=3),km];rw[show cq (-99) 99 (.tup [l,h])=(inB (-99) 99 l&&(inB (-99) 99 h&&true))from rfl];unfold fN;cases h1:inB (-99) 99 l with
      |false=>simp only[OM,OX];walk_at"mx";rw[ak]
      |true=>
        cases h2:inB (-99) 99 h with
        |false=>simp only[OM,OX];walk_at"mx";rw[ak]
        |true=>
          obtain⟨x,rfl,_⟩:=fw h1;obtain⟨y,rfl,_⟩:=fw h2;erw[show(true&&(true&&true))=true from rfl];erw[i3];erw[i4];rw[ak];rfl
    · erw[gV hd]
      rw[ak];rfl
theorem Jh(hf:Fit (.tup (.str "row" :: n::r)))(hl:((r.length+2:Nat):Int)=4):leave S (rW [some (.d (.tup (.str "row" :: n::r)))] S)=.ok (.d (.bl (zY (.str "row" :: n::r)))) S:=by
 obtain⟨b,e,rfl⟩:∃b e,r=[b,e]:=by
  match r,hl with
  | [b,e],_=>exact⟨b,e,rfl⟩
  | [],h=>simp at h
  | [_],h=>simp at h
  |_::_::_::_,h=>simp at h;omega
 have i0:∀S,oIx (.d (.tup [.str "row",n,b,e])) (.d (.int 0)) S=.ok (.d (.str "row")) S:=λS=>aX j3;have i2:∀S,oIx (.d (.tup [.str "row",n,b,e])) (.d (.int 2)) S=.ok (.d b) S:=λS=>aX (cP (i:=2) rfl);have i3:∀S,oIx (.d (.tup [.str "row",n,b,e])) (.d (.int 3)) S=.ok (.d e) S:=λS=>aX (cP (i:=3) rfl);unfold rW;erw[ck,fo];erw[i0];erw[eqw,bD,show decide (("row":Str)="many")=false by decide+kernel];erw[i0];erw[eqw,bD,show decide (("row":Str)="sum")=false by decide+kernel];erw[i0];erw[eqw,bD,NQ rfl];erw[i2];rw[BH];show _=R.ok (Vl.d (D.bl (mm b&&(cq 0 3 e&&zC e)))) S;have split:∀xs:List D,mm (.tup xs)=(decide ((xs.length:Int)<=12)&&((xs.all d6&&xs.all enB)&&decide ((xs.map listI).Nodup))):=λxs=>by
  rw[show mm (.tup xs)=(decide ((xs.length:Int)<=12)&&(xs.all kQ&&decide ((xs.map listI).Nodup)))from rfl,show(xs.all kQ)=(xs.all d6&&xs.all enB) by rw[<-qo];congr 1;funext d;exact G1]
 cases hb:ER 12 b with
 |false=>
  walk_at"mx";rw[ak];congr 3;cases b with
  |tup xs=>
   have hb:(decide ((xs.length:Int)<=12)&&xs.all d6)=false:=hb;rw[split];cases h1:decide ((xs.length:Int)<=12)with
   |false=>rfl
   |true=>rw[h1,O1]at hb;rw[hb];rfl
  |_=>rfl
 |true=>
  walk_at"mx";erw[i3];rw[km];cases he:cq 0 3 e with
  |false=>walk_at"mx";rw[ak,OM,OX]
  |true=>
   obtain⟨es,rfl,hes⟩:=fE he;have hle:=hf _ n b es rfl hes;have hfew:=xp (lo:=0) (hi:=3) (dJ es) λe he=>hes e ((e_ e es).mp he);cases b with
   |tup xs=>
    have hb:(decide ((xs.length:Int)<=12)&&xs.all d6)=true:=hb;rw[N3]at hb;have hl4:(xs.length:Int)<=12:=Oc hb.1;have ht:=hb.2;obtain⟨ts,rfl,_⟩:=iH (λd=>o7) ht;rw[split,NQ hl4,ht];rw[tv]at hl4;walk_at"mx";rw[show kO [some (.d (.tup [.str "row",n,.tup (ts.map trD),aF es]))] S=.ok (.d (.lst (((ts.map trD).map Vl.d).filterMap (onF enB)))) S from mH (p:=enB) (by walk_at"mx";exact i2 S) (λd hd S=>by
     obtain⟨t,_,rfl⟩:=Of.mp hd;have j0:∀S,oIx (.d (trD t)) (.d (.int 0)) S=.ok (.d (.int t.1)) S:=λS=>aX rfl;have j2:∀S,oIx (.d (trD t)) (.d (.int 2)) S=.ok (.d (.int t.2.2)) S:=λS=>aX rfl;walk_at"mx";erw[j0];erw[j2];erw[km];show R.ok (!(inB 0 3 (.int t.1)&&(inB 0 3 (.int t.2.2)&&true))) S=R.ok (!(inB 0 3 (.int t.1)&&inB 0 3 (.int t.2.2))) S;rw[WQ]) (λ_=>rfl)]
    walk_at"mx";rw[tD (p:=enB) (λ_=>rfl)];cases hc:(ts.map trD).all enB with
    |false=>walk_at"mx";rw[ak];rfl
    |true=>
     walk_at"mx";erw[i2];erw[wc ⋯];erw[i2];rw[tv,BA,wg];cases hd:decide ((ts.map pQ).Nodup)with
     |false=>walk_at"mx";rw[ak];rfl
     |true=>
      walk_at"mx";rw[i3];unfold aF;walk_at"mx";erw[show oIx (.d (.tup [.str "row",n,.tup (ts.map trD),.tup (es.map D.int)])) (.d (.int 3)) S=.ok (.d (.tup (es.map D.int))) S from i3 S];erw[zx (ns:=es) rfl ⋯ ⋯];erw[wz (mU _),fW];rw[ak];show R.ok (Vl.d (D.bl (decide (es=b_ es)))) S=R.ok (Vl.d (D.bl (decide (((es.map D.int).map intOf).Pairwise (· <·))))) S;rw[ki];congr 3;rw[P8];exact⟨λh=>by rw[h];exact dJ _,λh=>kJ (λ_=>Vf) h⟩
   |_=>cases hb
theorem Gg(hn:eA n=true)(hl:((r.length+2:Nat):Int)=3):leave S (rW [some (.d (.tup (.str "hand" :: n::r)))] S)=.ok (.d (.bl (zv (.str "hand" :: n::r)))) S:=by
  obtain⟨b,rfl⟩:∃b,r=[b]:=by
    match r,hl with
    | [b],_=>exact⟨b,rfl⟩
    | [],h=>simp at h
    |_::_::_,h=>simp at h;omega
  obtain⟨ns,rfl⟩:∃ns,n=.tup ns:=by cases n<;>first |exact⟨_,rfl⟩ |cases hn
  have i0:∀S,oIx (.d (.tup [.str "hand",.tup ns,b])) (.d (.int 0)) S=.ok (.d (.str "hand")) S:=λS=>aX j3;have i1:∀S,oIx (.d (.tup [.str "hand",.tup ns,b])) (.d (.int 1)) S=.ok (.d (.tup ns)) S:=λS=>aX (cP (i:=1) rfl);have i2:∀S,oIx (.d (.tup [.str "hand",.tup ns,b])) (.d (.int 2)) S=.ok (.d b) S:=λS=>aX (cP (i:=2) rfl);unfold rW;erw[ck,fo];erw[i0];erw[eqw,bD,show decide (("hand":Str)="many")=false by decide+kernel];erw[i0];erw[eqw,bD,show decide (("hand":Str)="sum")=false by decide+kernel];erw[i0];erw[eqw,bD,show decide (("hand":Str)="row")=false by decide+kernel];erw[i0];erw[eqw,bD,show decide (("hand":Str)="unlike")=false by decide+kernel];erw[i2];rw[km];show _=R.ok (Vl.d (D.bl (cq 1 4 b&&decide (fb b=(ns.length:Int))))) S;cases hb:cq 1 4 b with
  |false=>walk_at"mx";rw[ak];rfl
  |true=>
    obtain⟨ws,rfl,_⟩:=fE hb;unfold aF at i0 i1 i2 ⊢;walk_at"mx";erw[i2];erw[i1];rw[ak];rfl
theorem JO:leave S (rW [some (.d (.tup [.str "unlike",n]))] S)=.ok (.d (.bl true)) S:=by
 have i0:∀S,oIx (.d (.tup [.str "unlike",n])) (.d (.int 0)) S=.ok (.d (.str "unlike")) S:=λS=>aX j3;unfold rW;erw[ck,fo];erw[i0];erw[eqw,bD,show decide (("unlike":Str)="many")=false by decide+kernel];erw[i0];erw[eqw,bD,show decide (("unlike":Str)="sum")=false by decide+kernel];erw[i0];erw[eqw,bD,show decide (("unlike":Str)="row")=false by decide+kernel];erw[i0];erw[eqw,bD,NQ rfl];rw[ak]
theorem Hv(hf:Fit d):cI [.d d] S=.ok (.d (.bl (mj d))) S:=by
 cases d with
 |tup xs=>
  match xs,hf with
  |a::n::r,hf=>
   cases hs:sU a with
   |true=>
    unfold cI;erw[ba,qi,ck,fo];erw[eQ];erw[gV ⋯];erw[aX (show atI (a::n::r) 0=some a from j3)];erw[Aq,MP hs];rw[ak,show mj (.tup (a::n::r))=(eA n&&d5 (a::n::r))from rfl,Fj hs,OX]
   |false=>
    cases a with
    |str w=>
     have fin:∀(L:Int)(k:Bool),(mD.any λe=>D.eqv (.str e) (.str w))=true->[(("unlike":Str),(2:Int)),("many",3),("sum",5),("row",4),("hand",3)].lookup w=some L->d5 (.str w::n::r)=k->(((r.length+2:Nat):Int)=L->eA n=true->leave S (rW [some (.d (.tup (.str w::n::r)))] S)=.ok (.d (.bl k)) S)->(¬((r.length+2:Nat):Int)=L->k=false)->cI [.d (.tup (.str w::n::r))] S=.ok (.d (.bl (eA n&&d5 (.str w::n::r)))) S:=by
      intro L k h5 hL ek h1 h2;rw[HJ h5 hL,ek];cases hn:eA n with
      |false=>rw[N1 (by rintro⟨h,_⟩;cases h)];rfl
      |true=>
       by_cases hl:((r.length+2:Nat):Int)=L
       ·rw[NT ⟨rfl,hl⟩,h1 hl hn];rfl
       ·rw[N1 (λz=>hl z.2),h2 hl];rfl
     show _=R.ok (Vl.d (D.bl (eA n&&d5 (.str w::n::r)))) S;by_cases h1:w="unlike"
     ·subst h1;refine fin 2 _ (by decide+kernel) (by decide+kernel) rfl (λhl _=>?_) (λhl=>?_)
      ·match r,hl with
       | [],_=>exact JO
       |_::_,hl=>simp at hl;omega
      ·show decide (((n::r).length:Int)=1)=false;rw[gV];simp only[N9];omega
     ·by_cases h2:w="many"
      ·subst h2;refine fin 3 _ (by decide+kernel) (by decide+kernel) rfl (λhl _=>Hj hl) (λhl=>?_)
       match r,hl with
       | [],_=>rfl
       | [b],hl=>exact absurd rfl hl
       |_::_::_,_=>rfl
      ·by_cases h3:w="sum"
       ·subst h3;refine fin 5 _ (by decide+kernel) (by decide+kernel) rfl (λhl hn=>IQ hn hl) (λhl=>?_)
        match r,hl with
        | [],_=>rfl
        | [_],_=>rfl
        | [_,_],_=>rfl
        | [_,_,_],hl=>exact absurd rfl hl
        |_::_::_::_::_,_=>rfl
       ·by_cases h4:w="row"
        ·subst h4;refine fin 4 _ (by decide+kernel) (by decide+kernel) rfl (λhl _=>Jh hf hl) (λhl=>?_)
         match r,hl with
         | [],_=>rfl
         | [_],_=>rfl
         | [_,_],hl=>exact absurd rfl hl
         |_::_::_::_,_=>rfl
        ·by_cases h5:w="hand"
         ·subst h5;refine fin 3 _ (by decide+kernel) (by decide+kernel) rfl (λhl hn=>Gg hn hl) (λhl=>?_)
          match r,hl with
          | [],_=>rfl
          | [_],hl=>exact absurd rfl hl
          |_::_::_,_=>rfl
         ·unfold cI;erw[ba,qi,ck,fo];erw[eQ];erw[gV ⋯];erw[aX (show atI (.str w::n::r) 0=some (.str w)from j3)];erw[Aq,Lr h1 h2 h3 h4 h5];rw[ak,show d5 (.str w::n::r)=false by unfold d5;dsimp only;rw[N1 h1,N1 h2,N1 h3,N1 h4,N1 h5],OX]
    |_=>cases hs
  | [],_=>
   unfold cI;erw[ba,qi,ck,fo];erw[eQ];erw[NQ (by decide)];rw[ak];rfl
  | [_],_=>
   unfold cI;erw[ba,qi,ck,fo];erw[eQ];erw[NQ (by decide)];rw[ak];rfl
 |_=>
  unfold cI;erw[ba,qi,ck,fo];erw[c7];rw[ak];rfl
def jz:D->Bool
 | .tup xs=>xs.all (inB (-9) 9)&&(decide (1<=(xs.length:Int))&&decide ((xs.length:Int)<=4)&&decide ((xs.map intOf).Pairwise (· <·)))
 |_=>false
def stB:D->Bool
 | .tup xs=>decide (1<=(xs.length:Int))&&decide ((xs.length:Int)<=4)&&xs.all jz
 |_=>false
theorem D6:iB [.d d] S=.ok (.d (.bl (jz d))) S:=by
 unfold iB;rw[ba];unfold ou;walk_at"mx";rw[pG];cases d with
 |tup xs=>
  dsimp only;show _=R.ok (Vl.d (D.bl (xs.all (inB (-9) 9)&&_))) S;cases h:xs.all (inB (-9) 9)with
  |false=>walk_at"mx";rw[ak,OM]
  |true=>
   obtain⟨ns,rfl,hn⟩:=kh h;walk_at"mx";rw[ki,tv,O1];by_cases h1:(1:Int)<=(ns.length:Int)
   ·erw[NQ h1];by_cases h2:(ns.length:Int)<=4
    ·erw[NQ h2];erw[show D.tup (ns.map D.int)=aF ns from rfl,oy ⋯];rw[ak];rfl
    ·erw[gV h2];rw[ak];rfl
   ·erw[gV h1];rw[ak];rfl
 |_=>(dsimp only;walk_at"mx";rw[ak];rfl)
theorem Hy:jW [.d d] S=.ok (.d (.bl (stB d))) S:=by
 unfold jW;rw[ba];unfold qK;walk_at"mx";rw[c7];cases d with
 |tup xs=>
  dsimp only;walk_at"mx";show _=R.ok (Vl.d (D.bl (decide (1<=(xs.length:Int))&&decide ((xs.length:Int)<=4)&&xs.all jz))) S;by_cases h1:(1:Int)<=(xs.length:Int)
  ·erw[NQ h1];by_cases h2:(xs.length:Int)<=4
   ·erw[NQ h2];rw[gQ (show _=qR [some (.d (.tup xs))] S from rfl) (xs:=xs) (S1:=S) (by walk_at"mx") (λd=>.bl (jz d)) (by
     intro x hx S;walk_at"mx";rw[D6];walk_at"mx")]
    walk_at"mx";erw[jm];rw[ak];rfl
   ·erw[gV h2];rw[ak];rfl
  ·erw[gV h1];rw[ak];rfl
 |_=>(dsimp only;walk_at"mx";rw[ak];rfl)
theorem Ic:if1 (.ok (!b) S) (aD (xC (.bl false))) aN τ=.ok ((if b then .nx else .rt (.d (.bl false))),τ) S:=by cases b<;>rfl
theorem xF{g:XG}{b:XS}{S:Sto}{α:Type}{d:α->Vl}{ok:α->Bool}{J:Nv->Prop}:∀(xs:List α)(τ:Nv),J τ->(∀x∈xs,∀τ,J τ->∃τ1 τ2,g (d x) τ S=.ok τ1 S/\J τ2/\b τ1 S=.ok ((if ok x then .nx else .rt (.d (.bl false))),τ2) S) ->
  ∃τ',J τ'/\eK g b none (xs.map d) τ S=.ok ((if xs.all ok then .nx else .rt (.d (.bl false))),τ') S
 | [],τ,h,_=>⟨τ,h,rfl⟩
 |x::xs,τ,h,hs=>by
  obtain⟨τ1,τ2,e1,h2,e2⟩:=hs x Oq τ h;cases q:ok x with
  |false=>
   refine⟨τ2,h2,?_⟩;rw[N4,eK,e1,bc,e2,q,bc,Pg,q];rfl
  |true=>
   obtain⟨τ',h',e'⟩:=xF xs τ2 h2 (λy hy=>hs y (Oh _ hy));refine⟨τ',h',?_⟩;rw[N4,eK,e1,bc,e2,q,bc,Pg,q,O1,<-e'];exact NT True.intro
theorem Gf{it:XI}{g:XG}{b:XS}{τ:Nv}{S:Sto}{r:R (Fl×Nv)}(hL:fQ it g b τ S=r){α:Type}{d:α->Vl}{xs:List α}(hit:it τ S=.ok ⟨xs.map d,none⟩ S)(ok:α->Bool)(J:Nv->Prop)(h0:J τ)
  (hs:∀x∈xs,∀τ,J τ->∃τ1 τ2,g (d x) τ S=.ok τ1 S/\J τ2/\b τ1 S=.ok ((if ok x then .nx else .rt (.d (.bl false))),τ2) S):∃τ',J τ'/\r=.ok ((if xs.all ok then .nx else .rt (.d (.bl false))),τ') S:=by
 obtain⟨τ',h',e⟩:=xF xs τ h0 hs;refine⟨τ',h',?_⟩;rw[<-hL,vV,hit,vi];exact e
theorem Cw:decide (ps=b_ ps)=decide (ps.Pairwise (· <·)):=by
 rw[P8];exact⟨λh=>by rw[h];exact dJ ps,λh=>kJ (λ_=>Vf) h⟩
theorem MV:oB [x0,some (.d (.tup ys))] S=.ok (.d (.lst ((ys.map Vl.d).filterMap (onF (inB (-9) 9))))) S:=by
 refine mH (p:=inB (-9) 9) (by walk_at"mx") (λd _ S=>?_) λ_=>rfl;walk_at"mx";rw[xI];cases d with
 |int n=>
  erw[show iz (.int n)=true from rfl,show inB (-9) 9 (.int n)=(decide (-9<=n)&&decide (n<=9))from rfl];by_cases h:n < -9
  ·rw[NQ h,gV (show¬-9<=n by omega)];walk_at"mx";rfl
  ·rw[gV h,NQ (show -9<=n by omega)];walk_at"mx";by_cases h2:9<n
   ·rw[NQ h2,gV (show¬n<=9 by omega)];rfl
   ·rw[gV h2,NQ (show n<=9 by omega)];rfl
 |_=>(rw[show iz _=false from rfl];walk_at"mx";rfl)
theorem yd{xs:List D}:∃τ',(∃x1,τ'=[some (.d (.tup xs)),x1])/\jH [some (.d (.tup xs)),none] S=.ok ((if xs.all jz then .nx else .rt (.d (.bl false))),τ') S:=by
 refine Gf (show _=jH [some (.d (.tup xs)),none] S from rfl) (d:=Vl.d) (by walk_at"mx") jz (λτ=>∃x1,τ=[some (.d (.tup xs)),x1]) ⟨_,rfl⟩ ?_;rintro d hd τ ⟨x1,rfl⟩;refine⟨_,[some (.d (.tup xs)),some (.d d)],jg,⟨_,rfl⟩,?_⟩;cases d with
 |tup ys=>
  rw[show jz (.tup ys)=(ys.all (inB (-9) 9)&&(decide (1<=(ys.length:Int))&&decide ((ys.length:Int)<=4)&&decide ((ys.map intOf).Pairwise (· <·))))from rfl];by_cases h1:(ys.length:Int)<1
  ·simp? [eQ,NQ h1,gV (show¬(1:Int)<=(ys.length:Int) by omega),OM,OX]
  ·by_cases h2:(4:Int)<(ys.length:Int)
   ·simp? [eQ,gV h1,NQ h2,gV (show¬(ys.length:Int)<=4 by omega),OM,OX]
   ·simp? [eQ,gV h1,gV h2,MV,tD (p:=inB (-9) 9) (f:=onF (inB (-9) 9)) (λ_=>rfl)]
    cases ha:ys.all (inB (-9) 9)with
    |false=>walk_at"mx";rfl
    |true=>
     obtain⟨ns,rfl,hn⟩:=kh ha;rw[tv]at h1 h2
     simp? [zx (x:=.d (.tup (ns.map D.int))) (S:=S) (ns:=ns) rfl ⋯ (by have:=ji ns;omega),Bn (mU ns),fW,Cw,ki,tv,NQ (show(1:Int)<=(ns.length:Int) by omega),NQ (show(ns.length:Int)<=4 by omega),O1]
     exact Ic
 |_=>(simp? [c7];rfl)
theorem Dn:iI [.d d] S=.ok (.d (.bl (stB d))) S:=by
 unfold iI;rw[ba];unfold oA;rw[ck];cases d with
 |tup xs=>
  rw[show stB (.tup xs)=(decide (1<=(xs.length:Int))&&decide ((xs.length:Int)<=4)&&xs.all jz)from rfl];by_cases h1:(xs.length:Int)<1
  ·simp? [eQ,NQ h1,gV (show¬(1:Int)<=(xs.length:Int) by omega),ak,OM]
  ·by_cases h2:(4:Int)<(xs.length:Int)
   ·simp? [eQ,gV h1,NQ h2,gV (show¬(xs.length:Int)<=4 by omega),ak,OM,OX]
   ·obtain⟨q',⟨x1,rfl⟩,e⟩:=yd (xs:=xs) (S:=S)
    simp? [eQ,gV h1,gV h2,NQ (show(1:Int)<=(xs.length:Int) by omega),NQ (show(xs.length:Int)<=4 by omega),e,O1]
    cases xs.all jz with
    |true=>simp? [ak]
    |false=>simp? [ak]
 |_=>(simp? [c7,ak];rfl)
theorem rZ:isT "bool" d=(match d with | .bl _=>true |_=>false):=by cases d<;>rfl
theorem vG:isT "int" d=(match d with | .bl _=>true | .int _=>true |_=>false):=by cases d<;>rfl
theorem Aa:isT "str" d=(match d with | .str _=>true |_=>false):=by cases d<;>rfl
theorem Fz:isT "list" d=(match d with | .lst _=>true |_=>false):=by cases d<;>rfl
theorem D3:eE xs xs=xs.map λx=>Vl.d (.tup [x,x]):=by
 induction xs with
 |nil=>rfl
 |cons x xs ih=>rw[N4,<-ih];rfl
theorem v7{α:Type}{l:List α}:iW (.d (.bl false)) (.d (.lst (l.map λ_=>D.bl true))) S=.ok (.d (.bl true)) S:=by
 unfold iW inX;dsimp only;rw[show cT (.d (.lst (l.map λ_=>D.bl true))) S=some (l.map λ_=>D.bl true)from rfl];dsimp only;rw[NT (by rw[show D.flat (.bl false)=true from rfl,Rw];simp[D.flat])];unfold inD;rw[Vc,show l.any ((λe=>D.eqv e (D.bl false))∘λ_=>D.bl true)=false from Vi.mpr λx _=>by simp[D.eqv]];rfl
theorem lcG(hit:it τ S=.ok ⟨items,none⟩ S1)(own:Vl->Nv)(f:Vl->D)(p:Vl->Bool)(hown:∀z∈items,(own z).length=k)(hg:∀z∈items,∀r:Nv,r.length=k->∀S:Sto,g z (r++τ) S=.ok (own z++τ) S)
  (ht:∀z∈items,∀S:Sto,t (own z++τ) S=.ok (p z) S) (he:∀z∈items,p z=true->∀S:Sto,e (own z++τ) S=.ok (.d (f z)) S):xLC it k g t e τ S=.ok (.d (.lst ((items.filter p).map f))) S1:=by
 have key:∀(zs:List Vl)(acc:List D)(r:Nv),(∀z∈zs,z∈items)->r.length=k->dW g t e S1.length none zs acc (r++τ) (S1++[.lst acc])=.ok (acc++(zs.filter p).map f) (S1++[.lst (acc++(zs.filter p).map f)]):=by
  intro zs
  induction zs with
  |nil=>
   intro acc r _ _;rw[dW,NT (by simp)];simp
  |cons z zs ih=>
   intro acc r hz hl;have hm:=hz z (Oq ..);rw[dW,hg z hm r hl,bc,ht z hm,bc];by_cases hp:p z=true
   ·rw[NT hp,he z hm hp,bc];dsimp only;rw[NT ⟨by simp,True.intro⟩];rw[show(S1++[Ob.lst acc]).set S1.length (.lst (acc++[f z]))=S1++[.lst (acc++[f z])] by simp];rw[ih (acc++[f z]) (own z) (λy hy=>hz y (Oh _ hy)) (hown z hm),List.filter_cons_of_pos hp,N4,Qq];rfl
   ·rw[N1 hp,NT (show gok none (S1++[Ob.lst acc])from True.intro),ih acc (own z) (λy hy=>hz y (Oh _ hy)) (hown z hm),List.filter_cons_of_neg hp]
 show(it τ S).bind _=_;rw[hit,bc];dsimp only;rw[key items [] (N_ k none) (λ_ h=>h) (by simp),bc];unfold lI;rw[NT (by simp),Q7];simp
theorem yI(ha:iZp (aa a (aa b aj)) τ S=.ok ⟨eE xs xs,none⟩ S)(h:∀x∈xs,∀S,dQ n [.d x,.d x] S=.ok (.d (.bl true)) S):xLC (iZp (aa a (aa b aj))) 2 (gTu 2 (gCo (gNm 0) (gCo (gNm 1) gN0))) (λ_ S=>.ok true S) (aw (dQ n) (aa (ae 0) (aa (ae 1) aj))) τ S=.ok (.d (.lst (xs.map λ_=>.bl true))) S:=by
 rw[D3]at ha;rw[lcG ha (λz=>match z with | .d (.tup [a,b])=>[some (.d a),some (.d b)] |_=>[none,none]) (λ_=>.bl true) (λ_=>true) ?_ ?_ ?_ ?_,List.filter_eq_self.mpr (λ_ _=>rfl),Ov]
 ·rfl
 all_goals intro z hz;obtain⟨x,hx,rfl⟩:=Of.mp hz
 ·rfl
 ·intro y hρ S
  match y,hρ with
  | [_,_],_=>walk_at"mx"
 ·intro S;rfl
 ·intro _ S;dsimp only
  simp? [h x hx]
theorem same_self:∀(n:Nat)(d:D),D.depth d<n->∀S,dQ n [.d d,.d d] S=.ok (.d (.bl true)) S
 |n+1,d,hd,S=>by
  have sq:∀xs:List D,D.bY xs<n->∀x∈xs,∀S,dQ n [.d x,.d x] S=.ok (.d (.bl true)) S:=by
   intro xs
   induction xs with
   |nil=>simp
   |cons y ys ih=>
    intro h x hx;have h:max (D.depth y) (D.bY ys)<n:=h;rcases NU.mp hx with rfl |hx
    ·exact same_self n x ⋯
    ·exact ih ⋯ x hx
  unfold dQ;rw[eh];unfold uC tX;cases d with
  |tup xs=>simp? [rZ,vG,Aa,c7,Fz,yI (a:=ae 0) (b:=ae 1) (τ:=[some (.d (.tup xs)),some (.d (.tup xs))]) (S:=S) (by walk_at"mx") (sq xs (show D.bY xs<n by have:D.bY xs+1<n+1:=hd;omega)),v7,ak]
  |lst xs=>simp? [rZ,vG,Aa,c7,Fz,yI (a:=ae 0) (b:=ae 1) (τ:=[some (.d (.lst xs)),some (.d (.lst xs))]) (S:=S) (by walk_at"mx") (sq xs (show D.bY xs<n by have:D.bY xs+1<n+1:=hd;omega)),v7,ak]
  |non=>simp? [ak]
  |bl b=>simp? [show oIs (.d (.bl b)) (.d .non) S=.ok (.d (.bl false)) S from rfl,rZ,ak]
  |int a=>simp? [rZ,vG,ak]
  |str a=>simp? [show oIs (.d (.str a)) (.d .non) S=.ok (.d (.bl false)) S from rfl,rZ,vG,Aa,ak]
def nT(n:Int):Str:=Po (toString n)
def cW(t:Str):Str:=if Txt.startswith t "-"=true then Txt.slice t (some 1) none else t
def Ad(t:Str):Bool:=(cW t).cps.toList.all λc=>decide (c<128)&&Txt.contains "0123456789" (sg c)
def l8(t:Str):Bool:=decide (1<=(cW t).length)&&decide ((cW t).length<=2)&&Ad t&&(decide (t="0")||(match atI (cW t).cps.toList 0 with
 |some c=>decide ((⟨#[c]⟩:Str)≠"0")
 |none=>false))
def free(t:Str):Prop:=44∉t.cps.toList/\58∉t.cps.toList/\32∉t.cps.toList
def AJ(n:Int):Bool:=l8 (nT n)&&decide ((nT n).length<=3)&&decide (44∉(nT n).cps.toList/\58∉(nT n).cps.toList/\32∉(nT n).cps.toList)&&decide (nT n≠"-")&&decide (QA (nT n)=some n)
theorem L5:(NY 199).all (λk=>AJ ((k:Int)-99))=true:=by decide+kernel
theorem Ci{n:Int}(h:-99<=n/\n<=99):AJ n=true:=by
 have:=Oi.mp L5 (n+99).toNat (Ol.mpr ⋯);rw[show(((n+99).toNat:Nat):Int)-99=n by omega]at this;exact this
structure NG(n:Int):Prop where
 num:l8 (nT n)=true
 len:(nT n).length<=3
 fr:free (nT n)
 ne:nT n≠"-"
 int:QA (nT n)=some n
theorem d4{n:Int}(h:-99<=n/\n<=99):NG n:=by
 have h:=Ci h;unfold AJ at h;simp only[N3,PX]at h;obtain⟨⟨⟨⟨h1,h2⟩,h3⟩,h4⟩,h5⟩:=h;exact⟨h1,h2,h3,h4,h5⟩
theorem str_inj{a b:Str}(h:a.cps.toList=b.cps.toList):a=b:=Str.ext' (Array.toList_inj.mp h)
theorem kH{c:Nat}{p q:Str}{r:List Str}:(Qh ⟨#[c]⟩ (p::q::r)).cps.toList=p.cps.toList++c::(Qh ⟨#[c]⟩ (q::r)).cps.toList:=by
 rw[show Qh ⟨#[c]⟩ (p::q::r)=p++⟨#[c]⟩++Qh ⟨#[c]⟩ (q::r)from rfl];simp[Ws]
theorem rf{x y:Str}:Txt.split x y≠[]:=by
 unfold Txt.split;split
 ·simp
 ·split
  ·simp
  ·rw[TZ];obtain⟨p,r,e⟩:=StrLaws.partsFrom_ne x y.length 0 (Xy x y 0 x.length (x.length+1));rw[e];simp
theorem rj{B:Nat}{c:Nat}{ws:List Str}(h:∀w∈ws,w.length<=B):(Txt.join ⟨#[c]⟩ ws).length<=ws.length*B+ws.length:=by
 have h1:=StrLaws.join_length_le ⟨#[c]⟩ ws;have h2:=StrLaws.sumLen_le ws h;rw[show Txt.join ⟨#[c]⟩ ws=Qh ⟨#[c]⟩ ws from Qn _ _];rw[show(⟨#[c]⟩:Str).length=1 from rfl]at h1;omega
theorem words_of:∀ws:List Str,wordsOf (ws.map D.str)=some ws
 | []=>rfl
 |w::ws=>by
  show(wordsOf (ws.map D.str)).map (w::·)=_;rw[words_of ws];rfl
theorem kb{c:Nat}{ws:List Str}{S:Sto}(h:∀w∈ws,w.length<=1000)(hl:ws.length<=1000):eI ⟨#[c]⟩ (.d (.lst (ws.map D.str))) S=.ok (.d (.str (Txt.join ⟨#[c]⟩ ws))) S:=by
 rw[show eI ⟨#[c]⟩ (.d (.lst (ws.map D.str))) S=(match wordsOf (ws.map D.str)with
  |some ws=>if JoinOk ⟨#[c]⟩ ws=true then .ok (.d (.str (Txt.join ⟨#[c]⟩ ws))) S else .bad
  |none=>.bad)from rfl,words_of]
 refine NT ?_;unfold JoinOk;rw[StrLaws.joinFits h (by rw[show(⟨#[c]⟩:Str).length=1 from rfl];omega)];rfl
theorem uj(x:Str)(w:Nat):∀(cuts:List Nat)(a:Nat),(Vx x w a cuts).length=cuts.length+1
 | [],_=>rfl
 |c::r,a=>by rw[Vx,N9,uj x w r];rfl
theorem dU{c:Nat}{t:Str}{S:Sto}(h:t.length<=1000):dI t (.d (.str ⟨#[c]⟩)) S=.ok (.d (.lst ((Txt.split t ⟨#[c]⟩).map D.str))) S:=by
 refine NT ⟨rfl,h,?_⟩;rw[TZ,uj];have:=StrLaws.occ_length_le t ⟨#[c]⟩ 0 t.length (t.length+1);omega
theorem Dk{c:Nat}{ps:List Str}{t:Str}(ht:c∉t.cps.toList)(h:2<=ps.length):Txt.join ⟨#[c]⟩ ps≠t:=by
 intro e
 match ps,h with
 |p::q::r,_=>
  rw[show Txt.join ⟨#[c]⟩ (p::q::r)=Qh ⟨#[c]⟩ (p::q::r)from Qn _ _]at e;refine ht ?_;rw[<-e,kH];simp
theorem tY{c d:Nat}(hn:c≠d):∀{ps:List Str},(∀p∈ps,d∉p.cps.toList)->d∉(Qh ⟨#[c]⟩ ps).cps.toList
 | [],_=>by simp[Qh,Ys]
 | [p],h=>h p (.head _)
 |p::q::r,h=>by
  rw[kH];have:=tY hn (ps:=q::r) λx hx=>h x (.tail _ hx);simp only[Oz,NU,not_or];exact⟨h p (.head _),λz=>hn z.symm,this⟩
theorem nV{c d:Nat}(hn:c≠d){ps:List Str}(h:∀p∈ps,d∉p.cps.toList):d∉(Txt.join ⟨#[c]⟩ ps).cps.toList:=by
 rw[show Txt.join ⟨#[c]⟩ ps=Qh ⟨#[c]⟩ ps from Qn _ _];exact tY hn h
theorem comma:(",":Str)=⟨#[44]⟩:=by decide
theorem colon:(":":Str)=⟨#[58]⟩:=by decide
theorem blank:(" ":Str)=⟨#[32]⟩:=by decide
def sm1(f:Str->Vl->Sto->R Vl)(a:Str)(r:R Vl):R Vl:=r.bind λz S2=>f a z S2
def sm0(f:Str->Vl->Sto->R Vl)(r:R Vl)(e:XE)(τ:Nv):R Vl:=r.bind λx S1=>match x with
 | .d (.str a)=>sm1 f a (e τ S1)
 |_=>.bad
theorem cD:xSm f o e τ S=sm0 f (o τ S) e τ:=bp rfl
theorem cC:sm0 f (.ok (.d (.str a)) S) e τ=sm1 f a (e τ S):=bp rfl
theorem cy:sm1 f a (.ok z S)=f a z S:=bp rfl
theorem xg:kc a (.d (.str b)) S=.ok (.d (.bl (Txt.startswith a b))) S:=bp rfl
theorem Iz:zK (.d (.str a)) (.d (.str b)) S=.ok (.d (.bl (Txt.contains b a))) S:=bp rfl
theorem gi(h:t.length<=1000):qb [.d (.str t)] S=.ok (.d (.int t.length)) S:=NT h
theorem KJ(h:t.length<=1000):iO (.d (.str t)) i j S=.ok (.d (.str (Txt.slice t i j))) S:=NT h
theorem eU(h:-99<=n/\n<=99):dX [.d (.int n)] S=.ok (.d (.str (nT n))) S:=NT ⋯
def Few(ns:List Int):Prop:=ns.length<=12/\∀n∈ns,-99<=n/\n<=99
def AB(t:Tri):Prop:=(-99<=t.1/\t.1<=99)/\(-99<=t.2.1/\t.2.1<=99)/\-99<=t.2.2/\t.2.2<=99
def xr(ts:List Tri):Prop:=ts.length<=12/\∀t∈ts,AB t
def jn(ws:List Str):Str:=if ws=[]then"-"else Txt.join ⟨#[44]⟩ ws
def bj(ns:List Int):Str:=jn (ns.map nT)
def l7(t:Tri):Str:=Txt.join ⟨#[58]⟩ [nT t.1,nT t.2.1,nT t.2.2]
def fJ(ts:List Tri):Str:=jn (ts.map l7)
def gx(wss:List (List Int)):Str:=Txt.join ⟨#[32]⟩ (wss.map bj)
structure Part(B:Nat)(w:Str):Prop where
 len:w.length<=B
 c:44∉w.cps.toList
 b:32∉w.cps.toList
 ne:w≠"-"
theorem Je(h:-99<=n/\n<=99):Part 12 (nT n):=⟨N7 (d4 h).len (by decide),(d4 h).fr.1,(d4 h).fr.2.2,(d4 h).ne⟩
theorem w4{P:Str->Prop}(h1:P a)(h2:P b)(h3:P c):∀w∈[a,b,c],P w:=by
 intro w hw;simp only[NU,Oj,O6]at hw;rcases hw with rfl |rfl |rfl<;>assumption
theorem JY(h:AB t):Part 12 (l7 t):=by
 obtain⟨h1,h2,h3⟩:=h;refine⟨N7 (rj (B:=3) (w4 (d4 h1).len (d4 h2).len (d4 h3).len)) (by show 3*3+3<=12;decide),nV (by decide) (w4 (d4 h1).fr.1 (d4 h2).fr.1 (d4 h3).fr.1),nV (by decide) (w4 (d4 h1).fr.2.2 (d4 h2).fr.2.2 (d4 h3).fr.2.2),Dk (by decide) (by show 2<=3;decide)⟩
theorem BZ(h:∀w∈ws,Part 12 w)(hl:ws.length<=12):(jn ws).length<=190:=by
 unfold jn;split
 ·decide
 ·have:=rj (c:=44) (B:=12) λw hw=>(h w hw).len;omega
theorem wu(h:∀w∈ws,Part 12 w):32∉(jn ws).cps.toList:=by
 unfold jn;split
 ·decide
 ·exact nV (by decide) λw hw=>(h w hw).b
theorem mZ(h:Few ns):(∀w∈ns.map nT,Part 12 w)/\(ns.map nT).length<=12:=by
 refine⟨λw hw=>?_,by rw[tv];exact h.1⟩;obtain⟨n,hn,rfl⟩:=Of.mp hw;exact Je (h.2 n hn)
theorem mI(h:xr ts):(∀w∈ts.map l7,Part 12 w)/\(ts.map l7).length<=12:=by
 refine⟨λw hw=>?_,by rw[tv];exact h.1⟩;obtain⟨n,hn,rfl⟩:=Of.mp hw;exact JY (h.2 n hn)
theorem Hl{a:XE}(h:Few ns)(ha:a τ S=.ok (.d (aF ns)) S):xLC (bZ a) 1 (gNm 0) (λ_ S=>.ok true S) (xN dX (aa (ae 0) aj)) τ S=.ok (.d (.lst ((ns.map nT).map D.str))) S:=by
 rw[gQ (r:=_) rfl ha (λx=>match x with | .int n=>.str (nT n) |x=>x) ?_,Ov,Ov]
 ·rfl
 ·intro x hx S;obtain⟨n,hn,rfl⟩:=Of.mp hx
  simp? [eU (h.2 n hn)]
theorem cZ(h:Few ns):cU [.d (aF ns)] S=.ok (.d (.str (bj ns))) S:=by
 unfold cU;rw[ba];unfold jK jJ;have e:=kb (c:=44) (S:=S) (λx hx=>N7 ((mZ h).1 x hx).len (by decide)) (N7 (mZ h).2 (by decide));have e0:oEq (.d (aF ns)) (.d (.tup [])) S=.ok (.d (.bl (decide (ns=[])))) S:=by
  unfold aF;rw[FL (by show _+1<=50;rw[sQ];decide),show D.cJ (ns.map D.int) []=D.cJ (ns.map D.int) (([]:List Int).map D.int)from rfl,fW]
 have e2:=Hl h (show ae 0 [some (.d (aF ns))] S=.ok (.d (aF ns)) S from rfl);cases ns with
 |nil=>simp? [e0,ak];rfl
 |cons n ns=>
  simp? [cD,cC,cy,comma,e0,show decide (n::ns=[])=false from rfl]
  rw[e2,cy,e]
  simp? [ak]
  rfl
def Ku(x:D):D:=match x with
 | .tup [.int a,.int b,.int c]=>.str (l7 (a,b,c))
 |x=>x
theorem EO{ts:List Tri}:(ts.map bC).map Ku=(ts.map l7).map D.str:=by
 rw[Ov,Ov];rfl
theorem sZ{a b:Str}(h:a.length+b.length<=100000):aU (.d (.str a)) (.d (.str b)) S=.ok (.d (.str (a++b))) S:=NT h
theorem Gk:nT a++":"++nT b++":"++nT c=l7 (a,b,c):=by
 rw[show l7 (a,b,c)=Qh ⟨#[58]⟩ [nT a,nT b,nT c]from Qn _ _,show Qh ⟨#[58]⟩ [nT a,nT b,nT c]=nT a++⟨#[58]⟩++(nT b++⟨#[58]⟩++nT c)from rfl,colon];simp only[Str.append_assoc]
theorem ph(h:xr ts):fg [.d (.tup (ts.map bC))] S=.ok (.d (.str (fJ ts))) S:=by
 unfold fg;rw[ba];unfold jM;have e:gv [some (.d (.tup (ts.map bC)))] S=.ok (.d (.lst ((ts.map l7).map D.str))) S:=by
  unfold gv;rw[gQ (r:=_) rfl (show ae 0 [some (.d (.tup (ts.map bC)))] S=.ok (.d (.tup (ts.map bC))) S from rfl) Ku ?_,EO];intro x hx S;obtain⟨t,ht,rfl⟩:=Of.mp hx;obtain⟨h1,h2,h3⟩:=h.2 t ht;have l1:=(d4 h1).len;have l2:=(d4 h2).len;have l3:=(d4 h3).len;have lc:(":":Str).length=1:=by decide
  have a1:(nT t.1++(":":Str)).length<=4:=by rw[O5];omega
  have a2:(nT t.1++":"++nT t.2.1).length<=7:=by rw[O5];omega
  have a3:(nT t.1++":"++nT t.2.1++(":":Str)).length<=8:=by rw[O5];omega
  have b1:=sZ (a:=nT t.1) (b:=":") (S:=S) ⋯;have b2:=sZ (a:=nT t.1++":") (b:=nT t.2.1) (S:=S) ⋯;have b3:=sZ (a:=nT t.1++":"++nT t.2.1) (b:=":") (S:=S) ⋯;have b4:=sZ (a:=nT t.1++":"++nT t.2.1++":") (b:=nT t.2.2) (S:=S) ⋯;have c1:oIx (.d (bC t)) (.d (.int 0)) S=.ok (.d (.int t.1)) S:=rfl;have c2:oIx (.d (bC t)) (.d (.int 1)) S=.ok (.d (.int t.2.1)) S:=rfl;have c3:oIx (.d (bC t)) (.d (.int 2)) S=.ok (.d (.int t.2.2)) S:=rfl
  simp? [c1,c2,c3,eU h1,eU h2,eU h3,b1,b2,b3,b4,Gk]
  rfl
 have e2:=kb (c:=44) (S:=S) (λx hx=>N7 ((mI h).1 x hx).len (by decide)) (N7 (mI h).2 (by decide));have e0:oEq (.d (.tup (ts.map bC))) (.d (.tup [])) S=.ok (.d (.bl (decide (ts=[])))) S:=by
  rw[FL (by show _+1<=50;have:=n4 ts;omega)];cases ts<;>rfl
 generalize D.tup (ts.map bC)=d at e e0 ⊢;by_cases q:ts=[]
 ·rw[NQ q]at e0
  simp? [e0,ak]
  rw[q];rfl
 ·rw[gV q]at e0
  simp? [cD,cC,cy,comma,e0,e,e2,ak]
  unfold fJ jn;rw[N1 (by simpa using q)]
def wiP:Wi->List Str
 | .unl ns=>["unlike",bj ns]
 | .man ns bs=>["many",bj ns,fJ bs]
 | .sum ns ws lo hi=>["sum",bj ns,bj ws,nT lo,nT hi]
 | .row ns ds es=>["row",bj ns,fJ ds,bj es]
 | .han ns ls=>["hand",bj ns,bj ls]
def wiT(wi:Wi):Str:=Txt.join ⟨#[32]⟩ (wiP wi)
def vo:Wi->Prop
 | .unl ns=>Few ns
 | .man ns bs=>Few ns/\xr bs
 | .sum ns ws lo hi=>Few ns/\Few ws/\(-99<=lo/\lo<=99)/\-99<=hi/\hi<=99
 | .row ns ds es=>Few ns/\xr ds/\Few es
 | .han ns ls=>Few ns/\Few ls
structure vm(w:Str):Prop where
 len:w.length<=190
 b:32∉w.cps.toList
theorem jQ(h:Few ns):vm (bj ns):=⟨BZ (mZ h).1 (mZ h).2,wu (mZ h).1⟩
theorem E9(h:xr ts):vm (fJ ts):=⟨BZ (mI h).1 (mI h).2,wu (mI h).1⟩
theorem Jj(h:-99<=n/\n<=99):vm (nT n):=⟨N7 (d4 h).len (by decide),(d4 h).fr.2.2⟩
theorem CI(h:vo wi):(∀w∈wiP wi,vm w)/\2<=(wiP wi).length/\(wiP wi).length<=5:=by
 cases wi with
 |unl ns=>
  refine⟨?_,by show 2<=2;decide,by show 2<=5;decide⟩;intro w hw;simp only[wiP,NU,Oj,O6]at hw;rcases hw with rfl |rfl
  ·exact⟨by decide,by decide⟩
  ·exact jQ h
 |man ns bs=>
  refine⟨?_,by show 2<=3;decide,by show 3<=5;decide⟩;intro w hw;simp only[wiP,NU,Oj,O6]at hw;rcases hw with rfl |rfl |rfl
  ·exact⟨by decide,by decide⟩
  ·exact jQ h.1
  ·exact E9 h.2
 |sum ns ws lo hi=>
  refine⟨?_,by show 2<=5;decide,by show 5<=5;decide⟩;intro w hw;simp only[wiP,NU,Oj,O6]at hw;rcases hw with rfl |rfl |rfl |rfl |rfl
  ·exact⟨by decide,by decide⟩
  ·exact jQ h.1
  ·exact jQ h.2.1
  ·exact Jj h.2.2.1
  ·exact Jj h.2.2.2
 |row ns ds es=>
  refine⟨?_,by show 2<=4;decide,by show 4<=5;decide⟩;intro w hw;simp only[wiP,NU,Oj,O6]at hw;rcases hw with rfl |rfl |rfl |rfl
  ·exact⟨by decide,by decide⟩
  ·exact jQ h.1
  ·exact E9 h.2.1
  ·exact jQ h.2.2
 |han ns ls=>
  refine⟨?_,by show 2<=3;decide,by show 3<=5;decide⟩;intro w hw;simp only[wiP,NU,Oj,O6]at hw;rcases hw with rfl |rfl |rfl
  ·exact⟨by decide,by decide⟩
  ·exact jQ h.1
  ·exact jQ h.2
theorem Er{c:Nat}{ws:List Str}{S:Sto}{n:Nat}(e:S[n]?=some (.lst (ws.map D.str)))(h:∀w∈ws,w.length<=1000)(hl:ws.length<=1000):eI ⟨#[c]⟩ (.r n) S=.ok (.d (.str (Txt.join ⟨#[c]⟩ ws))) S:=by
 unfold eI;rw[AL e];exact kb h hl
theorem wB(h:vo wi)(e:S[n]?=some (.lst ((wiP wi).map D.str))):eI ⟨#[32]⟩ (.r n) S=.ok (.d (.str (wiT wi))) S:=
 Er e (λw hw=>N7 ((CI h).1 w hw).len (by decide)) (N7 (CI h).2.2 (by decide))
def inW(x a b:Str):Bool:=a==x||(b==x||false)
theorem jh{x a b:Str}:oIn (.d (.str x)) (.d (.tup [.str a,.str b])) S=.ok (.d (.bl (inW x a b))) S:=by
 rw[show oIn (.d (.str x)) (.d (.tup [.str a,.str b])) S=.ok (.d (.bl (D.eqv (.str a) (.str x)||(D.eqv (.str b) (.str x)||false)))) S from rfl];simp only[D.eqv,inW]
theorem CH(h:vo wi):gH [.d (wiD wi)] S=.ok (.d (.str (wiT wi))) S:=by
 unfold gH;rw[ba];unfold mz;cases wi with
 |unl ns=>
  have h1:Few ns:=h;have e:=wB (wi:=.unl ns) (n:=S.length) (S:=S++[.lst [.str "unlike",.str (bj ns)]]) h gO;unfold wiD
  simp? [aX (show atI [D.str "unlike",aF ns] 0=some (.str "unlike")from rfl),aX (show atI [D.str "unlike",aF ns] 1=some (aF ns)from rfl),cZ h1,jh,eqw,bD,show inW "unlike" "many" "row"=false by decide,show inW "unlike" "sum" "hand"=false by decide,show decide (("unlike":Str)="sum")=false by decide,show decide (("unlike":Str)="row")=false by decide,cD,cC,cy,blank,e,fX]
 |man ns bs=>
  obtain⟨h1,h2⟩:=id h;have e:=wB (wi:=.man ns bs) (n:=S.length) (S:=S++[.lst [.str "many",.str (bj ns),.str (fJ bs)]]) h gO;unfold wiD;have e2:=λS=>ph (S:=S) h2
  simp? [aX (show atI [D.str "many",aF ns,.tup (bs.map bC)] 0=some (.str "many")from rfl),aX (show atI [D.str "many",aF ns,.tup (bs.map bC)] 1=some (aF ns)from rfl),cZ h1,jh,eqw,bD,show inW "many" "many" "row"=true by decide,show inW "many" "sum" "hand"=false by decide,show decide (("many":Str)="sum")=false by decide,show decide (("many":Str)="row")=false by decide,aX (show atI [D.str "many",aF ns,.tup (bs.map bC)] 2=some (.tup (bs.map bC))from rfl),e2,jX (n:=S.length) (xs:=[.str "many",.str (bj ns)]) (z:=.str (fJ bs)) (S:=S++[.lst [.str "many",.str (bj ns)]]) (by show 2<100000;decide),cD,cC,cy,blank,e,fX]
 |sum ns ws lo hi=>
  obtain⟨h1,h2,h3,h4⟩:=id h;have e:=wB (wi:=.sum ns ws lo hi) (n:=S.length+1) (S:=S++[.lst [.str "sum",.str (bj ns),.str (bj ws)],.lst [.str "sum",.str (bj ns),.str (bj ws),.str (nT lo),.str (nT hi)]]) h xP;have e3:sx (.r S.length) (.d (.lst [.str (nT lo),.str (nT hi)])) (S++[.lst [.str "sum",.str (bj ns),.str (bj ws)]])=.ok (.r (S.length+1)) (S++[.lst [.str "sum",.str (bj ns),.str (bj ws)],.lst [.str "sum",.str (bj ns),.str (bj ws),.str (nT lo),.str (nT hi)]]):=by
   unfold sx;rw[AL gO,show dv (.d (.lst [D.str (nT lo),.str (nT hi)])) (S++[.lst [.str "sum",.str (bj ns),.str (bj ws)]])=some [.str (nT lo),.str (nT hi)]from rfl];dsimp only;rw[NT (by show 5<=100000;decide),ON,Qq];rfl
  unfold wiD
  simp? [aX (show atI [D.str "sum",aF ns,aF ws,.int lo,.int hi] 0=some (.str "sum")from rfl),aX (show atI [D.str "sum",aF ns,aF ws,.int lo,.int hi] 1=some (aF ns)from rfl),aX (show atI [D.str "sum",aF ns,aF ws,.int lo,.int hi] 3=some (.int lo)from rfl),aX (show atI [D.str "sum",aF ns,aF ws,.int lo,.int hi] 4=some (.int hi)from rfl),cZ h1,jh,eqw,bD,show inW "sum" "many" "row"=false by decide,show inW "sum" "sum" "hand"=true by decide,show decide (("sum":Str)="sum")=true by decide,show decide (("sum":Str)="row")=false by decide,aX (show atI [D.str "sum",aF ns,aF ws,.int lo,.int hi] 2=some (aF ws)from rfl),cZ h2,jX (n:=S.length) (xs:=[.str "sum",.str (bj ns)]) (z:=.str (bj ws)) (S:=S++[.lst [.str "sum",.str (bj ns)]]) (by show 2<100000;decide),eU h3,eU h4,e3,cD,cC,cy,blank,e,fX]
 |row ns ds es=>
  obtain⟨h1,h2,h3⟩:=id h;have e:=wB (wi:=.row ns ds es) (n:=S.length) (S:=S++[.lst [.str "row",.str (bj ns),.str (fJ ds),.str (bj es)]]) h gO;unfold wiD;have e2:=λS=>ph (S:=S) h2
  simp? [aX (show atI [D.str "row",aF ns,.tup (ds.map bC),aF es] 0=some (.str "row")from rfl),aX (show atI [D.str "row",aF ns,.tup (ds.map bC),aF es] 1=some (aF ns)from rfl),cZ h1,jh,eqw,bD,show inW "row" "many" "row"=true by decide,show inW "row" "sum" "hand"=false by decide,show decide (("row":Str)="sum")=false by decide,show decide (("row":Str)="row")=true by decide,aX (show atI [D.str "row",aF ns,.tup (ds.map bC),aF es] 2=some (.tup (ds.map bC))from rfl),e2,jX (n:=S.length) (xs:=[.str "row",.str (bj ns)]) (z:=.str (fJ ds)) (S:=S++[.lst [.str "row",.str (bj ns)]]) (by show 2<100000;decide),aX (show atI [D.str "row",aF ns,.tup (ds.map bC),aF es] 3=some (aF es)from rfl),cZ h3,jX (n:=S.length) (xs:=[.str "row",.str (bj ns),.str (fJ ds)]) (z:=.str (bj es)) (S:=S++[.lst [.str "row",.str (bj ns),.str (fJ ds)]]) (by show 3<100000;decide),cD,cC,cy,blank,e,fX]
 |han ns ls=>
  obtain⟨h1,h2⟩:=id h;have e:=wB (wi:=.han ns ls) (n:=S.length) (S:=S++[.lst [.str "hand",.str (bj ns),.str (bj ls)]]) h gO;unfold wiD
  simp? [aX (show atI [D.str "hand",aF ns,aF ls] 0=some (.str "hand")from rfl),aX (show atI [D.str "hand",aF ns,aF ls] 1=some (aF ns)from rfl),cZ h1,jh,eqw,bD,show inW "hand" "many" "row"=false by decide,show inW "hand" "sum" "hand"=true by decide,show decide (("hand":Str)="sum")=false by decide,show decide (("hand":Str)="row")=false by decide,aX (show atI [D.str "hand",aF ns,aF ls] 2=some (aF ls)from rfl),cZ h2,jX (n:=S.length) (xs:=[.str "hand",.str (bj ns)]) (z:=.str (bj ls)) (S:=S++[.lst [.str "hand",.str (bj ns)]]) (by show 2<100000;decide),cD,cC,cy,blank,e,fX]
inductive Al2(F:XF):List D->List D->Prop
 |nil:Al2 F [] []
 |cons {x z:D} {xs zs:List D} (h:∀S,F [.d x] S=.ok (.d z) S) (r:Al2 F xs zs):Al2 F (x::xs) (z::zs)
theorem Al2.of{α:Type}{F:XF}{f g:α->D}:∀{l:List α},(∀a∈l,∀S,F [.d (f a)] S=.ok (.d (g a)) S)->Al2 F (l.map f) (l.map g)
 | [],_=>.nil
 |a::l,h=>.cons (h a (.head _)) (Al2.of λb hb=>h b (.tail _ hb))
theorem Kr{F:XF}{it:XI}(hit:it τ S=.ok ⟨xs.map Vl.d,none⟩ S1)(h:Al2 F xs zs):xLC it 1 (gNm 0) (λ_ S=>.ok true S) (aw F (aa (ae 0) aj)) τ S=.ok (.d (.lst zs)) S1:=by
 have key:∀{xs zs:List D},Al2 F xs zs->∀(acc:List D)(x0:Option Vl),dW (gNm 0) (λ_ S=>.ok true S) (aw F (aa (ae 0) aj)) S1.length none (xs.map Vl.d) acc (x0::τ) (S1++[.lst acc])=.ok (acc++zs) (S1++[.lst (acc++zs)]):=by
  intro xs zs h
  induction h with
  |nil=>
   intro acc x0;rw[O7,dW,NT (by simp)];simp
  | @cons x z xs zs hf r ih=>
   intro acc x0;have e2:gNm 0 (.d x) (x0::τ) (S1++[.lst acc])=.ok (some (.d x)::τ) (S1++[.lst acc]):=rfl;have e3:aw F (aa (ae 0) aj) (some (.d x)::τ) (S1++[.lst acc])=.ok (.d z) (S1++[.lst acc]):=by simp? [hf]
   rw[N4,dW,e2,bc,bc,NT rfl,e3,bc];dsimp only;rw[NT ⟨by simp,True.intro⟩];rw[show(S1++[Ob.lst acc]).set S1.length (.lst (acc++[z]))=S1++[.lst (acc++[z])] by simp];rw[ih (acc++[z]) (some (.d x)),Qq];rfl
 show(it τ S).bind _=_;rw[hit,bc];dsimp only;rw[show N_ 1 none++τ=none::τ from rfl,key h [] none,bc];unfold lI;rw[NT (by simp),Q7];simp
theorem ya(h:∀ws∈wss,Few ws)(h2:wss.length<=12):eI ⟨#[32]⟩ (.d (.lst ((wss.map bj).map D.str))) S=.ok (.d (.str (gx wss))) S:=
 kb (λw hw=>by
  obtain⟨ws,hm,rfl⟩:=Of.mp hw;exact N7 (jQ (h ws hm)).len (by decide)) (by rw[tv];exact N7 h2 (by decide))
theorem zy(h:∀ws∈wss,Few ws)(h2:wss.length<=12):f_ [.d (cg wss)] S=.ok (.d (.str (gx wss))) S:=by
 unfold f_;rw[ba];unfold lX;have e:lN [some (.d (cg wss))] S=.ok (.d (.lst (wss.map λws=>.str (bj ws)))) S:=Kr (xs:=wss.map aF) rfl (Al2.of λws hw S=>cZ (h ws hw));rw[show wss.map (λws=>D.str (bj ws))=(wss.map bj).map D.str by rw[Ov];rfl]at e
 simp? [e,cD,cC,cy,blank,ya h h2,ak]
structure Tx(L:Nat)(t:Str):Prop where
 len:t.length<=L
 asc:∀c∈t.cps.toList,c<128
theorem Tx.le(h:Tx L t)(hl:L<=M):Tx M t:=⟨N7 h.len hl,h.asc⟩
theorem kT{t:Str}:t.length=t.cps.toList.length:=Om.symm
def wl(ws:List Str):Nat:=(ws.map λw=>w.length+1).sum
theorem kU{a b:List Str}:wl (a++b)=wl a+wl b:=by
 unfold wl;rw[Ql,List.sum_append]
theorem cm{w:Str}{b:List Str}:wl (w::b)=w.length+1+wl b:=by
 unfold wl;rw[N4,List.sum_cons]
theorem xV{l:List Str}(k:Nat):wl (l.take k)+wl (l.drop k)=wl l:=by rw[<-kU,Qk]
theorem Ct{w:Str}:∀{l:List Str},w∈l->w.length+1<=wl l
 |a::l,h=>by
  rw[cm];rcases NU.mp h with rfl |h
  ·omega
  ·have:=Ct h;omega
theorem sD{k:Nat}:∀{l:List Str},(∀w∈l,k<=w.length)->l.length*(k+1)<=wl l
 | [],_=>by simp
 |a::l,h=>by
  have h1:=h a (.head _);have h2:=sD (k:=k) λw hw=>h w (.tail _ hw);rw[cm,N9,Xw];omega
theorem tM{c:Nat}:∀{ps:List Str},ps≠[]->(Qh ⟨#[c]⟩ ps).length+1=wl ps
 | [p],_=>rfl
 |p::q::r,_=>by
  have h2:=tM (c:=c) (ps:=q::r) (by simp);rw[cm,<-h2,kT,kH,ON,N9,kT,kT];omega
theorem yW{c:Nat}{w:Str}:∀{ps:List Str},w∈ps->∀x∈w.cps.toList,x∈(Qh ⟨#[c]⟩ ps).cps.toList
 | [p],h,x,hx=>by
  cases N6.mp h;exact hx
 |p::q::r,h,x,hx=>by
  rw[kH];rcases NU.mp h with rfl |h
  ·exact OR _ hx
  ·exact Oe _ (.tail _ (yW h x hx))
theorem vU{c:Nat}(hc:c<128):∀{ps:List Str},(∀p∈ps,∀x∈p.cps.toList,x<128)->∀x∈(Qh ⟨#[c]⟩ ps).cps.toList,x<128
 | [],_,x,hx=>by cases hx
 | [p],h,x,hx=>h p (.head _) x hx
 |p::q::r,h,x,hx=>by
  rw[kH]at hx;rcases Oz.mp hx with hx |hx
  ·exact h p (.head _) x hx
  ·rcases NU.mp hx with rfl |hx
   ·exact hc
   ·exact vU hc (λy hy=>h y (.tail _ hy)) x hx
theorem nB{c:Nat}{t:Str}:wl (Txt.split t ⟨#[c]⟩)=t.length+1:=by
 rw[<-tM (c:=c) rf,Ve]
theorem fc{c:Nat}{t w:Str}(h:Tx L t)(hw:w∈Txt.split t ⟨#[c]⟩):Tx L w:=by
 have a:=yW (c:=c) hw;rw[Ve]at a;have b:=Ct hw;rw[nB]at b;exact⟨by have:=h.len;omega,λx hx=>h.asc x (a x hx)⟩
theorem uP{c:Nat}{t:Str}(h:Tx L t):(Txt.split t ⟨#[c]⟩).length<=L+1:=by
 have:=sD (k:=0) (l:=Txt.split t ⟨#[c]⟩) λ_ _=>Pc _;rw[nB]at this;have:=h.len;omega
theorem gh{c:Nat}{ws:List Str}(hc:c<128)(h:∀w∈ws,∀x∈w.cps.toList,x<128)(hl:wl ws<=L+1):Tx L (Txt.join ⟨#[c]⟩ ws):=by
 rw[show Txt.join ⟨#[c]⟩ ws=Qh ⟨#[c]⟩ ws from Qn _ _];refine⟨?_,vU hc h⟩;by_cases q:ws=[]
 ·subst q;exact Pc _
 ·have:=tM (c:=c) q;omega
theorem kI{t:Str}{i j:Option Int}(h:Tx L t):Tx L (Txt.slice t i j):=by
 unfold Txt.slice;split
 ·exact h
 ·refine⟨?_,λc hc=>?_⟩
  ·rw[kT];exact N7 (List.length_filterMap_le _ _) (N7 (sliceIndices_le _ _ _) h.len)
  ·obtain⟨a,_,e⟩:=QP.mp hc;refine h.asc c ?_;rw[<-OY]at e;exact OE e
theorem wx{a b:Str}(h:Tx L a)(g:Tx M b):Tx (L+M) (a++b):=⟨by rw[O5];have:=h.len;have:=g.len;omega,λc hc=>by
 rw[Ws,Array.toList_append]at hc;rcases Oz.mp hc with z |z
 ·exact h.asc c z
 ·exact g.asc c z⟩
theorem NM:(NY 128).all (λc=>!Txt.contains "0123456789" (sg c)||(decide (48<=c)&&decide (c<=57)))=true:=by decide+kernel
def chk(l:List Nat):Bool:=!l8 ⟨l.toArray⟩||(match QA ⟨l.toArray⟩with
 |some v=>decide ((⟨l.toArray⟩:Str)=nT v)&&decide (-99<=v/\v<=99)
 |none=>false)
theorem Jm:((NY 10).all λa=>chk [48+a]&&chk [45,48+a]&&(NY 10).all λb=>chk [48+a,48+b]&&chk [45,48+a,48+b])=true:=by decide+kernel
theorem DB{t:Str}:t.cps.toList=(cW t).cps.toList\/t.cps.toList=45::(cW t).cps.toList:=by
 unfold cW;split
 ·rename_i h;right;unfold Txt.startswith at h;rw[N3,StrLaws.subAt_eq]at h;obtain⟨h1,h2⟩:=h
  replace h1:1<=t.length:=by
   have:=Oc h1;rw[show("-":Str).length=1 by decide]at this;omega
  rw[WR (x:=t) (i:=1) (b:=t.length) (by decide) ⋯ rfl]
  replace h2:(t.cps.toList.drop 0).take 1=[45]:=eq_of_beq h2
  rw[kT]at h1 ⊢
  match hq:t.cps.toList with
  | []=>rw[hq]at h1;cases h1
  |c::r=>
   rw[hq]at h2;have:c=45:=by simpa using h2
   subst this;simp
 ·exact .inl rfl
theorem y8{t:Str}(h:l8 t=true):∃n:Int,(-99<=n/\n<=99)/\t=nT n:=by
 have h0:=h;unfold l8 at h;simp only[N3,PX]at h;obtain⟨⟨⟨h1,h2⟩,h3⟩,_⟩:=h;have dig:∀c∈(cW t).cps.toList,∃a,a<10/\c=48+a:=by
  intro c hc;have:=Oi.mp h3 c hc;rw[N3]at this;have q:=Oi.mp NM c (Ol.mpr (Oc this.1));rw[this.2]at q;simp only[Tc,UN,N3,PX]at q;exact⟨c-48,by omega,by omega⟩
 rw[kT]at h1 h2;have key:chk t.cps.toList=true:=by
  have hh:=DB (t:=t)
  match hq:(cW t).cps.toList,h1,h2 with
  | [c],_,_=>
   rw[hq]at dig hh;obtain⟨a,ha,rfl⟩:=dig c (.head _);have:=Oi.mp Jm a (Ol.mpr ha);simp only[N3]at this;rcases hh with e |e<;>rw[e]
   ·exact this.1.1
   ·exact this.1.2
  | [c,d],_,_=>
   rw[hq]at dig hh;obtain⟨a,ha,rfl⟩:=dig c (.head _);obtain⟨b,hb,rfl⟩:=dig d (.tail _ (.head _));have:=Oi.mp Jm a (Ol.mpr ha);simp only[N3]at this;have:=Oi.mp this.2 b (Ol.mpr hb);simp only[N3]at this;rcases hh with e |e<;>rw[e]
   ·exact this.1
   ·exact this.2
 have ht:(⟨t.cps.toList.toArray⟩:Str)=t:=str_inj rfl;unfold chk at key;rw[ht,h0,Tc,UN]at key;split at key
 ·rename_i v _;rw[N3]at key;exact⟨v,Oc key.2,Oc key.1⟩
 ·cases key
def dg(t:Str):Option D:=if l8 t=true then(QA t).map D.int else none
theorem tS(h:-99<=n/\n<=99):dg (nT n)=some (.int n):=by
 unfold dg;rw[NT (d4 h).num,(d4 h).int];rfl
theorem lS(h:dg t=some d):∃n:Int,(-99<=n/\n<=99)/\t=nT n/\d=.int n:=by
 by_cases q:l8 t=true
 ·obtain⟨n,hn,rfl⟩:=y8 q;rw[tS hn]at h;cases h;exact⟨n,hn,rfl,rfl⟩
 ·unfold dg at h;rw[N1 q]at h;cases h
def rdR(o:Option D)(S:Sto):R Vl:=match o with
 |some d=>.ok (.d d) S
 |none=>.ex "NoText" [] S
def cc{α:Type}(f:α->Option D):List α->Option (List D)
 | []=>some []
 |x::xs=>match f x with
  |some d=>(cc f xs).map (d::·)
  |none=>none
theorem mF:co1 (.ex c xs S) r τ=.ex c xs S:=bp rfl
theorem qs:n1 f (.ex c xs S)=.ex c xs S:=bp rfl
theorem mJ:rt1 (.ex c xs S) τ=.ex c xs S:=bp rfl
theorem kf:zQ f x (.ex c xs S)=.ex c xs S:=bp rfl
theorem iZ{S T:Sto}:leave S (.ex c xs (S++T))=.ex c xs S:=by
 show R.ex c xs ((S++T).take S.length)=_;rw[Q7]
local macro_rules | `(tactic| simp! [$ls,*]) => `(tactic| repeat (first | walk_at "mx" | simp only [Rv, iY, qt, i5, p_, qa, nc, mF, qs, mJ, kf, j6, iZ, mG, qc, $ls,*]))
theorem lcX{α:Type}{it:XI}{g:XG}{e:XE}{τ:Nv}{S S1:Sto}{k:Nat}{xs:List α}{d:α->Vl}(own:α->Nv)(f:α->Option D)(hit:it τ S=.ok ⟨xs.map d,none⟩ S1)(hown:∀x∈xs,(own x).length=k)
  (hg:∀x∈xs,∀r:Nv,r.length=k->∀S:Sto,g (d x) (r++τ) S=.ok (own x++τ) S) (he:∀x∈xs,∀S:Sto,e (own x++τ) S=rdR (f x) S) :
  match cc f xs with
  |some ds=>xLC it k g (λ_ S=>.ok true S) e τ S=.ok (.d (.lst ds)) S1
  |none=>∃R,xLC it k g (λ_ S=>.ok true S) e τ S=.ex "NoText" [] (S1++R):=by
 have key:∀(zs:List α)(acc:List D)(r:Nv),(∀z∈zs,z∈xs)->r.length=k->match cc f zs with
   |some ds=>dW g (λ_ S=>.ok true S) e S1.length none (zs.map d) acc (r++τ) (S1++[.lst acc])=.ok (acc++ds) (S1++[.lst (acc++ds)])
   |none=>∃R,dW g (λ_ S=>.ok true S) e S1.length none (zs.map d) acc (r++τ) (S1++[.lst acc])=.ex "NoText" [] (S1++R):=by
  intro zs
  induction zs with
  |nil=>
   intro acc r _ _;rw[cc];show dW _ _ _ _ _ _ _ _ _=_;rw[O7,dW,NT (by simp)];simp
  |cons z zs ih=>
   intro acc r hz hl;have hm:=hz z (Oq ..);have e1:∀x,f z=x->dW g (λ_ S=>.ok true S) e S1.length none ((z::zs).map d) acc (r++τ) (S1++[.lst acc])=(match x with
     |some y=>dW g (λ_ S=>.ok true S) e S1.length none (zs.map d) (acc++[y]) (own z++τ) (S1++[.lst (acc++[y])])
     |none=>.ex "NoText" [] (S1++[.lst acc])):=by
    intro x hx;rw[N4,dW,hg z hm r hl,bc,bc,NT rfl,he z hm,hx];cases x with
    |none=>rfl
    |some y=>
     rw[show rdR (some y) (S1++[.lst acc])=.ok (.d y) (S1++[.lst acc])from rfl,bc];dsimp only;rw[NT ⟨by simp,True.intro⟩];rw[show(S1++[Ob.lst acc]).set S1.length (.lst (acc++[y]))=S1++[.lst (acc++[y])] by simp]
   rw[cc];cases hx:f z with
   |none=>exact⟨_,e1 none hx⟩
   |some y=>
    have:=ih (acc++[y]) (own z) (λw hw=>hz w (Oh _ hw)) (hown z hm);rw[e1 _ hx];dsimp only;cases q:cc f zs with
    |none=>rw[q]at this;exact this
    |some ds=>
     rw[q]at this;dsimp only[QV]at this ⊢;rw[this,Qq];rfl
 have h0:=key xs [] (N_ k none) (λ_ h=>h) (by simp);have e0:xLC it k g (λ_ S=>.ok true S) e τ S=(dW g (λ_ S=>.ok true S) e S1.length none (xs.map d) [] (N_ k none++τ) (S1++[.lst []])).bind λacc S2=>lI S1.length acc S2:=by
  show(it τ S).bind _=_;rw[hit,bc]
 rw[e0];cases q:cc f xs with
 |none=>
  rw[q]at h0;obtain⟨R,h0⟩:=h0;exact⟨R,by rw[h0];rfl⟩
 |some ds=>
  rw[q]at h0;dsimp only at h0 ⊢;rw[h0,bc];unfold lI;rw[NT (by simp),Q7,List.nil_append]
theorem Aw{F:XF}{it:XI}{τ:Nv}{S S1:Sto}{ws:List Str}(f:Str->Option D)(hit:it τ S=.ok ⟨(ws.map D.str).map Vl.d,none⟩ S1)(hF:∀w∈ws,∀S,F [.d (.str w)] S=rdR (f w) S) :
  match cc f ws with
  |some ds=>xLC it 1 (gNm 0) (λ_ S=>.ok true S) (eg F (aa (ae 0) aj)) τ S=.ok (.d (.lst ds)) S1
  |none=>∃R,xLC it 1 (gNm 0) (λ_ S=>.ok true S) (eg F (aa (ae 0) aj)) τ S=.ex "NoText" [] (S1++R):=by
 rw[Ov]at hit;refine lcX (λw=>[some (.d (.str w))]) f hit (λ_ _=>rfl) (λw _ z hρ S=>?_) λw hw S=>?_
 ·match z,hρ with
  | [r],_=>rfl
 ·rw[<-hF w hw S]
  simp! []
theorem qP{t:Str}(h:Tx 1000 t):jd [.d (.str t)] S=.ok (.d (.bl (l8 t))) S:=by
 unfold jd;rw[ba];unfold oQ;have hf:Tx 1000 (cW t):=by
  unfold cW;split
  ·exact kI h
  ·exact h
 have e1:ik (bN (xSm kc (ae 0) (xC (.str "-")))) (xSl iO (ae 0) (cp (xC (.int 1))) bO) (ae 0) [some (.d (.str t)),none] S=.ok (.d (.str (cW t))) S:=by
  unfold cW;cases q:Txt.startswith t "-"with
  |true=>simp? [cD,cC,cy,xg,q,KJ h.len]
  |false=>simp? [cD,cC,cy,xg,q]
 have e2:kW [some (.d (.str t)),some (.d (.str (cW t)))] S=.ok (.d (.lst ((cW t).cps.toList.map λc=>.bl (Txt.contains "0123456789" (sg c))))) S:=by
  unfold kW;rw[gF (items:=(cW t).cps.toList.map λc=>Vl.d (.str (sg c))) (S1:=S) ?_ (λz=>match z with | .d (.str w)=>.bl (Txt.contains "0123456789" w) |_=>.non) ?_,Ov]
  ·rfl
  ·refine NT ⟨hf.len,?_⟩;rw[<-Array.all_toList];exact Oi.mpr λc hc=>NQ (hf.asc c hc)
  ·intro z hz S;obtain⟨c,hc,rfl⟩:=Of.mp hz
   simp? [Iz]
 have e5:(cW t).cps.toList.all (λc=>Txt.contains "0123456789" (sg c))=Ad t:=by
  unfold Ad;rw[OW,Oi,Oi];refine forall_congr' λc=>forall_congr' λhc=>?_;rw[NQ (hf.asc c hc),O1]
 generalize ik (bN (xSm kc (ae 0) (xC (.str "-")))) (xSl iO (ae 0) (cp (xC (.int 1))) bO) (ae 0)=A at e1 ⊢;have i1:decide ((1:Int)<=((cW t).length:Nat))=decide (1<=(cW t).length):=P8.mpr ⋯;have i2:decide ((((cW t).length:Nat):Int)<=2)=decide ((cW t).length<=2):=P8.mpr ⋯;unfold l8;cases a1:decide (1<=(cW t).length)with
 |false=>simp? [e1,gi hf.len,i1,i2,a1,ak,OM]
 |true=>
  cases a2:decide ((cW t).length<=2)with
  |false=>simp? [e1,gi hf.len,i1,i2,a1,a2,ak,OM,OX]
  |true=>
   cases a3:Ad t with
   |false=>simp? [e1,gi hf.len,i1,i2,a1,a2,e2,jm,e5,a3,ak,OM,OX]
   |true=>
    have e3:rC (xOp da (ae 0) (xC (.str "0"))) (xOp oNe (xOp pI (ae 1) (xC (.int 0))) (xC (.str "0"))) [some (.d (.str t)),some (.d (.str (cW t)))] S=.ok (.d (.bl (decide (t="0")||(match atI (cW t).cps.toList 0 with
      |some c=>decide ((⟨#[c]⟩:Str)≠"0")
      |none=>false)))) S:=by
     by_cases q:t="0"
     ·simp? [eqw,bD,NQ q,Bool.true_or]
     ·have hn:0<(cW t).cps.toList.length:=by rw[<-kT];exact Oc a1
      have hc:atI (cW t).cps.toList 0=some (cW t).cps.toList[0]:=by
       unfold atI;have e:ixN (cW t).cps.toList.length 0=some 0:=rG (by decide) ⋯;rw[e];exact NV hn
      have e4:pI (.d (.str (cW t))) (.d (.int 0)) S=.ok (.d (.str ⟨#[(cW t).cps.toList[0]]⟩)) S:=by
       unfold pI;dsimp only;rw[hc];exact NT hf.len
      rw[hc]
      simp? [eqw,bD,gV q,e4,UN]
      simp
    generalize rC (xOp da (ae 0) (xC (.str "0"))) (xOp oNe (xOp pI (ae 1) (xC (.int 0))) (xC (.str "0")))=B at e3 ⊢
    simp? [e1,gi hf.len,i1,i2,a1,a2,e2,jm,e5,a3,e3,ak,O1]
    try rfl
theorem jA{t:Str}(h:Tx 1000 t):d8 [.d (.str t)] S=rdR (dg t) S:=by
 unfold d8;rw[ba];unfold mY;cases q:l8 t with
 |false=>
  rw[show dg t=none by unfold dg;rw[q];rfl]
  simp! [qP h,q]
  rfl
 |true=>
  obtain⟨n,hn,rfl⟩:=y8 q;have e:sd [.d (.str (nT n))] S=.ok (.d (.int n)) S:=by
   rw[show sd [.d (.str (nT n))] S=(match QA (nT n)with
    |some m=>if(nT n).length<=640 then .ok (.d (.int m)) S else .bad
    |none=>.bad)from rfl,(d4 hn).int]
   exact NT (by have:=(d4 hn).len;omega)
  rw[tS hn]
  simp? [qP h,q,e,ak]
  rfl
def dc(t:Str):List Str:=if t="-"then []else Txt.split t ⟨#[44]⟩
theorem uI{t w:Str}(h:Tx L t)(hw:w∈dc t):Tx L w:=by
 unfold dc at hw;split at hw
 ·cases hw
 ·exact fc h hw
theorem mP{t:Str}(h:Tx 1000 t):dh [.d (.str t)] S=.ok (.d (.lst ((dc t).map D.str))) S:=by
 unfold dh dc;rw[ba];unfold lA;by_cases q:t="-"
 ·subst q
  simp? [eqw,bD,show decide (("-":Str)="-")=true by decide,ak]
 ·simp? [eqw,bD,gV q,cD,cC,cy,comma,dU h.len,ak,N1 q]
def fL(t:Str):Option D:=(cc dg (dc t)).map D.tup
theorem mV{t:Str}(h:Tx 1000 t):eM [.d (.str t)] S=rdR (fL t) S:=by
 unfold eM fL;rw[ba];unfold lQ;have e:=Aw (τ:=[some (.d (.str t))]) (S:=S) (S1:=S) (it:=bZ (aw dh (aa (ae 0) aj))) (ws:=dc t) dg (by simp? [mP h]) λw hw S=>jA (uI h hw);cases q:cc dg (dc t)with
 |some ds=>
  rw[q]at e;dsimp only at e
  simp? [show iu [some (.d (.str t))] S=_ from e,ak]
  rfl
 |none=>
  rw[q]at e;obtain⟨R,e⟩:=e
  simp! [show iu [some (.d (.str t))] S=_ from e]
  rfl
def l_(t:Str):Option D:=(cc dg (Txt.split t ⟨#[58]⟩)).map D.tup
theorem vI{t:Str}(h:Tx 1000 t):h_ [.d (.str t)] S=rdR (l_ t) S:=by
 unfold h_ l_;rw[ba];unfold oj;have e:=Aw (τ:=[some (.d (.str t))]) (S:=S) (S1:=S) (it:=bZ (xSm dI (ae 0) (xC (.str ":")))) (ws:=Txt.split t ⟨#[58]⟩) dg (by simp? [cD,cC,cy,colon,dU h.len]) λw hw S=>jA (fc h hw);cases q:cc dg (Txt.split t ⟨#[58]⟩)with
 |some ds=>
  rw[q]at e;dsimp only at e
  simp? [show jx [some (.d (.str t))] S=_ from e,ak]
  rfl
 |none=>
  rw[q]at e;obtain⟨R,e⟩:=e
  simp! [show jx [some (.d (.str t))] S=_ from e]
  rfl
def nI(w:Str):D:=(dg w).getD .non
def bt(t:Str):D:=.tup ((dc t).map nI)
def tupI(t:Str):D:=.tup ((Txt.split t ⟨#[58]⟩).map nI)
def dq(t:Str):D:=.tup ((dc t).map tupI)
def j4(t:Str):Option D:=(cc l_ (dc t)).map D.tup
def gC(p:Str×Str):Option D:=if p.1="number"then dg p.2 else if p.1="numbers"then fL p.2 else j4 p.2
def fD(p:Str×Str):D:=if p.1="number"then nI p.2 else if p.1="numbers"then bt p.2 else dq p.2
theorem m8{α:Type}{f:α->Option D}{g:α->D}(hg:∀x d,f x=some d->g x=d):∀{xs:List α}{ds:List D},cc f xs=some ds->xs.map g=ds
 | [],_,h=>by cases h;rfl
 |x::xs,ds,h=>by
  rw[cc]at h;cases q:f x with
  |none=>rw[q]at h;cases h
  |some d=>
   rw[q]at h;dsimp only at h;cases r:cc f xs with
   |none=>rw[r]at h;cases h
   |some ds'=>
    rw[r]at h;cases h;rw[N4,hg x d q,m8 hg r]
theorem k_{α:Type}{f:α->Option D}{g:α->D}:∀{xs:List α},(∀x∈xs,f x=some (g x))->cc f xs=some (xs.map g)
 | [],_=>rfl
 |x::xs,h=>by rw[cc,h x (.head _),k_ λy hy=>h y (.tail _ hy)];rfl
theorem vD(h:dg w=some d):nI w=d:=by unfold nI;rw[h];rfl
theorem o_n(h:nI w=.int n):dg w=some (nI w):=by
 unfold nI at h ⊢;cases q:dg w with
 |none=>rw[q]at h;cases h
 |some d=>rfl
theorem nU{f:Str->D}:∀{ws:List Str}{ns:List Int},ws.map f=ns.map D.int->∀w∈ws,∃n,f w=.int n
 |a::ws,[],h,_,_=>by cases h
 |a::ws,n::ns,h,w,hw=>by
  rw[N4,N4]at h;injection h with h1 h2;rcases NU.mp hw with rfl |hw
  ·exact⟨n,h1⟩
  ·exact nU h2 w hw
theorem A2{ws:List Str}{ns:List Int}(h:ws.map nI=ns.map D.int):cc dg ws=some (ws.map nI):=k_ λw hw=>by
 obtain⟨n,e⟩:=nU h w hw;exact o_n e
theorem xU(h:bt w=aF ns):fL w=some (bt w):=by
 unfold fL bt;rw[A2 (D.tup.inj h)];rfl
theorem Mn(h:tupI w=aF ns):l_ w=some (tupI w):=by
 unfold l_ tupI;rw[A2 (D.tup.inj h)];rfl
theorem vN{f:Str->D}:∀{ws:List Str}{ts:List Tr3},ws.map f=ts.map trD->∀w∈ws,∃t,f w=trD t
 |a::ws,[],h,_,_=>by cases h
 |a::ws,n::ns,h,w,hw=>by
  rw[N4,N4]at h;injection h with h1 h2;rcases NU.mp hw with rfl |hw
  ·exact⟨n,h1⟩
  ·exact vN h2 w hw
theorem CS{ts:List Tr3}(h:dq w=.tup (ts.map trD)):j4 w=some (dq w):=by
 unfold j4;rw[k_ (g:=tupI) λx hx=>?_]
 ·rfl
 ·obtain⟨t,e⟩:=vN (D.tup.inj h) x hx;exact Mn (ns:=pQ t) e
theorem wa(h:fL w=some d):bt w=d:=by
 unfold fL at h;cases q:cc dg (dc w)with
 |none=>rw[q]at h;cases h
 |some ds=>
  rw[q]at h;cases h;unfold bt;rw[m8 (g:=nI) (λx d=>vD) q]
theorem Hz(h:l_ w=some d):tupI w=d:=by
 unfold l_ at h;cases q:cc dg (Txt.split w ⟨#[58]⟩)with
 |none=>rw[q]at h;cases h
 |some ds=>
  rw[q]at h;cases h;unfold tupI;rw[m8 (g:=nI) (λx d=>vD) q]
theorem EK(h:j4 w=some d):dq w=d:=by
 unfold j4 at h;cases q:cc l_ (dc w)with
 |none=>rw[q]at h;cases h
 |some ds=>
  rw[q]at h;cases h;unfold dq;rw[m8 (g:=tupI) (λx d=>Hz) q]
theorem Bw(h:gC p=some d):fD p=d:=by
 unfold gC at h;unfold fD;split at h
 ·rename_i q;rw[NT q];exact vD h
 ·rename_i q;rw[N1 q];split at h
  ·rename_i q2;rw[NT q2];exact wa h
  ·rename_i q2;rw[N1 q2];exact EK h
theorem wL{p:Str×Str}(h:Tx 1000 p.2):fT [.d (.str p.1),.d (.str p.2)] S=rdR (gC p) S:=by
 unfold fT gC;rw[eh];unfold oq;by_cases q1:p.1="number"
 ·rw[NT q1];cases q:dg p.2<;>simp! [eqw,bD,NQ q1,jA h,q,rdR,ak]
 ·rw[N1 q1];by_cases q2:p.1="numbers"
  ·rw[NT q2];cases q:fL p.2<;>simp! [eqw,bD,gV q1,NQ q2,mV h,q,rdR,ak]
  ·rw[N1 q2];unfold j4;have e:=Aw (τ:=[some (.d (.str p.1)),some (.d (.str p.2))]) (S:=S) (S1:=S) (it:=bZ (aw dh (aa (ae 1) aj))) (ws:=dc p.2) l_ (by simp? [mP h]) λw hw S=>vI (uI h hw);cases q:cc l_ (dc p.2)with
   |some ds=>
    rw[q]at e;dsimp only at e
    simp! [eqw,bD,gV q1,gV q2,show jI [some (.d (.str p.1)),some (.d (.str p.2))] S=_ from e,ak]
    rfl
   |none=>
    rw[q]at e;obtain⟨R,e⟩:=e
    simp! [eqw,bD,gV q1,gV q2,show jI [some (.d (.str p.1)),some (.d (.str p.2))] S=_ from e]
    rfl
def stI(t:Str):D:=.tup ((Txt.split t ⟨#[32]⟩).map bt)
def stA(t:Str):Option D:=if stB (stI t)=true then some (stI t)else none
theorem DC(h:jz d=true):∃ns,d=aF ns:=by
 unfold jz at h;split at h
 ·rename_i xs;rw[N3]at h;obtain⟨ns,e,_⟩:=fE (d:=.tup xs) (lo:=-9) (hi:=9) (by first |exact h.1 |exact h.2);exact⟨ns,e⟩
 ·cases h
theorem GU(h:stB (stI t)=true):cc fL (Txt.split t ⟨#[32]⟩)=some ((Txt.split t ⟨#[32]⟩).map bt):=k_ λw hw=>by
 have h1:jz (bt w)=true:=by
  unfold stI stB at h;simp only[N3]at h;have:=h.2;rw[Rw,Oi]at this;exact this w hw
 obtain⟨ns,e⟩:=DC h1;exact xU e
theorem xu{t:Str}(h:Tx 1000 t):ip [.d (.str t)] S=rdR (stA t) S:=by
 unfold ip stA;rw[ba];unfold oi;have e:=Aw (τ:=[some (.d (.str t)),none]) (S:=S) (S1:=S) (it:=bZ (xSm dI (ae 0) (xC (.str " ")))) (ws:=Txt.split t ⟨#[32]⟩) fL (by simp? [cD,cC,cy,blank,dU h.len]) λw hw S=>mV (fc h hw);cases q:cc fL (Txt.split t ⟨#[32]⟩)with
 |some ds=>
  rw[q]at e;dsimp only at e;have ed:stI t=.tup ds:=OZ D.tup (m8 (g:=bt) (λx d=>wa) q);rw[ed];cases q2:stB (.tup ds)<;>simp! [show jB [some (.d (.str t)),none] S=_ from e,Hy,q2,ak,rdR]
 |none=>
  rw[q]at e;obtain⟨R,e⟩:=e;rw[N1 (λz=>by rw[GU z]at q;cases q)]
  simp! [show jB [some (.d (.str t)),none] S=_ from e,rdR]
def bI(p0:Str):List Str:=(eH.lookup p0).getD []
def wI(p0:Str)(ps:List Str):D:=.tup (.str p0::((bI p0).zip ps).map fD)
def wiA(p0:Str)(ps:List Str):Option D:=if ps.length=(bI p0).length/\mj (wI p0 ps)=true then some (wI p0 ps)else none
theorem sS(p0:Str):p0="unlike"\/p0="many"\/p0="sum"\/p0="row"\/p0="hand"\/eH.lookup p0=none/\p0≠"unlike"/\p0≠"many"/\p0≠"sum"/\p0≠"row"/\p0≠"hand":=by
 by_cases h1:p0="unlike"
 ·exact .inl h1
 by_cases h2:p0="many"
 ·exact .inr (.inl h2)
 by_cases h3:p0="sum"
 ·exact .inr (.inr (.inl h3))
 by_cases h4:p0="row"
 ·exact .inr (.inr (.inr (.inl h4)))
 by_cases h5:p0="hand"
 ·exact .inr (.inr (.inr (.inr (.inl h5))))
 refine .inr (.inr (.inr (.inr (.inr ⟨?_,h1,h2,h3,h4,h5⟩))));unfold eH;simp only[OC,O8.mpr h1,O8.mpr h2,O8.mpr h3,O8.mpr h4,O8.mpr h5,List.lookup_nil]
theorem NC:gC ("number",w)=dg w:=NT rfl
theorem JP:fD ("number",w)=nI w:=NT rfl
theorem rL:gC ("numbers",w)=fL w:=(N1 (show¬(("numbers":Str)="number") by decide)).trans (NT rfl)
theorem jb:fD ("numbers",w)=bt w:=(N1 (show¬(("numbers":Str)="number") by decide)).trans (NT rfl)
theorem E5:gC ("tuples",w)=j4 w:=(N1 (show¬(("tuples":Str)="number") by decide)).trans (N1 (show¬(("tuples":Str)="numbers") by decide))
theorem vF:fD ("tuples",w)=dq w:=(N1 (show¬(("tuples":Str)="number") by decide)).trans (N1 (show¬(("tuples":Str)="numbers") by decide))
theorem vp:bI "unlike"=(["numbers"]:List Str):=by decide
theorem vf:bI "many"=(["numbers","tuples"]:List Str):=by decide
theorem vj:bI "sum"=(["numbers","numbers","number","number"]:List Str):=by decide
theorem vC:bI "row"=(["numbers","tuples","numbers"]:List Str):=by decide
theorem vc:bI "hand"=(["numbers","numbers"]:List Str):=by decide
theorem Co:wI "unlike" [a]=.tup [.str "unlike",bt a]:=by unfold wI;rw[vp];simp only[Pj,Pn,N4,O7,jb]
theorem B_:wI "many" [a,b]=.tup [.str "many",bt a,dq b]:=by unfold wI;rw[vf];simp only[Pj,Pn,N4,O7,jb,vF]
theorem BJ:wI "sum" [a,b,c,d]=.tup [.str "sum",bt a,bt b,nI c,nI d]:=by unfold wI;rw[vj];simp only[Pj,Pn,N4,O7,jb,JP]
theorem BQ:wI "row" [a,b,c]=.tup [.str "row",bt a,dq b,bt c]:=by unfold wI;rw[vC];simp only[Pj,Pn,N4,O7,jb,vF]
theorem Bk:wI "hand" [a,b]=.tup [.str "hand",bt a,bt b]:=by unfold wI;rw[vc];simp only[Pj,Pn,N4,O7,jb]
theorem kC(h:eA (bt a)=true):fL a=some (bt a):=by
 have h1:cq 0 3 (bt a)=true:=by
  unfold eA at h;unfold cq;unfold bt at h ⊢;simp only[N3]at h ⊢
  first |exact h.1 |exact h.1.1
 obtain⟨ns,e,_⟩:=fE h1;exact xU e
theorem qW(h:cq lo hi (bt a)=true):fL a=some (bt a):=by
 obtain⟨ns,e,_⟩:=fE h;exact xU e
theorem yQ(h:inB lo hi (nI a)=true):dg a=some (nI a):=by
 obtain⟨n,e,_⟩:=fw h;exact o_n e
theorem DD(h:oM (dq a)=true):j4 a=some (dq a):=by
 unfold dq oM at h;simp only[N3]at h;obtain⟨ts,e,_⟩:=iH (P:=λ_=>True) (λd h=>by obtain⟨t,e,_⟩:=wR h;exact⟨t,e,trivial⟩) h.2.1;exact CS (OZ D.tup e)
theorem Ey(h:mm (dq a)=true):j4 a=some (dq a):=by
 unfold dq mm at h;simp only[N3]at h;obtain⟨ts,e,_⟩:=iH (P:=λ_=>True) (λd h=>by obtain⟨t,e,_⟩:=xW h;exact⟨t,e,trivial⟩) h.2.1;exact CS (OZ D.tup e)
theorem wA(h:mj (.tup (a::n::r))=true):eA n=true/\d5 (a::n::r)=true:=by
 rw[mj,N3]at h;exact h
theorem GA{p0:Str}{ps:List Str}(hl:ps.length=(bI p0).length)(h:mj (wI p0 ps)=true):cc gC ((bI p0).zip ps)=some (((bI p0).zip ps).map fD):=by
 rcases sS p0 with rfl |rfl |rfl |rfl |rfl |⟨e,_⟩
 ·rw[vp]at hl ⊢
  match ps,hl with
  | [a],_=>
   rw[Co]at h;obtain⟨h1,_⟩:=wA h;simp only[Pj,Pn,cc,rL,kC h1,N4,O7,jb,QV]
 ·rw[vf]at hl ⊢
  match ps,hl with
  | [a,b],_=>
   rw[B_]at h;obtain⟨h1,h2⟩:=wA h
   replace h2:oM (dq b)=true:=h2
   simp only[Pj,Pn,cc,rL,E5,kC h1,DD h2,N4,O7,jb,vF,QV]
 ·rw[vj]at hl ⊢
  match ps,hl with
  | [a,b,c,d],_=>
   rw[BJ]at h;obtain⟨h1,h2⟩:=wA h
   replace h2:(cq (-3) 3 (bt b)&&(decide (fb (bt b)=fb (bt a))&&fN (nI c) (nI d) (-99) 99))=true:=h2
   unfold fN at h2;simp only[N3]at h2;obtain⟨h2,_,h3,h4,_⟩:=h2;simp only[Pj,Pn,cc,rL,NC,kC h1,qW h2,yQ h3,yQ h4,N4,O7,jb,JP,QV]
 ·rw[vC]at hl ⊢
  match ps,hl with
  | [a,b,c],_=>
   rw[BQ]at h;obtain⟨h1,h2⟩:=wA h
   replace h2:(mm (dq b)&&(cq 0 3 (bt c)&&zC (bt c)))=true:=h2
   simp only[N3]at h2;obtain⟨h2,h3,_⟩:=h2;simp only[Pj,Pn,cc,rL,E5,kC h1,Ey h2,qW h3,N4,O7,jb,vF,QV]
 ·rw[vc]at hl ⊢
  match ps,hl with
  | [a,b],_=>
   rw[Bk]at h;obtain⟨h1,h2⟩:=wA h
   replace h2:(cq 1 4 (bt b)&&decide (fb (bt b)=fb (bt a)))=true:=h2
   simp only[N3]at h2;simp only[Pj,Pn,cc,rL,kC h1,qW h2.1,N4,O7,jb,QV]
 ·have:bI p0=[]:=by unfold bI;rw[e];rfl
  rw[this];rfl
theorem Nt:(NY 199).all (λk=>decide (1<=(nT ((k:Int)-99)).length))=true:=by decide+kernel
theorem Jx(h:-99<=n/\n<=99):1<=(nT n).length:=by
 have:=Oi.mp Nt (n+99).toNat (Ol.mpr ⋯);rw[show(((n+99).toNat:Nat):Int)-99=n by omega]at this;exact Oc this
theorem cnt_ints{w:Str}(h:Tx 583 w)(e:bt w=aF es):es.length<=300:=by
 have e:=D.tup.inj e;have hl:=OZ R0 e;rw[tv,tv]at hl;rw[<-hl];unfold dc at e ⊢;split
 ·exact Pc _
 ·rename_i q;rw[N1 q]at e;have:=sD (k:=1) (l:=Txt.split w ⟨#[44]⟩) λx hx=>by
   obtain⟨n,en⟩:=nU e x hx;obtain⟨m,hm,rfl,_⟩:=lS (o_n en);exact Jx hm
  rw[nB]at this;have:=h.len;omega
theorem J1{p:Str×Str}(h:Tx 583 p.2)(e:fD p=aF es):es.length<=300:=by
 unfold fD at e;split at e
 ·unfold nI at e;cases q:dg p.2 with
  |none=>rw[q]at e;cases e
  |some d=>
   obtain⟨n,_,_,rfl⟩:=lS q;rw[q]at e;cases e
 ·split at e
  ·exact cnt_ints h e
  ·have e:=D.tup.inj e;have hl:=OZ R0 e;rw[tv,tv]at hl
   match q:dc p.2 with
   | []=>rw[q]at hl;rw[<-hl];exact Pc _
   |x::r=>
    obtain⟨n,en⟩:=nU e x (by rw[q];exact .head _);cases en
theorem FA{p0:Str}{ps:List Str}(h:∀w∈ps,Tx 583 w):Fit (wI p0 ps):=by
 intro a n b es e _;have e:=(List.cons.inj (D.tup.inj e)).2;have hm:∀x∈(bI p0).zip ps,Tx 583 x.2:=λx hx=>h _ (Rn hx).2;generalize(bI p0).zip ps=l at e hm;have hl:=OZ R0 e;rw[tv]at hl
 match l,hl,e with
 | [x,y,z],_,e=>
  simp only[N4,O7,List.cons.injEq,and_true]at e;exact J1 (hm z (.tail _ (.tail _ (.head _)))) e.2.2
theorem wV:∀(fs ps:List Str),eE (fs.map D.str) (ps.map D.str)=(fs.zip ps).map λp=>Vl.d (.tup [.str p.1,.str p.2])
 | [],_=>rfl
 |_::_,[]=>rfl
 |f::fs,p::ps=>by
  show Vl.d (.tup [.str f,.str p])::eE (fs.map D.str) (ps.map D.str)=_;rw[wV fs ps];rfl
theorem pP{t p0:Str}{ps:List Str}{z:Vl}(h:Tx 583 t)(hs:Txt.split t ⟨#[32]⟩=p0::ps)(hz:ql eH (xOp oIx (ae 1) (xC (.int 0))) (xN mkT aj) [some (.d (.str t)),some (.d (.lst (.str p0::ps.map D.str))),none,none] S=.ok z S)
  (hq:sqV z=some (false,(bI p0).map D.str)):gD [.d (.str t)] S=rdR (wiA p0 ps) S:=by
 unfold gD;rw[ba];unfold oW;have hw:∀w∈ps,Tx 583 w:=λw hw=>fc (c:=32) h (by rw[hs];exact .tail _ hw);have hp:=uP (c:=32) h;rw[hs,N9]at hp;have e0:=dU (c:=32) (t:=t) (S:=S) (N7 h.len (by decide));rw[hs,N4]at e0;have e5:se [z] S=.ok (.d (.int ((bI p0).length:Nat))) S:=by
  rw[show se [z] S=(match sqV z with
   |some p=>.ok (.d (.int p.2.length)) S
   |none=>.bad)from rfl,hq]
  dsimp only;rw[tv]
 have e2:dG (D.str p0::ps.map D.str) none (some 1)=[.str p0]:=by
  rw[show(some (1:Int))=some ((1:Nat):Int)from rfl,mQ];rfl
 have e7:dG (D.str p0::ps.map D.str) (some 1) none=ps.map D.str:=by
  rw[show(some (1:Int))=some ((1:Nat):Int)from rfl,kR];rfl
 have hit:iZk (aa (ae 2) (aa (xSl oSl (ae 1) (cp (xC (.int 1))) bO) aj)) [some (.d (.str t)),some (.d (.lst (.str p0::ps.map D.str))),some z,none] S=.ok ⟨((bI p0).zip ps).map λp=>Vl.d (.tup [.str p.1,.str p.2]),none⟩ S:=by
  have e8:aa (ae 2) (aa (xSl oSl (ae 1) (cp (xC (.int 1))) bO) aj) [some (.d (.str t)),some (.d (.lst (.str p0::ps.map D.str))),some z,none] S=.ok [z,.d (.lst (ps.map D.str))] S:=by simp? [e7]
  show R.bind _ Ax=_;rw[e8,bc];show(match sqV z,some (true,ps.map D.str)with
   |some p,some q=>R.ok (⟨eE p.2 q.2,none⟩:Its) S
   |_,_=>.bad)=_
  rw[hq];dsimp only;rw[wV]
 have e:=lcX (e:=eg fT (aa (ae 0) (aa (ae 1) aj))) (g:=gTu 2 (gCo (gNm 0) (gCo (gNm 1) gN0))) (k:=2) (λp:Str×Str=>[some (.d (.str p.1)),some (.d (.str p.2))]) gC hit (λ_ _=>rfl) (λp _ y hρ S=>by
   match y,hρ with
   | [a,b],_=>rfl) λp hp S=>by
   rw[<-wL (p:=p) ((hw _ (Rn hp).2).le (by decide))]
   simp! []
 unfold wiA;generalize ql eH (xOp oIx (ae 1) (xC (.int 0))) (xN mkT aj)=A at hz ⊢;by_cases hc:ps.length=(bI p0).length
 ·have hd:decide (((ps.length+1:Nat):Int)=((bI p0).length:Int)+1)=true:=NQ ⋯;cases q:cc gC ((bI p0).zip ps)with
  |some ds=>
   rw[q]at e;dsimp only at e;have ed:=m8 (g:=fD) (λx d=>Bw) q;have ew:wI p0 ps=.tup (.str p0::ds):=by unfold wI;rw[ed]
   have hl:ds.length<=1000:=by
    rw[<-ed,tv,List.length_zip];omega
   have e3:aU (.d (.lst [.str p0])) (.d (.lst ds)) S=.ok (.d (.lst (.str p0::ds))) S:=by
    rw[vY (by show 1+ds.length<=100000;omega)];rfl
   have e4:=IV (S:=S) (FA (p0:=p0) hw);rw[ew]at e4 ⊢;cases q2:mj (.tup (.str p0::ds))with
   |true=>
    rw[q2]at e4;rw[NT ⟨hc,rfl⟩]
    simp! [cD,cC,cy,blank,e0,hz,e5,tv,hd,e2,show hV [some (.d (.str t)),some (.d (.lst (.str p0::ps.map D.str))),some z,none] S=_ from e,e3,e4,ak,rdR]
   |false=>
    rw[q2]at e4;rw[N1 (λz=>TN z.2)]
    simp! [cD,cC,cy,blank,e0,hz,e5,tv,hd,e2,show hV [some (.d (.str t)),some (.d (.lst (.str p0::ps.map D.str))),some z,none] S=_ from e,e3,e4,ak,rdR]
  |none=>
   rw[q]at e;obtain⟨R,e⟩:=e;rw[N1 (λz=>by rw[GA z.1 z.2]at q;cases q)]
   simp! [cD,cC,cy,blank,e0,hz,e5,tv,hd,e2,show hV [some (.d (.str t)),some (.d (.lst (.str p0::ps.map D.str))),some z,none] S=_ from e,rdR]
 ·have hd:decide (((ps.length+1:Nat):Int)=((bI p0).length:Int)+1)=false:=gV ⋯;rw[N1 (λz=>hc z.1)]
  simp! [cD,cC,cy,blank,e0,hz,e5,tv,hd,rdR]
theorem DX{x:D}{xs:List D}:atI (x::xs) 0=some x:=by
 unfold atI;rw[rG (by decide) (by rw[N9];omega)];rfl
theorem yz{t p0:Str}{ps:List Str}{x2 x3:Option Vl}:ql eH (xOp oIx (ae 1) (xC (.int 0))) (xN mkT aj) [some (.d (.str t)),some (.d (.lst (.str p0::ps.map D.str))),x2,x3] S=(match eH.lookup p0 with
  |some ws=>.ok (.kt ws) S
  |none=>.ok (.d (.tup [])) S):=by
 unfold ql;rw[show xOp oIx (ae 1) (xC (.int 0)) [some (.d (.str t)),some (.d (.lst (.str p0::ps.map D.str))),x2,x3] S=.ok (.d (.str p0)) S by simp? [cb DX],bc,show xN mkT aj [some (.d (.str t)),some (.d (.lst (.str p0::ps.map D.str))),x2,x3] S=.ok (.d (.tup [])) S from rfl,bc]
 try rfl
theorem yl{t p0:Str}{ps:List Str}(h:Tx 583 t)(hs:Txt.split t ⟨#[32]⟩=p0::ps):gD [.d (.str t)] S=rdR (wiA p0 ps) S:=by
 cases q:eH.lookup p0 with
 |some fs=>exact pP (z:=.kt fs) h hs (by rw[yz,q]) (by unfold bI;rw[q];rfl)
 |none=>exact pP (z:=.d (.tup [])) h hs (by rw[yz,q]) (by unfold bI;rw[q];rfl)
theorem t_{t:Str}{S:Sto}:∀(ks:List Nat)(x1:Option Vl),(∀k∈ks,k<199)->∃y,eK (gNm 1) (xIf (aE (xOp oEq (ae 0) (xN dX (aa (ae 1) aj)))) (aD (ae 1)) aN) none (ks.map λk=>Vl.d (.int (-99+(k:Nat)))) [some (.d (.str t)),x1] S =
  .ok ((match ks.find? λk=>decide (t=nT (-99+(k:Nat)))with
   |some k=>.rt (.d (.int (-99+(k:Nat))))
   |none=>.nx),[some (.d (.str t)),y]) S
 | [],x1,_=>⟨x1,rfl⟩
 |k::ks,x1,h=>by
  have hk:=h k (.head _);have e1:gNm 1 (.d (.int (-99+(k:Nat)))) [some (.d (.str t)),x1] S=.ok [some (.d (.str t)),some (.d (.int (-99+(k:Nat))))] S:=rfl;have e0:=eU (S:=S) (n:=-99+(k:Nat)) ⟨by omega,by omega⟩;rw[N4,eK,e1,bc,Sr];cases q:decide (t=nT (-99+(k:Nat)))with
  |true=>
   refine⟨some (.d (.int (-99+(k:Nat)))),?_⟩;have e2:xIf (aE (xOp oEq (ae 0) (xN dX (aa (ae 1) aj)))) (aD (ae 1)) aN [some (.d (.str t)),some (.d (.int (-99+(k:Nat))))] S=.ok (.rt (.d (.int (-99+(k:Nat)))),[some (.d (.str t)),some (.d (.int (-99+(k:Nat))))]) S:=by simp? [e0,q]
   rw[e2,bc]
  |false=>
   obtain⟨y,e3⟩:=t_ ks (some (.d (.int (-99+(k:Nat))))) λj hj=>h j (.tail _ hj);refine⟨y,?_⟩;have e2:xIf (aE (xOp oEq (ae 0) (xN dX (aa (ae 1) aj)))) (aD (ae 1)) aN [some (.d (.str t)),some (.d (.int (-99+(k:Nat))))] S=.ok (.nx,[some (.d (.str t)),some (.d (.int (-99+(k:Nat))))]) S:=by simp? [e0,q]
   rw[e2,bc,<-e3];exact NT True.intro
theorem lZ{t:Str}:dF [.d (.str t)] S=.ok (.d (nI t)) S:=by
 unfold dF;rw[ba];unfold mC;obtain⟨y,e⟩:=t_ (t:=t) (S:=S) (NY 199) none λk hk=>Ol.mp hk;have e1:iR [some (.d (.str t)),none] S=.ok ((match(NY 199).find? λk=>decide (t=nT (-99+(k:Nat)))with
   |some k=>.rt (.d (.int (-99+(k:Nat))))
   |none=>.nx),[some (.d (.str t)),y]) S:=by
  unfold iR;walk_at"mx";rw[vE ⋯,vi];exact e
 cases q:(NY 199).find? λk=>decide (t=nT (-99+(k:Nat)))with
 |some k=>
  rw[q]at e1;have hk:=Ol.mp (To q);have ht:=Oc (VV (p:=λk:Nat=>decide (t=nT (-99+(k:Nat)))) q)
  simp? [e1,ak]
  rw[vD (by rw[ht];exact tS ⟨by omega,by omega⟩)]
 |none=>
  rw[q]at e1
  simp? [e1,ak]
  unfold nI;cases r:dg t with
  |none=>rfl
  |some d=>
   obtain⟨n,hn,ht,_⟩:=lS r;have:=SO.mp q (n+99).toNat (Ol.mpr ⋯);exact absurd (NQ (by rw[show(-99:Int)+((n+99).toNat:Nat)=n by omega];exact ht)) this
theorem qr{e:XE}{it:XI}{τ:Nv}{S S1:Sto}{ws:List Str}(f:Str->D)(hit:it τ S=.ok ⟨(ws.map D.str).map Vl.d,none⟩ S1)(he:∀w∈ws,∀S,e (some (.d (.str w))::τ) S=.ok (.d (f w)) S):xLC it 1 (gNm 0) (λ_ S=>.ok true S) e τ S=.ok (.d (.lst (ws.map f))) S1:=by
 rw[gF hit (λz=>match z with | .d (.str w)=>f w |_=>.non) (λz hz S=>by
  obtain⟨x,hx,rfl⟩:=Of.mp hz;obtain⟨w,hw,rfl⟩:=Of.mp hx;exact he w hw S),Ov,Ov]
 rfl
theorem cY{t:Str}(h:Tx 1000 t):de [.d (.str t)] S=.ok (.d (bt t)) S:=by
 unfold de bt dc;rw[ba];unfold lP;by_cases q:t="-"
 ·simp? [eqw,bD,NQ q,ak,NT q]
 ·have e:lE [some (.d (.str t))] S=.ok (.d (.lst ((Txt.split t ⟨#[44]⟩).map nI))) S:=qr nI (by simp? [cD,cC,cy,comma,dU h.len]) λw _ S=>by simp? [lZ]
  simp? [eqw,bD,gV q,e,ak,N1 q]
theorem pH{t:Str}(h:Tx 1000 t):gj [.d (.str t)] S=.ok (.d (dq t)) S:=by
 unfold gj dq dc;rw[ba];unfold lH;by_cases q:t="-"
 ·simp? [eqw,bD,NQ q,ak,NT q]
 ·have e:lh [some (.d (.str t)),none] S=.ok (.d (.lst ((Txt.split t ⟨#[44]⟩).map λw=>D.lst ((Txt.split w ⟨#[58]⟩).map D.str)))) S:=qr _ (by simp? [cD,cC,cy,comma,dU h.len]) λw hw S=>by simp? [cD,cC,cy,colon,dU (fc h hw).len]
  have e2:ij [some (.d (.str t)),some (.d (.lst ((Txt.split t ⟨#[44]⟩).map λw=>D.lst ((Txt.split w ⟨#[58]⟩).map D.str))))] S=.ok (.d (.lst ((Txt.split t ⟨#[44]⟩).map tupI))) S:=by
   unfold ij;rw[gF (items:=((Txt.split t ⟨#[44]⟩).map λw=>D.lst ((Txt.split w ⟨#[58]⟩).map D.str)).map Vl.d) (S1:=S) (by simp? []) (λz=>match z with | .d (.lst xs)=>.tup (xs.map λx=>match x with | .str w=>nI w |_=>.non) |_=>.non) (λz hz S=>by
    obtain⟨x,hx,rfl⟩:=Of.mp hz;obtain⟨w,hw,rfl⟩:=Of.mp hx;have e3:lR [some (.d (.lst ((Txt.split w ⟨#[58]⟩).map D.str))),some (.d (.str t)),some (.d (.lst ((Txt.split t ⟨#[44]⟩).map λw=>D.lst ((Txt.split w ⟨#[58]⟩).map D.str))))] S=.ok (.d (.lst ((Txt.split w ⟨#[58]⟩).map nI))) S:=qr nI (by simp? []) λw _ S=>by simp? [lZ]
    simp? [e3]
    rw[Ov];rfl),Ov,Ov]
   congr 4;funext w;show D.tup _=tupI w;rw[Ov];rfl
  simp? [eqw,bD,gV q,e,e2,ak,N1 q]
theorem zk{t:Str}(h:Tx 1000 t):iD [.d (.str t)] S=.ok (.d ((stA t).getD .non)) S:=by
 unfold iD stA;rw[ba];unfold ow;have e:oo [some (.d (.str t)),none] S=.ok (.d (.lst ((Txt.split t ⟨#[32]⟩).map bt))) S:=qr bt (by simp? [cD,cC,cy,blank,dU h.len]) λw hw S=>by simp? [cY (fc h hw)]
 have e2:=Dn (S:=S) (d:=stI t);unfold stI at e2 ⊢;cases q:stB (.tup ((Txt.split t ⟨#[32]⟩).map bt))with
 |true=>
  rw[q]at e2
  simp? [e,e2,ak,QH]
 |false=>
  rw[q]at e2
  simp? [e,e2,ak,QF]
abbrev kv5:List (Str×Int):=[("unlike",2),("many",3),("sum",5),("row",4),("hand",3)]
theorem Fh{a:XE}(ha:a τ S=.ok (.d (.str p0)) S):xDg kv5 0 a τ S=.ok (.d (.int ((kv5.lookup p0).getD 0))) S:=by
 unfold xDg;rw[ha,bc]
theorem qu{xs ys:List D}(h:xs.length+ys.length<=10):aU (.d (.tup xs)) (.d (.tup ys)) S=.ok (.d (.tup (xs++ys))) S:=CT ⋯
theorem Dh{p0:Str}(h1:p0≠"unlike")(h2:p0≠"many")(h3:p0≠"sum")(h4:p0≠"row")(h5:p0≠"hand"):(kv5.lookup p0).getD 0=0:=by
 simp only[kv5,OC,PZ h1,PZ h2,PZ h3,PZ h4,PZ h5];rfl
theorem f9{t p0:Str}{ps:List Str}{m:Int}(h:Tx 583 t)(hs:Txt.split t ⟨#[32]⟩=p0::ps)(hv:(kv5.lookup p0).getD 0=m)(hm:((ps.length+1:Nat):Int)≠m):eF [.d (.str t)] S=.ok (.d .non) S:=by
 unfold eF;rw[ba];unfold kP;have e0:=dU (c:=32) (t:=t) (S:=S) (N7 h.len (by decide));rw[hs,N4]at e0;have e1:=Fh (a:=xOp oIx (ae 1) (xC (.int 0))) (τ:=[some (.d (.str t)),some (.d (.lst (.str p0::ps.map D.str))),none]) (S:=S) (p0:=p0) (by simp? [cb DX]);rw[hv]at e1
 simp? [cD,cC,cy,blank,e0,e1,tv,gV hm,ak,fX]
theorem hZ{t p0:Str}{ps:List Str}{m:Int}(h:Tx 583 t)(hs:Txt.split t ⟨#[32]⟩=p0::ps)(hv:(kv5.lookup p0).getD 0=m)(hm:((ps.length+1:Nat):Int)=m)(hc:ps.length=(bI p0).length)
  {b:XS} (hb:kP=ay (aR (xSm dI (ae 0) (xC (.str " "))) (gNm 1)) (ay (xIf (aE (xOp oNe (xN bh (aa (ae 1) aj)) (xDg kv5 0 (xOp oIx (ae 1) (xC (.int 0)))))) (aD (xC .non)) aN) b))
  (hw:leave S (b [some (.d (.str t)),some (.d (.lst (.str p0::ps.map D.str))),none] S)=leave S (aD (ik (bN (aw cI (aa (ae 2) aj))) (ae 2) (xC .non)) [some (.d (.str t)),some (.d (.lst (.str p0::ps.map D.str))),some (.d (wI p0 ps))] S)):eF [.d (.str t)] S=.ok (.d ((wiA p0 ps).getD .non)) S:=by
 unfold eF;rw[ba,hb];have hw2:∀w∈ps,Tx 583 w:=λw hw=>fc (c:=32) h (by rw[hs];exact .tail _ hw);have e0:=dU (c:=32) (t:=t) (S:=S) (N7 h.len (by decide));rw[hs,N4]at e0;have e1:=Fh (a:=xOp oIx (ae 1) (xC (.int 0))) (τ:=[some (.d (.str t)),some (.d (.lst (.str p0::ps.map D.str))),none]) (S:=S) (p0:=p0) (by simp? [cb DX]);rw[hv]at e1
 simp? [cD,cC,cy,blank,e0,e1,tv,NQ hm]
 rw[hw];have e4:=Hv (S:=S) (FA (p0:=p0) hw2);unfold wiA;cases q:mj (wI p0 ps)with
 |true=>
  rw[q]at e4;rw[NT ⟨hc,rfl⟩]
  simp? [e4,ak,fX,QH]
 |false=>
  rw[q]at e4;rw[N1 (λz=>TN z.2)]
  simp? [e4,ak,fX,QF]
theorem xB(hc:ps.length≠(bI p0).length):(wiA p0 ps).getD .non=.non:=by
 unfold wiA;rw[N1 λz=>hc z.1];rfl
theorem CB{t p0:Str}{ps:List Str}(h:Tx 583 t)(hs:Txt.split t ⟨#[32]⟩=p0::ps):eF [.d (.str t)] S=.ok (.d ((wiA p0 ps).getD .non)) S:=by
 have hx:∀w∈ps,Tx 1000 w:=λw hw=>(fc (c:=32) h (by rw[hs];exact .tail _ hw)).le (by decide);rcases sS p0 with rfl |rfl |rfl |rfl |rfl |⟨hn,h1,h2,h3,h4,h5⟩
 ·by_cases hc:ps.length=1
  ·match ps,hc with
   | [a],_=>
    refine hZ h hs (m:=2) rfl rfl (by rw[vp];rfl) rfl ?_;rw[Co]
    simp? [cb (show atI [D.str "unlike",.str a] 0=some (.str "unlike")from rfl),cb (show atI [D.str "unlike",.str a] 1=some (.str a)from rfl),cY (hx a (.head _)),jh,eqw,bD,show inW "unlike" "many" "row"=false by decide,show inW "unlike" "sum" "hand"=false by decide,show decide (("unlike":Str)="sum")=false by decide,show decide (("unlike":Str)="row")=false by decide]
  ·rw[xB (by rw[vp];exact hc),f9 h hs (m:=2) rfl ⋯]
 ·by_cases hc:ps.length=2
  ·match ps,hc with
   | [a,b],_=>
    refine hZ h hs (m:=3) rfl rfl (by rw[vf];rfl) rfl ?_;rw[B_]
    simp? [cb (show atI [D.str "many",.str a,.str b] 0=some (.str "many")from rfl),cb (show atI [D.str "many",.str a,.str b] 1=some (.str a)from rfl),cb (show atI [D.str "many",.str a,.str b] 2=some (.str b)from rfl),cY (hx a (.head _)),pH (hx b (.tail _ (.head _))),jh,eqw,bD,show inW "many" "many" "row"=true by decide,show inW "many" "sum" "hand"=false by decide,show decide (("many":Str)="sum")=false by decide,show decide (("many":Str)="row")=false by decide,qu (xs:=[D.str "many",bt a]) (ys:=[dq b]) (by simp)]
  ·rw[xB (by rw[vf];exact hc),f9 h hs (m:=3) rfl ⋯]
 ·by_cases hc:ps.length=4
  ·match ps,hc with
   | [a,b,c,d],_=>
    refine hZ h hs (m:=5) rfl rfl (by rw[vj];rfl) rfl ?_;rw[BJ]
    simp? [cb (show atI [D.str "sum",.str a,.str b,.str c,.str d] 0=some (.str "sum")from rfl),cb (show atI [D.str "sum",.str a,.str b,.str c,.str d] 1=some (.str a)from rfl),cb (show atI [D.str "sum",.str a,.str b,.str c,.str d] 2=some (.str b)from rfl),cb (show atI [D.str "sum",.str a,.str b,.str c,.str d] 3=some (.str c)from rfl),cb (show atI [D.str "sum",.str a,.str b,.str c,.str d] 4=some (.str d)from rfl),cY (hx a (.head _)),cY (hx b (.tail _ (.head _))),lZ,jh,eqw,bD,show inW "sum" "many" "row"=false by decide,show inW "sum" "sum" "hand"=true by decide,show decide (("sum":Str)="sum")=true by decide,show decide (("sum":Str)="row")=false by decide,qu (xs:=[D.str "sum",bt a]) (ys:=[bt b]) (by simp),qu (xs:=[D.str "sum",bt a,bt b]) (ys:=[nI c,nI d]) (by simp)]
  ·rw[xB (by rw[vj];exact hc),f9 h hs (m:=5) rfl ⋯]
 ·by_cases hc:ps.length=3
  ·match ps,hc with
   | [a,b,c],_=>
    refine hZ h hs (m:=4) rfl rfl (by rw[vC];rfl) rfl ?_;rw[BQ]
    simp? [cb (show atI [D.str "row",.str a,.str b,.str c] 0=some (.str "row")from rfl),cb (show atI [D.str "row",.str a,.str b,.str c] 1=some (.str a)from rfl),cb (show atI [D.str "row",.str a,.str b,.str c] 2=some (.str b)from rfl),cb (show atI [D.str "row",.str a,.str b,.str c] 3=some (.str c)from rfl),cY (hx a (.head _)),pH (hx b (.tail _ (.head _))),cY (hx c (.tail _ (.tail _ (.head _)))),jh,eqw,bD,show inW "row" "many" "row"=true by decide,show inW "row" "sum" "hand"=false by decide,show decide (("row":Str)="sum")=false by decide,show decide (("row":Str)="row")=true by decide,qu (xs:=[D.str "row",bt a]) (ys:=[dq b]) (by simp),qu (xs:=[D.str "row",bt a,dq b]) (ys:=[bt c]) (by simp)]
  ·rw[xB (by rw[vC];exact hc),f9 h hs (m:=4) rfl ⋯]
 ·by_cases hc:ps.length=2
  ·match ps,hc with
   | [a,b],_=>
    refine hZ h hs (m:=3) rfl rfl (by rw[vc];rfl) rfl ?_;rw[Bk]
    simp? [cb (show atI [D.str "hand",.str a,.str b] 0=some (.str "hand")from rfl),cb (show atI [D.str "hand",.str a,.str b] 1=some (.str a)from rfl),cb (show atI [D.str "hand",.str a,.str b] 2=some (.str b)from rfl),cY (hx a (.head _)),cY (hx b (.tail _ (.head _))),jh,eqw,bD,show inW "hand" "many" "row"=false by decide,show inW "hand" "sum" "hand"=true by decide,show decide (("hand":Str)="sum")=false by decide,show decide (("hand":Str)="row")=false by decide,qu (xs:=[D.str "hand",bt a]) (ys:=[bt b]) (by simp)]
  ·rw[xB (by rw[vc];exact hc),f9 h hs (m:=3) rfl ⋯]
 ·have hf:bI p0=[]:=by unfold bI;rw[hn];rfl
  rw[f9 h hs (m:=0) (Dh h1 h2 h3 h4 h5) ⋯];have hw:mj (wI p0 ps)=false:=by unfold wI;rw[hf];rfl
  unfold wiA;rw[hw,N1 (λz=>TN z.2)];rfl
theorem FU:jc [.xc "NoText" []] S=.ok (.d (.str "text")) S:=by
 unfold jc;rw[ba,show pM ([some (.xc "NoText" [])]++N_ (2-1) none) S=.ok (.rt (.d (.str "text")),[some (.xc "NoText" []),some (.d (.lst ((NY 9).map λi=>.bl (decide (i=4)))))]) S by kernel_rfl,ak]
def tV(o:Option D):D:=.lst (match o with
 |some d=>[.str "told",d]
 |none=>[.str "text"])
theorem vk{d:D}:tV (some d)=.lst [.str "told",d]:=rfl
theorem vH:tV none=.lst [.str "text"]:=rfl
def kA(k:Int)(t p0:Str)(ps:List Str):Option D:=if k=0 then stA t else wiA p0 ps
theorem K2{k:Int}{t p0:Str}{ps:List Str}(hk:k=0\/k=1)(h:Tx 583 t)(hs:Txt.split t ⟨#[32]⟩=p0::ps):iV [.d (.int k),.d (.str t)] S=.ok (.d (tV (kA k t p0 ps))) S:=by
 unfold iV;rw[eh];unfold ui;have cx:oIs (.xc "NoText" []) (.d .non) S=.ok (.d (.bl false)) S:=rfl;rcases hk with rfl |rfl
 ·rw[show kA 0 t p0 ps=stA t from NT rfl];cases q:stA t<;>simp! [xu (h.le (by decide)),q,rdR,E4 (show("NoText":Str)∈csX by decide),cx,FU,ak,vk,vH]
 ·rw[show kA 1 t p0 ps=wiA p0 ps from N1 (by decide)];cases q:wiA p0 ps<;>simp! [yl h hs,show decide ((1:Int)=0)=false by decide,q,rdR,E4 (show("NoText":Str)∈csX by decide),cx,FU,ak,vk,vH]
theorem Hb(h:stA t=some d):∃xs,d=.tup xs:=by
 unfold stA at h;split at h
 ·cases h;exact⟨_,rfl⟩
 ·cases h
theorem G4(h:wiA p0 ps=some d):∃xs,d=.tup xs:=by
 unfold wiA at h;split at h
 ·cases h;exact⟨_,rfl⟩
 ·cases h
theorem MF{k:Int}{t p0:Str}{ps:List Str}(hk:k=0\/k=1)(h:Tx 583 t)(hs:Txt.split t ⟨#[32]⟩=p0::ps):kg [.d (.int k),.d (.str t)] S=.ok (.d (tV (kA k t p0 ps))) S:=by
 unfold kg;rw[eh];unfold xj;rcases hk with rfl |rfl
 ·rw[show kA 0 t p0 ps=stA t from NT rfl];have e:=zk (S:=S) (h.le (show 583<=1000 by decide));cases q:stA t with
  |none=>rw[q,QF]at e;simp? [e,ak,vH]
  |some d=>obtain⟨xs,rfl⟩:=Hb q;rw[q,QH]at e;simp? [e,ak,vk]
 ·rw[show kA 1 t p0 ps=wiA p0 ps from N1 (by decide)];have e:=CB (S:=S) h hs;cases q:wiA p0 ps with
  |none=>rw[q,QF]at e;simp? [show decide ((1:Int)=0)=false by decide,e,ak,vH]
  |some d=>obtain⟨xs,rfl⟩:=G4 q;rw[q,QH]at e;simp? [show decide ((1:Int)=0)=false by decide,e,ak,vk]
theorem vA:D.depth (nI w)<=0:=by
 unfold nI;cases q:dg w with
 |none=>exact NW _
 |some d=>
  obtain⟨n,_,_,rfl⟩:=lS q;exact NW _
theorem iL{α:Type}{f:α->D}{k:Nat}(h:∀a,D.depth (f a)<=k):∀l:List α,D.bY (l.map f)<=k
 | []=>Pc _
 |a::l=>by
  rw[N4,D.bY];have:=h a;have:=iL h l;omega
theorem qk{xs:List D}(h:D.bY xs<=k):D.depth (.tup xs)<=k+1:=by
 rw[D.depth];omega
theorem J5:D.depth (fD p)<=2:=by
 unfold fD;split
 ·exact N7 vA (by decide)
 ·split
  ·exact N7 (qk (iL (k:=0) (λ_=>vA) _)) (by decide)
  ·exact qk (iL (k:=1) (λ_=>qk (iL (k:=0) (λ_=>vA) _)) _)
theorem GO{k:Int}:D.depth (tV (kA k t p0 ps))<10:=by
 have h1:∀d,kA k t p0 ps=some d->D.depth d<=3:=by
  intro d h;unfold kA at h;split at h
  ·unfold stA at h;split at h
   ·cases h;exact N7 (qk (iL (k:=1) (λ_=>qk (iL (k:=0) (λ_=>vA) _)) _)) (by decide)
   ·cases h
  ·unfold wiA at h;split at h
   ·cases h;refine qk ?_;rw[D.bY];have:=iL (k:=2) (λp=>J5 (p:=p)) ((bI p0).zip ps);have:D.depth (.str p0)=0:=rfl;omega
   ·cases h
 cases q:kA k t p0 ps with
 |none=>show D.depth (.lst [.str "text"])<10;decide
 |some d=>
  have:=h1 d q;show D.depth (.lst [.str "told",d])<10;rw[D.depth,D.bY,D.bY,D.bY];have:D.depth (.str "told")=0:=rfl;omega
theorem ym{k:Int}{t:Str}(hk:k=0\/k=1)(h:Tx 583 t):∃d:D,(∀S,iV [.d (.int k),.d (.str t)] S=.ok (.d d) S)/\(∀S,kg [.d (.int k),.d (.str t)] S=.ok (.d d) S)/\∀S,dQ 10 [.d d,.d d] S=.ok (.d (.bl true)) S:=by
 match q:Txt.split t ⟨#[32]⟩with
 | []=>exact absurd q rf
 |p0::ps=>exact⟨tV (kA k t p0 ps),λS=>K2 hk h q,λS=>MF hk h q,λS=>same_self 10 _ GO S⟩
theorem z9{xs:List D}{i:Int}(h0:0<=i)(h1:i<(xs.length:Int)):∃z∈xs,∀S,oIx (.d (.lst xs)) (.d (.int i)) S=.ok (.d z) S:=by
 obtain⟨z,e,hz⟩:=JA h0 h1;exact⟨z,hz,λS=>cb e⟩
theorem jv{a b:Str}{S:Sto}(h:a.length+b.length<=100000):aU (.d (.str a)) (.d (.str b)) S=.ok (.d (.str (a++b))) S:=by rw[show aU (.d (.str a)) (.d (.str b)) S=if a.length+b.length<=100000 then .ok (.d (.str (a++b))) S else .bad from rfl,NT h]
def sgs:Str:=(" !\"#$&'()*+,-./0123456789:;<=>?@ABCDEFGHIJKLMNOPQRSTUVWXYZ[\\]^_`":Str)++("abcdefghijklmnopqrstuvwxyz{|}~\t\n":Str)
theorem Gn:sgs.cps.toList.all (λc=>decide (c<128))=true:=by decide+kernel
theorem yw:sgs.cps.toList.length=96:=by decide+kernel
theorem GH:∀c,c<128->Txt.contains "" (sg c)=false:=by decide+kernel
theorem GK{o:Ob}{R:Sto}(hp:Pen o):∃(c:Nat)(o':Ob),c<128/\Pen o'/\g_ [.r 0] (o::R)=.ok (.d (.str (sg c))) (o'::R):=by
 have hc:∀c∈sgs.cps.toList,c<128:=λc h=>Oc (Oi.mp Gn c h);have eC:jC [some (.r 0),some (.d (.str "")),some (.d (.str sgs)),none] (o::R)=.ok (.d (.lst (sgs.cps.toList.map λc=>D.str (sg c)))) (o::R):=by
  unfold jC;rw[tO (items:=sgs.cps.toList.map λc=>Vl.d (.str (sg c))) (S1:=o::R) (by
   unfold AM;rw[vq,vq,Ay,bc];dsimp only;rw[NT ⟨by decide+kernel,by decide+kernel⟩]) (λz=>match z with | .d d=>some d |_=>none) (by
   intro z hz S;obtain⟨c,h,rfl⟩:=Of.mp hz;refine⟨λx hx=>?_,λhx=>by cases hx⟩;cases hx;refine⟨?_,by walk_at"mx"⟩;walk_at"mx";rw[show vg (.d (.str (sg c))) (.d (.str "")) S=.ok (.d (.bl (!Txt.contains "" (sg c)))) S from rfl,GH c (hc c h)];walk_at"mx")]
  rw[Ru];have:∀l:List Nat,l.filterMap ((λz=>match z with |Vl.d d=>some d |_=>none)∘λc=>Vl.d (.str (sg c)))=l.map λc=>D.str (sg c):=λl=>by
   induction l with
   |nil=>rfl
   |cons a l ih=>rw[Ot,N4,<-ih];rfl
  rw[this]
 obtain⟨v,o1,v0,v1,hp1,e1⟩:=a_ (R:=R) (m:=96) hp (by decide) (by decide);obtain⟨z,hz,ez⟩:=z9 (xs:=sgs.cps.toList.map λc=>D.str (sg c)) (i:=v) v0 (by rw[tv,yw];exact v1);obtain⟨c,h,rfl⟩:=Of.mp hz;refine⟨c,o1,hc c h,hp1,?_⟩;have e2:ic [.r 0,.d (.str "")] (o::R)=.ok (.d (.str (sg c))) (o1::R):=by
  unfold ic;rw[eh];unfold oz;walk_at"mx";erw[jv (by decide+kernel)];erw[show(" !\"#$&'()*+,-./0123456789:;<=>?@ABCDEFGHIJKLMNOPQRSTUVWXYZ[\\]^_`":Str)++("abcdefghijklmnopqrstuvwxyz{|}~\t\n":Str)=sgs from rfl,eC];erw[tv,yw,show((96:Nat):Int)=96 from rfl,e1];erw[ez];rw[cO,cB]
 unfold g_;rw[ba];unfold n8;walk_at"mx";erw[e2];rw[cO,cB]
theorem Dq{o:Ob}{R:Sto}{x:Str}(hp:Pen o)(h:Tx L x)(hL:L<=300):∃(y:Str)(o':Ob),Tx (2*L+1) y/\Pen o'/\jY [.r 0,.d (.str x)] (o::R)=.ok (.d (.str y)) (o'::R):=by
 have hl:=h.len;obtain⟨v,o1,v0,v1,hp1,e1⟩:=a_ (R:=R) (m:=(x.length:Int)+1) hp ⋯ ⋯;obtain⟨c,o2,hc,hp2,e2⟩:=GK (R:=R) hp1;obtain⟨w,o3,w0,w1,hp3,e3⟩:=a_ (R:=R) (m:=2) hp2 (by decide) (by decide);have s1:∀l u S,iO (.d (.str x)) l u S=.ok (.d (.str (Txt.slice x l u))) S:=λl u S=>NT ⋯;have t1:=kI (i:=none) (j:=some v) h;have t2:=kI (i:=some (v+w)) (j:=none) h;have l1:=t1.len;have l2:=t2.len;have tg:Tx 1 (sg c):=⟨NW _,λx hx=>by
  have:x=c:=by simpa[sg]using hx
  rw[this];exact hc⟩
 have lg:(sg c).length=1:=rfl;refine⟨Txt.slice x none (some v)++sg c++Txt.slice x (some (v+w)) none,o3,(wx (wx t1 tg) t2).le ⋯,hp3,?_⟩;unfold jY;rw[eh];unfold qB
 simp? [gi (show x.length<=1000 by omega),e1,s1,e2,jv (show(Txt.slice x none (some v)).length+(sg c).length<=100000 by rw[lg];omega),e3,jv (show(Txt.slice x none (some v)++sg c).length+(Txt.slice x (some (v+w)) none).length<=100000 by rw[O5,lg];omega),cO,cB]
def Ej:List Str:=["","-","0","-0","00","01","+1","1_0","100","-100","0,,1","0,1,",":","0:1","0:1:2:3","0:0:1,1:0:1","unlike","many","sum","row","hand","stand","Row","3,2","1,1"]
theorem IZ:Ej.all (λw=>decide (w.length<=11)&&w.cps.toList.all λc=>decide (c<128))=true:=by decide+kernel
theorem zN{a b c d e f g h i j k l m n o:D}{S:Sto}:mkL [.d a,.d b,.d c,.d d,.d e,.d f,.d g,.d h,.d i,.d j,.d k,.d l,.d m,.d n,.d o] S=.ok (.d (.lst [a,b,c,d,e,f,g,h,i,j,k,l,m,n,o])) S:=bp rfl
theorem gK{xs ys:List D}(h:xs.length+ys.length<=5000):aU (.d (.lst xs)) (.d (.lst ys)) S=.ok (.d (.lst (xs++ys))) S:=vY ⋯
theorem Mz{xs:List D}:vz (.d (.lst xs)) (.d (.int (-1))) S=.ok (.d (.lst xs.reverse)) S:=bp rfl
theorem Jl{l:List Str}:wl l.reverse=wl l:=by
 unfold wl;rw[VO,List.sum_reverse]
structure Wd(L:Nat)(ws:List Str):Prop where
 all:∀w∈ws,Tx L w
 len:wl ws<=2*L+2
 cnt:ws.length<=1000
theorem Gs{n:Nat}{ws:List Str}{word:Str}(hw:∀w∈ws,Tx L w)(hl:wl ws<=L+1)(h0:12<=L)(hL:L<=300)(ho:Tx 11 word) :
  ∀l∈[ws.take n++ws.drop (n+1),ws.take (n+1)++ws.drop n,ws.take n++((ws.drop n).take 2).reverse++ws.drop (n+2),ws.take n++[word]++ws.drop (n+1)],Wd L l:=by
 have c:∀l:List Str,wl l<=2*L+2->l.length<=1000:=λl h=>by
  have:=sD (k:=0) (l:=l) λ_ _=>Pc _;omega
 have t:∀k,∀w∈ws.take k,Tx L w:=λk w h=>hw w (Qg h);have d:∀k,∀w∈ws.drop k,Tx L w:=λk w h=>hw w (Qv h);have a:∀{l m:List Str},(∀w∈l,Tx L w)->(∀w∈m,Tx L w)->∀w∈l++m,Tx L w:=λh g w hw=>by
  rcases Oz.mp hw with z |z
  ·exact h w z
  ·exact g w z
 have q:=λk=>xV (l:=ws) k;have q0:=q n;have q1:=q (n+1);have q2:=q (n+2);have mk:∀l:List Str,(∀w∈l,Tx L w)->wl l<=2*L+2->Wd L l:=λl h g=>⟨h,g,c l g⟩;intro l h;simp only[NU,Oj,O6]at h;rcases h with rfl |rfl |rfl |rfl
 ·exact mk _ (a (t _) (d _)) (by rw[kU];omega)
 ·exact mk _ (a (t _) (d _)) (by rw[kU];omega)
 ·refine mk _ (a (a (t _) λw hw=>d n w (Qg (List.mem_reverse.mp hw))) (d _)) ?_;have:=xV (l:=ws.drop n) 2;rw[kU,kU,Jl];omega
 ·refine mk _ (a (a (t _) λw hw=>?_) (d _)) ?_
  ·cases N6.mp hw;exact ho.le ⋯
  ·have:=ho.len;have q3:=xV (l:=ws.drop n) 1;rw[List.drop_drop]at q3;rw[kU,kU,cm,show wl []=0 from rfl];omega
theorem rA{o:Ob}{R:Sto}{t:Str}(hp:Pen o)(h:Tx L t)(h0:12<=L)(hL:L<=300):∃(t':Str)(o':Ob),Tx (2*L+1) t'/\Pen o'/\gg [.r 0,.d (.str t)] (o::R)=.ok (.d (.str t')) (o'::R):=by
 have hl:=h.len;have hT:t.length<=1000:=by omega
 obtain⟨v,o1,v0,v1,hp1,e1⟩:=a_ (R:=R) (m:=(t.length:Int)+1) hp ⋯ ⋯;have e2:=dU (c:=32) (t:=t) (S:=o1::R) hT;have hw:∀w∈Txt.split t ⟨#[32]⟩,Tx L w:=λw hw=>fc h hw;have hc:=uP (c:=32) h;have hn:0<(Txt.split t ⟨#[32]⟩).length:=List.length_pos_iff.mpr rf;have hwl:wl (Txt.split t ⟨#[32]⟩)<=L+1:=by rw[nB];omega
 generalize Txt.split t ⟨#[32]⟩=ws at e2 hw hc hn hwl;obtain⟨n,o2,n0,n1,hp2,e3⟩:=a_ (R:=R) (m:=(ws.length:Int)) hp1 ⋯ ⋯;obtain⟨j,o3,j0,j1,hp3,e4⟩:=a_ (R:=R) (m:=25) hp2 (by decide) (by decide);obtain⟨z,hz,ez⟩:=z9 (xs:=Ej.map D.str) (i:=j) j0 (by rw[tv];exact j1);obtain⟨word,hword,rfl⟩:=Of.mp hz;have ho:Tx 11 word:=by
  have:=Oi.mp IZ word hword;rw[N3,Oi]at this;exact⟨Oc this.1,λc hc=>Oc (this.2 c hc)⟩
 obtain⟨kd,o4,k0,k1,hp4,e5⟩:=a_ (R:=R) (m:=10) hp3 (by decide) (by decide);have s1:∀l u S,iO (.d (.str t)) l u S=.ok (.d (.str (Txt.slice t l u))) S:=λl u S=>NT hT;have t1:=kI (i:=none) (j:=some v) h;have t2:=kI (i:=some (v+1)) (j:=none) h;have l1:=t1.len;have l2:=t2.len;have eo:(Ej.map D.str)=[D.str "",.str "-",.str "0",.str "-0",.str "00",.str "01",.str "+1",.str "1_0",.str "100",.str "-100",.str "0,,1",.str "0,1,",.str ":",.str "0:1",.str "0:1:2:3",.str "0:0:1,1:0:1",.str "unlike",.str "many",.str "sum",.str "row",.str "hand",.str "stand",.str "Row",.str "3,2",.str "1,1"]:=rfl;rw[eo]at ez;have ea:∀S,aU (.d (.lst [D.str "",.str "-",.str "0",.str "-0",.str "00",.str "01",.str "+1",.str "1_0",.str "100",.str "-100",.str "0,,1",.str "0,1,",.str ":",.str "0:1",.str "0:1:2:3"])) (.d (.lst [D.str "0:0:1,1:0:1",.str "unlike",.str "many",.str "sum",.str "row",.str "hand",.str "stand",.str "Row",.str "3,2",.str "1,1"])) S=.ok (.d (.lst [D.str "",.str "-",.str "0",.str "-0",.str "00",.str "01",.str "+1",.str "1_0",.str "100",.str "-100",.str "0,,1",.str "0,1,",.str ":",.str "0:1",.str "0:1:2:3",.str "0:0:1,1:0:1",.str "unlike",.str "many",.str "sum",.str "row",.str "hand",.str "stand",.str "Row",.str "3,2",.str "1,1"])) S:=λS=>gK (by show 15+10<=5000;decide);unfold gg;rw[eh];unfold qS;by_cases c4:kd<4
 ·obtain⟨y,o5,hy,hp5,e6⟩:=Dq (R:=R) hp4 h hL;refine⟨y,o5,hy,hp5,?_⟩
  simp? [gi hT,e1,cD,cC,cy,blank,e2,tv,e3,zN,ea,e4,ez,e5,NQ c4,e6,cO,cB]
 by_cases c5:kd=4
 ·refine⟨_,o4,(wx t1 t2).le ⋯,hp4,?_⟩
  simp? [gi hT,e1,cD,cC,cy,blank,e2,tv,e3,zN,ea,e4,ez,e5,gV c4,NQ c5,s1,jv (show(Txt.slice t none (some v)).length+(Txt.slice t (some (v+1)) none).length<=100000 by omega),cO,cB]
 by_cases c6:kd=5
 ·refine⟨_,o4,t1.le ⋯,hp4,?_⟩
  simp? [gi hT,e1,cD,cC,cy,blank,e2,tv,e3,zN,ea,e4,ez,e5,gV c4,gV c5,NQ c6,s1,cO,cB]
 obtain⟨m,rfl⟩:=RN n0;have x1:dG (ws.map D.str) none (some (m:Int))=(ws.take m).map D.str:=by rw[mQ,QO]
 have x2:dG (ws.map D.str) (some ((m:Int)+1)) none=(ws.drop (m+1)).map D.str:=by rw[show(m:Int)+1=((m+1:Nat):Int)from rfl,kR,R6]
 have x3:dG (ws.map D.str) none (some ((m:Int)+1))=(ws.take (m+1)).map D.str:=by rw[show(m:Int)+1=((m+1:Nat):Int)from rfl,mQ,QO]
 have x4:dG (ws.map D.str) (some (m:Int)) none=(ws.drop m).map D.str:=by rw[kR,R6]
 have x5:dG (ws.map D.str) (some (m:Int)) (some ((m:Int)+2))=((ws.drop m).take 2).map D.str:=by rw[show(m:Int)+2=((m+2:Nat):Int)from rfl,Be,Nat.add_sub_cancel_left,QO,R6]
 have x6:dG (ws.map D.str) (some ((m:Int)+2)) none=(ws.drop (m+2)).map D.str:=by rw[show(m:Int)+2=((m+2:Nat):Int)from rfl,kR,R6]
 have hb:=Gs (n:=m) hw hwl h0 hL ho;obtain⟨y,hy,ey⟩:=z9 (xs:=[ws.take m++ws.drop (m+1),ws.take (m+1)++ws.drop m,ws.take m++((ws.drop m).take 2).reverse++ws.drop (m+2),ws.take m++[word]++ws.drop (m+1)].map λl=>D.lst (l.map D.str)) (i:=kd-6) ⋯ (by rw[tv];show kd-6<4;omega);obtain⟨l,hl2,rfl⟩:=Of.mp hy;have g:=hb l hl2;have ej:=λS=>kb (c:=32) (ws:=l) (S:=S) (λw hw=>by have:=(g.all w hw).len;omega) g.cnt;refine⟨Txt.join ⟨#[32]⟩ l,o4,gh (by decide) (λw hw=>(g.all w hw).asc) g.len,hp4,?_⟩;have b1:(ws.take m).length<=400/\(ws.take (m+1)).length<=400/\(ws.drop m).length<=400/\(ws.drop (m+1)).length<=400/\(ws.drop (m+2)).length<=400/\((ws.drop m).take 2).length<=400:=by
  simp only[OL,Tu];omega
 obtain⟨b1,b2,b3,b4,b5,b6⟩:=b1;simp only[N4,O7,Ql,VO]at ey
 simp? [gi hT,e1,cD,cC,cy,blank,e2,tv,e3,zN,ea,e4,ez,e5,gV c4,gV c5,gV c6,x1,x2,x3,x4,x5,x6,Mz,
  gK (S:=o4::R) (xs:=(ws.take m).map D.str) (ys:=(ws.drop (m+1)).map D.str) (by rw[tv,tv];omega),
  gK (S:=o4::R) (xs:=(ws.take (m+1)).map D.str) (ys:=(ws.drop m).map D.str) (by rw[tv,tv];omega),
  gK (S:=o4::R) (xs:=(ws.take m).map D.str) (ys:=(((ws.drop m).take 2).map D.str).reverse) (by rw[Sw,tv,tv];omega),
  gK (S:=o4::R) (xs:=(ws.take m).map D.str++(((ws.drop m).take 2).map D.str).reverse) (ys:=(ws.drop (m+2)).map D.str) (by rw[ON,Sw,tv,tv,tv];omega),
  gK (S:=o4::R) (xs:=(ws.take m).map D.str) (ys:=[D.str word]) (by rw[tv];show _+1<=5000;omega),
  gK (S:=o4::R) (xs:=(ws.take m).map D.str++[D.str word]) (ys:=(ws.drop (m+1)).map D.str) (by rw[ON,tv,tv];show _+1+_<=5000;omega),gK (S:=o4::R) (xs:=[D.lst ((ws.take m).map D.str++(ws.drop (m+1)).map D.str),.lst ((ws.take (m+1)).map D.str++(ws.drop m).map D.str),.lst ((ws.take m).map D.str++(((ws.drop m).take 2).map D.str).reverse++(ws.drop (m+2)).map D.str)]) (ys:=[D.lst ((ws.take m).map D.str++[D.str word]++(ws.drop (m+1)).map D.str)]) (by show 3+1<=5000;decide),ey,ej,cO,cB]
theorem Mg(g:GoodW m ws)(hm:m<=4):Few ws:=⟨by have:=g.le;omega,λn hn=>by have:=g.lim n hn;omega⟩
theorem Mx(g:lK 4 4 wss):(∀ws∈wss,Few ws)/\wss.length<=12:=⟨λws hw=>Mg (g.all ws hw) (by decide),by have:=g.le;omega⟩
theorem sW(g:jZ k ns)(hk:k<=4):Few ns:=⟨by have:=g.le;omega,λn hn=>by have:=g.dom n hn;omega⟩
theorem KS(g:xS k wi)(hk:k<=4):vo wi:=by
 cases wi with
 |unl ns=>exact sW g hk
 |man ns bs=>exact⟨sW g.1 hk,by have:=g.2.le;omega,λt ht=>by have:=g.2.lim t ht;unfold AB;omega⟩
 |sum ns ws lo hi=>
  obtain⟨g1,g2,g3,g4⟩:=g;have:=g1.le;exact⟨sW g1 hk,⟨by omega,λn hn=>by have:=g3 n hn;omega⟩,by omega,by omega⟩
 |row ns ds es=>
  obtain⟨g1,g2,g3,g4,g5⟩:=g;exact⟨sW g1 hk,⟨g2.le,λt ht=>by have:=g2.lim t ht;unfold AB;omega⟩,by omega,λn hn=>by have:=g4 n hn;omega⟩
 |han ns ls=>
  obtain⟨g1,g2,g3⟩:=g;have:=g1.le;exact⟨sW g1 hk,by omega,λn hn=>by have:=g3 n hn;omega⟩
theorem Iu:(NY 199).all (λk=>decide ((nT ((k:Int)-99)).length<=3)&&(nT ((k:Int)-99)).cps.toList.all λc=>decide (c<128))=true:=by decide+kernel
theorem Js:(NY 19).all (λk=>decide ((nT ((k:Int)-9)).length<=2))=true:=by decide+kernel
theorem vx(h:-99<=n/\n<=99):Tx 3 (nT n):=by
 have:=Oi.mp Iu (n+99).toNat (Ol.mpr ⋯);rw[show(((n+99).toNat:Nat):Int)-99=n by omega,N3,Oi]at this;exact⟨Oc this.1,λc hc=>Oc (this.2 c hc)⟩
theorem vd(h:-9<=n/\n<=9):Tx 2 (nT n):=by
 have:=Oi.mp Js (n+9).toNat (Ol.mpr ⋯);rw[show(((n+9).toNat:Nat):Int)-9=n by omega]at this;exact⟨Oc this,(vx ⟨by omega,by omega⟩).asc⟩
theorem vw{B:Nat}:∀{l:List Str},(∀w∈l,Tx B w)->wl l<=l.length*(B+1)
 | [],_=>Pc _
 |a::l,h=>by
  have h1:=(h a (.head _)).len;have h2:=vw λw hw=>h w (.tail _ hw);rw[cm,N9,Xw];omega
theorem Fe{B k:Nat}{ws:List Str}(h:∀w∈ws,Tx B w)(hl:ws.length<=k)(hM:k*(B+1)<=M)(h1:1<=M):Tx M (jn ws):=by
 unfold jn;split
 ·exact⟨N7 (by decide) h1,by decide⟩
 ·refine gh (by decide) (λw hw=>(h w hw).asc) ?_;have h2:=vw h;have h3:=UB (B+1) hl;omega
theorem mB{ns:List Int}(h:∀n∈ns,-9<=n/\n<=9)(hl:ns.length<=4):Tx 12 (bj ns):=Fe (B:=2) (k:=4) (λw hw=>by
 obtain⟨n,hn,rfl⟩:=Of.mp hw;exact vd (h n hn)) (by rw[tv];exact hl) (by decide) (by decide)
theorem HV{t:Tri}(h:(-9<=t.1/\t.1<=9)/\(-9<=t.2.1/\t.2.1<=9)/\-9<=t.2.2/\t.2.2<=9):Tx 8 (l7 t):=by
 have a:∀w∈[nT t.1,nT t.2.1,nT t.2.2],Tx 2 w:=w4 (vd h.1) (vd h.2.1) (vd h.2.2);refine gh (by decide) (λw hw=>(a w hw).asc) ?_;exact N7 (vw a) (by show 3*3<=9;decide)
theorem ze{k M:Nat}{ts:List Tri}(h:∀t∈ts,(-9<=t.1/\t.1<=9)/\(-9<=t.2.1/\t.2.1<=9)/\-9<=t.2.2/\t.2.2<=9)(hl:ts.length<=k)(hM:k*9<=M)(h1:1<=M):Tx M (fJ ts):=Fe (B:=8) (k:=k) (λw hw=>by
 obtain⟨t,ht,rfl⟩:=Of.mp hw;exact HV (h t ht)) (by rw[tv];exact hl) hM h1
theorem GX:Tx 6 ("unlike":Str)/\Tx 4 ("many":Str)/\Tx 3 ("sum":Str)/\Tx 3 ("row":Str)/\Tx 4 ("hand":Str):=⟨⟨by decide,by decide⟩,⟨by decide,by decide⟩,⟨by decide,by decide⟩,⟨by decide,by decide⟩,by decide,by decide⟩
theorem sJ(g:jZ k ns)(hk:k<=4):Tx 12 (bj ns):=mB (λn hn=>by have:=g.dom n hn;omega) (by have:=g.le;omega)
theorem Mr(g:xS k wi)(hk:k<=4):Tx 145 (wiT wi):=by
 obtain⟨u1,u2,u3,u4,u5⟩:=GX;have two:∀{a b:Str}{A B:Nat},Tx A a->Tx B b->A+B<=144->Tx 145 (Txt.join ⟨#[32]⟩ [a,b]):=λ{a b A B} ha hb hl=>gh (by decide) (λw hw=>by
   simp only[NU,Oj,O6]at hw;rcases hw with rfl |rfl
   ·exact ha.asc
   ·exact hb.asc) (by
   have:=ha.len;have:=hb.len;rw[cm,cm,show wl []=0 from rfl];omega)
 unfold wiT;cases wi with
 |unl ns=>exact two u1 (sJ g hk) (by decide)
 |man ns bs=>
  have a:=sJ g.1 hk;have b:Tx 36 (fJ bs):=ze (k:=4) (λt ht=>by have:=g.2.lim t ht;omega) g.2.le (by decide) (by decide);refine gh (by decide) (λw hw=>?_) ?_
  ·simp only[wiP,NU,Oj,O6]at hw;rcases hw with rfl |rfl |rfl
   ·exact u2.asc
   ·exact a.asc
   ·exact b.asc
  ·have:=u2.len;have:=a.len;have:=b.len;show wl [_,_,_]<=_;rw[cm,cm,cm,show wl []=0 from rfl];omega
 |sum ns ws lo hi=>
  obtain⟨g1,g2,g3,g4⟩:=g;have a:=sJ g1 hk;have b:Tx 12 (bj ws):=mB (λn hn=>by have:=g3 n hn;omega) (by have:=g1.le;omega);have c:Tx 3 (nT lo):=vx ⟨by omega,by omega⟩;have d:Tx 3 (nT hi):=vx ⟨by omega,by omega⟩;refine gh (by decide) (λw hw=>?_) ?_
  ·simp only[wiP,NU,Oj,O6]at hw;rcases hw with rfl |rfl |rfl |rfl |rfl
   ·exact u3.asc
   ·exact a.asc
   ·exact b.asc
   ·exact c.asc
   ·exact d.asc
  ·have:=u3.len;have:=a.len;have:=b.len;have:=c.len;have:=d.len;show wl [_,_,_,_,_]<=_;rw[cm,cm,cm,cm,cm,show wl []=0 from rfl];omega
 |row ns ds es=>
  obtain⟨g1,g2,g3,g4,g5⟩:=g;have a:=sJ g1 hk;have b:Tx 108 (fJ ds):=ze (k:=12) (λt ht=>by have:=g2.lim t ht;omega) g2.le (by decide) (by decide);have c:Tx 12 (bj es):=mB (λn hn=>by have:=g4 n hn;omega) g5;refine gh (by decide) (λw hw=>?_) ?_
  ·simp only[wiP,NU,Oj,O6]at hw;rcases hw with rfl |rfl |rfl |rfl
   ·exact u4.asc
   ·exact a.asc
   ·exact b.asc
   ·exact c.asc
  ·have:=u4.len;have:=a.len;have:=b.len;have:=c.len;show wl [_,_,_,_]<=_;rw[cm,cm,cm,cm,show wl []=0 from rfl];omega
 |han ns ls=>
  obtain⟨g1,g2,g3⟩:=g;have a:=sJ g1 hk;have b:Tx 12 (bj ls):=mB (λn hn=>by have:=g3 n hn;omega) (by have:=g1.le;omega);refine gh (by decide) (λw hw=>?_) ?_
  ·simp only[wiP,NU,Oj,O6]at hw;rcases hw with rfl |rfl |rfl
   ·exact u5.asc
   ·exact a.asc
   ·exact b.asc
  ·have:=u5.len;have:=a.len;have:=b.len;show wl [_,_,_]<=_;rw[cm,cm,cm,show wl []=0 from rfl];omega
theorem Lo(g:lK 4 4 wss):Tx 145 (gx wss):=by
 have a:∀w∈wss.map bj,Tx 12 w:=λw hw=>by
  obtain⟨ws,h,rfl⟩:=Of.mp hw;have gw:=g.all ws h;exact mB gw.lim (by have:=gw.le;omega)
 refine gh (by decide) (λw hw=>(a w hw).asc) ?_;have h2:=vw a;rw[tv]at h2;have:=g.le;omega
def dr(k:Nat):Str:=nT ((k:Int) % 4)++":"++nT ((k:Int) / 4-1)++":"++nT (((k:Int)+1) % 4)
def bo(k:Nat):Str:=nT k++":0:4"
def rt(m:Nat):Str:="row 1,0 "++Txt.join ⟨#[44]⟩ (((NY 13).map dr).take m)++" 0,3"
def mt(m:Nat):Str:="many 0 "++Txt.join ⟨#[44]⟩ (((NY 5).map bo).take m)
def nu:List Str:=[rt 12,rt 13,mt 4,mt 5]
theorem Gu:nu.all (λt=>decide (t.length<=583)&&t.cps.toList.all λc=>decide (c<128))=true:=by decide+kernel
theorem Il:((NY 13).map dr).all (λt=>decide (t.length<=20))=true:=by decide+kernel
theorem IA:((NY 5).map bo).all (λt=>decide (t.length<=20))=true:=by decide+kernel
theorem Ii:aY 0 n b [] S=leave S (b ([]++N_ (n-0) none) S):=sH rfl
theorem zV(h:-99<=n/\n<=99):(nT n).length<=3:=(vx h).len
theorem FN{ws:List Str}(h:ws.all (λt=>decide (t.length<=20))=true)(hl:ws.length<=20)(m:Nat):eI ⟨#[44]⟩ (.d (.lst ((ws.take m).map D.str))) S=.ok (.d (.str (Txt.join ⟨#[44]⟩ (ws.take m)))) S/\(Txt.join ⟨#[44]⟩ (ws.take m)).length<=500:=by
 have a:∀w∈ws.take m,w.length<=20:=λw hw=>Oc (Oi.mp h w (Qg hw));have c:(ws.take m).length<=20:=by rw[OL];omega
 refine⟨kb (λw hw=>by have:=a w hw;omega) ⋯,?_⟩;have:=rj (c:=44) a;have:=UB 20 c;omega
theorem JZ:fY [] S=.ok (.d (.lst (nu.map D.str))) S:=by
 unfold fY;rw[Ii];unfold kY;have lc:(":":Str).length=1:=by decide
 have l4:(":0:4":Str).length=4:=by decide
 have e1:gY [none,none,none] S=.ok (.d (.lst (((NY 13).map dr).map D.str))) S:=by
  unfold gY;rw[gF (items:=(NY 13).map λi=>Vl.d (.int (i:Nat))) (S1:=S) (by walk_at"mx";rw[qp (by decide)];rfl) (λz=>match z with | .d (.int i)=>.str (dr i.toNat) |_=>.non) (λz hz S=>by
   obtain⟨k,hk,rfl⟩:=Of.mp hz;have hk:=Ol.mp hk;have b1:-99<=(k:Int) % 4/\(k:Int) % 4<=99:=by omega
   have b2:-99<=(k:Int) / 4-1/\(k:Int) / 4-1<=99:=by omega
   have b3:-99<=((k:Int)+1) % 4/\((k:Int)+1) % 4<=99:=by omega
   have n1:=zV b1;have n2:=zV b2;have n3:=zV b3
   simp? [Ao (show(0:Int)<4 by decide),FI (i:=(k:Int)) (j:=4) ⟨by omega,by decide⟩,eU b1,eU b2,eU b3,jv (a:=nT ((k:Int) % 4)) (b:=":") ⋯,jv (a:=nT ((k:Int) % 4)++":") (b:=nT ((k:Int) / 4-1)) (by rw[O5];omega),jv (a:=nT ((k:Int) % 4)++":"++nT ((k:Int) / 4-1)) (b:=":") (by rw[O5,O5];omega),jv (a:=nT ((k:Int) % 4)++":"++nT ((k:Int) / 4-1)++":") (b:=nT (((k:Int)+1) % 4)) (by rw[O5,O5,O5];omega)]
   rfl),Ov,Ov]
  rfl
 have e2:iA [some (.d (.lst (((NY 13).map dr).map D.str))),none,none] S=.ok (.d (.lst (((NY 5).map bo).map D.str))) S:=by
  unfold iA;rw[gF (items:=(NY 5).map λi=>Vl.d (.int (i:Nat))) (S1:=S) (by walk_at"mx";rw[qp (by decide)];rfl) (λz=>match z with | .d (.int i)=>.str (bo i.toNat) |_=>.non) (λz hz S=>by
   obtain⟨k,hk,rfl⟩:=Of.mp hz;have hk:=Ol.mp hk;have b1:-99<=(k:Int)/\(k:Int)<=99:=by omega
   have n1:=zV b1
   simp? [eU b1,jv (a:=nT (k:Int)) (b:=":0:4") ⋯]
   rfl),Ov,Ov]
  rfl
 have e3:hU [some (.d (.lst (((NY 13).map dr).map D.str))),some (.d (.lst (((NY 5).map bo).map D.str))),none] S=.ok (.d (.lst [.str (rt 12),.str (rt 13)])) S:=by
  unfold hU;rw[gF (items:=[((12:Nat):Int),((13:Nat):Int)].map λi=>Vl.d (.int i)) (S1:=S) (by walk_at"mx";rfl) (λz=>match z with | .d (.int i)=>.str (rt i.toNat) |_=>.non) (λz hz S=>by
   have:∃m:Nat,z=.d (.int (m:Nat)):=by
    obtain⟨k,hk,rfl⟩:=Of.mp hz;simp only[NU,Oj,O6]at hk;rcases hk with rfl |rfl
    ·exact⟨12,rfl⟩
    ·exact⟨13,rfl⟩
   obtain⟨m,rfl⟩:=this;obtain⟨j1,j2⟩:=FN (S:=S) Il (by rw[tv];decide) m;rw[QO]at j1;have l5:("row 1,0 ":Str).length=8:=by decide
   have l6:(" 0,3":Str).length=4:=by decide
   simp? [cD,cC,cy,comma,mQ,j1,jv (a:="row 1,0 ") (b:=Txt.join ⟨#[44]⟩ (((NY 13).map dr).take m)) ⋯,jv (a:="row 1,0 "++Txt.join ⟨#[44]⟩ (((NY 13).map dr).take m)) (b:=" 0,3") (by rw[O5];omega)]
   rfl)]
  rfl
 have e4:gZ [some (.d (.lst (((NY 13).map dr).map D.str))),some (.d (.lst (((NY 5).map bo).map D.str))),some (.d (.lst [.str (rt 12),.str (rt 13)]))] S=.ok (.d (.lst [.str (mt 4),.str (mt 5)])) S:=by
  unfold gZ;rw[gF (items:=[((4:Nat):Int),((5:Nat):Int)].map λi=>Vl.d (.int i)) (S1:=S) (by walk_at"mx";rfl) (λz=>match z with | .d (.int i)=>.str (mt i.toNat) |_=>.non) (λz hz S=>by
   have:∃m:Nat,z=.d (.int (m:Nat)):=by
    obtain⟨k,hk,rfl⟩:=Of.mp hz;simp only[NU,Oj,O6]at hk;rcases hk with rfl |rfl
    ·exact⟨4,rfl⟩
    ·exact⟨5,rfl⟩
   obtain⟨m,rfl⟩:=this;obtain⟨j1,j2⟩:=FN (S:=S) IA (by rw[tv];decide) m;rw[QO]at j1;have l5:("many 0 ":Str).length=7:=by decide
   simp? [cD,cC,cy,comma,mQ,j1,jv (a:="many 0 ") (b:=Txt.join ⟨#[44]⟩ (((NY 5).map bo).take m)) ⋯]
   rfl)]
  rfl
 simp? [Xu,e1,e2,e3,e4,gK (xs:=[D.str (rt 12),.str (rt 13)]) (ys:=[D.str (mt 4),.str (mt 5)]) (by show 2+2<=5000;decide),ak]
 rfl
theorem v5{ws:List Str}{i:Nat}{z:Vl}(h:((ws.map D.str).map Vl.d)[i]?=some z):∃w∈ws,z=.d (.str w):=by
 obtain⟨d,hd,rfl⟩:=Of.mp (OE h);obtain⟨w,hw,rfl⟩:=Of.mp hd;exact⟨w,hw,rfl⟩
theorem lp2{o:Ob}{R:Sto}{t:Str}{k:Int}(hp:Pen o)(hk:k=0\/k=1)(h:Tx 145 t):∃(o':Ob)(y:Option Vl),Pen o'/\wk [x0,some (.r 0),x2,x3,x4,some (.d (.int k)),some (.d (.str t)),x7,x8] (o::R)=.ok (.nx,[x0,some (.r 0),x2,x3,x4,some (.d (.int k)),some (.d (.str t)),y,x8]) (o'::R):=by
 obtain⟨t1,o1,h1,hp1,e1⟩:=rA (R:=R) hp h (by decide) (by decide);obtain⟨t2,o2,h2,hp2,e2⟩:=rA (R:=R) hp1 h (by decide) (by decide);obtain⟨t3,o3,h3,hp3,e3⟩:=rA (R:=R) hp2 h2 (by decide) (by decide);have hT:∀u∈[t,t1,t3],Tx 583 u:=w4 (h.le (by decide)) (h1.le (by decide)) (h3.le (by decide));obtain⟨τ',S',e,y,rfl,rfl⟩:=fS (show _=wk [x0,some (.r 0),x2,x3,x4,some (.d (.int k)),some (.d (.str t)),x7,x8] (o::R)from rfl) (S1:=o3::R) (gd:=none) (items:=([t,t1,t3].map D.str).map Vl.d) (by simp? [e1,e2,e3])
  (λi τ S'=>∃y,τ=[x0,some (.r 0),x2,x3,x4,some (.d (.int k)),some (.d (.str t)),y,x8]/\S'=o3::R) ⟨x7,rfl,rfl⟩ (by
   rintro i z τ S' hz ⟨y,rfl,rfl⟩;obtain⟨u,hu,rfl⟩:=v5 hz;obtain⟨d,q1,q2,q3⟩:=ym hk (hT u hu);refine⟨_,_,.nx,_,o3::R,jg,?_,.inl rfl,trivial,some (.d (.str u)),rfl,rfl⟩
   simp? [q1,q2,q3])
 exact⟨o3,y,hp3,e⟩
def csD(cs:List (Int×Str)):List D:=cs.map λc=>.tup [.int c.1,.str c.2]
def Cs(cs:List (Int×Str)):Prop:=∀c∈cs,(c.1=0\/c.1=1)/\Tx 145 c.2
theorem lp3{o:Ob}{R:Sto}{n:Nat}{cs:List (Int×Str)}(hp:Pen o)(hc:Cs cs)(hn:R[n]?=some (.lst (csD cs))):∃(o':Ob)(y5 y6 y7:Option Vl),Pen o'/\xk [x0,some (.r 0),x2,x3,some (.r (n+1)),x5,x6,x7,x8] (o::R)=.ok (.nx,[x0,some (.r 0),x2,x3,some (.r (n+1)),y5,y6,y7,x8]) (o'::R):=by
 obtain⟨τ',S',e,o',y5,y6,y7,hp',rfl,rfl⟩:=fS (show _=xk [x0,some (.r 0),x2,x3,some (.r (n+1)),x5,x6,x7,x8] (o::R)from rfl) (S1:=o::R) (gd:=some (n+1,.lst (csD cs))) (items:=(csD cs).map Vl.d) (by simp? [hn])
  (λi τ S'=>∃(o':Ob)(y5 y6 y7:Option Vl),Pen o'/\τ=[x0,some (.r 0),x2,x3,some (.r (n+1)),y5,y6,y7,x8]/\S'=o'::R) ⟨o,_,_,_,hp,rfl,rfl⟩ (by
   rintro i z τ S' hz ⟨o',y5,y6,y7,hp',rfl,rfl⟩;obtain⟨d,hd,rfl⟩:=Of.mp (OE hz);obtain⟨c,hcm,rfl⟩:=Of.mp hd;obtain⟨hk,ht⟩:=hc c hcm;obtain⟨o2,y,hp2,e2⟩:=lp2 (R:=R) (x0:=x0) (x2:=x2) (x3:=x3) (x4:=some (.r (n+1))) (x7:=y7) (x8:=x8) hp' hk ht;exact⟨_,_,.nx,_,o2::R,rfl,e2,.inl rfl,hn,o2,some (.d (.int c.1)),some (.d (.str c.2)),y,hp2,rfl,rfl⟩)
 exact⟨o',y5,y6,y7,hp',e⟩
theorem DZ{o:Ob}{R:Sto}(hp:Pen o)(g:lK 4 4 wss):∃(cs:List (Int×Str))(o':Ob),Cs cs/\cs.length<=5/\Pen o'/\wd [x0,some (.r 0),x2,some (.d (cg wss)),x4,x5,x6,x7,x8] (o::R)=.ok (.d (.lst (csD cs))) (o'::R):=by
 have h4:wss.length<=4:=by have:=g.le;omega
 obtain⟨acc,Q,e4,hl,o3,cs,hp3,rfl,rfl,hw,hg⟩:=pq (show _=wd [x0,some (.r 0),x2,some (.d (cg wss)),x4,x5,x6,x7,x8] (o::R)from rfl) (S1:=o::R) (items:=(NY 5).map λi=>Vl.d (.int (i:Nat))) (by walk_at"mx";rw[qp (by decide)];rfl)
  (λi acc Q=>∃(o':Ob)(cs:List (Int×Str)),Pen o'/\acc=csD cs/\Q=o'::R/\cs.length=i/\Cs cs) ⟨o,[],hp,rfl,rfl,rfl,λc hc=>by cases hc⟩ (by
   rintro i z acc Q hz ⟨o',cs,hp',rfl,rfl,hw,hg⟩ _;obtain⟨hi,rfl⟩:=i_ hz;obtain⟨wi,o2,gw,_,hp2,e2⟩:=F_ (R:=R++[.lst (csD cs)]) (kind:=(i:Nat)) hp' g (by decide) (by decide) ⋯ ⋯;refine⟨.tup [.int 1,.str (wiT wi)],o2::R,?_,rfl,o2,cs++[(1,wiT wi)],hp2,by unfold csD;rw[Ql];rfl,rfl,by simp[hw],λc hc=>?_⟩
   ·simp? [e2,CH (KS gw h4)]
   ·rcases Oz.mp hc with e |e
    ·exact hg c e
    ·rw[N6.mp e];exact⟨.inr rfl,Mr gw h4⟩)
 rw[i8]at hw;exact⟨cs,o3,hg,by omega,hp3,e4⟩
theorem lp5{t:Str}(h:Tx 583 t):∃y,vP [x0,x1,x2,x3,x4,x5,some (.d (.str t)),x7,x8] S=.ok (.nx,[x0,x1,x2,x3,x4,y,some (.d (.str t)),x7,x8]) S:=by
 obtain⟨τ',S',e,y,rfl,rfl⟩:=fS (show _=vP [x0,x1,x2,x3,x4,x5,some (.d (.str t)),x7,x8] S from rfl) (S1:=S) (gd:=none) (items:=(NY 2).map λi=>Vl.d (.int (i:Nat))) (by walk_at"mx";rw[qp (by decide)];rfl)
  (λi τ S'=>∃y,τ=[x0,x1,x2,x3,x4,y,some (.d (.str t)),x7,x8]/\S'=S) ⟨x5,rfl,rfl⟩ (by
   rintro i z τ S' hz ⟨y,rfl,rfl⟩;obtain⟨hi,rfl⟩:=i_ hz;have hk:((i:Nat):Int)=0\/((i:Nat):Int)=1:=by omega
   obtain⟨d,q1,q2,q3⟩:=ym hk h;refine⟨_,_,.nx,_,S',jg,?_,.inl rfl,trivial,some (.d (.int (i:Nat))),rfl,rfl⟩
   simp? [q1,q2,q3])
 exact⟨y,e⟩
def lits:List Str:=[""," ","-","0","0 "," 0","0  1","0\n","unlike 0\n","unlike","unlike -","hand 0 -","sum 0 0 0 -0","row 0 - 0","row 0 0:0:0,0:0:0 0","sum 0 1 -99 99","sum 0 1 -100 99","many 0 -"]
theorem G6:lits.all (λt=>decide (t.length<=583)&&t.cps.toList.all λc=>decide (c<128))=true:=by decide+kernel
theorem CJ{ws:List Str}(h:ws.all (λt=>decide (t.length<=583)&&t.cps.toList.all λc=>decide (c<128))=true):∀t∈ws,Tx 583 t:=λt ht=>by
 have:=Oi.mp h t ht;rw[N3,Oi]at this;exact⟨Oc this.1,λc hc=>Oc (this.2 c hc)⟩
theorem Et(ns:List Int):Ag [.sc ns] []=.ok (.d (.bl true)) []:=by
 unfold Ag;rw[ba];unfold CZ;obtain⟨o,hp,e0⟩:=Hn ns;obtain⟨τ',S',e,o',R',y2,y3,y4,y5,y6,y7,hp',rfl,rfl⟩:=fS (show _=CG [some (.sc ns),some (.r 0),none,none,none,none,none,none,none] [o]from rfl) (S1:=[o]) (gd:=none) (items:=(NY 4).map λi=>Vl.d (.int (i:Nat))) (by walk_at"mx";rw[qp (by decide)];rfl)
  (λi τ S'=>∃(o':Ob)(R':Sto)(y2 y3 y4 y5 y6 y7:Option Vl),Pen o'/\τ=[some (.sc ns),some (.r 0),y2,y3,y4,y5,y6,y7,none]/\S'=o'::R') ⟨o,[],_,_,_,_,_,_,hp,rfl,rfl⟩ (by
   rintro i z τ S' hz ⟨o',R,y2,y3,y4,y5,y6,y7,hp',rfl,rfl⟩;obtain⟨o1,hp1,e1⟩:=HD (R:=R) hp';obtain⟨wss,o2,g,hp2,e2⟩:=Ef (R:=R) (names:=4) (most:=4) hp1 (by decide) (by decide) (by decide) (by decide);obtain⟨f1,f2⟩:=Mx g;obtain⟨cs,o3,hc,hcl,hp3,e3⟩:=DZ (R:=R++[.lst [.tup [.int 0,.str (gx wss)]]]) (x0:=some (.sc ns)) (x2:=some z) (x4:=some (.r (R.length+1))) (x5:=y5) (x6:=y6) (x7:=y7) (x8:=none) hp2 g;have hC:Cs ((0,gx wss)::cs):=λc hc'=>by
    rcases NU.mp hc' with rfl |h
    ·exact⟨.inl rfl,Lo g⟩
    ·exact hc c h
   obtain⟨o4,z5,z6,z7,hp4,e4⟩:=lp3 (R:=R++[.lst (csD ((0,gx wss)::cs))]) (n:=R.length) (x0:=some (.sc ns)) (x2:=some z) (x3:=some (.d (cg wss))) (x5:=y5) (x6:=y6) (x7:=y7) (x8:=none) hp3 hC gO;have e5:∀S,qm (R.length+1) [D.tup [.int 0,.str (gx wss)]] (.lst (csD cs)) S=.ok (.d .non) (S.set (R.length+1) (.lst (csD ((0,gx wss)::cs)))):=λS=>IL (by
    unfold csD;rw[tv];show 1+_<=_;omega)
   refine⟨_,_,.nx,_,o4::(R++[.lst (csD ((0,gx wss)::cs))]),jg,?_,.inl rfl,trivial,o4,R++[.lst (csD ((0,gx wss)::cs))],some z,some (.d (cg wss)),some (.r (R.length+1)),z5,z6,z7,hp4,rfl,rfl⟩
   simp? [e1,e2,zy f1 f2,e3,e5,e4])
 have hT:∀t∈lits++nu,Tx 583 t:=λt ht=>by
  rcases Oz.mp ht with z |z
  ·exact CJ G6 t z
  ·exact CJ Gu t z
 have a1:∀S,aU (.d (.lst [D.str "",.str " ",.str "-",.str "0",.str "0 ",.str " 0",.str "0  1",.str "0\n",.str "unlike 0\n",.str "unlike",.str "unlike -",.str "hand 0 -"])) (.d (.lst [D.str "sum 0 0 0 -0",.str "row 0 - 0",.str "row 0 0:0:0,0:0:0 0",.str "sum 0 1 -99 99",.str "sum 0 1 -100 99"])) S=.ok (.d (.lst ((lits.take 17).map D.str))) S:=λS=>gK (by show 12+5<=5000;decide);have a2:∀S,aU (.d (.lst ((lits.take 17).map D.str))) (.d (.lst [D.str "many 0 -"])) S=.ok (.d (.lst (lits.map D.str))) S:=λS=>gK (by show 17+1<=5000;decide);have a3:∀S,aU (.d (.lst (lits.map D.str))) (.d (.lst (nu.map D.str))) S=.ok (.d (.lst ((lits++nu).map D.str))) S:=λS=>by
  rw[gK (by show 18+4<=5000;decide),Ql]
 obtain⟨τ2,S2,ee,z5,z6,rfl,rfl⟩:=fS (show _=BN [some (.sc ns),some (.r 0),y2,y3,y4,y5,y6,y7,some (.d (.lst ((lits.take 17).map D.str)))] (o'::R')from rfl) (S1:=o'::R') (gd:=none) (items:=((lits++nu).map D.str).map Vl.d) (by
   have:=JZ (S:=o'::R');generalize(lits.take 17).map D.str=l17 at a2 ⊢;generalize lits.map D.str=l18 at a2 a3;generalize nu.map D.str=lf at a3 this
   simp? [a2,this,a3])
  (λi τ S'=>∃(z5 z6:Option Vl),τ=[some (.sc ns),some (.r 0),y2,y3,y4,z5,z6,y7,some (.d (.lst ((lits.take 17).map D.str)))]/\S'=o'::R') ⟨_,_,rfl,rfl⟩ (by
   rintro i z τ S' hz ⟨z5,z6,rfl,rfl⟩;obtain⟨u,hu,rfl⟩:=v5 hz;obtain⟨y,e5⟩:=lp5 (x0:=some (.sc ns)) (x1:=some (.r 0)) (x2:=y2) (x3:=y3) (x4:=y4) (x5:=z5) (x7:=y7) (x8:=some (.d (.lst ((lits.take 17).map D.str)))) (S:=o'::R') (hT u hu);exact⟨_,_,.nx,_,o'::R',jg,e5,.inl rfl,trivial,y,some (.d (.str u)),rfl,rfl⟩)
 generalize(lits.take 17).map D.str=l17 at a1 ee
 simp? [e0,e,a1,ee]
 rfl
def exX:List Str:=["Free","NoLine","NoName","NoStand","NoText","NoWish","NoWorth","Settled","TooMany","WishError"]
def top(i:Nat):Stmt:=T1.main.body.getD i (.Pass ⟨0,0,0,0⟩)
structure Txt(w:World)(K:NO)(mg:Str->Option Value):Prop where
 fm_FORMS:Fm w K mg "FORMS" eH
 is_whole:Df K mg "is_whole" (top 12)
 is_within:Df K mg "is_within" (top 13)
 are_within:Df K mg "are_within" (top 14)
 are_rising:Df K mg "are_rising" (top 15)
 are_unlike:Df K mg "are_unlike" (top 16)
 is_span:Df K mg "is_span" (top 17)
 are_names:Df K mg "are_names" (top 18)
 is_bound:Df K mg "is_bound" (top 19)
 are_bounds:Df K mg "are_bounds" (top 20)
 is_door:Df K mg "is_door" (top 21)
 are_doors:Df K mg "are_doors" (top 22)
 is_many:Df K mg "is_many" (top 23)
 is_sum:Df K mg "is_sum" (top 24)
 is_row:Df K mg "is_row" (top 25)
 is_hand:Df K mg "is_hand" (top 26)
 is_of_its_kind:Df K mg "is_of_its_kind" (top 27)
 are_worths:Df K mg "are_worths" (top 29)
 is_stand:Df K mg "is_stand" (top 30)
 is_wish:Df K mg "is_wish" (top 31)
 is_number:Df K mg "is_number" (top 34)
 read_number:Df K mg "read_number" (top 35)
 split_joined:Df K mg "split_joined" (top 36)
 read_numbers:Df K mg "read_numbers" (top 37)
 read_tuple:Df K mg "read_tuple" (top 38)
 read_thing:Df K mg "read_thing" (top 39)
 read_stand:Df K mg "read_stand" (top 40)
 read_wish:Df K mg "read_wish" (top 41)
 l_spread:Df K mg "_law_spread" (top 43)
 l_open:Df K mg "_law_open" (top 44)
 l_anew:Df K mg "_law_anew" (top 45)
 l_take:Df K mg "_law_take" (top 46)
 l_sign_but:Df K mg "_law_sign_but" (top 47)
 l_any_sign:Df K mg "_law_any_sign" (top 48)
 l_signed:Df K mg "_law_signed" (top 49)
 l_is_whole:Df K mg "_law_is_whole" (top 50)
 l_same:Df K mg "_law_same" (top 51)
 l_worths:Df K mg "_law_worths" (top 52)
 l_stand:Df K mg "_law_stand" (top 53)
 l_some_names:Df K mg "_law_some_names" (top 54)
 l_near_worth:Df K mg "_law_near_worth" (top 55)
 l_bounds:Df K mg "_law_bounds" (top 56)
 l_doors:Df K mg "_law_doors" (top 57)
 l_wish_of:Df K mg "_law_wish_of" (top 58)
 l_refusal:Df K mg "_law_refusal" (top 59)
 l_is_stand:Df K mg "_law_is_stand" (top 60)
 l_numbers:Df K mg "_law_numbers" (top 61)
 l_triples:Df K mg "_law_triples" (top 62)
 l_is_wish:Df K mg "_law_is_wish" (top 63)
 l_numbers_text:Df K mg "_law_numbers_text" (top 64)
 l_triples_text:Df K mg "_law_triples_text" (top 65)
 l_stand_text:Df K mg "_law_stand_text" (top 66)
 l_wish_text:Df K mg "_law_wish_text" (top 67)
 l_number_in:Df K mg "_law_number_in" (top 68)
 l_numbers_in:Df K mg "_law_numbers_in" (top 69)
 l_triples_in:Df K mg "_law_triples_in" (top 70)
 l_stand_in:Df K mg "_law_stand_in" (top 71)
 l_wish_in:Df K mg "_law_wish_in" (top 72)
 l_told:Df K mg "_law_told" (top 73)
 l_due:Df K mg "_law_due" (top 74)
 l_spoilt:Df K mg "_law_spoilt" (top 75)
 l_full_texts:Df K mg "_law_full_texts" (top 76)
 law:Df K mg "law" (top 77)
 z_ValueError:mg "ValueError"=none
 z_all:mg "all"=none
 z_bool:mg "bool"=none
 z_enumerate:mg "enumerate"=none
 z_int:mg "int"=none
 z_isinstance:mg "isinstance"=none
 z_len:mg "len"=none
 z_list:mg "list"=none
 z_max:mg "max"=none
 z_min:mg "min"=none
 z_range:mg "range"=none
 z_set:mg "set"=none
 z_sorted:mg "sorted"=none
 z_str:mg "str"=none
 z_tuple:mg "tuple"=none
 z_zip:mg "zip"=none
 xs:XsF K mg csX exX
 ec_NoText:Ec K mg "NoText"
theorem uS:bootBuiltins "ValueError"=some (.type "ValueError"):=by decide+kernel
theorem nk:bootBuiltins "all"=some (.builtin "all"):=by decide+kernel
theorem j_:bootBuiltins "bool"=some (.type "bool"):=by decide+kernel
theorem o8:bootBuiltins "int"=some (.type "int"):=by decide+kernel
theorem aW:bootBuiltins "len"=some (.builtin "len"):=by decide+kernel
theorem kj:bootBuiltins "list"=some (.type "list"):=by decide+kernel
theorem A5:bootBuiltins "max"=some (.builtin "max"):=by decide+kernel
theorem sM:bootBuiltins "min"=some (.builtin "min"):=by decide+kernel
theorem m9:bootBuiltins "set"=some (.type "set"):=by decide+kernel
theorem jq:bootBuiltins "sorted"=some (.builtin "sorted"):=by decide+kernel
theorem eT:bootBuiltins "str"=some (.type "str"):=by decide+kernel
theorem br:bootBuiltins "tuple"=some (.type "tuple"):=by decide+kernel
section
variable{P:Program}{w:World}{K:NO}{mg:Str->Option Value}
theorem Bu(T:Txt w K mg):OkE P w K mg 1 "_law_open" ["script"] nE:=by
 refine bz ["script","cells","k","cell"] T.l_open λ_ _ _ _ _ _ _ _ hr q=>?_;exact(ao (aK q (aZ nZ AD T.z_list kj (af (BG (rv 0) cF (b9 ai)) ah)))
 (ao (eY (D8 rfl T.z_enumerate (BG (rv 0) (b9 ai) (b9 ai))) (pJ (et (aQ q) (et (aQ q) mO))) (au (o_ (aB aG aH (az (rv 1) (aB eR (cK _) (rv 2) ai)) (rv 3)) (oU (rv 1) (aB eR (cK _) (rv 2) ai) si ng))))
 (au (ax (iU (af (Mf (rv 1)) (af ai (af ai ah))))))))
theorem yg(T:Txt w K mg):OkE P w K mg 1 "_law_spread" ["cell","at"] ib:=by
 refine bz ["cell","at","one","two","three"] T.l_spread λ_ _ _ _ _ _ _ _ hr q=>?_;exact(ao (aT (aI L4 (bx _) (rv 0) (aB Cm (cK _) ai ai)) (au (ax (rv 0))) aO)
 (ao (aK q (aB eR (cK _) (aB aG aH (aB aG aH (aB gA (cK _) (aB eR (cK _) (rv 0) ai) ai) (aB gA (cK _) (rv 1) ai)) ai) ai))
 (ao (aK q (aB eR (cK _) (aB aG aH (aB aG aH (aB gA (cK _) (rv 2) (rv 2)) (aB gA (cK _) (rv 1) ai)) (aB eR (cK _) (rv 0) ai)) ai))
 (ao (aK q (aB eR (cK _) (aB aG aH (aB aG aH (aB gA (cK _) (rv 3) (rv 3)) (aB gA (cK _) (rv 2) ai)) ai) ai))
 (au (ax (aB aG aH (aB gA (cK _) (aB aG aH (aB gA (cK _) (rv 2) ai) (rv 3)) ai) (rv 4))))))))
theorem aS(T:Txt w K mg):OkE P w K mg 2 "_law_take" ["pen","many"] aV:=by
 refine bz ["pen","many","at","cell","found"] T.l_take λ_ _ _ _ _ _ _ _ hr q=>?_;exact(ao (aT (aI gW (bx _) (az (rv 0) ai) (rv 1)) (ao (aK q (az (rv 0) ai))
 (ao (aK q ai)
 (ao (aT (aI gW (bx _) (rv 2) (aA aM aP T.z_len aW (af (az (rv 0) ai) ah))) (au (aK q (az (az (rv 0) ai) (rv 2)))) (au (aT (aI jU (bx _) (aA aM aP T.z_len aW (af (az (rv 0) ai) ah)) ai) (au (aK q (aB eR (cK _) (az (az (rv 0) ai) (aB eR (cK _) (aB aG aH (aB gA (cK _) (rv 2) ai) ai) (aA aM aP T.z_len aW (af (az (rv 0) ai) ah)))) (aB aG aH (aB Cm (cK _) ai ai) (rv 2))))) aO)))
 (ao (o_ (aB aG aH (rv 2) ai) (oU (rv 0) ai si ng))
 (au (o_ (aq (yg T) hr (af (rv 3) (af (rv 2) ah))) (oU (rv 0) ai si ng))))))) aO)
 (ao (aK q (aB eR (cK _) (az (rv 0) ai) (rv 1)))
 (ao (o_ (aB y_ (cK _) (az (rv 0) ai) (rv 1)) (oU (rv 0) ai si ng))
 (au (ax (rv 4))))))
theorem yh(T:Txt w K mg):OkE P w K mg 3 "_law_worths" ["pen","most","near"] jS:=by
 refine bz ["pen","most","near","found","k","worth"] T.l_worths λ_ _ _ _ _ _ _ _ hr q=>?_;have hu:=hr.units;exact(ao (aK q (iU ah))
 (ao (eY (dC rfl T.z_range (af (aB aG aH ai (aq (aS T) hr (af (rv 0) (af (rv 1) ah)))) ah)) (aQ q) (ao (aK q (aB aG aH (rv 2) (aq (aS T) hr (af (rv 0) (af ai ah)))))
 (ao (aT (aI (bS hu) bR (aq (aS T) hr (af (rv 0) (af ai ah))) ai) (au (aK q (aB iE (gU _) (aq (aS T) hr (af (rv 0) (af ai ah))) ai))) aO)
 (au (aT (aI (qh hu) qg (rv 5) (rv 3)) (au (gS (kL (rv 3) (rv 5)))) aO)))))
 (au (ax (aZ bL bW T.z_tuple br (af (aA sC ux T.z_sorted jq (af (rv 3) ah)) ah))))))
theorem AS(T:Txt w K mg):OkE P w K mg 4 "_law_stand" ["pen","names","most"] lO:=by
 refine bz ["pen","names","most","near"] T.l_stand λ_ _ _ _ _ _ _ _ hr q=>?_;refine'(ao (aK q (aB iE (gU _) (aq (aS T) hr (af (rv 0) (af ai ah))) ai))
 (au (ax (aZ bL bW T.z_tuple br (af (cu bw ["name","pen","names","most","near"] q (dC rfl T.z_range (af (aB aG aH ai (aq (aS T) hr (af (rv 0) (af (rv 1) ah)))) ah)) ?g0 rt0 ?e0) ah)))))
 (case g0=>intro _ _ _ _ q;exact(aQ q))
 (case e0=>intro _ _ _ _;exact(aq (yh T) hr (af (rv 1) (af (rv 3) (af (rv 4) ah)))))
theorem BC(T:Txt w K mg):OkE P w K mg 1 "_law_anew" ["pen"] nO:=by
 refine bz ["pen"] T.l_anew λ_ _ _ _ _ _ _ _ hr q=>?_;exact(ao (o_ ai (oU (rv 0) ai si ng))
 (au (ax (rv 0))))
theorem eJ(T:Txt w K mg):OkE P w K mg 1 "_law_numbers_text" ["numbers"] cU:=by
 refine bz ["numbers"] T.l_numbers_text λ_ _ _ _ _ _ _ _ hr q=>?_;have hu:=hr.units;refine'(au (ax (iC (aI (bS hu) bR (rv 0) (cw ah)) av (dY PF PH iX fU av (cu bw ["number","numbers"] q (bG (rv 0)) ?g0 rt0 ?e0)))))
 (case g0=>intro _ _ _ _ q;exact(aQ q))
 (case e0=>intro _ _ _ _;exact(aZ dD dA T.z_str eT (af (rv 0) ah)))
theorem sV(T:Txt w K mg):OkE P w K mg 2 "_law_stand_text" ["stand"] f_:=by
 refine bz ["stand"] T.l_stand_text λ_ _ _ _ _ _ _ _ hr q=>?_;refine'(au (ax (dY PF PH iX fU av (cu bw ["worths","stand"] q (bG (rv 0)) ?g0 rt0 ?e0))))
 (case g0=>intro _ _ _ _ q;exact(aQ q))
 (case e0=>intro _ _ _ _;exact(aq (eJ T) hr (af (rv 0) ah)))
theorem qv(T:Txt w K mg):OkE P w K mg 1 "_law_triples_text" ["triples"] fg:=by
 refine bz ["triples"] T.l_triples_text λ_ _ _ _ _ _ _ _ hr q=>?_;have hu:=hr.units;refine'(ao (aT (aI (bS hu) bR (rv 0) (cw ah)) (au (ax av)) aO)
 (au (ax (dY PF PH iX fU av (cu bw ["one","triples"] q (bG (rv 0)) ?g0 rt0 ?e0)))))
 (case g0=>intro _ _ _ _ q;exact(aQ q))
 (case e0=>intro _ _ _ _;exact(aB aG aH (aB aG aH (aB aG aH (aB aG aH (aZ dD dA T.z_str eT (af (az (rv 0) ai) ah)) av) (aZ dD dA T.z_str eT (af (az (rv 0) ai) ah))) av) (aZ dD dA T.z_str eT (af (az (rv 0) ai) ah))))
theorem tB(T:Txt w K mg):OkE P w K mg 2 "_law_wish_text" ["wish"] gH:=by
 refine bz ["wish","words"] T.l_wish_text λ_ _ _ _ _ _ _ _ hr q=>?_;have hu:=hr.units;exact(ao (aK q (iU (af (az (rv 0) ai) (af (aq (eJ T) hr (af (az (rv 0) ai) ah)) ah))))
 (ao (aT (aI (rM hu) sX (az (rv 0) ai) (cw (af av (af av ah)))) (au (gS (kL (rv 1) (aq (qv T) hr (af (az (rv 0) ai) ah))))) aO)
 (ao (aT (aI (rM hu) sX (az (rv 0) ai) (cw (af av (af av ah)))) (au (gS (kL (rv 1) (aq (eJ T) hr (af (az (rv 0) ai) ah))))) aO)
 (ao (aT (aI (c9 hu) cM (az (rv 0) ai) av) (au (aK q (aB aG DE (rv 1) (bH (af (aZ dD dA T.z_str eT (af (az (rv 0) ai) ah)) (af (aZ dD dA T.z_str eT (af (az (rv 0) ai) ah)) ah)))))) aO)
 (ao (aT (aI (c9 hu) cM (az (rv 0) ai) av) (au (gS (kL (rv 1) (aq (eJ T) hr (af (az (rv 0) ai) ah))))) aO)
 (au (ax (dY PF PH iX fU av (rv 1)))))))))
theorem sF(T:Txt w K mg):OkE P w K mg 3 "_law_some_names" ["pen","stand"] fZ:=by
 refine bz ["pen","stand","left","many"] T.l_some_names λ_ _ _ _ _ _ _ _ hr q=>?_;refine'(ao (aK q (uR rfl rfl T.z_list rfl T.z_range kj (af (aA aM aP T.z_len aW (af (rv 1) ah)) ah)))
 (ao (aK q (aB aG aH ai (aq (aS T) hr (af (rv 0) (af (aA aM aP T.z_len aW (af (rv 2) ah)) ah)))))
 (ao (aT (aI jU (bx _) (aq (aS T) hr (af (rv 0) (af ai ah))) ai) (au (aK q (aA aM aP T.z_len aW (af (rv 2) ah)))) aO)
 (au (ax (aZ bL bW T.z_tuple br (af (cu bw ["k","pen","stand","left","many"] q (dC rfl T.z_range (af (rv 3) ah)) ?g0 rt0 ?e0) ah)))))))
 (case g0=>intro _ _ _ _ q;exact(aQ q))
 (case e0=>intro _ _ _ _;exact(EX PySem.F.slot_list_pop PySem.F.type_list_pop DJ Es (rv 3) (aq (aS T) hr (af (rv 1) (af (aA aM aP T.z_len aW (af (rv 3) ah)) ah)))))
theorem lV(T:Txt w K mg):OkE P w K mg 3 "_law_near_worth" ["pen","stand"] eS:=by
 refine bz ["pen","stand","worths","worth"] T.l_near_worth λ_ _ _ _ _ _ _ _ hr q=>?_;have hu:=hr.units;exact(ao (aT (aI (bS hu) bR (aq (aS T) hr (af (rv 0) (af ai ah))) ai) (au (ax (aB iE (gU _) (aq (aS T) hr (af (rv 0) (af ai ah))) ai))) aO)
 (ao (aK q (az (rv 1) (aq (aS T) hr (af (rv 0) (af (aA aM aP T.z_len aW (af (rv 1) ah)) ah)))))
 (ao (aK q (aB aG aH (az (rv 2) (aq (aS T) hr (af (rv 0) (af (aA aM aP T.z_len aW (af (rv 2) ah)) ah)))) (az (bH (af ai (af ai (af ai (af ai (af (fh dO df ai) ah)))))) (aq (aS T) hr (af (rv 0) (af ai ah))))))
 (au (ax (aA (uH rfl) xK T.z_max A5 (af (fh dO df ai) (af (aA (lF rfl) nY T.z_min sM (af ai (af (rv 3) ah))) ah))))))))
theorem yb(T:Txt w K mg):OkE P w K mg 4 "_law_bounds" ["pen","stand"] jO:=by
 refine bz ["pen","stand","worths","k","worth","found","low"] T.l_bounds λ_ _ _ _ _ _ _ _ hr q=>?_;have hu:=hr.units;exact(ao (aK q (iU ah))
 (ao (eY (dC rfl T.z_range (af (aq (aS T) hr (af (rv 0) (af ai ah))) ah)) (aQ q) (ao (aK q (aq (lV T) hr (af (rv 0) (af (rv 1) ah))))
 (au (aT (aI (qh hu) qg (rv 4) (rv 2)) (au (gS (kL (rv 2) (rv 4)))) aO))))
 (ao (aK q (iU ah))
 (ao (eY (bG (aA sC ux T.z_sorted jq (af (rv 2) ah))) (aQ q) (ao (aK q (az (bH (af ai (af ai (af ai (af ai (af ai (af (aq (aS T) hr (af (rv 0) (af ai ah))) ah))))))) (aq (aS T) hr (af (rv 0) (af ai ah)))))
 (au (gS (kL (rv 5) (cw (af (rv 4) (af (rv 6) (af (aA (lF rfl) nY T.z_min sM (af ai (af (aB aG aH (rv 6) (az (bH (af ai (af ai (af ai (af ai (af (aq (aS T) hr (af (rv 0) (af ai ah))) ah)))))) (aq (aS T) hr (af (rv 0) (af ai ah))))) ah))) ah)))))))))
 (au (ax (aZ bL bW T.z_tuple br (af (rv 5) ah))))))))
theorem Az(T:Txt w K mg):OkE P w K mg 4 "_law_doors" ["pen","stand"] lW:=by
 refine bz ["pen","stand","states","found","k","q","door"] T.l_doors λ_ _ _ _ _ _ _ _ hr q=>?_;have hu:=hr.units;exact(ao (aK q (aB aG aH ai (aq (aS T) hr (af (rv 0) (af ai ah)))))
 (ao (aK q (iU ah))
 (ao (eY (dC rfl T.z_range (af (aq (aS T) hr (af (rv 0) (af ai ah))) ah)) (aQ q) (ao (aK q (aq (aS T) hr (af (rv 0) (af (rv 2) ah))))
 (ao (aK q (cw (af (rv 5) (af (aq (lV T) hr (af (rv 0) (af (rv 1) ah))) (af (az (bH (af (aq (aS T) hr (af (rv 0) (af (rv 2) ah))) (af (aB eR (cK _) (aB aG aH (rv 5) ai) (rv 2)) ah))) (aq (aS T) hr (af (rv 0) (af ai ah)))) ah)))))
 (au (aT (aI (qh hu) qg (rv 6) (rv 3)) (au (gS (kL (rv 3) (rv 6)))) aO)))))
 (au (ax (aZ bL bW T.z_tuple br (af (rv 3) ah)))))))
theorem xx(T:Txt w K mg):OkE P w K mg 5 "_law_wish_of" ["pen","stand","kind"] je:=by
 refine bz ["pen","stand","kind","names","weights","total","name","weight","low","high","ends"] T.l_wish_of λ_ _ _ _ _ _ _ _ hr q=>?_;have hu:=hr.units;refine'(ao (aK q (aq (sF T) hr (af (rv 0) (af (rv 1) ah))))
 (ao (aT (aI (bS hu) bR (rv 2) ai) (au (ax (cw (af av (af (rv 3) ah))))) aO)
 (ao (aT (aI (bS hu) bR (rv 2) ai) (au (ax (cw (af av (af (rv 3) (af (aq (yb T) hr (af (rv 0) (af (rv 1) ah))) ah)))))) aO)
 (ao (aT (aI (bS hu) bR (rv 2) ai) (ao (aK q (aZ bL bW T.z_tuple br (af (cu bw ["name","pen","stand","kind","names","weights","total","~6","weight","low","high","ends"] q (bG (rv 3)) ?g0 rt0 ?e0) ah)))
 (ao (aK q ai)
 (ao (eY (B5 rfl T.z_zip (af (rv 3) (af (rv 4) ah))) (pJ (et (aQ q) (et (aQ q) mO))) (au (aK q (aB aG aH (rv 5) (aB gA (cK _) (rv 7) (az (az (rv 1) (rv 6)) (aq (aS T) hr (af (rv 0) (af (aA aM aP T.z_len aW (af (az (rv 1) (rv 6)) ah)) ah)))))))))
 (ao (aK q (aA (uH rfl) xK T.z_max A5 (af (fh dO df ai) (af (aA (lF rfl) nY T.z_min sM (af ai (af (aB aG aH (rv 5) (az (bH (af ai (af ai (af ai (af (fh dO df ai) (af ai ah)))))) (aq (aS T) hr (af (rv 0) (af ai ah))))) ah))) ah))))
 (ao (aK q (aA (lF rfl) nY T.z_min sM (af ai (af (aB aG aH (rv 8) (az (bH (af ai (af ai (af ai (af ai (af ai ah)))))) (aq (aS T) hr (af (rv 0) (af ai ah))))) ah))))
 (ao (aT (aI (bS hu) bR (aq (aS T) hr (af (rv 0) (af ai ah))) ai) (ao (aK q (aB iE (gU _) (aq (aS T) hr (af (rv 0) (af ai ah))) ai))
 (au (aK q (aB aG aH (rv 8) (aq (aS T) hr (af (rv 0) (af (aB iE (gU _) ai (rv 8)) ah))))))) aO)
 (au (ax (cw (af av (af (rv 3) (af (rv 4) (af (rv 8) (af (rv 9) ah)))))))))))))) aO)
 (ao (aT (aI (bS hu) bR (rv 2) ai) (ao (aK q (aZ bL bW T.z_tuple br (af (cu bw ["p","pen","stand","kind","names","weights","total","name","weight","low","high","ends"] q (dC rfl T.z_range (af ai ah)) ?g1 ?t1 ?e1) ah)))
 (au (ax (cw (af av (af (rv 3) (af (aq (Az T) hr (af (rv 0) (af (rv 1) ah))) (af (rv 10) ah)))))))) aO)
 (au (ax (cw (af av (af (rv 3) (af (aZ bL bW T.z_tuple br (af (cu bw ["name","pen","stand","kind","names","weights","total","~6","weight","low","high","ends"] q (bG (rv 3)) ?g2 rt0 ?e2) ah)) ah)))))))))))
 (case g0=>intro _ _ _ _ q;exact(aQ q))
 (case e0=>intro _ _ _ _;exact(aB iE (gU _) (aq (aS T) hr (af (rv 1) (af ai ah))) ai))
 (case g1=>intro _ _ _ _ q;exact(aQ q))
 (case t1=>intro _ _ _ _;exact(iP (aI (bS hu) bR (aq (aS T) hr (af (rv 1) (af ai ah))) ai)))
 (case e1=>intro _ _ _ _;exact(rv 0))
 (case g2=>intro _ _ _ _ q;exact(aQ q))
 (case e2=>intro _ _ _ _;exact(aB aG aH ai (aq (aS T) hr (af (rv 1) (af (az (bH (af ai (af ai ah))) (aq (aS T) hr (af (rv 1) (af ai ah)))) ah)))))
theorem uT(T:Txt w K mg):OkE P w K mg 3 "_law_sign_but" ["pen","others"] ic:=by
 refine bz ["pen","others","all_signs","some"] T.l_sign_but λ_ _ _ _ _ _ _ _ hr q=>?_;refine'(ao (aK q av)
 (ao (aK q (aB aG aH (rv 2) av))
 (ao (zM bw ["sign","pen","others","all_signs","some"] q (zb (rv 2)) ?g0 ?t0 ?e0)
 (au (ax (az (rv 3) (aq (aS T) hr (af (rv 0) (af (aA aM aP T.z_len aW (af (rv 3) ah)) ah)))))))))
 (case g0=>intro _ _ _ _ q;exact(aQ q))
 (case t0=>intro _ _ _ _;exact(iP (aI G3 DI (rv 0) (rv 2))))
 (case e0=>intro _ _ _ _;exact(rv 0))
theorem u_(T:Txt w K mg):OkE P w K mg 4 "_law_any_sign" ["pen"] g_:=by
 refine bz ["pen"] T.l_any_sign λ_ _ _ _ _ _ _ _ hr q=>?_;exact(au (ax (aq (uT T) hr (af (rv 0) (af av ah)))))
theorem yf(T:Txt w K mg):OkE P w K mg 5 "_law_signed" ["pen","text"] jY:=by
 refine bz ["pen","text","at"] T.l_signed λ_ _ _ _ _ _ _ _ hr q=>?_;exact(ao (aK q (aq (aS T) hr (af (rv 0) (af (aB aG aH (aA pK pf T.z_len aW (af (rv 1) ah)) ai) ah))))
 (au (ax (aB aG aH (aB aG aH (mL (rv 1) cF (b9 (rv 2))) (aq (u_ T) hr (af (rv 0) ah))) (mL (rv 1) (b9 (aB aG aH (rv 2) (aq (aS T) hr (af (rv 0) (af ai ah))))) cF)))))
theorem me(T:Txt w K mg):OkE P w K mg 6 "_law_spoilt" ["pen","text"] gg:=by
 refine bz ["pen","text","at","words","k","odd","word","kind","some"] T.l_spoilt λ_ _ _ _ _ _ _ _ hr q=>?_;have hu:=hr.units;exact(ao (aK q (aq (aS T) hr (af (rv 0) (af (aB aG aH (aA pK pf T.z_len aW (af (rv 1) ah)) ai) ah))))
 (ao (aK q (dY OT OU eG di (rv 1) av))
 (ao (aK q (aq (aS T) hr (af (rv 0) (af (aA aM aP T.z_len aW (af (rv 3) ah)) ah))))
 (ao (aK q (bH (af av (af av (af av (af av (af av (af av (af av (af av (af av (af av (af av (af av (af av (af av (af av ah)))))))))))))))))
 (ao (aK q (aB aG aH (rv 5) (bH (af av (af av (af av (af av (af av (af av (af av (af av (af av (af av ah)))))))))))))
 (ao (aK q (az (rv 5) (aq (aS T) hr (af (rv 0) (af ai ah)))))
 (ao (aK q (aq (aS T) hr (af (rv 0) (af ai ah))))
 (ao (aT (aI gW (bx _) (rv 7) ai) (au (ax (aq (yf T) hr (af (rv 0) (af (rv 1) ah))))) aO)
 (ao (aT (aI (bS hu) bR (rv 7) ai) (au (ax (aB aG aH (mL (rv 1) cF (b9 (rv 2))) (mL (rv 1) (b9 (aB aG aH (rv 2) ai)) cF)))) aO)
 (ao (aT (aI (bS hu) bR (rv 7) ai) (au (ax (mL (rv 1) cF (b9 (rv 2))))) aO)
 (ao (aK q (bH (af (aB aG aH (d_ (rv 3) cF (b9 (rv 4))) (d_ (rv 3) (b9 (aB aG aH (rv 4) ai)) cF)) (af (aB aG aH (d_ (rv 3) cF (b9 (aB aG aH (rv 4) ai))) (d_ (rv 3) (b9 (rv 4)) cF)) (af (aB aG aH (aB aG aH (d_ (rv 3) cF (b9 (rv 4))) (Gq (d_ (rv 3) (b9 (rv 4)) (b9 (aB aG aH (rv 4) ai))) (fh dO df ai))) (d_ (rv 3) (b9 (aB aG aH (rv 4) ai)) cF)) ah)))))
 (au (ax (dY PF PH iX fU av (az (aB aG aH (rv 8) (bH (af (aB aG aH (aB aG aH (d_ (rv 3) cF (b9 (rv 4))) (bH (af (rv 6) ah))) (d_ (rv 3) (b9 (aB aG aH (rv 4) ai)) cF)) ah))) (aB iE (gU _) (rv 7) ai))))))))))))))))
theorem sv(T:Txt w K mg):∀n:Nat,OkE P w K mg (0+n+1) "_law_same" ["found","due"] (dQ n)
 |0=>bz ["found","due"] T.l_same λ_ _ _ _ _ _ _ _ hr q=>Ex
 |n+1=>by
  have ih:=sv T n;have lG:=λ(_:Txt w K mg)=>ih
  · refine bz ["found","due"] T.l_same λ_ _ _ _ _ _ _ _ hr q=>?_
    have hu:=hr.units;refine'(ao (aT (aI xT vQ (rv 1) gB) (au (ax (cj xT vQ (rv 0) gB))) aO)
 (ao (aT (RW.rt (cE (bB (bq T.z_isinstance T.z_bool j_ (rv 1))) (cN (bB (bq T.z_isinstance T.z_bool j_ (rv 0)))))) (au (ax (bQ (bq T.z_isinstance T.z_bool j_ (rv 1)) (bQ (bq T.z_isinstance T.z_bool j_ (rv 0)) (cv (cj (bS hu) bR (rv 0) (rv 1))))))) aO)
 (ao (aT (bB (bq T.z_isinstance T.z_int o8 (rv 1))) (au (ax (bQ (bq T.z_isinstance T.z_int o8 (rv 0)) (cv (cj (bS hu) bR (rv 0) (rv 1)))))) aO)
 (ao (aT (bB (bq T.z_isinstance T.z_str eT (rv 1))) (au (ax (bQ (bq T.z_isinstance T.z_str eT (rv 0)) (cv (cj (bS hu) bR (rv 0) (rv 1)))))) aO)
 (ao (aT (RW.rt (cE (aI (dy hu) dw (bq T.z_isinstance T.z_tuple br (rv 1)) (bq T.z_isinstance T.z_tuple br (rv 0))) (cN (aI (dy hu) dw (bq T.z_isinstance T.z_list kj (rv 1)) (bq T.z_isinstance T.z_list kj (rv 0)))))) (au (ax cz)) aO)
 (ao (aT (aI (dy hu) dw (aA aM aP T.z_len aW (af (rv 0) ah)) (aA aM aP T.z_len aW (af (rv 1) ah))) (au (ax cz)) aO)
 (au (ax (cj (qh hu) qg cz (cu bw ["one","other","found","due"] q (B5 rfl T.z_zip (af (rv 0) (af (rv 1) ah))) ?g0 rt0 ?e0))))))))))
    (case g0=>intro _ _ _ _ q;exact(pJ (et (aQ q) (et (aQ q) mO))))
    (case e0=>intro _ _ _ _;exact(aq (lG T) hr (af (rv 0) (af (rv 1) ah)) ⋯))
theorem lG(T:Txt w K mg):OkE P w K mg 11 "_law_same" ["found","due"] (dQ 10):=(sv T 10)
theorem wX(T:Txt w K mg):OkE P w K mg 1 "is_number" ["text"] jd:=by
 refine bz ["text","figures"] T.is_number λ_ _ _ _ _ _ _ _ hr q=>?_;have hu:=hr.units;refine'(ao (aK q (iC (bB (dY PySem.F.slot_str_startswith PySem.F.type_str_startswith Br yk (rv 0) av)) (mL (rv 0) (b9 ai) cF) (rv 0)))
 (ao (aT (RW.rt (cE (bF (rD ef (bx _) ef (bx _) ai (aA pK pf T.z_len aW (af (rv 1) ah)) ai)) (cN (bF (bB (aA (gR rfl) i7 T.z_all nk (af (cu bw ["sign","text","figures"] q (zb (rv 1)) ?g0 rt0 ?e0) ah))))))) (au (ax cz)) aO)
 (au (ax (FO (cj (c9 hu) cM (rv 0) av) (cv (cj (dy hu) dw (Kj (rv 1) ai) av)))))))
 (case g0=>intro _ _ _ _ q;exact(aQ q))
 (case e0=>intro _ _ _ _;exact(cj Jq HH (rv 0) av))
theorem iT(T:Txt w K mg):OkX P w K mg 2 "read_number" ["text"] d8:=by
 refine tK ["text"] T.read_number λ_ _ _ _ _ _ _ _ hr q hx hmk=>?_;exact(ao (aT (bF (bB (aq (wX T) hr (af (rv 0) ah)))) (au (nJ T.ec_NoText hmk (af av ah))) aO)
 (au (ax (aZ A8 CW T.z_int o8 (af (rv 0) ah)))))
theorem lM(T:Txt w K mg):OkE P w K mg 1 "split_joined" ["text"] dh:=by
 refine bz ["text"] T.split_joined λ_ _ _ _ _ _ _ _ hr q=>?_;have hu:=hr.units;exact(au (ax (iC (aI (c9 hu) cM (rv 0) av) (bH ah) (dY OT OU eG di (rv 0) av))))
theorem k9(T:Txt w K mg):OkX P w K mg 3 "read_numbers" ["text"] eM:=by
 refine tK ["text"] T.read_numbers λ_ _ _ _ _ _ _ _ hr q hx hmk=>?_;refine'(au (ax (aZ bL bW T.z_tuple br (af (pk hx bw ["part","text"] q (bG (aq (lM T) hr (af (rv 0) ah))) ?g0 rt0 ?x0) ah))))
 (case g0=>intro _ _ _ _ q;exact(aQ q))
 (case x0=>intro _ _ _ _ _ _ _ hx;exact(fm (iT T) hx hr (af (rv 0) ah)))
theorem ye(T:Txt w K mg):OkE P w K mg 1 "is_whole" ["thing"] jT:=by
 refine bz ["thing"] T.is_whole λ_ _ _ _ _ _ _ _ hr q=>?_;exact(au (ax (bQ (bq T.z_isinstance T.z_int o8 (rv 0)) (cv (Cr (bq T.z_isinstance T.z_bool j_ (rv 0)))))))
theorem dP(T:Txt w K mg):OkE P w K mg 2 "is_within" ["thing","low","high"] cX:=by
 refine bz ["thing","low","high"] T.is_within λ_ _ _ _ _ _ _ _ hr q=>?_;exact(au (ax (bQ (aq (ye T) hr (af (rv 0) ah)) (cv (qY ef (bx _) ef (bx _) (rv 1) (rv 0) (rv 2))))))
theorem fC(T:Txt w K mg):OkE P w K mg 3 "are_within" ["thing","low","high"] c8:=by
 refine bz ["thing","low","high"] T.are_within λ_ _ _ _ _ _ _ _ hr q=>?_;refine'(au (ax (bQ (bq T.z_isinstance T.z_tuple br (rv 0)) (cv (aA (gR rfl) i7 T.z_all nk (af (cu bw ["part","thing","low","high"] q (bG (rv 0)) ?g0 rt0 ?e0) ah))))))
 (case g0=>intro _ _ _ _ q;exact(aQ q))
 (case e0=>intro _ _ _ _;exact(aq (dP T) hr (af (rv 0) (af (rv 2) (af (rv 3) ah)))))
theorem jE(T:Txt w K mg):OkE P w K mg 1 "are_rising" ["things"] dB:=by
 refine bz ["things"] T.are_rising λ_ _ _ _ _ _ _ _ hr q=>?_;refine'(au (ax (aA (gR rfl) i7 T.z_all nk (af (cu bw ["at","things"] q (t8 rfl T.z_range (af ai (af (aA aM aP T.z_len aW (af (rv 0) ah)) ah))) ?g0 rt0 ?e0) ah))))
 (case g0=>intro _ _ _ _ q;exact(aQ q))
 (case e0=>intro _ _ _ _;exact(cj gW (bx _) (az (rv 1) (aB iE (gU _) (rv 0) ai)) (az (rv 1) (rv 0))))
theorem uV(T:Txt w K mg):OkE P w K mg 4 "are_worths" ["thing"] iB:=by
 refine bz ["thing"] T.are_worths λ_ _ _ _ _ _ _ _ hr q=>?_;exact(au (ax (bQ (aq (fC T) hr (af (rv 0) (af (fh dO df ai) (af ai ah)))) (bQ (qY ef (bx _) ef (bx _) ai (aA aM aP T.z_len aW (af (rv 0) ah)) ai) (cv (aq (jE T) hr (af (rv 0) ah)))))))
theorem yc(T:Txt w K mg):OkE P w K mg 5 "is_stand" ["thing"] jW:=by
 refine bz ["thing"] T.is_stand λ_ _ _ _ _ _ _ _ hr q=>?_;refine'(ao (aT (RW.rt (cE (bF (bB (bq T.z_isinstance T.z_tuple br (rv 0)))) (cN (bF (rD ef (bx _) ef (bx _) ai (aA aM aP T.z_len aW (af (rv 0) ah)) ai))))) (au (ax cz)) aO)
 (au (ax (aA (gR rfl) i7 T.z_all nk (af (cu bw ["part","thing"] q (bG (rv 0)) ?g0 rt0 ?e0) ah)))))
 (case g0=>intro _ _ _ _ q;exact(aQ q))
 (case e0=>intro _ _ _ _;exact(aq (uV T) hr (af (rv 0) ah)))
theorem uX(T:Txt w K mg):OkX P w K mg 6 "read_stand" ["text"] ip:=by
 refine tK ["text","stand"] T.read_stand λ_ _ _ _ _ _ _ _ hr q hx hmk=>?_;refine'(ao (aK q (aZ bL bW T.z_tuple br (af (pk hx bw ["part","text","stand"] q (bG (dY OT OU eG di (rv 0) av)) ?g0 rt0 ?x0) ah)))
 (ao (aT (bF (bB (aq (yc T) hr (af (rv 1) ah)))) (au (nJ T.ec_NoText hmk (af av ah))) aO)
 (au (ax (rv 1)))))
 (case g0=>intro _ _ _ _ q;exact(aQ q))
 (case x0=>intro _ _ _ _ _ _ _ hx;exact(fm (k9 T) hx hr (af (rv 0) ah)))
theorem uQ(T:Txt w K mg):OkX P w K mg 3 "read_tuple" ["text"] h_:=by
 refine tK ["text"] T.read_tuple λ_ _ _ _ _ _ _ _ hr q hx hmk=>?_;refine'(au (ax (aZ bL bW T.z_tuple br (af (pk hx bw ["part","text"] q (bG (dY OT OU eG di (rv 0) av)) ?g0 rt0 ?x0) ah))))
 (case g0=>intro _ _ _ _ q;exact(aQ q))
 (case x0=>intro _ _ _ _ _ _ _ hx;exact(fm (iT T) hx hr (af (rv 0) ah)))
theorem va(T:Txt w K mg):OkX P w K mg 4 "read_thing" ["form","text"] fT:=by
 refine tK ["form","text"] T.read_thing λ_ _ _ _ _ _ _ _ hr q hx hmk=>?_;have hu:=hr.units;refine'(ao (aT (aI (c9 hu) cM (rv 0) av) (au (ax (fm (iT T) hx hr (af (rv 1) ah)))) aO)
 (ao (aT (aI (c9 hu) cM (rv 0) av) (au (ax (fm (k9 T) hx hr (af (rv 1) ah)))) aO)
 (au (ax (aZ bL bW T.z_tuple br (af (pk hx bw ["part","form","text"] q (bG (aq (lM T) hr (af (rv 1) ah))) ?g0 rt0 ?x0) ah))))))
 (case g0=>intro _ _ _ _ q;exact(aQ q))
 (case x0=>intro _ _ _ _ _ _ _ hx;exact(fm (uQ T) hx hr (af (rv 0) ah)))
theorem om(T:Txt w K mg):OkE P w K mg 1 "are_unlike" ["things"] dN:=by
 refine bz ["things"] T.are_unlike λ_ _ _ _ _ _ _ _ hr q=>?_;have hu:=hr.units;exact(au (ax (cj (bS hu) bR (Ae rfl rfl T.z_len rfl T.z_set aW m9 hu (rv 0)) (aA aM aP T.z_len aW (af (rv 0) ah)))))
theorem xw(T:Txt w K mg):OkE P w K mg 4 "are_names" ["thing"] jf:=by
 refine bz ["thing"] T.are_names λ_ _ _ _ _ _ _ _ hr q=>?_;exact(au (ax (bQ (aq (fC T) hr (af (rv 0) (af ai (af ai ah)))) (bQ (qY ef (bx _) ef (bx _) ai (aA aM aP T.z_len aW (af (rv 0) ah)) ai) (cv (aq (om T) hr (af (rv 0) ah)))))))
theorem rQ(T:Txt w K mg):OkE P w K mg 3 "is_span" ["low","high","least","most"] jl:=by
 refine bz ["low","high","least","most"] T.is_span λ_ _ _ _ _ _ _ _ hr q=>?_;exact(au (ax (bQ (aq (dP T) hr (af (rv 0) (af (rv 2) (af (rv 3) ah)))) (bQ (aq (dP T) hr (af (rv 1) (af (rv 2) (af (rv 3) ah)))) (cv (cj ef (bx _) (rv 0) (rv 1)))))))
theorem x_(T:Txt w K mg):OkE P w K mg 4 "is_bound" ["thing"] jP:=by
 refine bz ["thing"] T.is_bound λ_ _ _ _ _ _ _ _ hr q=>?_;have hu:=hr.units;exact(ao (aT (RW.rt (cE (bF (bB (bq T.z_isinstance T.z_tuple br (rv 0)))) (cN (aI (dy hu) dw (aA aM aP T.z_len aW (af (rv 0) ah)) ai)))) (au (ax cz)) aO)
 (au (ax (bQ (aq (dP T) hr (af (az (rv 0) ai) (af (fh dO df ai) (af ai ah)))) (cv (aq (rQ T) hr (af (az (rv 0) ai) (af (az (rv 0) ai) (af ai (af ai ah))))))))))
theorem uW(T:Txt w K mg):OkE P w K mg 5 "are_bounds" ["thing"] iG:=by
 refine bz ["thing"] T.are_bounds λ_ _ _ _ _ _ _ _ hr q=>?_;refine'(ao (aT (RW.rt (cE (bF (bB (bq T.z_isinstance T.z_tuple br (rv 0)))) (cN (aI jU (bx _) (aA aM aP T.z_len aW (af (rv 0) ah)) ai)))) (au (ax cz)) aO)
 (au (ax (bQ (aA (gR rfl) i7 T.z_all nk (af (cu bw ["part","thing"] q (bG (rv 0)) ?g0 rt0 ?e0) ah)) (cv (aq (jE T) hr (af (cu bw ["part","thing"] q (bG (rv 0)) ?g1 rt0 ?e1) ah)))))))
 (case g0=>intro _ _ _ _ q;exact(aQ q))
 (case e0=>intro _ _ _ _;exact(aq (x_ T) hr (af (rv 0) ah)))
 (case g1=>intro _ _ _ _ q;exact(aQ q))
 (case e1=>intro _ _ _ _;exact(az (rv 0) ai))
theorem zU(T:Txt w K mg):OkE P w K mg 6 "is_many" ["wish"] lU:=by
 refine bz ["wish"] T.is_many λ_ _ _ _ _ _ _ _ hr q=>?_;have hu:=hr.units;exact(au (ax (bQ (cj (bS hu) bR (aA aM aP T.z_len aW (af (rv 0) ah)) ai) (cv (aq (uW T) hr (af (az (rv 0) ai) ah))))))
theorem B7(T:Txt w K mg):OkE P w K mg 4 "is_sum" ["wish"] nA:=by
 refine bz ["wish"] T.is_sum λ_ _ _ _ _ _ _ _ hr q=>?_;have hu:=hr.units;exact(ao (aT (RW.rt (cE (aI (dy hu) dw (aA aM aP T.z_len aW (af (rv 0) ah)) ai) (cN (bF (bB (aq (fC T) hr (af (az (rv 0) ai) (af (fh dO df ai) (af ai ah))))))))) (au (ax cz)) aO)
 (au (ax (bQ (cj (bS hu) bR (aA aM aP T.z_len aW (af (az (rv 0) ai) ah)) (aA aM aP T.z_len aW (af (az (rv 0) ai) ah))) (cv (aq (rQ T) hr (af (az (rv 0) ai) (af (az (rv 0) ai) (af (fh dO df ai) (af ai ah))))))))))
theorem zX(T:Txt w K mg):OkE P w K mg 3 "is_door" ["thing"] kZ:=by
 refine bz ["thing"] T.is_door λ_ _ _ _ _ _ _ _ hr q=>?_;have hu:=hr.units;exact(ao (aT (RW.rt (cE (bF (bB (bq T.z_isinstance T.z_tuple br (rv 0)))) (cN (aI (dy hu) dw (aA aM aP T.z_len aW (af (rv 0) ah)) ai)))) (au (ax cz)) aO)
 (au (ax (bQ (aq (dP T) hr (af (az (rv 0) ai) (af ai (af ai ah)))) (bQ (aq (dP T) hr (af (az (rv 0) ai) (af (fh dO df ai) (af ai ah)))) (cv (aq (dP T) hr (af (az (rv 0) ai) (af ai (af ai ah))))))))))
theorem xX(T:Txt w K mg):OkE P w K mg 4 "are_doors" ["thing"] ja:=by
 refine bz ["thing"] T.are_doors λ_ _ _ _ _ _ _ _ hr q=>?_;refine'(ao (aT (RW.rt (cE (bF (bB (bq T.z_isinstance T.z_tuple br (rv 0)))) (cN (aI jU (bx _) (aA aM aP T.z_len aW (af (rv 0) ah)) ai)))) (au (ax cz)) aO)
 (au (ax (bQ (aA (gR rfl) i7 T.z_all nk (af (cu bw ["part","thing"] q (bG (rv 0)) ?g0 rt0 ?e0) ah)) (cv (aq (om T) hr (af (rv 0) ah)))))))
 (case g0=>intro _ _ _ _ q;exact(aQ q))
 (case e0=>intro _ _ _ _;exact(aq (zX T) hr (af (rv 0) ah)))
theorem Bv(T:Txt w K mg):OkE P w K mg 5 "is_row" ["wish"] nr:=by
 refine bz ["wish"] T.is_row λ_ _ _ _ _ _ _ _ hr q=>?_;have hu:=hr.units;exact(au (ax (bQ (cj (bS hu) bR (aA aM aP T.z_len aW (af (rv 0) ah)) ai) (bQ (aq (xX T) hr (af (az (rv 0) ai) ah)) (bQ (aq (fC T) hr (af (az (rv 0) ai) (af ai (af ai ah)))) (cv (aq (jE T) hr (af (az (rv 0) ai) ah))))))))
theorem AA(T:Txt w K mg):OkE P w K mg 4 "is_hand" ["wish"] lD:=by
 refine bz ["wish"] T.is_hand λ_ _ _ _ _ _ _ _ hr q=>?_;have hu:=hr.units;exact(au (ax (bQ (cj (bS hu) bR (aA aM aP T.z_len aW (af (rv 0) ah)) ai) (bQ (aq (fC T) hr (af (az (rv 0) ai) (af ai (af ai ah)))) (cv (cj (bS hu) bR (aA aM aP T.z_len aW (af (az (rv 0) ai) ah)) (aA aM aP T.z_len aW (af (az (rv 0) ai) ah))))))))
theorem qw(T:Txt w K mg):OkE P w K mg 7 "is_of_its_kind" ["wish"] fe:=by
 refine bz ["wish","word"] T.is_of_its_kind λ_ _ _ _ _ _ _ _ hr q=>?_;have hu:=hr.units;exact(ao (aK q (az (rv 0) ai))
 (ao (aT (aI (c9 hu) cM (rv 1) av) (au (ax (cj (bS hu) bR (aA aM aP T.z_len aW (af (rv 0) ah)) ai))) aO)
 (ao (aT (aI (c9 hu) cM (rv 1) av) (au (ax (aq (zU T) hr (af (rv 0) ah)))) aO)
 (ao (aT (aI (c9 hu) cM (rv 1) av) (au (ax (aq (B7 T) hr (af (rv 0) ah)))) aO)
 (ao (aT (aI (c9 hu) cM (rv 1) av) (au (ax (aq (Bv T) hr (af (rv 0) ah)))) aO)
 (au (ax (bQ (cj (c9 hu) cM (rv 1) av) (cv (aq (AA T) hr (af (rv 0) ah)))))))))))
theorem zt(T:Txt w K mg):OkE P w K mg 8 "is_wish" ["thing"] lC:=by
 refine bz ["thing"] T.is_wish λ_ _ _ _ _ _ _ _ hr q=>?_;exact(ao (aT (RW.rt (cE (bF (bB (bq T.z_isinstance T.z_tuple br (rv 0)))) (cN (aI gW (bx _) (aA aM aP T.z_len aW (af (rv 0) ah)) ai)))) (au (ax cz)) aO)
 (au (ax (bQ (aq (xw T) hr (af (az (rv 0) ai) ah)) (cv (aq (qw T) hr (af (rv 0) ah)))))))
theorem wD(T:Txt w K mg):OkX P w K mg 9 "read_wish" ["text"] gD:=by
 refine tK ["text","parts","forms","wish"] T.read_wish λ_ _ _ _ _ _ _ _ hr q hx hmk=>?_;have hu:=hr.units;refine'(ao (aK q (dY OT OU eG di (rv 0) av))
 (ao (aK q (F7 T.fm_FORMS (az (rv 1) ai) (cw ah)))
 (ao (aT (aI (dy hu) dw (aA aM aP T.z_len aW (af (rv 1) ah)) (aB aG aH (aA xn Bi T.z_len aW (af (rv 2) ah)) ai)) (au (nJ T.ec_NoText hmk (af av ah))) aO)
 (ao (aK q (aZ bL bW T.z_tuple br (af (aB aG aH (d_ (rv 1) cF (b9 ai)) (pk hx bw ["form","part","text","parts","forms","wish"] q (Ht rfl T.z_zip (af (rv 2) (af (d_ (rv 1) (b9 ai) cF) ah))) ?g0 rt0 ?x0)) ah)))
 (ao (aT (bF (bB (aq (zt T) hr (af (rv 3) ah)))) (au (nJ T.ec_NoText hmk (af av ah))) aO)
 (au (ax (rv 3))))))))
 (case g0=>intro _ _ _ _ q;exact(pJ (et (aQ q) (et (aQ q) mO))))
 (case x0=>intro _ _ _ _ _ _ _ hx;exact(fm (va T) hx hr (af (rv 0) (af (rv 1) ah))))
theorem wH(T:Txt w K mg):OkE P w K mg 1 "_law_refusal" ["caught"] jc:=by
 refine bz ["caught","some"] T.l_refusal λ_ _ _ _ _ _ _ _ hr q=>?_;have hu:=hr.units;exact(ao (aK q (bH (af (fG (lY T.xs (by decide)) (T.xs.cf _ (by decide)) T.z_isinstance (rv 0)) (af (fG (lY T.xs (by decide)) (T.xs.cf _ (by decide)) T.z_isinstance (rv 0)) (af (fG (lY T.xs (by decide)) (T.xs.cf _ (by decide)) T.z_isinstance (rv 0)) ah)))))
 (ao (aK q (aB aG aH (rv 1) (bH (af (fG (lY T.xs (by decide)) (T.xs.cf _ (by decide)) T.z_isinstance (rv 0)) (af (fG (lY T.xs (by decide)) (T.xs.cf _ (by decide)) T.z_isinstance (rv 0)) (af (fG (lY T.xs (by decide)) (T.xs.cf _ (by decide)) T.z_isinstance (rv 0)) ah))))))
 (ao (aK q (aB aG aH (rv 1) (bH (af (fG (lY T.xs (by decide)) (T.xs.cf _ (by decide)) T.z_isinstance (rv 0)) (af (fG (lY T.xs (by decide)) (T.xs.cf _ (by decide)) T.z_isinstance (rv 0)) (af (fG (lY T.xs (by decide)) (T.xs.cf _ (by decide)) T.z_isinstance (rv 0)) ah))))))
 (ao (aT (RW.rt (cE (aI (dy hu) dw (Ft PySem.F.slot_list_count PySem.F.type_list_count Bf BB (rv 1) cz) ai) (cE (bF (bB (fG (lY T.xs (by decide)) (T.xs.cf _ (by decide)) T.z_isinstance (rv 0)))) (cN (bF (bB (yE (y0 (v:=.ty "ValueError") rfl T.z_ValueError uS rfl) (λu r=>r) (Nu T.xs) T.z_isinstance (rv 0)))))))) (au (ax av)) aO)
 (au (ax (az (bH (af av (af av (af av (af av (af av (af av (af av (af av (af av ah)))))))))) (Ft TY PySem.F.type_list_index A4 Bt (rv 1) cz))))))))
theorem t5(T:Txt w K mg):OkE P w K mg 10 "_law_told" ["kind","text"] iV:=by
 refine bz ["kind","text","caught","found","e"] T.l_told λ_ _ _ _ _ _ _ _ hr q=>?_;have hu:=hr.units;exact(ao (aK q gB)
 (ao (aK q gB)
 (ao (KU 4 2 q (M9 T.xs (by decide)) λ_ _ _ hx=>(au (aT (aI (bS hu) bR (rv 0) ai) (au (aK q (fm (uX T) hx hr (af (rv 1) ah)))) (au (aK q (fm (wD T) hx hr (af (rv 1) ah)))))))
 (au (ax (iC (aI xT vQ (rv 2) gB) (bH (af av (af (rv 3) ah))) (bH (af (aq (wH T) hr (af (rv 2) ah)) ah))))))))
theorem gf(T:Txt w K mg):OkE P w K mg 1 "_law_number_in" ["word"] dF:=by
 refine bz ["word","number"] T.l_number_in λ_ _ _ _ _ _ _ _ hr q=>?_;have hu:=hr.units;exact(ao (eY (t8 rfl T.z_range (af (fh dO df ai) (af ai ah))) (aQ q) (au (aT (aI (bS hu) bR (rv 0) (aZ dD dA T.z_str eT (af (rv 1) ah))) (au (ax (rv 1))) aO)))
 (au (ax gB)))
theorem fM(T:Txt w K mg):OkE P w K mg 2 "_law_numbers_in" ["word"] de:=by
 refine bz ["word"] T.l_numbers_in λ_ _ _ _ _ _ _ _ hr q=>?_;have hu:=hr.units;refine'(au (ax (iC (aI (c9 hu) cM (rv 0) av) (cw ah) (aZ bL bW T.z_tuple br (af (cu bw ["one","word"] q (bG (dY OT OU eG di (rv 0) av)) ?g0 rt0 ?e0) ah)))))
 (case g0=>intro _ _ _ _ q;exact(aQ q))
 (case e0=>intro _ _ _ _;exact(aq (gf T) hr (af (rv 0) ah)))
theorem oF(T:Txt w K mg):OkE P w K mg 1 "_law_is_whole" ["thing"] fV:=by
 refine bz ["thing"] T.l_is_whole λ_ _ _ _ _ _ _ _ hr q=>?_;exact(au (ax (bQ (bq T.z_isinstance T.z_int o8 (rv 0)) (cv (Cr (bq T.z_isinstance T.z_bool j_ (rv 0)))))))
theorem uZ(T:Txt w K mg):OkE P w K mg 2 "_law_is_stand" ["thing"] iI:=by
 refine bz ["thing","worths"] T.l_is_stand λ_ _ _ _ _ _ _ _ hr q=>?_;have hu:=hr.units;refine'(ao (aT (RW.rt (cE (bF (bB (bq T.z_isinstance T.z_tuple br (rv 0)))) (cE (aI gW (bx _) (aA aM aP T.z_len aW (af (rv 0) ah)) ai) (cN (aI jU (bx _) (aA aM aP T.z_len aW (af (rv 0) ah)) ai))))) (au (ax cz)) aO)
 (ao (eY (bG (rv 0)) (aQ q) (ao (aT (RW.rt (cE (bF (bB (bq T.z_isinstance T.z_tuple br (rv 1)))) (cE (aI gW (bx _) (aA aM aP T.z_len aW (af (rv 1) ah)) ai) (cN (aI jU (bx _) (aA aM aP T.z_len aW (af (rv 1) ah)) ai))))) (au (ax cz)) aO)
 (ao (aT (aI (dy hu) dw (cu bw ["worth","thing","worths"] q (bG (rv 1)) ?g0 ?t0 ?e0) (bH ah)) (au (ax cz)) aO)
 (au (aT (aI (dy hu) dw (aZ nZ uo T.z_list kj (af (rv 1) ah)) (zH rfl rfl T.z_sorted rfl T.z_set jq m9 (rv 1))) (au (ax cz)) aO)))))
 (au (ax cz))))
 (case g0=>intro _ _ _ _ q;exact(aQ q))
 (case t0=>intro _ _ _ _;exact(iP (RW.rt (cE (bF (bB (aq (oF T) hr (af (rv 0) ah)))) (cE (aI gW (bx _) (rv 0) (fh dO df ai)) (cN (aI jU (bx _) (rv 0) ai)))))))
 (case e0=>intro _ _ _ _;exact ai)
theorem uY(T:Txt w K mg):OkE P w K mg 3 "_law_stand_in" ["text"] iD:=by
 refine bz ["text","stand"] T.l_stand_in λ_ _ _ _ _ _ _ _ hr q=>?_;refine'(ao (aK q (aZ bL bW T.z_tuple br (af (cu bw ["word","text","stand"] q (bG (dY OT OU eG di (rv 0) av)) ?g0 rt0 ?e0) ah)))
 (au (ax (iC (bB (aq (uZ T) hr (af (rv 1) ah))) (rv 1) gB))))
 (case g0=>intro _ _ _ _ q;exact(aQ q))
 (case e0=>intro _ _ _ _;exact(aq (fM T) hr (af (rv 0) ah)))
theorem sG(T:Txt w K mg):OkE P w K mg 2 "_law_triples_in" ["word"] gj:=by
 refine bz ["word","threes"] T.l_triples_in λ_ _ _ _ _ _ _ _ hr q=>?_;have hu:=hr.units;refine'(ao (aT (aI (c9 hu) cM (rv 0) av) (au (ax (cw ah))) aO)
 (ao (zM bw ["three","word","threes"] q (bG (dY OT OU eG di (rv 0) av)) ?g0 rt0 ?e0)
 (au (ax (aZ bL bW T.z_tuple br (af (cu bw ["three","word","threes"] q (bG (rv 1)) ?g2 rt0 ?e2) ah))))))
 (case g0=>intro _ _ _ _ q;exact(aQ q))
 (case e0=>intro _ _ _ _;exact(dY OT OU eG di (rv 0) av))
 (case g2=>intro _ _ _ _ q;exact(aQ q))
 (case e2=>intro _ _ _ _;refine'(aZ bL bW T.z_tuple br (af (HZ bw ["one","three","word","threes"] (bG (rv 0)) ?g1 rt0 ?e1) ah));(case g1=>intro _ _ _ _ q;exact(aQ q));(case e1=>intro _ _ _ _;exact(aq (gf T) hr (af (rv 0) ah))))
theorem dS(T:Txt w K mg):OkE P w K mg 2 "_law_numbers" ["thing","low","high"] bU:=by
 refine bz ["thing","low","high"] T.l_numbers λ_ _ _ _ _ _ _ _ hr q=>?_;have hu:=hr.units;refine'(ao (aT (bF (bB (bq T.z_isinstance T.z_tuple br (rv 0)))) (au (ax cz)) aO)
 (au (ax (cj (bS hu) bR (cu bw ["one","thing","low","high"] q (bG (rv 0)) ?g0 ?t0 ?e0) (bH ah)))))
 (case g0=>intro _ _ _ _ q;exact(aQ q))
 (case t0=>intro _ _ _ _;exact(iP (RW.rt (cE (bF (bB (aq (oF T) hr (af (rv 0) ah)))) (cE (aI gW (bx _) (rv 0) (rv 2)) (cN (aI jU (bx _) (rv 0) (rv 3))))))))
 (case e0=>intro _ _ _ _;exact ai)
theorem pw(T:Txt w K mg):OkE P w K mg 3 "_law_triples" ["thing","most"] eB:=by
 refine bz ["thing","most"] T.l_triples λ_ _ _ _ _ _ _ _ hr q=>?_;have hu:=hr.units;refine'(ao (aT (RW.rt (cE (bF (bB (bq T.z_isinstance T.z_tuple br (rv 0)))) (cN (aI jU (bx _) (aA aM aP T.z_len aW (af (rv 0) ah)) (rv 1))))) (au (ax cz)) aO)
 (au (ax (cj (bS hu) bR (cu bw ["one","thing","most"] q (bG (rv 0)) ?g0 ?t0 ?e0) (bH ah)))))
 (case g0=>intro _ _ _ _ q;exact(aQ q))
 (case t0=>intro _ _ _ _;exact(iP (RW.rt (cE (bF (bB (aq (dS T) hr (af (rv 0) (af (fh dO df ai) (af ai ah)))))) (cN (aI (dy hu) dw (aA aM aP T.z_len aW (af (rv 0) ah)) ai))))))
 (case e0=>intro _ _ _ _;exact ai)
theorem vM(T:Txt w K mg):OkE P w K mg 4 "_law_is_wish" ["thing"] cI:=by
 refine bz ["thing"] T.l_is_wish λ_ _ _ _ _ _ _ _ hr q=>?_;have hu:=hr.units;refine'(ao (aT (RW.rt (cE (bF (bB (bq T.z_isinstance T.z_tuple br (rv 0)))) (cE (aI gW (bx _) (aA aM aP T.z_len aW (af (rv 0) ah)) ai) (cN (aI (Gd hu) DU (az (rv 0) ai) (cw (af av (af av (af av (af av (af av ah))))))))))) (au (ax cz)) aO)
 (ao (aT (RW.rt (cE (bF (bB (aq (dS T) hr (af (az (rv 0) ai) (af ai (af ai ah)))))) (cE (bF (rD ef (bx _) ef (bx _) ai (aA aM aP T.z_len aW (af (az (rv 0) ai) ah)) ai)) (cN (aI gW (bx _) (Ae rfl rfl T.z_len rfl T.z_set aW m9 hu (az (rv 0) ai)) (aA aM aP T.z_len aW (af (az (rv 0) ai) ah))))))) (au (ax cz)) aO)
 (ao (aT (aI (dy hu) dw (aA aM aP T.z_len aW (af (rv 0) ah)) (Mu (.cons (.cons (.cons (.cons (.cons .nil))))) (az (rv 0) ai))) (au (ax cz)) aO)
 (ao (aT (aI (c9 hu) cM (az (rv 0) ai) av) (ao (aT (RW.rt (cE (bF (bB (aq (pw T) hr (af (az (rv 0) ai) (af ai ah))))) (cN (aI (dy hu) dw (cu bw ["one","thing"] q (bG (az (rv 0) ai)) ?g0 ?t0 ?e0) (bH ah))))) (au (ax cz)) aO)
 (au (ax (cj (bS hu) bR (cu bw ["one","thing"] q (bG (az (rv 0) ai)) ?g1 rt0 ?e1) (zH rfl rfl T.z_sorted rfl T.z_set jq m9 (cu bw ["one","thing"] q (bG (az (rv 0) ai)) ?g2 rt0 ?e2)))))) aO)
 (ao (aT (aI (c9 hu) cM (az (rv 0) ai) av) (ao (aT (RW.rt (cE (bF (bB (aq (dS T) hr (af (az (rv 0) ai) (af (fh dO df ai) (af ai ah)))))) (cN (aI (dy hu) dw (aA aM aP T.z_len aW (af (az (rv 0) ai) ah)) (aA aM aP T.z_len aW (af (az (rv 0) ai) ah)))))) (au (ax cz)) aO)
 (au (ax (bQ (aq (dS T) hr (af (d_ (rv 0) (b9 ai) cF) (af (fh dO df ai) (af ai ah)))) (cv (cj ef (bx _) (az (rv 0) ai) (az (rv 0) ai))))))) aO)
 (ao (aT (aI (c9 hu) cM (az (rv 0) ai) av) (ao (aT (RW.rt (cE (bF (bB (aq (pw T) hr (af (az (rv 0) ai) (af ai ah))))) (cN (bF (bB (aq (dS T) hr (af (az (rv 0) ai) (af ai (af ai ah))))))))) (au (ax cz)) aO)
 (ao (aT (aI (dy hu) dw (cu bw ["one","thing"] q (bG (az (rv 0) ai)) ?g3 ?t3 ?e3) (bH ah)) (au (ax cz)) aO)
 (au (ax (bQ (cj (bS hu) bR (Ae rfl rfl T.z_len rfl T.z_set aW m9 hu (az (rv 0) ai)) (aA aM aP T.z_len aW (af (az (rv 0) ai) ah))) (cv (cj (bS hu) bR (aZ nZ uo T.z_list kj (af (az (rv 0) ai) ah)) (zH rfl rfl T.z_sorted rfl T.z_set jq m9 (az (rv 0) ai))))))))) aO)
 (au (ax (FO (cj (c9 hu) cM (az (rv 0) ai) av) (cv (bQ (aq (dS T) hr (af (az (rv 0) ai) (af ai (af ai ah)))) (cv (cj (bS hu) bR (aA aM aP T.z_len aW (af (az (rv 0) ai) ah)) (aA aM aP T.z_len aW (af (az (rv 0) ai) ah)))))))))))))))
 (case g0=>intro _ _ _ _ q;exact(aQ q))
 (case t0=>intro _ _ _ _;exact(iP (bF (B4 ef (bx _) ef (bx _) ef (bx _) ai (az (rv 0) ai) (az (rv 0) ai) ai))))
 (case e0=>intro _ _ _ _;exact ai)
 (case g1=>intro _ _ _ _ q;exact(aQ q))
 (case e1=>intro _ _ _ _;exact(az (rv 0) ai))
 (case g2=>intro _ _ _ _ q;exact(aQ q))
 (case e2=>intro _ _ _ _;exact(az (rv 0) ai))
 (case g3=>intro _ _ _ _ q;exact(aQ q))
 (case t3=>intro _ _ _ _;exact(iP (bF (bB (aq (dS T) hr (af (cw (af (az (rv 0) ai) (af (az (rv 0) ai) ah))) (af ai (af ai ah))))))))
 (case e3=>intro _ _ _ _;exact ai)
theorem wM(T:Txt w K mg):OkE P w K mg 5 "_law_wish_in" ["text"] eF:=by
 refine bz ["text","words","wish"] T.l_wish_in λ_ _ _ _ _ _ _ _ hr q=>?_;have hu:=hr.units;exact(ao (aK q (dY OT OU eG di (rv 0) av))
 (ao (aT (aI (dy hu) dw (aA aM aP T.z_len aW (af (rv 1) ah)) (LC (.cons (.cons (.cons (.cons (.cons .nil))))) (az (rv 1) ai))) (au (ax gB)) aO)
 (ao (aK q (cw (af (az (rv 1) ai) (af (aq (fM T) hr (af (az (rv 1) ai) ah)) ah))))
 (ao (aT (aI (rM hu) sX (az (rv 1) ai) (cw (af av (af av ah)))) (au (aK q (aB aG aH (rv 2) (cw (af (aq (sG T) hr (af (az (rv 1) ai) ah)) ah))))) aO)
 (ao (aT (aI (rM hu) sX (az (rv 1) ai) (cw (af av (af av ah)))) (au (aK q (aB aG aH (rv 2) (cw (af (aq (fM T) hr (af (az (rv 1) ai) ah)) ah))))) aO)
 (ao (aT (aI (c9 hu) cM (az (rv 1) ai) av) (au (aK q (aB aG aH (rv 2) (cw (af (aq (gf T) hr (af (az (rv 1) ai) ah)) (af (aq (gf T) hr (af (az (rv 1) ai) ah)) ah)))))) aO)
 (ao (aT (aI (c9 hu) cM (az (rv 1) ai) av) (au (aK q (aB aG aH (rv 2) (cw (af (aq (fM T) hr (af (az (rv 1) ai) ah)) ah))))) aO)
 (au (ax (iC (bB (aq (vM T) hr (af (rv 2) ah))) (rv 2) gB))))))))))
theorem vS(T:Txt w K mg):OkE P w K mg 6 "_law_due" ["kind","text"] kg:=by
 refine bz ["kind","text","found"] T.l_due λ_ _ _ _ _ _ _ _ hr q=>?_;have hu:=hr.units;exact(ao (aK q (iC (aI (bS hu) bR (rv 0) ai) (aq (uY T) hr (af (rv 1) ah)) (aq (wM T) hr (af (rv 1) ah))))
 (au (ax (iC (aI Eg EL (rv 2) gB) (bH (af av (af (rv 2) ah))) (bH (af av ah))))))
theorem tf(T:Txt w K mg):OkE P w K mg 1 "_law_full_texts" [] fY:=by
 refine bz ["doors","bounds","some"] T.l_full_texts λ_ _ _ _ _ _ _ _ hr q=>?_;refine'(ao (aK q (cu bw ["k","doors","bounds","some"] q (dC rfl T.z_range (af ai ah)) ?g0 rt0 ?e0))
 (ao (aK q (cu bw ["k","doors","bounds","some"] q (dC rfl T.z_range (af ai ah)) ?g1 rt0 ?e1))
 (ao (zM bw ["many","doors","bounds","some"] q (bG (bH (af ai (af ai ah)))) ?g2 rt0 ?e2)
 (au (ax (aB aG aH (rv 2) (cu bw ["many","doors","bounds","some"] q (bG (bH (af ai (af ai ah)))) ?g3 rt0 ?e3)))))))
 (case g0=>intro _ _ _ _ q;exact(aQ q))
 (case e0=>intro _ _ _ _;exact(aB aG aH (aB aG aH (aB aG aH (aB aG aH (aZ dD dA T.z_str eT (af (aB eR (cK _) (rv 0) ai) ah)) av) (aZ dD dA T.z_str eT (af (aB iE (gU _) (aB y_ (cK _) (rv 0) ai) ai) ah))) av) (aZ dD dA T.z_str eT (af (aB eR (cK _) (aB aG aH (rv 0) ai) ai) ah))))
 (case g1=>intro _ _ _ _ q;exact(aQ q))
 (case e1=>intro _ _ _ _;exact(aB aG aH (aZ dD dA T.z_str eT (af (rv 0) ah)) av))
 (case g2=>intro _ _ _ _ q;exact(aQ q))
 (case e2=>intro _ _ _ _;exact(aB aG aH (aB aG aH av (dY PF PH iX fU av (d_ (rv 1) cF (b9 (rv 0))))) av))
 (case g3=>intro _ _ _ _ q;exact(aQ q))
 (case e3=>intro _ _ _ _;exact(aB aG aH av (dY PF PH iX fU av (d_ (rv 2) cF (b9 (rv 0))))))
theorem H_(T:Txt w K mg):OkE P w K mg 12 "law" ["script"] Ag:=by
 refine bz ["script","pen","turn","stand","cases","kind","text","one","some"] T.law λ_ _ _ _ _ _ _ _ hr q=>?_;refine'(ao (aK q (aq (Bu T) hr (af (rv 0) ah)))
 (ao (eY (dC rfl T.z_range (af ai ah)) (aQ q) (ao (aK q (aq (AS T) hr (af (aq (BC T) hr (af (rv 1) ah)) (af ai (af ai ah)))))
 (ao (aK q (iU (af (cw (af ai (af (aq (sV T) hr (af (rv 3) ah)) ah))) ah)))
 (ao (gS (EX PySem.F.slot_list_extend PySem.F.type_list_extend Ho CO (rv 4) (cu bw ["kind","script","pen","turn","stand","cases","~5","text","one","some"] q (dC rfl T.z_range (af ai ah)) ?g0 rt0 ?e0)))
 (au (eY (bG (rv 4)) (pJ (et (aQ q) (et (aQ q) mO))) (au (eY (bG (bH (af (rv 6) (af (aq (me T) hr (af (rv 1) (af (rv 6) ah))) (af (aq (me T) hr (af (rv 1) (af (aq (me T) hr (af (rv 1) (af (rv 6) ah))) ah))) ah))))) (aQ q) (au (aT (bF (bB (aq (lG T) hr (af (aq (t5 T) hr (af (rv 5) (af (rv 7) ah))) (af (aq (vS T) hr (af (rv 5) (af (rv 7) ah))) ah))))) (au (ax cz)) aO))))))))))
 (ao (aK q (bH (af av (af av (af av (af av (af av (af av (af av (af av (af av (af av (af av (af av ah))))))))))))))
 (ao (aK q (aB aG aH (rv 8) (bH (af av (af av (af av (af av (af av ah))))))))
 (ao (eY (bG (aB aG aH (aB aG aH (rv 8) (bH (af av ah))) (D_ (tf T) hr))) (aQ q) (au (eY (dC rfl T.z_range (af ai ah)) (aQ q) (au (aT (bF (bB (aq (lG T) hr (af (aq (t5 T) hr (af (rv 5) (af (rv 6) ah))) (af (aq (vS T) hr (af (rv 5) (af (rv 6) ah))) ah))))) (au (ax cz)) aO)))))
 (au (ax cz)))))))
 (case g0=>intro _ _ _ _ q;exact(aQ q))
 (case e0=>intro _ _ _ _;exact(cw (af ai (af (aq (tB T) hr (af (aq (xx T) hr (af (rv 2) (af (rv 4) (af (rv 0) ah)))) ah)) ah))))
end
end My
namespace PySem.W.Fast
def tw17302157948956737436:=()
def tw953394916548030327:=()
def tw8173414564349475288:=()
def tw8076894943150319666:=()
def tw13142282800327904819:=()
def tw4815539068502516043:=()
def tw8387972389739972357:=()
def tw15316681344130995598:=()
def tw13237040380678815197:=()
def tw5678159633213017094:=()
def tw10405748819421492591:=()
def tw12390990672333366560:=()
def tw13210879739313417624:=()
def tw11961999648049913760:=()
def tw10273415698014717739:=()
def tw10802171796348423517:=()
def tw16937924857781629133:=()
def tw9831170817027029203:=()
def tw16397108235511546203:=()
def tw18324383458999340761:=()
def tw9896471397577056916:=()
def tw3128444508570815206:=()
def tw16702833660072475764:=()
def tw16035251574426497936:=()
def tw5992549161763717015:=()
def tw12710296843782077971:=()
def tw16431416716271526193:=()
def tw15541620213911273462:=()
def tw988052758347421590:=()
def tw15282616550405812516:=()
def tw4821358323203494562:=()
def tw13050843212351144034:=()
def tw12448226349175514599:=()
def tw17872790688105166315:=()
def tw13094113402893102051:=()
def tw17289795079299260021:=()
def tw1911413249979063317:=()
def tw9554339337742470501:=()
def tw4481580457970795849:=()
def tw7966566734505139050:=()
def tw18224789966027952254:=()
def tw9573505181739852244:=()
def tw938571065608833464:=()
def tw721267878067081380:=()
def tw7915216189446953310:=()
def tw5743217730613313445:=()
def tw9816961803356550450:=()
def tw8809756391682424195:=()
def tw15244087394848698394:=()
def tw2443358165104297452:=()
def tw16449287931783947361:=()
def tw7968011380495559935:=()
def tw9775700674264931015:=()
def tw1332418487532507904:=()
def tw13200733192106530734:=()
def tw9862367786596105149:=()
def tw17631978264329834372:=()
def tw10592919159292786922:=()
def tw13942310304513862961:=()
def tw3274491784228613699:=()
def tw4199072080371999853:=()
def tw10099010819374202376:=()
def tw8109006473976164229:=()
def tw4188325005970035306:=()
def tw17199385972615742760:=()
def tw6846425350799132327:=()
def tw4421405052661821906:=()
def tw1100911479663587601:=()
def tw11389685581947722360:=()
def tw15119505140687900535:=()
def tw15932423293544023998:=()
def tw15756293497257961715:=()
def tw6737377381342249462:=()
def tw13379735888685022141:=()
def tw5951880853550067426:=()
def tw15839417974646459251:=()
def tw18320438987311449450:=()
def tw3374616308569659012:=()
def tw13069765523652344486:=()
def tw9611576596159668896:=()
def tw11478864825459502900:=()
def tw2689021471874160452:=()
def tw11241301712578342689:=()
def tw13896139981438171913:=()
def tw15588546081979534953:=()
def tw14705572696917275248:=()
def tw10935056705834247070:=()
def tw252284452507652195:=()
def tw834816341184080555:=()
def tw4531260670150000381:=()
def tw8506680597187339314:=()
def tw4143940001069474159:=()
def tw243968363059647643:=()
def tw8720753128555639677:=()
def tw8516546031405207040:=()
def tw4886353393167652854:=()
def tw14360136171952812894:=()
def tw9382143111468028186:=()
def tw6675255045672283323:=()
def tw7218160466446422128:=()
def tw6209689312963701227:=()
def tw15408493150340019019:=()
def tw7836669341978362245:=()
def tw18218713766686751077:=()
def tw9741852880568668055:=()
def tw4775932882471614852:=()
def tw1386333003548408614:=()
def tw16326045970142245024:=()
def tw6243307117639414385:=()
def tw4562878918762505959:=()
def tw10273863019025238713:=()
def tw921719335621278695:=()
def tw12273263750793244269:=()
def tw12892612887352959958:=()
def tw3873460967386785882:=()
def tw2001629454321323631:=()
def tw16266614566471576339:=()
def tw16911869500402431698:=()
def tw6731425771011681727:=()
def tw9010920252263307435:=()
def tw17723864194225256907:=()
def tw13344222434921430027:=()
def tw1143881516758440757:=()
def tw11200289411126724264:=()
def tw6343757388826613204:=()
def tw17720042714923869840:=()
def tw16150746330973334684:=()
def tw713754071257784458:=()
def tw3923462472082566755:=()
def tw11948188281499591420:=()
def tw13607037211317604474:=()
def tw10587978642192107657:=()
def tw8131362198017398069:=()
def tw18122436615607029767:=()
def tw5101353360551425403:=()
def tw12900801190190475801:=()
def tw5371314936499133240:=()
def tw10217794688192954619:=()
def tw16411905059784669664:=()
def tw832117377887493879:=()
def tw14639790411453561409:=()
def tw2284646933866128553:=()
def tw12326340321936438668:=()
def tw13956462000290631667:=()
def tw267730902559399931:=()
def tw5313501289267004910:=()
def tw18343388448774219783:=()
def tw10289434659825245068:=()
def tw12029733787911415742:=()
def tw1784670950666539204:=()
def tw15044677209147011657:=()
def tw5941985969690150076:=()
def tw9179643232406738537:=()
def tw13950248893965814144:=()
def tw4888201134856170211:=()
def tw5363186741086889121:=()
def tw9456007243597500238:=()
def tw2111047449946390116:=()
def tw1297453744199373466:=()
def tw5021865657925624201:=()
def tw16920109225804496807:=()
def tw2449666160035047017:=()
def tw16042784282697161786:=()
def tw12183669824340853496:=()
def tw17927236009132477529:=()
def tw6051215207200514263:=()
def tw9957623877867891322:=()
def tw9349888456637594699:=()
def tw5259780680204963906:=()
def tw4360759032027800505:=()
def tw1335129553054640300:=()
def tw13760352241432419171:=()
def tw2293929168690307714:=()
def tw15017795729232826796:=()
def tw4483651467926479922:=()
def tw14722100016032344743:=()
def tw8582548195539793778:=()
def tw15362535063722046610:=()
def tw4802140180269990098:=()
def tw9400734891468264618:=()
def tw5534178720291383716:=()
def tw2922133817182156751:=()
def tw14333972554654424342:=()
def tw13836781469030298614:=()
def tw11123163567679396602:=()
def tw5496665648437718265:=()
def tw2716985055461601934:=()
def tw8873572908685837604:=()
def tw17173122621382627636:=()
def tw16466912887557039761:=()
def tw10370137084271802835:=()
def tw9404805329430911935:=()
def tw3019381974766814969:=()
def tw1141194874916487823:=()
def tw1828971549036576881:=()
def tw3767350933001137428:=()
def tw14536464832901333419:=()
def tw12302525007093368226:=()
def tw17144722160964697234:=()
def tw472097308898204715:=()
def tw557624246277837896:=()
def tw2492665342309809157:=()
def tw8953266507138098968:=()
def tw17664527460717998531:=()
def tw16199126192882651441:=()
def tw5493389633838652620:=()
def tw1083935912928048081:=()
def tw10707736364960924470:=()
def tw6046732394286918603:=()
def tw4393520254444199036:=()
def tw2917169980049776404:=()
def tw16703903933088839685:=()
def tw13449359549895881976:=()
def tw9137741264780622818:=()
def tw6203775290438843069:=()
def tw14756094398542072395:=()
def tw6354473792160826930:=()
def tw8421038136121167237:=()
def tw4201515092528874355:=()
def tw13667767277773521169:=()
def tw13097676473791431522:=()
def tw12951349675391483831:=()
def tw10086031234607855945:=()
def tw9449621832741565813:=()
def tw11670655485053545484:=()
def tw2192309623718984396:=()
def tw10313579730162619579:=()
def tw1352621791510734590:=()
def tw11522610982715505917:=()
def tw4144309619707366193:=()
def tw16801993975908417469:=()
def tw13399284967949701518:=()
def tw5170301838280263650:=()
def tw14397639647724966216:=()
def tw13468440695204431383:=()
def tw2020595693009813588:=()
def tw17158377122388654889:=()
def tw15811383345583265519:=()
def tw15604570668732092790:=()
def tw596738106422580211:=()
def tw3670580762891671813:=()
def tw969658656263604077:=()
def tw16415363416583185510:=()
def tw983244528515732695:=()
def tw7504553474252029334:=()
def tw7230934939995086827:=()
def tw6372418333748800233:=()
def tw11564219485385320182:=()
def tw10104683836529199877:=()
def tw16228453789944931892:=()
def tw10971785504275352173:=()
def tw14662565224714915763:=()
def tw3684904036919266007:=()
def tw17900463714876749097:=()
def tw14715511982080407163:=()
def tw570059851593742712:=()
def tw16611162070032282413:=()
def tw15107874489444234866:=()
def tw16263679454750230289:=()
def tw13911871564744660608:=()
def tw11461152267282395094:=()
def tw10347839052386586999:=()
def tw6290813684979695872:=()
def tw14517401147980566595:=()
def tw12339886411934273184:=()
def tw7069945116081175926:=()
def tw16226570504128528268:=()
def tw14124160761734461114:=()
def tw8594332272800083543:=()
def tw8037366655870745868:=()
def tw15587447332579225853:=()
def tw13382764713063658441:=()
def tw7023261660033371260:=()
def tw2500835960662672407:=()
def tw9257155680141126373:=()
def tw11707174298558398333:=()
def tw10830801927166571744:=()
def tw15044998220362615458:=()
def tw6233061136300925152:=()
def tw9571016449215972794:=()
def tw10485936234953240810:=()
def tw6186413622018893106:=()
def tw6722544026969510191:=()
def tw15020141544528655286:=()
def tw12915525339628885744:=()
def tw11640643148007595269:=()
def tw15617306807785620325:=()
def tw18265181131937584576:=()
def tw17460288367516082240:=()
def tw11621271811274318828:=()
def tw17916605152018258754:=()
def tw11703878159492758958:=()
def tw11156264378362651227:=()
def tw8064950975711258407:=()
def tw12189692586600024051:=()
def tw4978319483147766154:=()
def tw1594855605765741788:=()
def tw9751765448158542399:=()
def tw6953307991886320046:=()
def tw13670865186656995508:=()
end PySem.W.Fast
namespace My
open PySem L2
def Ap(K:NO):Sp:=λvs H Q _=>∃(l:Addr)(ns:List Int),vs=[.ref l]/\SqL K H l (ns.map V.int)/\ns.length<=63/\∀H',Q (.bl true) H'
theorem all_mk{l:PySem.W.OpenLaw}{w:World}{K:NO}{mg:Str->Option Value}{fa:Addr}(hfa:mg "law"=some (.ref fa))(T:Txt w K mg) :
  ∃fd:FuncData,(∀(s:Shared)(v:Value),BindsTo s fd ⟨[v],[]⟩ [("script",v)])/\∀base:Heap,K.In base->base.Ns mainGlobals mg->gr l.prog w K mg base CX0 12 fa fd ["script"] (Ap K):=by
 obtain⟨f,fd,m,kp,b,F⟩:=H_ (P:=l.prog) (w:=w) T;have e2:f=fa:=(R7 (Ou (hfa.symm.trans m))).symm;subst e2;refine⟨fd,λs v=>.of_eq (b [v] rfl),λbase _ _=>(F base).imp λvs H Q E h=>?_⟩;obtain⟨l,ns,rfl,hS,hl,hQ⟩:=h;refine⟨λ_=>l,[],[.sc ns],⟨λn o h=>(by cases h),λn m o o' h=>(by cases h)⟩,.cons ⟨l,rfl,SqL.mono (λb o h=>cS h (by rintro⟨n,o',e,_⟩;cases e)) hS⟩ .nil,?_⟩;rw[Et ns];intro b μ' H' st r;cases r;exact hQ H'
theorem walk{l:PySem.W.OpenLaw}{q:Program}{loose:List Str}{XP:(Str->Option Value)->Heap->Prop}{YP:World->Heap->Prop}{d:DefRec}{K:Params->NO}(hn:l.most=some 63)(hdf:d.params.defaults=[])
  (hY:∀(w:World)(h:Heap),YP w h->(K w.params).In h)
  (F:∀(w:World)(mg:Str->Option Value)(fa:Addr)(h:Heap),(K w.params).In h->h.Ns mainGlobals mg->mg d.name=some (.ref fa) ->
   ∃fd:FuncData,(∀(s:Shared)(u:Value),BindsTo s fd ⟨[u],[]⟩ [("script",u)])/\∀base:Heap,(K w.params).In base->base.Ns mainGlobals mg->gr l.prog w (K w.params) mg base CX0 12 fa fd ["script"] (Ap (K w.params))) :
  WD q loose XP YP l.row.toRowW d [] (λf vs=>VR f vs):=
 L2.HC (n:=63) (k:=12) (x:="script") (CX:=λ_=>CX0) (sp:=λw=>Ap (K w.params)) hn (by decide) hdf ⟨rfl,by decide,by decide⟩ hY F (λ_ _ a ns hl _ hS=>⟨a,ns,rfl,hS,hl,λ_=>rfl⟩) λ_ _ _ _ _ z=>z
end My
open PySem PySem.W PyProof.Rows
set_option maxRecDepth 100000 in
set_option maxHeartbeats 0 in
theorem PySem.Challenge.cw_wishstrike_k57_texts_judged_holds : PySem.Challenge.rw_wishstrike_k57_texts_judged.Holds := by
  w_on;o_law;k_head;(case hw=>w_witness2)
  k_fill
  refine My.walk (l:=QM) rfl rfl (λw h Y=>PySem.W.kIn_of Y) ?F
  case F=>
    intro w mg fa h KX G hmg
    refine' My.all_mk hmg ?T
    (case T=>constructor<;>first |(refine' PySem.W.mg_none_of KX G ?z;(case z=>k_is)) |(refine' L2.LV KX G ?a ?l ?c ?k;(case a=>k_is);(case l=>k_is);(case c=>k_is);(case k=>k_is)) |(refine' L2.L3 KX G ?a ?l ?k ?s ?e;(case a=>k_is);(case l=>k_is);(case k=>k_keys);(case s=>decide);(case e=>refine'⟨⟨_,rfl⟩,⟨_,rfl,L2.rV ?t4 ?v4 ?z4⟩,⟨⟨_,rfl⟩,⟨_,rfl,L2.rV ?t3 ?v3 ?z3⟩,⟨⟨_,rfl⟩,⟨_,rfl,L2.rV ?t2 ?v2 ?z2⟩,⟨⟨_,rfl⟩,⟨_,rfl,L2.rV ?t1 ?v1 ?z1⟩,⟨⟨_,rfl⟩,⟨_,rfl,L2.rV ?t0 ?v0 ?z0⟩,True.intro⟩⟩⟩⟩⟩;(case t0=>k_is);(case v0=>exact(.cons ⟨_,rfl⟩ (.cons ⟨_,rfl⟩ .nil)));(case z0=>show 2<=10;decide);(case t1=>k_is);(case v1=>exact(.cons ⟨_,rfl⟩ (.cons ⟨_,rfl⟩ (.cons ⟨_,rfl⟩ .nil))));(case z1=>show 3<=10;decide);(case t2=>k_is);(case v2=>exact(.cons ⟨_,rfl⟩ (.cons ⟨_,rfl⟩ (.cons ⟨_,rfl⟩ (.cons ⟨_,rfl⟩ .nil)))));(case z2=>show 4<=10;decide);(case t3=>k_is);(case v3=>exact(.cons ⟨_,rfl⟩ (.cons ⟨_,rfl⟩ .nil)));(case z3=>show 2<=10;decide);(case t4=>k_is);(case v4=>exact(.cons ⟨_,rfl⟩ .nil));(case z4=>show 1<=10;decide))) |(refine' L2.Lj KX G ?a ?xq;(case a=>k_is);(case xq=>k_exc)) |(constructor;(case le=>decide);all_goals (repeat' (first |exact(λ_ z=>absurd z Oj) |refine List.forall_mem_cons.mpr ⟨?_,?_⟩));all_goals first |(refine' L2.Lh KX G ?a ?b1 ?b2 ?b3 ?b4 ?b5 ?b6 ?b7 ?b8;(case a=>k_is);(case b1=>k_is);(case b2=>k_is);(case b3=>k_is);(case b4=>k_is);(case b5=>k_is);(case b6=>k_is);(case b7=>k_is);(case b8=>k_is)) |(refine' L2.Gx KX G ?a ?a' ?xq ?z ?e;(case a=>k_is);(case a'=>k_is);(case xq=>k_is);(case z=>first |exact Or.inl rfl |exact Or.inr (by decide));(case e=>decide+kernel))))
#print axioms PySem.Challenge.cw_wishstrike_k57_texts_judged_holds
