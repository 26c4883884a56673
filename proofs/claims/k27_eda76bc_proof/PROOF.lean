import PyProof.Rows.All
import Wide.All
import OpenK.AllK
import Wide.FinOn
import Lean
import PyProof.EqAt
import PyProof.EqKinds
import PyProof.TupleCall
import PySem.Challenge.RW_wishstrike_k27_whole_rows_and_other_wish
abbrev Oe:=@if_pos
abbrev Oi:=@decide_eq_true
abbrev Oo:=@decide_eq_false
abbrev Ot:=@if_neg
abbrev O7:=@decide_eq_true_eq
abbrev Pq:=@congrArg
abbrev PY:=@beq_iff_eq
abbrev Qj:=@decide_eq_false_iff_not
abbrev QE:=@beq_eq_false_iff_ne
abbrev QI:=@if_false
abbrev QL:=@if_true
abbrev QX:=@of_decide_eq_true
abbrev Rz:=@or_false
abbrev RQ:=@decide_eq_true_iff
abbrev Tr:=@decide_false
abbrev TH:=@decide_true
abbrev Ui:=@beq_self_eq_true
abbrev Uu:=@decide_eq_decide
open Array renaming length_toList→OM,getElem?_toList→PF,getElem?_eq_getElem→Qq,forIn_toList→Q_,mem_toList_iff→Rq,getD→RK,getD_eq_getD_getElem?→Sd,size_setIfInBounds→SA,getInternal_eq_getElem→Tz,getElem?_setIfInBounds→TB,replicate→UE,filterMap→UJ,toList_filterMap→UR,toList→VB,foldl_toList→VP,size_append→Wc,mem_filter→Wu,size_map→W3
open Bool renaming false_ne_true→OF,and_eq_true→OQ,eq_iff_iff→Ph,false_eq_true→Pw,not_false→Pz,not_true→PK,or_eq_true→PV,and_true→Qk,not_eq_true→Qv,false_and→Qx,and_false→Qy,true_and→QH,not_eq_true'→Q0,or_eq_false_iff→Ts,and_eq_false_iff→Vc,not_eq_false'→V0,false_or→Xr,true_or→Yc
open Classical renaming byContradiction→QR
open False renaming elim→QU
open Int renaming toNat_natCast→O0,emod_lt_of_pos→QO,eq_ofNat_of_zero_le→Q6,emod_nonneg→Rh,le_refl→UW,ediv_one→X4,le_trans→Yf
open Lean renaming mkIdent→VZ
open Lean.Macro renaming throwUnsupported→Xa
open List renaming getElem?_eq_getElem→gV,length_map→Oa,getD_eq_getElem?_getD→Oc,mem_map→Of,mem_singleton→Og,getElem?_eq_some_iff→Ol,map_cons→Oq,size_toArray→Ov,mem_cons→Ow,getElem?_map→Ox,range→Oy,map_map→Oz,length_cons→OB,getElem?_append_left→OC,take_length→OD,mem_of_getElem?→OG,mem_filter→OH,mem_append→OI,mem_cons_of_mem→OJ,getElem?_append_right→OP,mem_append_right→OT,nodup_cons→OW,map_append→OX,mem_cons_self→OY,mem_append_left→OZ,mem_iff_getElem→O1,getElem?_eq_none→O2,mem_range→O3,getElem_mem→O5,any_eq_true→O8,getElem?_set_ne→O_,length_take→Pd,all_eq_true→Pf,length_append→Pj,filterMap_cons→Pl,replicate→Pm,lookup_cons→Pu,find?_cons→Py,pairwise_cons→PD,length_set→PJ,getElem?_range→PN,filter_eq_self→PQ,length_zip→PZ,take_of_length_le→P0,not_mem_nil→P4,filter_cons→P5,map_congr_left→P8,getElem?_set→Qa,length_nil→Qf,ext_getElem?→Qo,append_nil→Qp,getElem?_toArray→Qs,sum_cons→Qw,nodup_nil→QB,nodup_append→QC,all_cons→QG,mem_flatMap→QJ,getElem?_take→QP,pairwise_iff_getElem→QQ,mem_of_find?_eq_some→QS,length_range→QY,append_assoc→QZ,any_cons→Q4,eq_nil_of_length_eq_zero→Q5,filter_sublist→Q7,length_pos_of_mem→Q9,zip_cons_cons→Ra,filter_append→Rb,forIn_cons→Rf,length_filter_le→Rj,foldl_append→Rp,mem_of_mem_take→Rv,getElem?_replicate→RH,find?_eq_none→RL,drop_of_length_le→RY,reverse_cons→R0,take_add_one→R1,flatMap_cons→R3,mem_iff_getElem?→R6,forIn_nil→R7,take_append_drop→R8,take_left→Sa,lookup_cons_self→Sb,mem_of_mem_drop→Sg,perm_cons_erase→Si,length_reverse→Sr,getElem?_cons_zero→SI,eraseIdx_cons_succ→SJ,getElem?_cons_succ→SK,findIdx?→SV,nodup_range→SY,filterMap_append→S8,map_nil→Tb,range_succ→Te,pairwise_append→Tf,find?_some→Th,mem_erase_of_ne→Tn,any_map→Tp,length→TF,mem_filterMap→TJ,getElem?_drop→TL,length_eraseIdx_of_lt→T2,perm_ext_iff_of_nodup→T5,getElem?_zip_eq_some→Ub,drop_eq_getElem_cons→Uc,length_erase_of_mem→Uq,flatMap_nil→Ut,length_eq_zero_iff→Uz,of_mem_zip→UC,foldl_cons→UG,getElem?_set_self→UK,range_succ_eq_map→UP,drop_eq_nil_of_le→UU,filter_eq_nil_iff→UX,length_replicate→U0,length_singleton→U1,mem_of_mem_erase→Vd,map_drop→Vp,mem_map_of_mem→Vw,getD_cons_succ→Vx,flatMap_append→Vy,filterMap_map→VE,all_map→VN,all_nil→V1,set_set→V2,getElem_take→V8,isEmpty_cons→Wd,drop_sublist→We,lookup→Wk,map_id→Wm,getElem_inj→Wn,length_drop→Wr,zipIdx_cons→Ws,getElem_zip→Wx,getElem_map→Wy,map_fst_zip→WA,isEmpty_nil→WB,map_reverse→WC,zipIdx_nil→WJ,count_cons→WV,map_take→Xm,map→Ye
open List.Nodup renaming length_le_of_subset→WK,mem_erase_iff→X8
open List.Pairwise renaming filter→YD,and→YY,map→Y0
open List.Perm renaming append_left→U9,of_eq→WL
open List.Sublist renaming refl→Wf
open Nat renaming le_refl→Oj,ne_of_lt→OE,lt_of_lt_of_le→ON,lt_irrefl→Pt,le_trans→PC,le_of_lt→Qb,ne_of_gt→Qc,zero_le→QF,min_self→QV,lt_succ_of_lt→Rn,le_of_eq→Ry,le_add_right→RF,le_succ→So,mod_lt→SG,min_eq_right→S7,sub_self→Ti,strongRecOn→Tj,zero_add→To,min_eq_left→Tq,mul_le_mul→TC,le_of_not_lt→Uh,lt_succ_self→Uj,lt_of_not_le→Um,not_lt_of_le→Us,eq_zero_of_not_pos→UT,lt_of_le_of_lt→VL,lt_of_lt_of_eq→VM,lt_trans→VX,lt_trichotomy→V9,succ_ne_self→Ww,le_antisymm→WS,pow_succ→X7,lt_or_ge→Yb,succ_mul→Yg
open Ne renaming symm→Qg
open Option renaming map_eq_some_iff→PB,bind_eq_some_iff→Qi,isSome_iff_exists→Rw,bind_some→Sk,getD_some→SW,isSome_map→T9,getD_none→Ug,map→YE
open Option.some renaming inj→OV,injEq→YZ
open Prod renaming snd→Uo,ext→Y1
open Prod.mk renaming inj→RX,injEq→Xt
open PyProof.Rows renaming callWith_type1→O6,slot_tuple_getitem→Pb,callWith_builtin1→Ta,entry_tuple_getitem→Tu,slicePart_none→Tw,args_tuple_getitem→TK,listItems_at→Ur,Call_→UB,entry_list_sort→UI,subscriptTail_builtinR→UN,slot_list_sort→U_,args_list_sort→Va,Subscript_→Vf,tupleItemsOf_→Vk,plain_sorted→VS,entry_sorted→VT,args_sorted1→VU,kind_sorted→Wl,boot_range→WG,list_sort_tree→W7,sortedHeap_old→W9,slicePart_int→Xe,sortedAll_old→Xk,sortedHeap_at→Xq,listUpdate_at→Xs
open PyProof.Rows.F renaming plain_set_update_loop→Qh,entry_set_update_loop→RJ
open PyProof.Rows.IsTup renaming new→VG
open PySem renaming wpAny_bind→ar,wpAny_pure→C0,wpAny_ite_false→Om,wpAny_holding→OO,wpAny_setState_of→OU,wpAny_field→O9,wpAny_callSpecial?_slot→Pc,wpAny_call_entry→Pe,wpAny_newObj_type→Pp,wpAny_ite_true→PH,mem_of_lookup→PM,wpAny_seqItems→PU,wpAny_setField_rec→PX,wpAny_mono→P9,wpAny_truthy_bool→P_,wpAny_typeOf→Qd,codeAny_builtin→Qr,wpAny_Call_Name_kw→Qt,wpAny_isInstance→Qu,wpAny_pyIter_tuple→QN,sizeLine_eq→QT,wpAny_passesOwn→Rc,builtinLookup_eq_fast→Rg,wpAny_pyIter_list→Ro,tupleKind_room_in1→RN,wpAny_of_eq→RV,wpAny_isSame_ref_self→R_,wpAny_askSetting→Sj,wpAny_attempt→Sm,plainId_quiet→Sn,typeLookup_type→Sv,wpAny_eqBool_tuple→SD,wpAny_pyIter_enum→SQ,wpAny_execs_nil→S_,wpAny_rule→Tc,wpAny_updateSeq_pair→Td,wpAny_letOwnedTupleGo_enum→TV,wpAny_onRaise→TX,wpAny_newList→T3,wpAny_sequenceKey→T7,call_meets→Ua,codeAny_mono→Ud,noFill_tuple_add→Ue,wpAny_comprehension_free→Uk,wpAny_forIn_list→Up,wpAny_specialOf→UH,wpAny_pyNext_list_item→UL,wpAny_Call_method_late→UQ,wpAny_pyNext_list_end→UY,wpAny_setField→U2,wpAny_newTuple→U3,isSubtype_stop→U4,hashByValue_scannable→U5,wpAny_runValue→U7,entryFor_alias→U8,wpAny_eqIsQuiet_tuple→Vb,wpAny_call→Ve,wpAny_standAt→Vi,seq_tuple_add→Vj,evalPart_none→Vm,concat_meets→VD,seqIndex_neg→VH,wpAny_pyHash_tuple→VW,sub_AttributeError→VY,wpAny_assign_Name→V3,slot_list_getitem→V7,wpAny_pyIter_slot→V_,wpAny_storeSet_of→Wa,seqIndex_of→Wg,wpAny_letGo→Wh,wpAny_execs_cons→Wo,entryFor_of_tree→Wt,wpAny_Name→WD,call→WI,codeAny_of_tree→WN,isSubtype_type→W5,wpAny_fieldsOf→W6,putSet_of→W_,rangeSize_one→Xc,intBits_le_64→Xd,evalPart_some→Xf,call_list_seq→Xg,wpAny_handled→Xi,wpAny_update'→Xn,signature?_of→Xp,Within→XM
open PySem.Around renaming under_plainId→QA
open PySem.AutoSeq1 renaming wpAny_loadPart'→RD
open PySem.Builtin renaming sorted→W8
open PySem.Builtin.Dict renaming updateFrom→Uy,selfAndRest→Yd,pairItems→Yk
open PySem.Builtin.Frozenset renaming newClass→T1,updateFrom→W4,isAnySet→Xo,sizeOf→X_,slot0→Yh
open PySem.Builtin.List renaming listTooLong→Rx,listExtendWith→Sf,listLengthHint→TQ
open PySem.Builtin.Range renaming rangeSize→Uv
open PySem.Builtin.Slice renaming slicePlaces→P6,sliceApplied→Rk,sliceAdjust→Su,sliceFields→T_,slicePartIndex→W2
open PySem.Builtin.SmallTypes renaming nextOf→OL,ownedTupleIsFree→Pa,ownedTupleHandOut→Sz
open PySem.Builtin.Tuple renaming tupleExact→PL,tupleItemsOf→Sl,tupleIsExact→TY,tupleHashOf→XJ
open PySem.Calls renaming spliced_cons→QK,callWith_builtin→Q8,evalArgs_plain→Ru,call_function_entry→Sx,Name_function_global→TU,spliced_nil→V6
open PySem.Challenge renaming rw_wishstrike_k27_whole_rows_and_other_wish→Q3,pw_wishstrike_k27_whole_rows_and_other_wish→Tt
open PySem.Code renaming quiet_builtin→VQ
open PySem.Data.seq renaming inj→Ya
open PySem.EqMixed renaming eq_bool_str→Xx,eq_str_bool→Xy,ne_bool_str→XD,ne_str_bool→XH,eq_int_str→XU,eq_str_int→XX,ne_int_str→X1,ne_str_int→X3
open PySem.EqNone renaming eq_none_none→Xu,eq_none_bool→Xv,eq_bool_none→Xw,ne_none_none→Xz,ne_none_bool→XB,ne_bool_none→XC,eq_none_int→XN,eq_none_str→XQ,eq_int_none→XR,eq_str_none→XW,ne_none_int→XY,ne_none_str→XZ,ne_int_none→X0,ne_str_none→X2
open PySem.F renaming slot_zip_next→QW,slot_tuple_iterator_next→Rm,called_set→RC,args_tuple_add_2→Sy,slot_list_getattribute→SE,entry_tuple_add→SH,slot_zip_getattribute→SN,args_zip_next_1→SR,slot_tuple_add→SU,entry_zip_next→SX,slot_dict_get→S9,args_tuple_iterator_next_1→Tx,entry_tuple_iterator_next→TN,plainAttrs_list→Uw,args_dict_get_3→Ux,entry_dict_get→US,args_list_extend_2→Vg,entry_list_extend→Vs,slot_list_extend→VJ,plain_set_new→WO,slot_set_iter→WQ
open PySem.Heap renaming get?_push_of_some→Od,lt_size→Ou,get?_push_size→OA,SameBut→OR,size_push→Qz,get?_update_self→QM,ExtBut→RU,IsTuple→Ul,get?_update_other→UO
open PySem.Heap.DictOf renaming new→WT
open PySem.Heap.IsSliceOf renaming new→VF
open PySem.Heap.SameBut renaming update→P7,refl→YX
open PySem.IsRange renaming new→Yi
open PySem.Manifest renaming sig_set_iterator→Sw,signature?→Vu
open PySem.Obj renaming mapSeq→Rt,putSet→RM,data_mapFields→VO
open PySem.Paired renaming length→TR,snoc→Yj
open PySem.PassesOwn renaming leaving→Wb,never→WU
open PySem.SeqAt renaming EqAt→SF,notIn_listAt→VI,in_listAt→WH
open PySem.SeqAt.EqAt renaming of_in1→SO,of_refs→TM,same→UD,int_str→Vz,str_int→VA,none_tuple→Yl,bool_tuple→Ym,tuple_list→Yn,tuple_none→Yo,tuple_bool→Yp,list_tuple→Yq,none_bool→Yr,bool_none→Ys,bool_bool→Yt,none_list→Yv,bool_list→Yw,int_tuple→Yx,str_tuple→Yy,tuple_int→Yz,tuple_str→YA,list_none→YB,list_bool→YC,none_int→YF,none_str→YG,bool_int→YH,bool_str→YI,int_none→YJ,int_bool→YK,str_none→YL,str_bool→YM,int_list→YN,str_list→YO,list_int→YQ,list_str→YR,int_int→YT,str_str→YU
open PySem.SeqAt.RcAt renaming lists_lengths→X5,tuples→YW,lists→Y2
open PySem.SeqAt.RcNeAt renaming lists_lengths→Xj,tuples→YS,lists→YV
open PySem.SetTable renaming bits→OK,turns→O4,runEnd→Pk,leap→Po,sizeAbove→Px,insertAt→PR,below→Qn,grown→R9,advance→Sh,sameMemory→Ss,layClean→SS,tooFull→S6,fill→TZ,fresh→U6,slot→Vn,fits→Vo,probeStart→Vt,gaveWay→Wv,relaid→WM,laid→Xl,has→X6,put→X9
open PySem.SetTable.below renaming go→T8
open PySem.SetTable.layClean renaming free→Pn
open PySem.SetTable.probe renaming go→Pg
open PySem.Shared renaming TypeIs→Vq,heap→Wj
open PySem.Str renaming ofString→OS
open PySem.StrLaws renaming seqIndex_nonneg→WW
open PySem.Value renaming isInt→Ql,isInt_shape→RZ,scannable→WR,isStrOf→Xb
open PySem.Value.ref renaming inj→T4
open PySem.W renaming Frag→Oh,kia_one→Qe,keepIn→R4,fnOf→R5,codeIn→Tv,methodObj→T6,instObj→UA,cellsFrom_some→UM,lookIn→UZ,kdu_collect→Vv,callWith_K→VC,kitx_list→V4,kitx_dict→V5,plainGet→Wq,kdl_dict→Wz,findIn→WY,kitOne→WZ,WalkO→Xh
open PySem.W.WShape renaming has→Yu
open PySem.Walks renaming list→Vh
open PySem.pickOrder renaming go→VR
open String renaming ofList→Vr
open Sum.inl renaming inj→Qm
set_option Elab.async false
set_option compiler.extract_closed false
set_option linter.all false
set_option maxRecDepth 100000
local macro_rules | `(⋯) => `(by omega)
namespace L2
open PySem PySem.Spec PyProof.Rows
noncomputable abbrev Key:=Sum Int Str
noncomputable def oy:Key->Value->Bool
 | .inl k,v=>Ql k v
 | .inr x,v=>Xb x v
noncomputable def Nt(w:World):Key->Int
 | .inl k=>hashInt k
 | .inr x=>hashStr w x
theorem bR:∀{k:Key}{v:Value},oy k v=true->(∃i t,k=Sum.inl i/\v=Value.int i t)\/(∃x t,k=Sum.inr x/\v=Value.str x t)
 | .inl i,v,h=>by
  obtain⟨t,e⟩:=RZ (k:=i) (v:=v) h;exact .inl ⟨i,t,rfl,e⟩
 | .inr x,v,h=>by
  obtain⟨t,e⟩:=Value.isStrOf_shape (x:=x) (v:=v) h;exact .inr ⟨x,t,rfl,e⟩
theorem BX(i:Int)(t:Tok):oy (.inl i) (.int i t)=true:=by simp[oy,Ql]
theorem BV(x:Str)(t:Tok):oy (.inr x) (.str x t)=true:=by simp[oy,Xb]
theorem Kk(a b:Int):decide ((Sum.inl a:Key)=Sum.inl b)=(a==b):=by
 by_cases e:a=b
 ·subst e;simp
 ·have h:¬(Sum.inl a:Key)=Sum.inl b:=λq=>e (Qm q);rw[Oo h];exact(QE.mpr e).symm
theorem JQ(a b:Str):decide ((Sum.inr a:Key)=Sum.inr b)=decide (a=b):=by
 by_cases e:a=b
 ·subst e;simp
 ·have h:¬(Sum.inr a:Key)=Sum.inr b:=λq=>e (Sum.inr.inj q);rw[Oo h,Oo e]
theorem K1(a:Int)(b:Str):decide ((Sum.inl a:Key)=Sum.inr b)=false:=Oo (λq=>nomatch q)
theorem K3(a:Str)(b:Int):decide ((Sum.inr a:Key)=Sum.inl b)=false:=Oo (λq=>nomatch q)
noncomputable def aK(prog:Program)(w:World):PySem.KeyKind prog w Key where
 is:=oy
 hash:=Nt w
 inj:=λv a b ha hb=>by
  rcases bR ha with⟨i,t,rfl,rfl⟩ |⟨x,t,rfl,rfl⟩
  ·rcases bR hb with⟨j,u,rfl,e⟩ |⟨y,u,rfl,e⟩
   ·injection e with e1 _;rw[e1]
   ·exact nomatch e
  ·rcases bR hb with⟨j,u,rfl,e⟩ |⟨y,u,rfl,e⟩
   ·exact nomatch e
   ·injection e with e1 _;rw[e1]
 byValue:=λk v h=>by
  rcases bR h with⟨i,t,rfl,rfl⟩ |⟨x,t,rfl,rfl⟩<;>rfl
 pyHash:=λhv h=>by
  rcases bR hv with⟨i,t,rfl,rfl⟩ |⟨x,t,rfl,rfl⟩
  ·exact wpAny_pyHash_int h
  ·exact wpAny_pyHash_str h
 eqBool:=λhu hv h=>by
  rcases bR hu with⟨i,t,rfl,rfl⟩ |⟨x,t,rfl,rfl⟩
  ·rcases bR hv with⟨j,u,rfl,rfl⟩ |⟨y,u,rfl,rfl⟩
   ·rw[Kk]at h;exact wpAny_eqBool_int h
   ·rw[K1]at h;exact Vz i t y u _ _ _ _ h
  ·rcases bR hv with⟨j,u,rfl,rfl⟩ |⟨y,u,rfl,rfl⟩
   ·rw[K3]at h;exact VA x t j u _ _ _ _ h
   ·rw[JQ]at h;exact wpAny_eqBool_str h
 «strs»:=λk x t v h=>by
  rcases bR h with⟨i,u,rfl,e⟩ |⟨y,u,rfl,e⟩
  ·exact nomatch e
  ·injection e with e1 _;subst e1;cases v<;>rfl
theorem xg(prog:Program)(w:World)(i:Int)(t:Tok):(aK prog w).is (.inl i) (.int i t)=true:=BX i t
theorem wX(prog:Program)(w:World)(x:Str)(t:Tok):(aK prog w).is (.inr x) (.str x t)=true:=BV x t
inductive V where
 |non |bl (b:Bool) |int (i:Int) |str (x:Str) |byt (b:Array UInt8) |flt (b:UInt64) |ref (a:Addr) |ty (n:String)
 deriving DecidableEq
def RelV:V->Value->Prop
 | .non,u=>u=Value.none
 | .bl b,u=>u=Value.bool b
 | .int i,u=>∃t,u=Value.int i t
 | .str x,u=>∃t,u=Value.str x t
 | .byt b,u=>∃t,u=Value.bytes b t
 | .flt b,u=>∃t,u=Value.float b t
 | .ref a,u=>u=Value.ref a
 | .ty n,u=>u=Value.type n
abbrev Vals:List V->List Value->Prop:=Paired RelV
theorem Vals.length{xs:List V}{us:List Value}(r:Vals xs us):xs.length=us.length:=TR r
theorem Vals.get:∀{xs:List V}{us:List Value}{i:Nat}{x:V},Vals xs us->xs[i]?=some x->∃u,us[i]?=some u/\RelV x u
 |_,_,_,_,.nil,e=>by simp at e
 |_,_,0,_,.cons r _,e=>by simp at e;subst e;exact⟨_,rfl,r⟩
 |_,_,i+1,x,.cons _ t,e=>by
  obtain⟨u,h1,h2⟩:=Vals.get (i:=i) (x:=x) t (by simpa using e);exact⟨u,by simpa using h1,h2⟩
theorem Vals.set{x:V}{u:Value}(r:RelV x u):∀{xs:List V}{us:List Value}(i:Nat),Vals xs us->Vals (xs.set i x) (us.set i u)
 |_,_,_,.nil=>.nil
 |_,_,0,.cons _ t=>.cons r t
 |_,_,i+1,.cons q t=>.cons q (Vals.set r i t)
theorem Vals.append:∀{xs ys:List V}{us ws:List Value},Vals xs us->Vals ys ws->Vals (xs++ys) (us++ws)
 |_,_,_,_,.nil,s=>s
 |_,_,_,_,.cons r t,s=>.cons r (Vals.append t s)
theorem Vals.take:∀{xs:List V}{us:List Value}(n:Nat),Vals xs us->Vals (xs.take n) (us.take n)
 |_,_,0,_=>.nil
 |_,_,_+1,.nil=>.nil
 |_,_,n+1,.cons r t=>.cons r (Vals.take n t)
theorem Vals.drop:∀{xs:List V}{us:List Value}(n:Nat),Vals xs us->Vals (xs.drop n) (us.drop n)
 |_,_,0,r=>r
 |_,_,_+1,.nil=>.nil
 |_,_,n+1,.cons _ t=>Vals.drop n t
def gF:Option V->Option Value->Prop
 |some v,some u=>RelV v u
 |none,none=>True
 |_,_=>False
def KV{y:Type}:List (y×V)->List (y×Value)->Prop:=Paired λ(p:y×V)(q:y×Value)=>p.1=q.1/\RelV p.2 q.2
noncomputable def kV:Key->V
 | .inl i=>.int i
 | .inr x=>.str x
inductive HO where
 |lst (xs:List V)
 |tup (xs:List V)
 |dK (kvs:List (Key×V)) |dT (kvs:List (List Key×V))
 |set (S:Int->Bool) (n:Nat)
 |ins (C dx:Addr) (fs:List (Str×V))
 |own (x:Addr)
 |xd (fs:List (Str×V))
 |met (f x:Addr)
 |rng (lo hi:Int)
 |frz (o:Obj) (u:HO)
 |tbl (ps:Array Value)
 |ext (φ:Heap->Prop)
noncomputable abbrev Hp:=Addr->Option HO
noncomputable def upd(H:Hp)(a:Addr)(o:HO):Hp:=λb=>if b=a then some o else H b
theorem ba{H:Hp}{a:Addr}{o:HO}:upd H a o a=some o:=by unfold upd;rw[Oe rfl]
theorem aw{H:Hp}{a b:Addr}{o:HO}(h:b≠a):upd H a o b=H b:=by unfold upd;rw[Ot h]
theorem MN{H:Hp}{a b:Addr}{o u:HO}(h:H a=some o)(h':H b=some u)(d:o≠u):a≠b:=by
 intro e;subst e;rw[h]at h';exact d (OV h')
theorem aT{H:Hp}{a b:Addr}{o:HO}(h:H a=some o)(h':H b=none):a≠b:=by
 intro e;subst e;rw[h]at h';cases h'
section
variable(P:Program)(w:World)
def aV(H:Hp)(h:Heap)(a:Addr):HO->Prop
 | .lst xs=>xs.length<=sizeLine/\∃(its:List Value)(n:Nat),Vals xs its/\h.get? a=some { cls:=.type "list",data:=.seq its.toArray n }
 | .tup xs=>xs.length<=sizeLine/\∃its:List Value,Vals xs its/\IsTup h a its.toArray
 | .dK kvs=>kvs.length<=sizeLine/\(a==sysModules)=false/\∃vs,KV kvs vs/\h.DictOf (aK P w) a vs
 | .dT kvs=>kvs.length<=sizeLine/\(a==sysModules)=false/\∃xs:List (List Key×Addr×Value),
   Paired (λ(p:List Key×V)(q:List Key×Addr×Value)=>p.1=q.1/\H q.2.1=some (.tup (p.1.map kV))/\RelV p.2 q.2.2) kvs xs /\
   ∃o es ep,h.get? a=some o/\o.ExactDict/\o.data=.dict es ep/\es.toList=xs.map (entryOfKey (tupleKind (aK P w)))/\(xs.map (·.1)).Nodup
 | .set S n=>h.SetOf (intKind P w) a S n
 | .ins C dx fs=>H dx=some (.own a)/\fs.length<=1000/\dx≠a/\h.get? a=some (UA C dx) /\
   ∃mA,h.Ns1 dx mA/\(∀f,gF (fs.lookup f) (mA f))/\XM mA (fs.map (·.1))
 | .own _=>∃o,h.get? a=some o
 | .xd fs=>∃mA,h.Ns1 a mA/\∀f,gF (fs.lookup f) (mA f)
 | .rng lo hi=>∃t u v,h.get? a=some { cls:=.type "range",data:=.fields #[.int lo t,.int hi u,.int 1 v] }
 | .frz o u=>h.get? a=some o/\aV H h a u
 | .tbl ps=>h.get? a=some { cls:=.none,data:=.fields ps }
 | .met f x=>h.get? a=some (T6 (.ref f) (.ref x))
 | .ext φ=>φ h/\(∃o,h.get? a=some o)/\∀h1 h2:Heap,φ h1->(∀o,h1.get? a=some o->h2.get? a=some o)->φ h2
def HOk(H:Hp)(h:Heap):Prop:=∀a o,H a=some o->aV P w H h a o
end
section
variable{P:Program}{w:World}{H H':Hp}{h h':Heap}{a:Addr}{o:HO}
theorem aV.lt(x:aV P w H h a o):a<h.objs.size:=by
 cases o with
 |lst xs=>obtain⟨_,_,_,_,e⟩:=x;exact Ou e
 |tup xs=>obtain⟨_,_,_,p⟩:=x;exact p.lt
 |dK kvs=>obtain⟨_,_,_,_,o,_,_,e,_⟩:=x;exact Ou e
 |dT kvs=>obtain⟨_,_,_,_,o,_,_,e,_⟩:=x;exact Ou e
 |set S n=>obtain⟨o,_,_,_,e,_⟩:=x;exact Ou e
 |ins C dx fs=>obtain⟨_,_,_,e,_⟩:=x;exact Ou e
 |own y=>obtain⟨_,e⟩:=x;exact Ou e
 |xd fs=>obtain⟨_,⟨_,_,_,e,_⟩,_⟩:=x;exact Ou e
 |rng lo hi=>obtain⟨_,_,_,e⟩:=x;exact Ou e
 |frz ob u=>obtain⟨e,_⟩:=x;exact Ou e
 |tbl ps=>exact Ou (show h.get? a=some _ from x)
 |met f y=>exact Ou (show h.get? a=some _ from x)
 |ext φ=>obtain⟨_,⟨_,e⟩,_⟩:=x;exact Ou e
theorem Paired.C2{α m:Type}{F G:α->m->Prop}:∀{l₁:List α}{l₂:List m},Paired F l₁ l₂->(∀a b,F a b->G a b)->Paired G l₁ l₂
 |_,_,.nil,_=>.nil
 |_,_,.cons r t,f=>.cons (f _ _ r) (Paired.C2 t f)
theorem aV.gD(x:aV P w H h a o)(k:∀b u,(b=a\/H b=some (.own a))->h.get? b=some u->h'.get? b=some u)
  (ho:∀b,H b=some (.own a)->H' b=some (.own a)) (ht:∀b xs,H b=some (.tup xs)->H' b=some (.tup xs)):aV P w H' h' a o:=by
 induction o with
 |lst xs=>obtain⟨z,its,n,r,e⟩:=x;exact⟨z,its,n,r,k _ _ (.inl rfl) e⟩
 |tup xs=>obtain⟨z,its,r,ob,e,c⟩:=x;exact⟨z,its,r,ob,k _ _ (.inl rfl) e,c⟩
 |dK kvs=>obtain⟨z,y,vs,r,ob,es,ep,e,c⟩:=x;exact⟨z,y,vs,r,ob,es,ep,k _ _ (.inl rfl) e,c⟩
 |dT kvs=>
  obtain⟨z,y,xs,r,ob,es,ep,e,c⟩:=x;exact⟨z,y,xs,Paired.C2 r λp q z=>⟨z.1,ht _ _ z.2.1,z.2.2⟩,ob,es,ep,k _ _ (.inl rfl) e,c⟩
 |set S n=>obtain⟨ob,es,ep,t,e,c⟩:=x;exact⟨ob,es,ep,t,k _ _ (.inl rfl) e,c⟩
 |ins C dx fs=>
  obtain⟨d,z,ne,e,mA,⟨od,es,ep,e2,c⟩,r⟩:=x;exact⟨ho _ d,z,ne,k _ _ (.inl rfl) e,mA,⟨od,es,ep,k _ _ (.inr d) e2,c⟩,r⟩
 |own y=>obtain⟨ob,e⟩:=x;exact⟨ob,k _ _ (.inl rfl) e⟩
 |xd fs=>obtain⟨mA,⟨od,es,ep,e,c⟩,r⟩:=x;exact⟨mA,⟨od,es,ep,k _ _ (.inl rfl) e,c⟩,r⟩
 |rng lo hi=>obtain⟨t,u,v,e⟩:=x;exact⟨t,u,v,k _ _ (.inl rfl) e⟩
 |frz ob u ih=>obtain⟨e,q⟩:=x;exact⟨k _ _ (.inl rfl) e,ih q⟩
 |tbl ps=>
  have e:h.get? a=some { cls:=.none,data:=.fields ps }:=x;show h'.get? a=some { cls:=.none,data:=.fields ps };exact k a _ (.inl rfl) e
 |met f y=>
  have e:h.get? a=some (T6 (.ref f) (.ref y)):=x;show h'.get? a=some (T6 (.ref f) (.ref y));exact k a _ (.inl rfl) e
 |ext φ=>obtain⟨p,⟨o,e⟩,st⟩:=x;exact⟨st _ _ p λo q=>k _ _ (.inl rfl) q,⟨o,k _ _ (.inl rfl) e⟩,st⟩
theorem HOk.lt(x:HOk P w H h)(e:H a=some o):a<h.objs.size:=(x a o e).lt
theorem HOk.fresh(x:HOk P w H h)(e:h.objs.size<=a):H a=none:=by
 cases q:H a with
 |none=>rfl
 |some u=>exact absurd (ON (x.lt q) e) (Pt _)
theorem HOk.kept(x:HOk P w H h)(k:∀b u,h.get? b=some u->h'.get? b=some u):HOk P w H h':=λa o e=>
 (x a o e).gD (λb u _ q=>k b u q) (λ_ q=>q) λ_ _ q=>q
theorem HOk.laid(x:HOk P w H h)(k:∀b u,h.get? b=some u->h'.get? b=some u)(hp:h.objs.size<=a)(new:aV P w (upd H a o) h' a o):HOk P w (upd H a o) h':=λb u e=>by
 have hn:=x.fresh hp;by_cases hb:b=a
 ·subst hb;rw[ba]at e;cases e;exact new
 ·rw[aw hb]at e;exact(x b u e).gD (λc v _ q=>k c v q) (λc q=>by rw[aw (aT q hn)];exact q) λc xs q=>by rw[aw (aT q hn)];exact q
end
def Rd(H:Hp)(a:Addr)(u:HO):Prop:=H a=some u\/∃o,H a=some (.frz o u)
theorem Rd.ok{P:Program}{w:World}{H:Hp}{h:Heap}{a:Addr}{u:HO}(r:Rd H a u)(x:HOk P w H h):aV P w H h a u:=by
 rcases r with r |⟨o,r⟩
 ·exact x a u r
 ·obtain⟨_,q⟩:=x a _ r;exact q
def Mut:Option HO->Prop
 |some (.lst _)=>True
 |some (.dK _)=>True
 |some (.dT _)=>True
 |some (.set _ _)=>True
 |some (.ins _ _ _)=>True
 |some (.ext _)=>True
 |_=>False
section
variable{P:Program}{w:World}{H:Hp}{h h':Heap}{x e:Addr}{o':HO}
theorem HOk.write(ok:HOk P w H h)(mu:Mut (H x))(he:e=x\/H e=some (.own x))(k:∀b u,b≠e->h.get? b=some u->h'.get? b=some u)(heo:∃u,h'.get? e=some u)
  (new:aV P w (upd H x o') h' x o'):HOk P w (upd H x o') h':=λb u q=>by
 have nown:∀c y,H c=some (.own y)->c≠x:=λc y r z=>by subst z;rw[r]at mu;exact mu
 have ntup:∀c xs,H c=some (.tup xs)->c≠x:=λc xs r z=>by subst z;rw[r]at mu;exact mu
 by_cases hb:b=x
 ·subst hb;rw[ba]at q;cases q;exact new
 ·rw[aw hb]at q;by_cases hbe:b=e
  ·have q':H b=some (.own x):=by
    rcases he with z |z
    ·exact absurd (hbe.trans z) hb
    ·rw[hbe];exact z
   rw[q]at q';cases q';obtain⟨v,hv⟩:=heo;exact⟨v,by rw[hbe];exact hv⟩
  ·refine(ok b u q).gD (λc v hc r=>k c v ?_ r) (λc r=>by rw[aw (nown c b r)];exact r) λc xs r=>by rw[aw (ntup c xs r)];exact r
   rcases hc with rfl |hc
   ·exact hbe
   ·rintro rfl;rcases he with z |z
    ·exact nown c b hc z
    ·rw[hc]at z;cases z;exact hb rfl
end
structure Un(fs ex:List Addr)(H H':Hp)(h h':Heap):Prop where
 keep:∀b o,h.get? b=some o->H b=none->b∉fs->b∉ex->h'.get? b=some o
 slot:∀b o,h.get? b=some o->H b=none->b∈fs->b∉ex->∃sl,h'.get? b=some { o with slots:=sl }
 free:∀b o,h.get? b=some o->H b=none->b∉ex->H' b=none
 there:∀b o,h.get? b=some o->b∉ex->∃o',h'.get? b=some o'
 tups:∀b xs,H b=some (.tup xs)->H' b=some (.tup xs)
 frzs:∀b o u,H b=some (.frz o u)->H' b=some (.frz o u)
 tbls:∀b ps,H b=some (.tbl ps)->∃more,H' b=some (.tbl (ps++more))
section
variable{fs fs' ex ex':List Addr}{H H1 H2:Hp}{h h1 h2 h':Heap}{a x e:Addr}{o:HO}
theorem Un.any(u:Un fs ex H H1 h h1){b:Addr}{ob:Obj}(q:h.get? b=some ob)(n:H b=none)(hx:b∉ex):∃sl,h1.get? b=some { ob with slots:=sl }:=by
 by_cases hb:b∈fs
 ·exact u.slot b ob q n hb hx
 ·exact⟨ob.slots,u.keep b ob q n hb hx⟩
theorem Un.kept(k:∀b u,h.get? b=some u->h'.get? b=some u):Un fs ex H H h h':=
 ⟨λb ob q _ _ _=>k b ob q,λb ob q _ _ _=>⟨ob.slots,k b ob q⟩,λ_ _ _ n _=>n,λb ob q _=>⟨ob,k b ob q⟩,λ_ _ q=>q,λ_ _ _ q=>q,λ_ ps q=>⟨#[],by rw[q];simp⟩⟩
theorem Un.refl:Un fs ex H H h h:=Un.kept λ_ _ q=>q
theorem Un.laid(k:∀b u,h.get? b=some u->h'.get? b=some u)(hp:h.objs.size<=a)(hn:H a=none):Un fs ex H (upd H a o) h h' where
 keep:=λb u q _ _ _=>k b u q
 slot:=λb u q _ _ _=>⟨u.slots,k b u q⟩
 free:=λb u q n _=>by rw[aw (OE (ON (Ou q) hp))];exact n
 there:=λb u q _=>⟨u,k b u q⟩
 tups:=λb xs q=>by rw[aw (aT q hn)];exact q
 frzs:=λb u xs q=>by rw[aw (aT q hn)];exact q
 tbls:=λb ps q=>⟨#[],by rw[aw (aT q hn),q];simp⟩
theorem Un.write(mu:Mut (H x))(he:e=x\/H e=some (.own x))(k:∀b u,b≠e->h.get? b=some u->h'.get? b=some u)(heo:∃u,h'.get? e=some u):Un fs ex H (upd H x o) h h':=by
 have hx:∀b,H b=none->b≠x:=λb n z=>by subst z;rw[n]at mu;exact mu
 have hb:∀b,H b=none->b≠e:=λb n z=>by
  subst z;rcases he with r |r
  ·exact hx b n r
  ·rw[n]at r;cases r
 have hm:∀b u,H b=some u->¬Mut (some u)->b≠x:=λb u q nm z=>by subst z;rw[q]at mu;exact nm mu
 refine⟨λb u q n _ _=>k b u (hb b n) q,λb u q n _ _=>⟨u.slots,k b u (hb b n) q⟩,λb u q n _=>by rw[aw (hx b n)];exact n,λb u q _=>?_,
  λb xs q=>by rw[aw (hm b _ q λz=>z)];exact q,λb u xs q=>by rw[aw (hm b _ q λz=>z)];exact q,λb ps q=>⟨#[],by rw[aw (hm b _ q λz=>z),q];simp⟩⟩
 by_cases hbe:b=e
 ·subst hbe;exact heo
 ·exact⟨u,k b u hbe q⟩
end
noncomputable def trk(h:Heap)(H:Hp):List Addr:=(Oy h.objs.size).filter λa=>(H a).isSome
noncomputable def lY(h:Heap)(H:Hp):Heap:=PySem.W.hideAll h (trk h H)
theorem AR(h:Heap)(H:Hp):(lY h H).objs.size=h.objs.size:=PySem.W.hideAll_size _ _
theorem Dk{h:Heap}{H:Hp}{b:Addr}{o:Obj}(e:h.get? b=some o)(n:H b=none):(lY h H).get? b=some o:=
 PySem.W.hideAll_get _ e λhm=>by
  have q:(H b).isSome=true:=(OH.mp hm).2;rw[n]at q;simp at q
theorem GI{h:Heap}{H:Hp}{b:Addr}{o:Obj}(e:(lY h H).get? b=some o):h.get? b=some o/\H b=none:=by
 have e':h.get? b=some o:=PySem.W.of_hideAll (trk h H) e;refine⟨e',?_⟩;cases q:H b with
 |none=>rfl
 |some x=>
  have hm:b∈trk h H:=OH.mpr ⟨O3.mpr (Ou e'),by simp[q]⟩;have z:(lY h H).get? b=none:=PySem.W.hideAll_none (trk h H) hm;rw[z]at e;cases e
noncomputable def FL(g h:Heap)(L:Addr):List (Addr×Obj):=(Oy h.objs.size).filterMap λa=>if a=L\/(g.get? a).isSome=true then none else(h.get? a).map λo=>(a,o)
noncomputable def rest(g h:Heap)(L d:Addr):List (Addr×Obj):=(FL g h L).filter λp=>decide (p.1≠d)
structure Mod(K:Oh)(mg:Str->Option Value)(base:Heap):Prop where
 kin:K.In base
 glob:base.Ns mainGlobals mg
 blt:∃mb,base.Ns builtinsNs mb/\∀x:Str,x≠"__name__"->mb x=bootBuiltins x
 nolimit:base.NoLimit
structure Cx where
 prog:Program
 w:World
 K:Oh
 mg:Str->Option Value
 base:Heap
 A:Around
 N:List Str
 s₀:Shared
 H₀:Hp
 env:Env
 outer:List Env
 stack:List Env
 ex:List Addr
 fn:Str->Bool
 calm:Bool
 pn:List (Addr×Obj)
 xe:Value->Shared->Prop
noncomputable def frs(l:List Env):List Addr:=l.filterMap (·.frame)
noncomputable abbrev Cx.fs(X:Cx):List Addr:=frs X.outer
def Vis(sc:Scope)(x:Str):Prop:=sc.names.lookup x=some .local\/sc.names.lookup x=some .cell\/sc.names.lookup x=some .free
def Loc(sc:Scope)(x:Str):Prop:=sc.names.lookup x=some .local\/sc.names.lookup x=some .cell
def Look(env:Env)(h:Heap)(m:Str->Option Value)(x:Str)(u:Value):Prop:=
 (env.kindOf x=some .local/\m x=some u)\/((env.kindOf x=some .cell\/env.kindOf x=some .free)/\∃c,env.cells.lookup x=some c/\h.IsCell c (some u))
structure Cx.Ok(X:Cx):Prop where
 mod:Mod X.K X.mg X.base
 kind:X.env.scope.kind=.function
 glob:X.env.globals=mainGlobals
 blt:X.env.builtins=builtinsNs
 above:X.s₀.heap.objs.size<=X.env.locals
 inj:∀x y c,X.env.cells.lookup x=some c->X.env.cells.lookup y=some c->x=y
 has:∀x,(X.env.kindOf x=some .cell\/X.env.kindOf x=some .free)->∃c,X.env.cells.lookup x=some c
 cab:∀x c,X.fn x=true->X.env.cells.lookup x=some c->X.s₀.heap.objs.size<=c
 hd:X.calm=true->X.A.handled=none
 frames:X.A.frames=some X.stack
 stk:X.stack=X.outer\/(X.stack=X.env::X.outer/\X.env.frame=some X.env.locals)
 exf:∀b∈X.ex,b≠X.env.locals/\∀x c,X.env.cells.lookup x=some c->c≠b
 bs:∀b o,X.base.get? b=some o->X.s₀.heap.get? b=some o/\X.H₀ b=none
 bsz:X.base.objs.size<=X.s₀.heap.objs.size
 noex:∀b o,X.base.get? b=some o->b∉X.ex
 exfs:∀b∈X.ex,b∉X.fs
 jf:X.s₀.heap.FunFrames X.base X.outer
 frf:∀b∈X.fs,X.H₀ b=none
structure Inv(X:Cx)(pins:List (Addr×Obj))(σ:List (Option V))(H:Hp)(s:Shared):Prop where
 ok:X.Ok
 os:s.os=X.s₀.os
 bare:AllBare s.gens
 base:Un X.fs X.ex X.H₀ H X.s₀.heap s.heap
 loc:∃m,s.heap.Ns X.env.locals m/\∀(i:Nat)(x:Str)(v:V),X.N[i]?=some x->σ[i]?=some (some v)->Vis X.env.scope x->∃u,RelV v u/\Look X.env s.heap m x u
 cell:∀x c,X.env.cells.lookup x=some c->∃v,s.heap.IsCell c v
 free:H X.env.locals=none
 freeC:∀x c,X.env.cells.lookup x=some c->H c=none
 pin:∀p∈X.pn++pins,s.heap.get? p.1=some p.2/\H p.1=none/\p.1≠X.env.locals/\p.1∉X.fs/\∀v,p.2.data≠.cell v
 hok:HOk X.prog X.w H s.heap
 len:σ.length=X.N.length
section
variable{X:Cx}{pins:List (Addr×Obj)}{σ:List (Option V)}{H H':Hp}{s:Shared}{h':Heap}
theorem Cx.Ok.NA(ok:X.Ok){b:Addr}{o:Obj}(e:X.base.get? b=some o):b∉X.fs:=λhb=>by
 have:=(ok.jf.mem hb).1;rw[e]at this;cases this
theorem Inv.bs(I:Inv X pins σ H s):∀b o,X.base.get? b=some o->s.heap.get? b=some o/\H b=none:=λb o e=>
 ⟨I.base.keep b o (I.ok.bs b o e).1 (I.ok.bs b o e).2 (I.ok.NA e) (I.ok.noex b o e),I.base.free b o (I.ok.bs b o e).1 (I.ok.bs b o e).2 (I.ok.noex b o e)⟩
theorem Inv.bk(I:Inv X pins σ H s):∀b o,X.base.get? b=some o->s.heap.get? b=some o:=λb o e=>(I.bs b o e).1
theorem Inv.mod(I:Inv X pins σ H s):Mod X.K X.mg X.base:=I.ok.mod
theorem Inv.kIn(I:Inv X pins σ H s):X.K.In s.heap:=I.ok.mod.kin.keeps I.bk
theorem Inv.lt(I:Inv X pins σ H s):X.env.locals<s.heap.objs.size:=let⟨_,hn,_⟩:=I.loc;hn.lt
theorem Inv.sz(I:Inv X pins σ H s):X.s₀.heap.objs.size<=s.heap.objs.size:=PC I.ok.above (Qb I.lt)
theorem Inv.IW(I:Inv X pins σ H s){a:Addr}(h:s.heap.objs.size<=a):a∉X.fs:=λhb=>by
 obtain⟨_,o,ho,_⟩:=I.ok.jf.mem hb;exact absurd (ON (Ou ho) (PC I.sz h)) (Pt _)
theorem Inv.cne(I:Inv X pins σ H s):∀x c,X.env.cells.lookup x=some c->c≠X.env.locals:=λx c e z=>by
 obtain⟨v,o,ho,hd⟩:=I.cell x c e;obtain⟨m,⟨o',es,ep,ho',hd',_⟩,_⟩:=I.loc;rw[z,ho']at ho;cases ho;rw[hd']at hd;cases hd
theorem Inv.jf(I:Inv X pins σ H s):s.heap.FunFrames X.base X.outer:=by
 have all:∀(l:List Env),(∀b∈frs l,b∈X.fs)->X.s₀.heap.FunFrames X.base l->s.heap.FunFrames X.base l:=by
  intro l
  induction l with
  |nil=>intro _ _;trivial
  |cons env r ih=>
   intro hs hl;obtain⟨hk,⟨L,o,hf,hn,ho,hd⟩,hr⟩:=hl;have hL:L∈X.fs:=hs L (by unfold frs;rw[Pl,hf];exact OY);obtain⟨sl,e⟩:=I.base.slot L o ho (I.ok.frf L hL) hL λz=>I.ok.exfs L z hL;exact⟨hk,⟨L,_,hf,hn,e,hd⟩,ih (λb hb=>hs b (by unfold frs;rw[Pl,hf];exact OJ _ hb)) hr⟩
 exact all X.outer (λ_ hb=>hb) I.ok.jf
theorem Inv.stack(I:Inv X pins σ H s):s.heap.FunFrames X.base X.stack:=by
 rcases I.ok.stk with e |⟨e,hf⟩
 ·rw[e];exact I.jf
 ·rw[e];obtain⟨m,hn,_⟩:=I.loc;refine .cons (by rw[I.ok.kind];decide) hf hn ?_ I.jf;exact Heap.get?_none_of_le (PC I.ok.bsz I.ok.above)
theorem Inv.pQ(I:Inv X pins σ H s):∀b∈frs X.stack,b∈X.env.locals::X.fs:=λb hb=>by
 rcases I.ok.stk with e |⟨e,hf⟩
 ·rw[e]at hb;exact OJ _ hb
 ·rw[e]at hb;unfold frs at hb;rw[Pl,hf]at hb;exact hb
theorem Inv.xI(I:Inv X pins σ H s):∀b∈frs X.stack,H b=none:=λb hb=>by
 rcases Ow.mp (I.pQ b hb)with e |hb
 ·rw[e];exact I.free
 ·obtain⟨_,o,ho,_⟩:=I.ok.jf.mem hb;exact I.base.free b o ho (I.ok.frf b hb) λz=>I.ok.exfs b z hb
theorem Inv.step{g':Array GenState}{t':Nat}{d':Drawn}{ch:List Addr}(I:Inv X pins σ H s)
  (hch:∀b∈ch,(b∈X.ex\/X.s₀.heap.objs.size<=b)/\b≠X.env.locals/\(∀x c,X.env.cells.lookup x=some c->c≠b)/\∀p∈X.pn++pins,p.1≠b)
  (keep:∀b o,b≠X.env.locals->b∉X.fs->b∉ch->s.heap.get? b=some o->H b=none->h'.get? b=some o)
  (slot:∀b o,b≠X.env.locals->b∈X.fs->b∉ch->s.heap.get? b=some o->H b=none->∃sl,h'.get? b=some { o with slots:=sl }) (free:∀b o,b∉ch->s.heap.get? b=some o->H b=none->H' b=none)
  (there:∀b o,b∉ch->s.heap.get? b=some o->∃o',h'.get? b=some o')
  (tups:∀b xs,H b=some (.tup xs)->H' b=some (.tup xs)) (frzs:∀b o u,H b=some (.frz o u)->H' b=some (.frz o u)) (tbls:∀b ps,H b=some (.tbl ps)->∃more,H' b=some (.tbl (ps++more)))
  (ns:∀m,s.heap.Ns X.env.locals m->h'.Ns X.env.locals m) (hok:HOk X.prog X.w H' h') (hg:AllBare g') :
  Inv X pins σ H' { s with heap:=h',gens:=g',drawn:=d',toks:=t' }:=by
 have neL:∀b o,X.s₀.heap.get? b=some o->b≠X.env.locals:=λb o e=>OE (ON (Ou e) I.ok.above);have neC:∀b o,X.s₀.heap.get? b=some o->b∉X.ex->b∉ch:=λb o e hx hb=>by
  rcases(hch b hb).1 with z |z
  ·exact hx z
  ·exact absurd (ON (Ou e) z) (Pt _)
 have cellK:∀x c,X.env.cells.lookup x=some c->∀v,s.heap.IsCell c v->h'.IsCell c v:=λx c e v ⟨o,ho,hd⟩=>by
  have nch:c∉ch:=λz=>(hch c z).2.2.1 x c e rfl;by_cases hc:c∈X.fs
  ·obtain⟨sl,q⟩:=slot c o (I.cne x c e) hc nch ho (I.freeC x c e);exact⟨_,q,hd⟩
  ·exact⟨o,keep c o (I.cne x c e) hc nch ho (I.freeC x c e),hd⟩
 refine⟨I.ok,I.os,hg,⟨λb o e n hb hx=>?_,λb o e n hb hx=>?_,λb o e n hx=>?_,λb o e hx=>?_,λb xs e=>tups b xs (I.base.tups b xs e),λb o xs e=>frzs b o xs (I.base.frzs b o xs e),λb ps e=>?_⟩,?_,λx c e=>?_,?_,λx c e=>?_,λp hp=>?_,hok,I.len⟩
 ·exact keep b o (neL b o e) hb (neC b o e hx) (I.base.keep b o e n hb hx) (I.base.free b o e n hx)
 ·obtain⟨sl,e1⟩:=I.base.slot b o e n hb hx;obtain⟨sl',e2⟩:=slot b _ (neL b o e) hb (neC b o e hx) e1 (I.base.free b o e n hx);exact⟨sl',e2⟩
 ·obtain⟨o',e1⟩:=I.base.there b o e hx;exact free b o' (neC b o e hx) e1 (I.base.free b o e n hx)
 ·obtain⟨o',e1⟩:=I.base.there b o e hx;exact there b o' (neC b o e hx) e1
 ·obtain⟨m1,e1⟩:=I.base.tbls b ps e;obtain⟨m2,e2⟩:=tbls b _ e1;exact⟨m1++m2,by rw[e2,Array.append_assoc]⟩
 ·obtain⟨m,hn,hl⟩:=I.loc;refine⟨m,ns m hn,λi x v e1 e2 e3=>?_⟩;obtain⟨u,r,l⟩:=hl i x v e1 e2 e3;refine⟨u,r,?_⟩;rcases l with l |⟨k,c,e,z⟩
  ·exact .inl l
  ·exact .inr ⟨k,c,e,cellK x c e _ z⟩
 ·obtain⟨v,z⟩:=I.cell x c e;exact⟨v,cellK x c e v z⟩
 ·obtain⟨m,⟨o,_,_,ho,_⟩,_⟩:=I.loc;exact free _ o (λz=>(hch _ z).2.1 rfl) ho I.free
 ·obtain⟨v,o,ho,hd⟩:=I.cell x c e;exact free c o (λz=>(hch c z).2.2.1 x c e rfl) ho (I.freeC x c e)
 ·obtain⟨e,n,ne,nf,d⟩:=I.pin p hp;have nch:p.1∉ch:=λz=>(hch p.1 z).2.2.2 p hp rfl;exact⟨keep p.1 p.2 ne nf nch e n,free p.1 p.2 nch e n,ne,nf,d⟩
theorem Inv.un{t':Nat}(I:Inv X pins σ H s)(u:Un X.fs [] H H' s.heap h')(hok:HOk X.prog X.w H' h'):Inv X pins σ H' { s with heap:=h',toks:=t' }:=by
 obtain⟨m,⟨o,es,ep,ho,r⟩,_⟩:=id I.loc;obtain⟨sl,hL⟩:=u.any ho I.free (by simp);exact I.step (g':=s.gens) (d':=s.drawn) (ch:=[]) (λ_ z=>nomatch z) (λb o _ hb _ e n=>u.keep b o e n hb (by simp)) (λb o _ hb _ e n=>u.slot b o e n hb (by simp)) (λb o _ e n=>u.free b o e n (by simp)) (λb o _ e=>u.there b o e (by simp)) u.tups u.frzs u.tbls (λm' hm=>by
  obtain⟨o',es',ep',ho',r'⟩:=hm;rw[ho]at ho';cases ho';exact⟨_,es',ep',hL,r'⟩) hok I.bare
theorem Inv.call{g':Array GenState}{t':Nat}{d':Drawn}{ch:List Addr}(I:Inv X pins σ H s)(u:Un (frs X.stack) ch H H' s.heap h')(hok:HOk X.prog X.w H' h')(hg:AllBare g')
  (hch:∀b∈ch,(b∈X.ex\/X.s₀.heap.objs.size<=b)/\b≠X.env.locals/\(∀x c,X.env.cells.lookup x=some c->c≠b)/\∀p∈X.pn++pins,p.1≠b) :
  Inv X pins σ H' { s with heap:=h',gens:=g',drawn:=d',toks:=t' }:=by
 obtain⟨m,⟨o,es,ep,ho,r⟩,_⟩:=id I.loc;obtain⟨sl,hL⟩:=u.any ho I.free λz=>(hch _ z).2.1 rfl;exact I.step (ch:=ch) hch (λb o hL hb hc e n=>u.keep b o e n (λz=>(Ow.mp (I.pQ b z)).elim hL hb) hc) (λb o _ _ hc e n=>u.any e n hc) (λb o hc e n=>u.free b o e n hc) (λb o hc e=>u.there b o e hc) u.tups u.frzs u.tbls (λm' hm=>by
  obtain⟨o',es',ep',ho',r'⟩:=hm;rw[ho]at ho';cases ho';exact⟨_,es',ep',hL,r'⟩) hok hg
theorem Inv.turned{t':Nat}{it:Addr}(I:Inv X pins σ H s)(k:∀b o,b≠it->s.heap.get? b=some o->h'.get? b=some o)(hn:H it=none)(hL:it≠X.env.locals)
  (h1:it∈X.ex\/X.s₀.heap.objs.size<=it) (h2:∀x c,X.env.cells.lookup x=some c->c≠it) (h3:∀p∈X.pn++pins,p.1≠it):Inv X pins σ H { s with heap:=h',toks:=t' }:=by
 have nit:∀b u,H b=some u->b≠it:=λb u e z=>by rw[z,hn]at e;cases e
 refine I.step (g':=s.gens) (d':=s.drawn) (ch:=[it]) (λb hb=>?_) (λb o _ _ hc e _=>k b o (λz=>hc (by simp[z])) e) (λb o _ _ hc e _=>⟨o.slots,k b o (λz=>hc (by simp[z])) e⟩) (λ_ _ _ _ n=>n)
  (λb o hc e=>⟨o,k b o (λz=>hc (by simp[z])) e⟩) (λ_ _ e=>e) (λ_ _ _ e=>e) (λb ps e=>⟨#[],by rw[e];simp⟩) (λm hm=>?_) (λb u e=>?_) I.bare
 ·have e:b=it:=by simpa using hb
  subst e;exact⟨h1,hL,h2,h3⟩
 ·obtain⟨o,es,ep,ho,r⟩:=hm;exact⟨o,es,ep,k _ o (Qg hL) ho,r⟩
 ·refine(I.hok b u e).gD (λc v hc q=>k c v ?_ q) (λ_ q=>q) λ_ _ q=>q;rcases hc with z |z
  ·rw[z];exact nit b u e
  ·exact nit c _ z
theorem Inv.tok(I:Inv X pins σ H s)(t:Nat):Inv X pins σ H { s with toks:=t }:=I.un (h':=s.heap) (t':=t) Un.refl I.hok
theorem Inv.kept{t':Nat}(I:Inv X pins σ H s)(k:∀b u,s.heap.get? b=some u->h'.get? b=some u):Inv X pins σ H { s with heap:=h',toks:=t' }:=I.un (Un.kept k) (I.hok.kept k)
theorem Inv.laid{a:Addr}{o:HO}{t':Nat}(I:Inv X pins σ H s)(k:∀b u,s.heap.get? b=some u->h'.get? b=some u)(hp:s.heap.objs.size<=a)(new:aV X.prog X.w (upd H a o) h' a o) :
  Inv X pins σ (upd H a o) { s with heap:=h',toks:=t' }:=I.un (Un.laid k hp (I.hok.fresh hp)) (I.hok.laid k hp new)
theorem Inv.write{x e:Addr}{o:HO}{t':Nat}(I:Inv X pins σ H s)(mu:Mut (H x))(he:e=x\/H e=some (.own x))(k:∀b u,b≠e->s.heap.get? b=some u->h'.get? b=some u)(heo:∃u,h'.get? e=some u)
  (new:aV X.prog X.w (upd H x o) h' x o):Inv X pins σ (upd H x o) { s with heap:=h',toks:=t' }:=I.un (Un.write mu he k heo) (I.hok.write mu he k heo new)
theorem Inv.rM{pins':List (Addr×Obj)}(I:Inv X pins σ H s)(h:∀p∈pins',s.heap.get? p.1=some p.2/\H p.1=none/\p.1≠X.env.locals/\p.1∉X.fs/\∀v,p.2.data≠.cell v):Inv X pins' σ H s:=
 ⟨I.ok,I.os,I.bare,I.base,I.loc,I.cell,I.free,I.freeC,λp hp=>(OI.mp hp).elim (λz=>I.pin p (OZ _ z)) (h p),I.hok,I.len⟩
theorem vT{N:List Str}(hN:N.Nodup){i j:Nat}{x:Str}(a:N[i]?=some x)(b:N[j]?=some x):i=j:=by
 obtain⟨h1,e1⟩:=Ol.mp a;obtain⟨h2,e2⟩:=Ol.mp b;exact(Wn hN).mp (e1.trans e2.symm)
theorem AM{M:Model}{A:Around}{E:Value->Shared->Prop}{i:Nat}{x:Str}{v:V}{u:Value}{Q:Unit->Shared->Prop}(I:Inv X pins σ H s)(hN:X.N.Nodup)(hi:X.N[i]?=some x)(hx:Loc X.env.scope x)(r:RelV v u)
  (h:∀s',Inv X pins (σ.set i (some v)) H s'->(∃a,OR a s.heap s'.heap/\(a=X.env.locals\/X.env.cells.lookup x=some a))->Q () s') (hf:X.fn x=true\/X.env.scope.names.lookup x=some .local:=by first |exact .inl rfl |exact .inr rfl |assumption):wpAny M A (storeName X.env x u) Q E s:=by
 obtain⟨m,hn,hl⟩:=id I.loc;have hcls:(X.env.scope.kind == .class||(X.env.scope.kind == .module&&X.env.locals != X.env.globals))=false:=by rw[I.ok.kind];rfl
 have hiσ:i<σ.length:=by rw[I.len];exact(Ol.mp hi).1
 have cne:=I.cne;have tracked:∀{a:Addr}{h':Heap},(∃o,s.heap.get? a=some o/\H a=none)->OR a s.heap h'->HOk X.prog X.w H h':=λ{a h'} ha hs b ob e=>by
  obtain⟨_,_,hfree⟩:=ha;refine(I.hok b ob e).gD (λc w' hc q=>(hs.2 c ?_).trans q) (λ_ q=>q) λ_ _ q=>q;rintro rfl;rcases hc with rfl |hc
  ·rw[hfree]at e;cases e
  ·rw[hfree]at hc;cases hc
 rcases hx with hk |hk
 ·refine wpAny_storeName_local hk hn (λh' hn' hs=>?_) hcls;obtain⟨oL,_,_,hoL,_⟩:=id hn;refine h _ ⟨I.ok,I.os,I.bare,⟨λb o e n hb hx=>?_,λb o e n hb hx=>?_,I.base.free,λb o e hx=>?_,I.base.tups,I.base.frzs,I.base.tbls⟩,⟨_,hn',λj y v' e1 e2 e3=>?_⟩,λy c e=>?_,I.free,I.freeC,λp hp=>?_,tracked ⟨oL,hoL,I.free⟩ hs,by simpa using I.len⟩ ⟨_,hs,.inl rfl⟩
  ·exact(hs.2 b (OE (ON (Ou e) I.ok.above))).trans (I.base.keep b o e n hb hx)
  ·obtain⟨sl,e1⟩:=I.base.slot b o e n hb hx;exact⟨sl,(hs.2 b (OE (ON (Ou e) I.ok.above))).trans e1⟩
  ·obtain⟨o',e1⟩:=I.base.there b o e hx;exact⟨o',(hs.2 b (OE (ON (Ou e) I.ok.above))).trans e1⟩
  ·by_cases hj:j=i
   ·subst hj;rw[hi]at e1;cases e1;rw[UK hiσ]at e2;cases e2;exact⟨u,r,.inl ⟨hk,by simp⟩⟩
   ·rw[O_ (Qg hj)]at e2;obtain⟨u',r',q⟩:=hl j y v' e1 e2 e3;refine⟨u',r',?_⟩;rcases q with⟨k,e⟩ |⟨k,c,e,z⟩
    ·refine .inl ⟨k,?_⟩;have:y≠x:=λe=>hj (vT hN e1 (e▸hi));simp[this,e]
    ·exact .inr ⟨k,c,e,z.sameBut hs (cne y c e)⟩
  ·obtain⟨w',z⟩:=I.cell y c e;exact⟨w',z.sameBut hs (cne y c e)⟩
  ·obtain⟨e,n,ne,nf,d⟩:=I.pin p hp;exact⟨(hs.2 p.1 ne).trans e,n,ne,nf,d⟩
 ·have hfn:X.fn x=true:=by
   rcases hf with z |z
   ·exact z
   ·rw[z]at hk;cases hk
  obtain⟨c,hc⟩:=I.ok.has x (.inl hk);obtain⟨w',z⟩:=I.cell x c hc;refine wpAny_storeName_cell I.ok.kind hk hc z (λh' hc' hs=>?_);obtain⟨oc,hoc,hocd⟩:=id z;refine h { s with heap:=h' } ⟨I.ok,I.os,I.bare,⟨λb o e n hb hx=>?_,λb o e n hb hx=>?_,I.base.free,λb o e hx=>?_,I.base.tups,I.base.frzs,I.base.tbls⟩,⟨m,hn.sameBut hs (Qg (cne x c hc)),λj y v' e1 e2 e3=>?_⟩,λy c' e=>?_,I.free,I.freeC,λp hp=>?_,tracked ⟨oc,hoc,I.freeC x c hc⟩ hs,by simpa using I.len⟩ ⟨c,hs,.inr hc⟩
  ·exact(hs.2 b (OE (ON (Ou e) (I.ok.cab x c hfn hc)))).trans (I.base.keep b o e n hb hx)
  ·obtain⟨sl,e1⟩:=I.base.slot b o e n hb hx;exact⟨sl,(hs.2 b (OE (ON (Ou e) (I.ok.cab x c hfn hc)))).trans e1⟩
  ·obtain⟨o',e1⟩:=I.base.there b o e hx;exact⟨o',(hs.2 b (OE (ON (Ou e) (I.ok.cab x c hfn hc)))).trans e1⟩
  ·by_cases hj:j=i
   ·subst hj;rw[hi]at e1;cases e1;rw[UK hiσ]at e2;cases e2;exact⟨u,r,.inr ⟨.inl hk,c,hc,hc'⟩⟩
   ·rw[O_ (Qg hj)]at e2;obtain⟨u',r',q⟩:=hl j y v' e1 e2 e3;refine⟨u',r',?_⟩;rcases q with q |⟨k,c',e,z'⟩
    ·exact .inl q
    ·refine .inr ⟨k,c',e,z'.sameBut hs ?_⟩;rintro rfl;exact hj (vT hN e1 (I.ok.inj _ _ _ e hc▸hi))
  ·by_cases hcc:c'=c
   ·subst hcc;exact⟨_,hc'⟩
   ·obtain⟨w2,z2⟩:=I.cell y c' e;exact⟨w2,z2.sameBut hs hcc⟩
  ·obtain⟨e,n,ne,nf,d⟩:=I.pin p hp;refine⟨(hs.2 p.1 ?_).trans e,n,ne,nf,d⟩;intro q;rw[q,hoc]at e;have q':oc=p.2:=OV e;exact d w' (by rw[<-q'];exact hocd)
theorem pE{M:Model}{A:Around}{E:Value->Shared->Prop}{i:Nat}{x:Str}{v:V}{u:Value}{Q:Unit->Shared->Prop}(I:Inv X pins σ H s)(hN:X.N.Nodup)(hi:X.N[i]?=some x)(hx:Loc X.env.scope x)(r:RelV v u)
  (h:∀s',Inv X pins (σ.set i (some v)) H s'->Q () s') (hf:X.fn x=true\/X.env.scope.names.lookup x=some .local:=by first |exact .inl rfl |exact .inr rfl |assumption):wpAny M A (storeName X.env x u) Q E s:=
 AM I hN hi hx r (λs' I' _=>h s' I') hf
theorem Inv.Lu{s':Shared}{ch:List Addr}(I:Inv X pins σ H s)(ho:s'.os=s.os)(u:Un (frs X.stack) ch H H' s.heap s'.heap)(hok:HOk X.prog X.w H' s'.heap)(hg:AllBare s'.gens)
  (hch:∀b∈ch,(b∈X.ex\/X.s₀.heap.objs.size<=b)/\b≠X.env.locals/\(∀x c,X.env.cells.lookup x=some c->c≠b)/\∀p∈X.pn++pins,p.1≠b):Inv X pins σ H' s':=by
 obtain⟨h',g',d',t',o'⟩:=s';have e:o'=s.os:=ho;subst e;exact I.call (g':=g') (t':=t') (d':=d') u hok hg hch
end
noncomputable abbrev XK:=Value->Option Addr->Hp->Prop
noncomputable abbrev St:=List (Option V)
noncomputable abbrev VK:=V->Hp->Prop
noncomputable abbrev TE:=St->Hp->VK->Prop
noncomputable abbrev TT:=St->Hp->(Bool->Hp->Prop)->Prop
noncomputable abbrev TA:=St->Hp->(List V->Hp->Prop)->Prop
structure Ends where
 nx:St->Hp->Prop
 rt:VK
 bk:St->Hp->Prop:=λ_ _=>False
 ct:St->Hp->Prop:=λ_ _=>False
noncomputable abbrev TS:=Ends->St->Hp->Prop
def EP(X:Cx)(pins:List (Addr×Obj))(σ:St)(Q:VK)(u:Value)(s':Shared):Prop:=∃v H',Inv X pins σ H' s'/\RelV v u/\Q v H'
def TP(X:Cx)(pins:List (Addr×Obj))(σ:St)(Q:Bool->Hp->Prop)(b:Bool)(s':Shared):Prop:=∃H',Inv X pins σ H' s'/\Q b H'
def AP(X:Cx)(pins:List (Addr×Obj))(σ:St)(Q:List V->Hp->Prop)(us:List Value)(s':Shared):Prop:=∃vs H',Inv X pins σ H' s'/\Vals vs us/\Q vs H'
def SP(X:Cx)(pins:List (Addr×Obj))(D:Ends)(f:Flow)(s':Shared):Prop:=
 match f with
 | .next=>∃q' H',Inv X pins q' H' s'/\D.nx q' H'
 | .brk=>∃q' H',Inv X pins q' H' s'/\D.bk q' H'
 | .cont=>∃q' H',Inv X pins q' H' s'/\D.ct q' H'
 | .ret u=>∃v q' H',Inv X pins q' H' s'/\RelV v u/\D.rt v H'
def PE(X:Cx)(e:Expr)(t:TE):Prop:=
 ∀(pins:List (Addr×Obj))(s:Shared)(σ:St)(H:Hp)(Q:VK),Inv X pins σ H s->t σ H Q->wpAny (model X.prog X.w) X.A (eval e X.env) (EP X pins σ Q) X.xe s
def PT(X:Cx)(e:Expr)(t:TT):Prop:=
 ∀(pins:List (Addr×Obj))(s:Shared)(σ:St)(H:Hp)(Q:Bool->Hp->Prop),Inv X pins σ H s->t σ H Q->wpAny (model X.prog X.w) X.A (isTrue e X.env (eval e X.env)) (TP X pins σ Q) X.xe s
def PW(X:Cx)(e:Expr)(t:TT):Prop:=
 ∀(whole:Sem Value)(pins:List (Addr×Obj))(s:Shared)(σ:St)(H:Hp)(Q:Bool->Hp->Prop),Inv X pins σ H s->t σ H Q->wpAny (model X.prog X.w) X.A (isTrue e X.env whole) (TP X pins σ Q) X.xe s
theorem PW.pt{X:Cx}{e:Expr}{t:TT}(h:PW X e t):PT X e t:=h _
def PA(X:Cx)(es:List Expr)(t:TA):Prop:=
 ∀(pos:Pos)(pins:List (Addr×Obj))(s:Shared)(σ:St)(H:Hp)(Q:List V->Hp->Prop),Inv X pins σ H s->t σ H Q->wpAny (model X.prog X.w) X.A (spliced (backTo pos (starEach es X.env))) (AP X pins σ Q) X.xe s
def PS(X:Cx)(st:Stmt)(t:TS):Prop:=
 ∀(pins:List (Addr×Obj))(s:Shared)(σ:St)(H:Hp)(D:Ends),Inv X pins σ H s->t D σ H->wpAny (model X.prog X.w) X.A (exec st X.env) (SP X pins D) X.xe s
def PSs(X:Cx)(st:List Stmt)(t:TS):Prop:=
 ∀(pins:List (Addr×Obj))(s:Shared)(σ:St)(H:Hp)(D:Ends),Inv X pins σ H s->t D σ H->wpAny (model X.prog X.w) X.A (execs st X.env) (SP X pins D) X.xe s
theorem thn{α:Type}{t:Sem α}{Q Q':α->Shared->Prop}{M:Model}{A:Around}{E:Value->Shared->Prop}{s:Shared}(h:wpAny M A t Q E s)(hQ:∀a s,Q a s->Q' a s):wpAny M A t Q' E s:=P9 h hQ λ_ _ x=>x
section
variable{X:Cx}
noncomputable def NI(i:Nat):TE:=λσ H Q=>∃v,σ[i]?=some (some v)/\Q v H
noncomputable def tC(v:V):TE:=λ_ H Q=>Q v H
theorem BR{i:Nat}{x:Str}{pos:Pos}(hN:X.N[i]?=some x)(hv:Vis X.env.scope x)(hd:(x==("__debug__":Str))=false:=by decide)(hcd:(x==("__classdict__":Str))=false:=by decide):PE X (.Name x pos) (NI i):=by
 intro pins s σ H Q I h;obtain⟨v,e,h⟩:=h;obtain⟨m,hn,hl⟩:=I.loc;obtain⟨u,r,l⟩:=hl i x v hN e hv;have fin:EP X pins σ Q u s:=⟨v,H,I,r,h⟩;rcases l with⟨hk,hm⟩ |⟨hk,c,hc,hcell⟩
 ·exact WD (wpAny_loadName_local I.ok.kind hk hn hm fin) hd
 ·rcases hk with hk |hk
  ·exact WD (wpAny_loadName_cell I.ok.kind hk hc hcell fin) hd
  ·exact WD (wpAny_loadName_free I.ok.kind hk hc hcell fin hcd) hd
theorem IT{i j pos}:PE X (.Constant (.int i) j pos) (tC (.int i)):=λ_ _ _ H _ I h=>wpAny_Constant_int ⟨.int i,H,I.tok _,⟨_,rfl⟩,h⟩
theorem LU{b j pos}:PE X (.Constant (.bool b) j pos) (tC (.bl b)):=λ_ _ _ H _ I h=>Constant_bool ⟨.bl b,H,I,rfl,h⟩
theorem Jn{j pos}:PE X (.Constant .none j pos) (tC .non):=λ_ _ _ H _ I h=>Constant_none ⟨.non,H,I,rfl,h⟩
theorem Jc{x j pos}:PE X (.Constant (.str x) j pos) (tC (.str x)):=λ_ _ _ H _ I h=>Calls.Constant_str ⟨.str x,H,I.tok _,⟨_,rfl⟩,h⟩
def Gl(X:Cx)(x:Str):Prop:=X.env.kindOf x=some .globalImplicit
theorem yk{E:Value->Shared->Prop}{pins:List (Addr×Obj)}{s:Shared}{σ:St}{H:Hp}{x:Str}{u:Value}{pos:Pos}{Q:Value->Shared->Prop}(I:Inv X pins σ H s)(hg:Gl X x)(hm:X.mg x=some u)(h:Q u s)
  (hd:(x==("__debug__":Str))=false:=by decide):wpAny (model X.prog X.w) X.A (eval (.Name x pos) X.env) Q E s:=
 TU I.ok.kind hg (Calls.loadGlobal_global (by rw[I.ok.glob];exact I.mod.glob.keeps I.bk) hm h) hd
theorem cv{E:Value->Shared->Prop}{pins:List (Addr×Obj)}{s:Shared}{σ:St}{H:Hp}{x:Str}{u:Value}{pos:Pos}{Q:Value->Shared->Prop}(I:Inv X pins σ H s)(hg:Gl X x)(hm:X.mg x=none)(hv:bootBuiltins x=some u)(h:Q u s)
  (hn:x≠"__name__":=by decide) (hd:(x==("__debug__":Str))=false:=by decide):wpAny (model X.prog X.w) X.A (eval (.Name x pos) X.env) Q E s:=by
 obtain⟨mb,h1,h2⟩:=I.mod.blt;exact TU I.ok.kind hg (Calls.loadGlobal_builtin (by rw[I.ok.glob];exact I.mod.glob.keeps I.bk) hm (by rw[I.ok.blt];exact h1.keeps I.bk) ((h2 x hn).trans hv) h) hd
theorem He{x:Str}{v:V}{u:Value}{pos:Pos}(hg:Gl X x)(hm:X.mg x=some u)(r:RelV v u)(hd:(x==("__debug__":Str))=false:=by decide):PE X (.Name x pos) (tC v):=
 λ_ _ _ H _ I h=>yk I hg hm ⟨v,H,I,r,h⟩ hd
theorem Hm{x:Str}{v:V}{u:Value}{pos:Pos}(hg:Gl X x)(hm:X.mg x=none)(hv:bootBuiltins x=some u)(r:RelV v u)(hn:x≠"__name__":=by decide)(hd:(x==("__debug__":Str))=false:=by decide):PE X (.Name x pos) (tC v):=
 λ_ _ _ H _ I h=>cv I hg hm hv ⟨v,H,I,r,h⟩ hn hd
variable{a b:Expr}{ta tb:TE}{pos:Pos}
variable{tA tB':TT}{rest:List Expr}
noncomputable def Nu(t u:TT):TT:=λσ H Q=>t σ H λc H1=>if c=true then u σ H1 Q else Q false H1
noncomputable def tOr(t u:TT):TT:=λσ H Q=>t σ H λc H1=>if c=true then Q true H1 else u σ H1 Q
noncomputable def N2(t:TT):TT:=λσ H Q=>t σ H λc H1=>Q (!c) H1
theorem FY(ha:PT X a tA):PW X (.BoolOp .And [a] pos) tA:=by
 intro wh pins s σ H Q I h;refine isTrue_and (thn (ha pins s σ H Q I h) λc s1 e=>?_);cases c with
 |true=>exact isTrue_and_nil e
 |false=>exact e
theorem Lb(ha:PT X a tA):PW X (.BoolOp .Or [a] pos) tA:=by
 intro wh pins s σ H Q I h;refine isTrue_or (thn (ha pins s σ H Q I h) λc s1 e=>?_);cases c with
 |false=>exact isTrue_or_nil e
 |true=>exact e
theorem Ig(ha:PT X a tA)(hb:PW X (.BoolOp .And (b::rest) pos) tB'):PW X (.BoolOp .And (a::b::rest) pos) (Nu tA tB'):=by
 intro wh pins s σ H Q I h;refine isTrue_and (thn (ha pins s σ H _ I h) λc s1 ⟨H1,I1,q1⟩=>?_);cases c with
 |true=>exact hb wh pins s1 σ H1 Q I1 q1
 |false=>exact⟨H1,I1,q1⟩
theorem Ms(ha:PT X a tA)(hb:PW X (.BoolOp .Or (b::rest) pos) tB'):PW X (.BoolOp .Or (a::b::rest) pos) (tOr tA tB'):=by
 intro wh pins s σ H Q I h;refine isTrue_or (thn (ha pins s σ H _ I h) λc s1 ⟨H1,I1,q1⟩=>?_);cases c with
 |true=>exact⟨H1,I1,q1⟩
 |false=>exact hb wh pins s1 σ H1 Q I1 q1
theorem KL(ha:PT X a tA):PT X (.UnaryOp .Not a pos) (N2 tA):=by
 intro pins s σ H Q I h;exact isTrue_not (ha pins s σ H (λc H1=>Q (!c) H1) I h)
noncomputable def Nc(ta tb:TE):TE:=λσ H Q=>ta σ H λx H1=>∃c,x=.bl c/\if c=true then tb σ H1 Q else Q (.bl false) H1
noncomputable def NY(ta tb:TE):TE:=λσ H Q=>ta σ H λx H1=>∃c,x=.bl c/\if c=true then Q (.bl true) H1 else tb σ H1 Q
noncomputable def MS(ta:TE):TE:=λσ H Q=>ta σ H λx H1=>∃c,x=.bl c/\Q (.bl (!c)) H1
theorem Jo{op}{t:TE}(h:PE X a t):PE X (.BoolOp op [a] pos) t:=λpins s σ H Q I hw=>BoolOp_one (h pins s σ H Q I hw)
theorem JP(ha:PE X a ta)(hb:PE X (.BoolOp .And (b::rest) pos) tb):PE X (.BoolOp .And (a::b::rest) pos) (Nc ta tb):=by
 intro pins s σ H Q I h;refine BoolOp_and (thn (ha pins s σ H _ I h) λv s1 ⟨x,H1,I1,r1,q1⟩=>?_);obtain⟨c,rfl,q1⟩:=q1;cases r1;refine P_ ?_;cases c with
 |true=>exact hb pins s1 σ H1 Q I1 q1
 |false=>exact⟨.bl false,H1,I1,rfl,q1⟩
theorem L_(ha:PE X a ta)(hb:PE X (.BoolOp .Or (b::rest) pos) tb):PE X (.BoolOp .Or (a::b::rest) pos) (NY ta tb):=by
 intro pins s σ H Q I h;refine BoolOp_or (thn (ha pins s σ H _ I h) λv s1 ⟨x,H1,I1,r1,q1⟩=>?_);obtain⟨c,rfl,q1⟩:=q1;cases r1;refine P_ ?_;cases c with
 |false=>exact hb pins s1 σ H1 Q I1 q1
 |true=>exact⟨.bl true,H1,I1,rfl,q1⟩
theorem Jr(ha:PE X a ta):PE X (.UnaryOp .Not a pos) (MS ta):=by
 intro pins s σ H Q I h;refine UnaryOp_ (thn (ha pins s σ H _ I h) λv s1 ⟨x,H1,I1,r1,q1⟩=>?_);obtain⟨c,rfl,q1⟩:=q1;cases r1;exact not_of (P_ ⟨.bl (!c),H1,I1,rfl,q1⟩)
noncomputable def tIf(t:TT)(ta tb:TE):TE:=λσ H Q=>t σ H λc H1=>if c=true then ta σ H1 Q else tb σ H1 Q
theorem EJ{c:Expr}(hc:PT X c tA)(ha:PE X a ta)(hb:PE X b tb):PE X (.IfExp c a b pos) (tIf tA ta tb):=by
 intro pins s σ H Q I h;refine wpAny_IfExp (thn (hc pins s σ H _ I h) λd s1 ⟨H1,I1,q1⟩=>?_);cases d with
 |true=>exact ha pins s1 σ H1 Q I1 q1
 |false=>exact hb pins s1 σ H1 Q I1 q1
end
def SqL(K:Oh)(H:Hp)(a:Addr)(xs:List V):Prop:=
 Rd H a (.lst xs) \/
  ∃(o:Obj)(its:Array Value)(n:Nat),K.lookup a=some o/\o.cls=.type "list"/\o.dict=none/\o.data=.seq its n/\its.size<=sizeLine/\Vals xs its.toList
def SqT(K:Oh)(H:Hp)(a:Addr)(xs:List V):Prop:=
 Rd H a (.tup xs) \/
  ∃(o:Obj)(its:Array Value)(n:Nat),K.lookup a=some o/\o.cls=.type "tuple"/\o.data=.seq its n/\its.size<=sizeLine/\Vals xs its.toList
noncomputable def ND:Value->Option V
 | .none=>some .non
 | .bool b=>some (.bl b)
 | .int i _=>some (.int i)
 | .str x _=>some (.str x)
 | .bytes b _=>some (.byt b)
 | .float b _=>some (.flt b)
 | .ref a=>some (.ref a)
 | .type n=>some (.ty n)
 |_=>none
theorem RelV.abs{x:V}{u:Value}(r:RelV x u):ND u=some x:=by
 cases x with
 |non=>cases r;rfl
 |bl _=>cases r;rfl
 |int _=>obtain⟨t,rfl⟩:=r;rfl
 |str _=>obtain⟨t,rfl⟩:=r;rfl
 |byt _=>obtain⟨t,rfl⟩:=r;rfl
 |flt _=>obtain⟨t,rfl⟩:=r;rfl
 |ref _=>cases r;rfl
 |ty _=>cases r;rfl
theorem RelV.inj{x y:V}{u:Value}(r:RelV x u)(q:RelV y u):x=y:=OV (r.abs.symm.trans q.abs)
theorem Vals.inj:∀{xs ys:List V}{us:List Value},Vals xs us->Vals ys us->xs=ys
 |_,_,_,.nil,.nil=>rfl
 |_,_,_,.cons r t,.cons r' t'=>by rw[r.inj r',Vals.inj t t']
section
variable{X:Cx}{pins:List (Addr×Obj)}{σ:St}{H:Hp}{s:Shared}{a:Addr}{xs ys:List V}
theorem SqL.of{K:Oh}(h:H a=some (.lst xs)):SqL K H a xs:=.inl (.inl h)
theorem SqT.of{K:Oh}(h:H a=some (.tup xs)):SqT K H a xs:=.inl (.inl h)
theorem Inv.list(I:Inv X pins σ H s)(h:SqL X.K H a xs):∃its:List Value,Vals xs its/\PlainL s.heap a its.toArray/\xs.length<=sizeLine:=by
 rcases h with h |⟨o,its,n,hk,hc,hd,hs,hz,r⟩
 ·obtain⟨z,its,n,r,e⟩:=h.ok I.hok;exact⟨its,r,⟨_,n,e,rfl,rfl,rfl⟩,z⟩
 ·refine⟨its.toList,r,⟨o,n,I.kIn a o hk,hc,hd,by simpa using hs⟩,?_⟩;have e:=r.length;simp only[OM]at e;omega
theorem Inv.tuple(I:Inv X pins σ H s)(h:SqT X.K H a xs):∃its:List Value,Vals xs its/\IsTup s.heap a its.toArray/\xs.length<=sizeLine:=by
 rcases h with h |⟨o,its,n,hk,hc,hs,hz,r⟩
 ·obtain⟨z,its,r,p⟩:=h.ok I.hok;exact⟨its,r,p,z⟩
 ·refine⟨its.toList,r,⟨o,I.kIn a o hk,hc,n,by simpa using hs⟩,?_⟩;have e:=r.length;simp only[OM]at e;omega
theorem Inv.vb(I:Inv X pins σ H s)(h:SqL X.K H a xs)(h':SqL X.K H a ys):xs=ys:=by
 obtain⟨its,r,⟨o,n,e,_,_,d⟩,_⟩:=I.list h;obtain⟨its',r',⟨o',n',e',_,_,d'⟩,_⟩:=I.list h';rw[e]at e';cases e';rw[d]at d';injection d' with d1 _;have:its=its':=by simpa using Pq VB d1
 subst this;exact r.inj r'
theorem Inv.B2(I:Inv X pins σ H s)(h:SqT X.K H a xs)(h':SqT X.K H a ys):xs=ys:=by
 obtain⟨its,r,⟨o,e,_,n,d⟩,_⟩:=I.tuple h;obtain⟨its',r',⟨o',e',_,n',d'⟩,_⟩:=I.tuple h';rw[e]at e';cases e';rw[d]at d';injection d' with d1 _;have:its=its':=by simpa using Pq VB d1
 subst this;exact r.inj r'
end
noncomputable abbrev Cx.kb(X:Cx)(E:Value->Shared->Prop):Cx:={ X with xe:=E }
noncomputable abbrev Cx.nox(X:Cx):Cx:=X.kb λ_ _=>False
theorem Cx.Ok.kb{X:Cx}(ok:X.Ok)(E:Value->Shared->Prop):(X.kb E).Ok:=
 ⟨ok.mod,ok.kind,ok.glob,ok.blt,ok.above,ok.inj,ok.has,ok.cab,ok.hd,ok.frames,ok.stk,ok.exf,ok.bs,ok.bsz,ok.noex,ok.exfs,ok.jf,ok.frf⟩
theorem Cx.Ok.gZ{X:Cx}{E:Value->Shared->Prop}(ok:(X.kb E).Ok):X.Ok:=
 ⟨ok.mod,ok.kind,ok.glob,ok.blt,ok.above,ok.inj,ok.has,ok.cab,ok.hd,ok.frames,ok.stk,ok.exf,ok.bs,ok.bsz,ok.noex,ok.exfs,ok.jf,ok.frf⟩
section
variable{X:Cx}{pins:List (Addr×Obj)}{σ:St}{H:Hp}{s:Shared}{E:Value->Shared->Prop}
theorem Inv.kb(I:Inv X pins σ H s)(E:Value->Shared->Prop):Inv (X.kb E) pins σ H s:=⟨I.ok.kb E,I.os,I.bare,I.base,I.loc,I.cell,I.free,I.freeC,I.pin,I.hok,I.len⟩
theorem Inv.gZ(I:Inv (X.kb E) pins σ H s):Inv X pins σ H s:=⟨I.ok.gZ,I.os,I.bare,I.base,I.loc,I.cell,I.free,I.freeC,I.pin,I.hok,I.len⟩
theorem SP.gZ{D:Ends}{f:Flow}{s':Shared}(h:SP (X.kb E) pins D f s'):SP X pins D f s':=by
 cases f with
 |next=>obtain⟨σ',H',I,q⟩:=h;exact⟨σ',H',I.gZ,q⟩
 |brk=>obtain⟨σ',H',I,q⟩:=h;exact⟨σ',H',I.gZ,q⟩
 |cont=>obtain⟨σ',H',I,q⟩:=h;exact⟨σ',H',I.gZ,q⟩
 |ret u=>obtain⟨v,σ',H',I,r,q⟩:=h;exact⟨v,σ',H',I.gZ,r,q⟩
theorem PSs.nox{st:List Stmt}{t:TS}(h:PSs X.nox st t):PSs X st t:=λpins s σ H D I hw=>
 P9 (h pins s σ H D (I.kb _) hw) (λ_ _ q=>q.gZ) λ_ _ z=>QU z
end
section
variable{X:Cx}{st:Stmt}{rest:List Stmt}{t u:TS}{e:Expr}{te:TE}{pos:Pos}
noncomputable def MG:TS:=λD σ H=>D.nx σ H
noncomputable def NW(t u:TS):TS:=λD σ H=>t { D with nx:=u D } σ H
theorem GX:PSs X [] MG:=λ_ _ σ H _ I h=>S_ ⟨σ,H,I,h⟩
theorem CF(h1:PS X st t)(h2:PSs X rest u):PSs X (st::rest) (NW t u):=by
 intro pins s σ H D I h;refine Wo (thn (h1 pins s σ H { D with nx:=u D } I h) λf s1 q=>?_);cases f with
 |next=>
  obtain⟨σ',H',I',q⟩:=q;exact h2 pins s1 σ' H' D I' q
 |ret v=>exact q
 |brk=>exact q
 |cont=>exact q
theorem GV(h1:PS X st t):PSs X [st] t:=by
 intro pins s σ H D I h;refine Wo (thn (h1 pins s σ H D I h) λf s1 q=>?_);cases f with
 |next=>exact S_ q
 |ret v=>exact q
 |brk=>exact q
 |cont=>exact q
noncomputable def MU:TS:=λD σ H=>D.ct σ H
theorem wU:PS X (.Continue pos) MU:=λ_ _ σ H _ I h=>wpAny_Continue ⟨σ,H,I,h⟩
theorem Inv.quiet{pins:List (Addr×Obj)}{σ:St}{H:Hp}{s:Shared}(I:Inv X pins σ H s):interactive X.env=false:=by simp[interactive,I.ok.kind]
noncomputable def Mp(te:TE):TS:=λD σ H=>te σ H λ_ H1=>D.nx σ H1
theorem Hn(he:PE X e te)(hs:swapsWith e none pos.line X.env=pure false:=by rfl):PS X (.Expr e pos) (Mp te):=by
 intro pins s σ H D I h;exact wpAny_Expr_any (thn (he pins s σ H _ I h) λv s1 ⟨x,H1,I1,r1,q1⟩=>⟨σ,H1,I1,q1⟩) I.quiet hs
noncomputable def Nw(te:TE):TS:=λD σ H=>te σ H D.rt
theorem J3(he:PE X e te):PS X (.Return (some e) pos) (Nw te):=by
 intro pins s σ H D I h;exact wpAny_Return_some (thn (he pins s σ H _ I h) λv s1 ⟨x,H1,I1,r1,q1⟩=>⟨x,σ,H1,I1,r1,q1⟩)
noncomputable def NF(c:TT)(t u:TS):TS:=λD σ H=>c σ H λb H1=>if b=true then t D σ H1 else u D σ H1
theorem M8{c:Expr}{a b:List Stmt}{tc:TT}(hc:PT X c tc)(ha:PSs X a t)(hb:PSs X b u):PS X (.If c a b pos) (NF tc t u):=by
 intro pins s σ H D I h;refine wpAny_If (thn (hc pins s σ H _ I h) λd s1 ⟨H1,I1,q1⟩=>?_);cases d with
 |true=>exact ha pins s1 σ H1 D I1 q1
 |false=>exact hb pins s1 σ H1 D I1 q1
end
noncomputable abbrev TG:=V->St->Hp->(St->Hp->Prop)->Prop
noncomputable abbrev TGs:=List V->St->Hp->(St->Hp->Prop)->Prop
def PG(X:Cx)(target:Expr)(t:TG):Prop:=
 ∀(pins:List (Addr×Obj))(s:Shared)(σ:St)(H:Hp)(v:V)(u:Value)(Q:St->Hp->Prop),Inv X pins σ H s->RelV v u->t v σ H Q ->
  wpAny (model X.prog X.w) X.A (assign target X.env u) (λ_ s'=>∃σ' H',Inv X pins σ' H' s'/\Q σ' H') X.xe s
def PGs(X:Cx)(ts:List Expr)(t:TGs):Prop:=
 ∀(pins:List (Addr×Obj))(s:Shared)(σ:St)(H:Hp)(vs:List V)(us:List Value)(Q:St->Hp->Prop),Inv X pins σ H s->Vals vs us->t vs σ H Q ->
  wpAny (model X.prog X.w) X.A (assignInOrder ((assignEach ts X.env).map (·.2)) us) (λ_ s'=>∃σ' H',Inv X pins σ' H' s'/\Q σ' H') X.xe s
noncomputable abbrev vd:=V->V->V->Hp->(Hp->Prop)->Prop
def zc(X:Cx)(t:vd):Prop:=
 ∀(pins:List (Addr×Obj))(s:Shared)(σ:St)(H:Hp)(o i v:V)(ov iv u:Value)(Q:Hp->Prop),Inv X pins σ H s->RelV o ov->RelV i iv->RelV v u->t o i v H Q ->
  wpAny (model X.prog X.w) X.A (setItem ov iv u) (λ_ s'=>∃H',Inv X pins σ H' s'/\Q H') X.xe s
section
variable{X:Cx}{pos:Pos}
noncomputable def Fp(i:Nat):TG:=λv σ H Q=>Q (σ.set i (some v)) H
theorem GR{i:Nat}{x:Str}(hN:X.N.Nodup)(hi:X.N[i]?=some x)(hx:Loc X.env.scope x)(hf:X.fn x=true\/X.env.scope.names.lookup x=some .local:=by first |exact .inl rfl |exact .inr rfl |assumption):PG X (.Name x pos) (Fp i):=by
 intro pins s σ H v u Q I r h;exact V3 (pE I hN hi hx r (λs' I'=>⟨_,H,I',h⟩) hf)
noncomputable def NG:TGs:=λvs σ H Q=>vs=[]/\Q σ H
noncomputable def M9(t:TG)(u:TGs):TGs:=λvs σ H Q=>∃v r,vs=v::r/\t v σ H λσ' H'=>u r σ' H' Q
theorem Gd:PGs X [] NG:=by
 intro pins s σ H vs us Q I r h;obtain⟨e,h⟩:=h;subst e;cases r;exact assignInOrder_nil ⟨σ,H,I,h⟩
theorem Ek{e:Expr}{es:List Expr}{t:TG}{u:TGs}(h1:PG X e t)(h2:PGs X es u)
  (hs:(assignEach (e::es) X.env).map (·.2)=assign e X.env::(assignEach es X.env).map (·.2):=by rfl):PGs X (e::es) (M9 t u):=by
 intro pins s σ H vs us Q I r h;obtain⟨v,vr,e1,h⟩:=h;subst e1;cases r with
 |cons r rr=>
  rw[hs];refine assignInOrder_cons (thn (h1 pins s σ H _ _ _ I r h) λ_ s1 ⟨σ1,H1,I1,q1⟩=>?_);exact h2 pins s1 σ1 H1 _ _ Q I1 rr q1
noncomputable def N8(K:Oh)(n:Nat)(t:TGs):TG:=λv σ H Q=>∃a xs,v=.ref a/\SqT K H a xs/\xs.length=n/\t xs σ H Q
theorem HH{es:List Expr}{k:Nat}{t:TGs}{n:Nat}(hc:X.calm=true)(h:PGs X es t)
  (hn:(assignEach es X.env).length=n:=by rfl) (hst:(assignEach es X.env).findIdx? (·.1)=none:=by rfl):PG X (.Tuple es k pos) (N8 X.K n t):=by
 intro pins s σ H v u Q I r hw;obtain⟨a,xs,e1,hq,hl,hw⟩:=hw;subst e1;cases r;obtain⟨its,rv,ht,hz⟩:=I.tuple hq;refine assign_Tuple_tuple (I.ok.hd hc) ht (by simp[hn,<-hl,rv.length]) hst λh' hx=>?_;have I1:Inv X pins σ H { s with heap:=h' }:=I.kept (t':=s.toks) λb o e=>hx b o (OE (Ou e)) e;exact h pins _ σ H xs _ Q I1 (by simpa using rv) hw
noncomputable def N_(to ti:TE)(t:vd):TG:=λv σ H Q=>to σ H λo H1=>ti σ H1 λi H2=>t o i v H2 λH3=>Q σ H3
theorem HK{o i:Expr}{to ti:TE}{t:vd}(ho:PE X o to)(hi:PE X i ti)(hs:zc X t)
  (ha:∀v,assign (.Subscript o i pos) X.env v=(do
   let ov<-holding [v] (eval o X.env)
   let iv<-holding [v,ov] (eval i X.env)
   standAt pos
   holding [v,ov,iv] (setItem ov iv v)
   release [v,ov,iv] []):=by intro _;rfl):PG X (.Subscript o i pos) (N_ to ti t):=by
 intro pins s σ H v u Q I r h;rw[ha];refine ar (OO (thn (ho pins s σ H _ I h) λov s1 ⟨x,H1,I1,r1,q1⟩=>?_));refine ar (OO (thn (hi pins s1 σ H1 _ I1 q1) λiv s2 ⟨y,H2,I2,r2,q2⟩=>?_));refine ar (Vi (ar (OO (thn (hs pins s2 σ H2 x y v ov iv u _ I2 r1 r2 r q2) λ_ s3 ⟨H3,I3,q3⟩=>?_))));exact wpAny_release ⟨σ,H3,I3,q3⟩
noncomputable def Il(te:TE)(g:TG):TS:=λD σ H=>te σ H λx H1=>g x σ H1 D.nx
theorem KP{tg e:Expr}{te:TE}{g:TG}(he:PE X e te)(hg:PG X tg g)(hs:swapsWithSole [tg] e pos.line X.env=pure false:=by rfl)(hw:swappedStores [tg] e X.env=pure none:=by rfl)
  (h1:(assignEach [tg] X.env).map (·.2)=[assign tg X.env]:=by rfl):PS X (.Assign [tg] e pos) (Il te g):=by
 intro pins s σ H D I h;refine wpAny_Assign_stores (thn (he pins s σ H _ I h) λv s1 ⟨x,H1,I1,r1,q1⟩=>?_) hs hw;rw[h1];exact thn (hg pins s1 σ H1 x v _ I1 r1 q1) λ_ s2 q=>q
theorem HS{i:Nat}{x:Str}{e:Expr}{te:TE}{pos':Pos}(hN:X.N.Nodup)(hi:X.N[i]?=some x)(hx:Loc X.env.scope x)(he:PE X e te)(hs:swapsWith e (some (.Name x pos')) pos.line X.env=pure false:=by rfl)(hf:X.fn x=true\/X.env.scope.names.lookup x=some .local:=by first |exact .inl rfl |exact .inr rfl |assumption) :
  PS X (.Assign [.Name x pos'] e pos) (Il te (Fp i)):=by
 intro pins s σ H D I h;refine wpAny_Assign_Name (thn (he pins s σ H _ I h) λv s1 ⟨y,H1,I1,r1,q1⟩=>?_) hs;exact pE I1 hN hi hx r1 (λs2 I2=>⟨_,H1,I2,q1⟩) hf
end
section
variable{X:Cx}{pos:Pos}
noncomputable def HM(c:TT)(tb:TS):TS:=λD σ H=>∃W:Nat->St->Hp->Prop,(∃m,W m σ H)/\∀m σ H,W m σ H ->
 c σ H λb H1=>if b=true then∃N:St->Hp->Prop,(∀σ' H',N σ' H'->∃m',m'<m/\W m' σ' H')/\tb { D with nx:=N,ct:=N,bk:=D.nx } σ H1 else D.nx σ H1
theorem DM{c:Expr}{body:List Stmt}{tc:TT}{tb:TS}(hp:PassesOwn (model X.prog X.w) X.A X.env X.xe)(hc:PT X c tc)(hb:PSs X body tb):PS X (.While c body [] pos) (HM tc tb):=by
 intro pins s σ H D I h;obtain⟨W,⟨m0,w0⟩,turn⟩:=h;refine wpAny_While (codeAny_whileLoop (λn s'=>∃σ' H',Inv X pins σ' H' s'/\W n σ' H') ?_ m0 ⟨σ,H,I,w0⟩);rintro n s1 ⟨σ1,H1,I1,w1⟩;refine Rc hp (thn (hc pins s1 σ1 H1 _ I1 (turn n σ1 H1 w1)) λb s2 ⟨H2,I2,q2⟩=>?_);cases b with
 |true=>
  obtain⟨N,hN,q2⟩:=q2;rw[Oe rfl];refine Rc hp (thn (hb pins s2 σ1 H2 _ I2 q2) λf s3 q3=>?_);cases f with
  |next=>
   obtain⟨σ3,H3,I3,n3⟩:=q3;obtain⟨m',hm,w3⟩:=hN σ3 H3 n3;exact⟨m',hm,σ3,H3,I3,w3⟩
  |cont=>
   obtain⟨σ3,H3,I3,n3⟩:=q3;obtain⟨m',hm,w3⟩:=hN σ3 H3 n3;exact⟨m',hm,σ3,H3,I3,w3⟩
  |brk=>exact q3
  |ret v=>exact q3
 |false=>
  rw[Ot OF];exact S_ ⟨σ1,H2,I2,q2⟩
end
structure It where
 go:Nat->Hp->Prop
 yld:Nat->Hp->V->Hp->Prop
 stop:Nat->Hp->Prop
def fj(X:Cx)(pins:List (Addr×Obj))(H:Hp)(b:Addr):Prop:=
 H b=none/\b≠X.env.locals/\b∉X.fs/\(b∈X.ex\/X.s₀.heap.objs.size<=b)/\(∀x c,X.env.cells.lookup x=some c->c≠b)/\∀p∈X.pn++pins,p.1≠b
theorem Inv.lQ{X:Cx}{pins:List (Addr×Obj)}{σ:St}{H H':Hp}{s:Shared}{b:Addr}(I:Inv X pins σ H s)(hb:s.heap.objs.size<=b)(hn:H' b=none):fj X pins H' b:=by
 refine⟨hn,Qc (ON I.lt hb),I.IW hb,.inr (PC I.sz hb),λx c e z=>?_,λp hp z=>?_⟩
 ·obtain⟨v,q⟩:=I.cell x c e;exact absurd (ON q.lt (by rw[z];exact hb)) (Pt _)
 ·exact absurd (ON (Ou (I.pin p hp).1) (by rw[z];exact hb)) (Pt _)
structure Turn(P:Program)(w:World)(K:Oh)(tg:Expr)(J:It)(fp:List Addr)(it:Addr)(tn:Nat->Heap->Prop):Prop where
 mem:it∈fp
 obj:∀i h,tn i h->∀b∈fp,∃o,h.get? b=some o/\∀v,o.data≠.cell v
 keep:∀i h h',tn i h->(∀b∈fp,∀o,h.get? b=some o->h'.get? b=some o)->tn i h'
 item:∀(X:Cx),X.prog=P->X.w=w->X.K=K->X.calm=true->∀(i:Nat)(pins:List (Addr×Obj))(s:Shared)(σ:St)(H:Hp)(E:Value->Shared->Prop),Inv X pins σ H s->(∀b∈fp,fj X pins H b)->tn i s.heap->J.go i H ->
  wpAny (model P w) X.A (pyNext (.ref it)) (λr s1=>∃u,r=some u /\
   wpAny (model P w) X.A (letOwnedTupleGo tg (.ref it) u) (λ_ s2=>∃x H',Inv X pins σ H' s2/\RelV x u/\J.yld i H x H'/\tn (i+1) s2.heap/\∀b∈fp,H' b=none) E s1) E s
 done:∀(X:Cx),X.prog=P->X.w=w->X.K=K->X.calm=true->∀(i:Nat)(pins:List (Addr×Obj))(s:Shared)(σ:St)(H:Hp)(E:Value->Shared->Prop),Inv X pins σ H s->(∀b∈fp,fj X pins H b)->tn i s.heap->J.stop i H ->
  wpAny (model P w) X.A (pyNext (.ref it)) (λr s1=>r=none/\Inv X pins σ H s1) E s
 self:∀(A:Around)(i:Nat)(s:Shared)(Q:Value->Shared->Prop)(E:Value->Shared->Prop),tn i s.heap->Q (.ref it) s->wpAny (model P w) A (pyIter (.ref it)) Q E s
noncomputable abbrev TI:=St->Hp->(It->Hp->Prop)->Prop
def PIE(X:Cx)(pins:List (Addr×Obj))(σ:St)(tg:Expr)(R:It->Hp->Prop)(itv:Value)(s2:Shared):Prop:=
 ∃(it:Addr)(fp:List Addr)(tn:Nat->Heap->Prop)(J:It)(H':Hp),itv=.ref it/\Inv X pins σ H' s2/\Turn X.prog X.w X.K tg J fp it tn/\tn 0 s2.heap/\(∀b∈fp,fj X pins H' b)/\R J H'
def PI(X:Cx)(tg iter:Expr)(wi:TI):Prop:=
 ∀(pins:List (Addr×Obj))(s:Shared)(σ:St)(H:Hp)(R:It->Hp->Prop),Inv X pins σ H s->wi σ H R ->
  wpAny (model X.prog X.w) X.A (eval iter X.env) (λv s1=>wpAny (model X.prog X.w) X.A (pyIter v) (PIE X pins σ tg R) X.xe s1) X.xe s
theorem ux {M : Model} {A : Around} {E : Value → Shared → Prop} {s : Shared} {tg : Expr} {it : Addr} {u : Value} {o : Obj} {n : String} {vs : Array Value} {Q : Unit → Shared → Prop} (ho : s.heap.get? it = some o) (hc : o.cls = .type n) (hd : o.data = .fields vs)
    (hn : ["enumerate", "zip", "dict_itemiterator", "dict_reverseitemiterator", "odict_iterator", "itertools.zip_longest", "itertools.pairwise"].contains n = false) (hQ : Q () s) : wpAny M A (letOwnedTupleGo tg (.ref it) u) Q E s := by
  unfold letOwnedTupleGo;cases tg <;> first
    | exact C0 hQ
    | (cases u <;> first
        | exact C0 hQ
        | (refine ar (wpAny_load ho ?_)
           rw [hc, hd];show wpAny M A (if (["enumerate", "zip", "dict_itemiterator", "dict_reverseitemiterator", "odict_iterator", "itertools.zip_longest", "itertools.pairwise"].contains n && vs[0]? == some (rawInt _)) = true then _ else _) Q E s;rw [Ot (by intro h; rw [hn, Qx] at h; cases h)];exact C0 hQ))
noncomputable def Itl(K:Oh)(a:Addr):It:=
 ⟨λi H=>∃xs x,SqL K H a xs/\xs[i]?=some x,λi H x H'=>H'=H/\∀xs,SqL K H a xs->xs[i]?=some x,λi H=>∃xs,SqL K H a xs/\xs.length<=i⟩
noncomputable def Itt(K:Oh)(a:Addr):It:=
 ⟨λi H=>∃xs x,SqT K H a xs/\xs[i]?=some x,λi H x H'=>H'=H/\∀xs,SqT K H a xs->xs[i]?=some x,λi H=>∃xs,SqT K H a xs/\xs.length<=i⟩
noncomputable def Itr(lo:Int)(n:Nat):It:=⟨λi _=>i<n,λi H x H'=>H'=H/\x=.int (lo+i),λi _=>n<=i⟩
theorem Br{P:Program}{w:World}{K:Oh}{tg:Expr}(a it:Addr):Turn P w K tg (Itl K a) [it] it (λi h=>h.IsListIter it a i)where
 mem:=by simp
 obj:=λi h st b hb=>by
  have e:b=it:=by simpa using hb
  subst e;obtain⟨o,e,c,d⟩:=st;exact⟨o,e,λv z=>by rw[d]at z;cases z⟩
 keep:=λi h h' st k=>st.at λo e=>k it (by simp) o e
 item:=by
  intro X hP hw hK hc i pins s σ H E I hf st hg;subst hP hw hK;obtain⟨xs,x,hq,hx⟩:=hg;obtain⟨its,rv,p,hz⟩:=I.list hq;obtain⟨u,hu,ru⟩:=rv.get hx;obtain⟨f0,f1,f2,f3,f4,f5⟩:=hf it (by simp);refine UL st p.isList (x:=u) (by simpa using hu) λh' st' sb=>?_;have I1:Inv X pins σ H { s with heap:=h' }:=I.turned (t':=s.toks) (λb o hb e=>(sb.2 b hb).trans e) f0 f1 f3 f4 f5;obtain⟨o,e,c,d⟩:=id st';exact⟨u,rfl,ux (s:={ s with heap:=h' }) e c d (by decide) ⟨x,H,I1,ru,⟨rfl,λys hy=>by rw[I.vb hy hq];exact hx⟩,st',λb hb=>(hf b hb).1⟩⟩
 done:=by
  intro X hP hw hK hc i pins s σ H E I hf st hg;subst hP hw hK;obtain⟨xs,hq,hx⟩:=hg;obtain⟨its,rv,p,hz⟩:=I.list hq;obtain⟨f0,f1,f2,f3,f4,f5⟩:=hf it (by simp);have hl:=rv.length;exact UY (I.ok.hd hc) st p.isList (by simp;omega) λh' eb=>⟨rfl,I.turned (t':=s.toks) (λb o hb e=>eb b o hb e) f0 f1 f3 f4 f5⟩
 self:=λ_ _ _ _ _ st h=>wpAny_pyIter_listiter st h
theorem zC{P:Program}{w:World}{K:Oh}{tg:Expr}(a it:Addr):Turn P w K tg (Itt K a) [it] it (λi h=>h.IsTupleIter it a i)where
 mem:=by simp
 obj:=λi h st b hb=>by
  have e:b=it:=by simpa using hb
  subst e;obtain⟨o,e,c,d⟩:=st;exact⟨o,e,λv z=>by rw[d]at z;cases z⟩
 keep:=λi h h' st k=>st.at λo e=>k it (by simp) o e
 item:=by
  intro X hP hw hK hc i pins s σ H E I hf st hg;subst hP hw hK;obtain⟨xs,x,hq,hx⟩:=hg;obtain⟨its,rv,p,hz⟩:=I.tuple hq;obtain⟨u,hu,ru⟩:=rv.get hx;obtain⟨f0,f1,f2,f3,f4,f5⟩:=hf it (by simp);refine wpAny_pyNext_tuple_item st (show s.heap.IsTuple a its.toArray from p) (x:=u) (by simpa using hu) λh' st' sb=>?_;have I1:Inv X pins σ H { s with heap:=h' }:=I.turned (t':=s.toks) (λb o hb e=>(sb.2 b hb).trans e) f0 f1 f3 f4 f5;obtain⟨o,e,c,d⟩:=id st';exact⟨u,rfl,ux (s:={ s with heap:=h' }) e c d (by decide) ⟨x,H,I1,ru,⟨rfl,λys hy=>by rw[I.B2 hy hq];exact hx⟩,st',λb hb=>(hf b hb).1⟩⟩
 done:=by
  intro X hP hw hK hc i pins s σ H E I hf st hg;subst hP hw hK;obtain⟨xs,hq,hx⟩:=hg;obtain⟨its,rv,p,hz⟩:=I.tuple hq;obtain⟨f0,f1,f2,f3,f4,f5⟩:=hf it (by simp);have hl:=rv.length;exact wpAny_pyNext_tuple_end (I.ok.hd hc) st (show s.heap.IsTuple a its.toArray from p) (by simp;omega) λh' eb=>⟨rfl,I.turned (t':=s.toks) (λb o hb e=>eb b o hb e) f0 f1 f3 f4 f5⟩
 self:=λ_ _ _ _ _ st h=>wpAny_pyIter_tupleiter st h
theorem yP{P:Program}{w:World}{K:Oh}{tg:Expr}(it:Addr)(lo:Int)(n:Nat):Turn P w K tg (Itr lo n) [it] it (λi h=>IsRangeIter h it (lo+(i:Nat)*1) ((n:Int)-(i:Nat)) 1)where
 mem:=by simp
 obj:=λi h st b hb=>by
  have e:b=it:=by simpa using hb
  subst e;exact⟨_,st,λv z=>by
   have z':Data.fields _=Data.cell v:=z;cases z'⟩
 keep:=λi h h' st k=>k it (by simp) _ st
 item:=by
  intro X hP hw hK hc i pins s σ H E I hf st hg;subst hP hw hK;obtain⟨f0,f1,f2,f3,f4,f5⟩:=hf it (by simp);have W:=Walks.range (prog:=X.prog) (w:=X.w) (I.ok.hd hc) it lo 1 n;refine W.item i s _ _ hg st λv h' tk hv st' kk=>?_;obtain⟨t,rfl⟩:=hv;have I1:Inv X pins σ H { s with heap:=h',toks:=tk }:=I.turned (λb o hb e=>kk b o (by simpa using hb) e) f0 f1 f3 f4 f5;refine⟨_,rfl,ux (s:={ s with heap:=h',toks:=tk }) (n:="range_iterator") st' rfl rfl (by decide) ⟨.int (lo+i),H,I1,⟨t,?_⟩,⟨rfl,rfl⟩,st',λb hb=>(hf b hb).1⟩⟩;rw[Int.mul_one]
 done:=by
  intro X hP hw hK hc i pins s σ H E I hf st hg;subst hP hw hK;obtain⟨f0,f1,f2,f3,f4,f5⟩:=hf it (by simp);exact wpAny_pyNext_range_end (I.ok.hd hc) st (by have:n<=i:=hg;omega) λh' eb=>⟨rfl,I.turned (t':=s.toks) (λb o hb e=>eb b o hb e) f0 f1 f3 f4 f5⟩
 self:=λ_ _ _ _ _ st h=>wpAny_pyIter_rangeiter st h
section
variable{X:Cx}{tg:Expr}
theorem vq{pins:List (Addr×Obj)}{σ:St}{H:Hp}{s:Shared}{R:It->Hp->Prop}{E:Value->Shared->Prop}{lo hi:Int}{t u v:Tok}{tk:Nat}(I:Inv X pins σ H s)(h1:-(2 ^ 62)<=lo)(h2:lo<2 ^ 62)(h3:-(2 ^ 62)<=hi)(h4:hi<2 ^ 62)
  (q:R (Itr lo (hi-lo).toNat) H):wpAny (model X.prog X.w) X.A (pyIter (.ref s.heap.objs.size)) (PIE X pins σ tg R) E { s with heap:=s.heap.push { cls:=.type "range",data:=.fields #[.int lo t,.int hi u,.int 1 v] },toks:=tk }:=by
 refine wpAny_pyIter_range (Yi ..) (small_one h1 h2 h3 h4) ?_;have I1:Inv X pins σ H { s with heap:=s.heap.push { cls:=.type "range",data:=.fields #[.int lo t,.int hi u,.int 1 v] },toks:=tk }:=I.kept λb o e=>Od _ e;refine⟨(s.heap.push { cls:=.type "range",data:=.fields #[.int lo t,.int hi u,.int 1 v] }).objs.size,[(s.heap.push { cls:=.type "range",data:=.fields #[.int lo t,.int hi u,.int 1 v] }).objs.size],_,_,H,rfl,
  I1.kept (t':=tk) λb o e=>Od _ e,yP _ lo (hi-lo).toNat,?_,λb hb=>?_,q⟩
 ·have e1:lo+((0:Nat):Int)*1=lo:=by simp
  have e2:(((hi-lo).toNat:Nat):Int)-((0:Nat):Int)=Uv lo hi 1:=by rw[Xc];split<;>omega
  show IsRangeIter _ _ (lo+((0:Nat):Int)*1) ((((hi-lo).toNat:Nat):Int)-((0:Nat):Int)) 1;rw[e1,e2];exact OA _ rfl
 ·have e:b=(s.heap.push { cls:=.type "range",data:=.fields #[.int lo t,.int hi u,.int 1 v] }).objs.size:=by simpa using hb
  subst e;exact I1.lQ (Oj _) (I1.hok.fresh (Oj _))
noncomputable def M7(ta:TA):TI:=λσ H R=>ta σ H λvs H1=>∃j:Int,vs=[.int j]/\-(2 ^ 62)<=j/\j<2 ^ 62/\R (Itr 0 j.toNat) H1
noncomputable def LJ(ta:TA):TI:=λσ H R=>ta σ H λvs H1=>∃i j:Int,vs=[.int i,.int j]/\(-(2 ^ 62)<=i/\i<2 ^ 62/\-(2 ^ 62)<=j/\j<2 ^ 62)/\R (Itr i (j-i).toNat) H1
theorem Cc{a:Expr}{ta:TA}{p pos:Pos}(hg:Gl X "range")(hm:X.mg "range"=none)(ha:PA X [a] ta)(hs:starEach [a] X.env=[(false,eval a X.env)]:=by rfl):PI X tg (.Call (.Name "range" p) [a] [] pos) (M7 ta):=by
 intro pins s σ H R I h;refine UB (cv I hg hm WG (O6 (thn (ha pos pins s σ H _ I h) λus s1 ⟨vs,H1,I1,r1,q1⟩=>?_) hs rfl));obtain⟨j,e,q1,q2,q⟩:=q1;subst e;cases r1 with
 |cons r rr=>
  cases rr;obtain⟨t,rfl⟩:=r;exact call_range_1 (vq I1 ⋯ ⋯ q1 q2 (by simpa using q))
theorem Ax{a b:Expr}{ta:TA}{p pos:Pos}(hg:Gl X "range")(hm:X.mg "range"=none)(ha:PA X [a,b] ta)(hs:starEach [a,b] X.env=[(false,eval a X.env),(false,eval b X.env)]:=by rfl)(hs2:starEach [b] X.env=[(false,eval b X.env)]:=by rfl) :
  PI X tg (.Call (.Name "range" p) [a,b] [] pos) (LJ ta):=by
 intro pins s σ H R I h;refine UB (cv I hg hm WG (O6 (thn (ha pos pins s σ H _ I h) λus s1 ⟨vs,H1,I1,r1,q1⟩=>?_) (by rw[hs,hs2]) (by rw[hs2];rfl)));obtain⟨i,j,e,⟨q1,q2,q3,q4⟩,q⟩:=q1;subst e;cases r1 with
 |cons r rr=>
  cases rr with
  |cons r' rr=>
   cases rr;obtain⟨t,rfl⟩:=r;obtain⟨t',rfl⟩:=r';exact call_range_2 (vq I1 q1 q2 q3 q4 q)
noncomputable def NC(wi:TI)(g:TG)(tb:TS):TS:=λD σ H=>wi σ H λJ H1=>∃W:Nat->Nat->St->Hp->Prop,(∃m,W 0 m σ H1)/\∀i m σ H,W i m σ H ->
 (J.stop i H/\D.nx σ H)\/(J.go i H/\∃N:St->Hp->Prop,(∀σ' H',N σ' H'->∃m',m'<m/\W (i+1) m' σ' H')/\∀x H',J.yld i H x H'->g x σ H' λσ2 H2=>tb { D with nx:=N,ct:=N,bk:=D.nx } σ2 H2)
noncomputable def m9(fp:List Addr)(h:Heap):List (Addr×Obj):=fp.filterMap λb=>(h.get? b).map λo=>(b,o)
theorem fI{fp:List Addr}{h:Heap}{b:Addr}{o:Obj}(hb:b∈fp)(e:h.get? b=some o):(b,o)∈m9 fp h:=TJ.mpr ⟨b,hb,by rw[e];rfl⟩
theorem Cr{fp:List Addr}{h:Heap}{p:Addr×Obj}(hp:p∈m9 fp h):p.1∈fp/\h.get? p.1=some p.2:=by
 obtain⟨b,hb,e⟩:=TJ.mp hp;cases q:h.get? b with
 |none=>rw[q]at e;cases e
 |some o=>
  rw[q]at e;have e':(b,o)=p:=OV e;subst e';exact⟨hb,q⟩
theorem Inv.pinned{pins:List (Addr×Obj)}{σ:St}{H:Hp}{s:Shared}{fp:List Addr}(I:Inv X pins σ H s)(hf:∀b∈fp,fj X pins H b)(ho:∀b∈fp,∃o,s.heap.get? b=some o/\∀v,o.data≠.cell v):Inv X (pins++m9 fp s.heap) σ H s:=
 I.rM λp hp=>(OI.mp hp).elim (λz=>I.pin p (OT _ z)) λz=>by
  obtain⟨hb,e⟩:=Cr z;obtain⟨f0,f1,f2,_⟩:=hf p.1 hb;obtain⟨o,e',d⟩:=ho p.1 hb;rw[e]at e';cases e';exact⟨e,f0,f1,f2,d⟩
theorem Inv.jq{pins pl:List (Addr×Obj)}{σ:St}{H:Hp}{s:Shared}(I:Inv X (pins++pl) σ H s):Inv X pins σ H s:=I.rM λp hp=>I.pin p (OT _ (OZ _ hp))
theorem Kv{iter:Expr}{body:List Stmt}{wi:TI}{g:TG}{tb:TS}{pos:Pos}(hp:PassesOwn (model X.prog X.w) X.A X.env X.xe)(hc:X.calm=true)(hi:PI X tg iter wi)(hg:PG X tg g)(hb:PSs X body tb)
  (hs:∀x,foldedSetIterable iter X.env x=pure x:=by intro _;rfl):PS X (.For tg iter body [] pos) (NC wi g tb):=by
 intro pins s σ H D I h;refine wpAny_For (thn (hi pins s σ H _ I h) λv s1 h1=>thn h1 λitv s2 h2=>?_) hs;obtain⟨it,fp,tn,J,H2,e,I2,T,st2,f2,W,⟨m0,w0⟩,turn⟩:=h2;subst e;have stat:∀{H':Hp},(∀b∈fp,H' b=none)->∀b∈fp,fj X pins H' b:=λhn b hb=>⟨hn b hb,(f2 b hb).2⟩;refine codeAny_forLoop_any (λn s'=>∃i σ' H',Inv X pins σ' H' s'/\tn i s'.heap/\(∀b∈fp,H' b=none)/\W i n σ' H') ?_ m0 ⟨0,σ,H2,I2,st2,λb hb=>(f2 b hb).1,w0⟩;rintro n s3 ⟨i,σ3,H3,I3,st3,fr3,w3⟩;rcases turn i n σ3 H3 w3 with⟨stop,qn⟩ |⟨go,N,hN,step⟩
 ·refine Rc hp (thn (T.done X rfl rfl rfl hc i pins s3 σ3 H3 X.xe I3 (stat fr3) st3 stop) λr s4 ⟨hr,I4⟩=>?_);subst hr;exact S_ ⟨σ3,H3,I4,qn⟩
 ·refine Rc hp (thn (T.item X rfl rfl rfl hc i pins s3 σ3 H3 X.xe I3 (stat fr3) st3 go) λr s4 ⟨u,hr,h4⟩=>?_);subst hr;refine Rc hp (thn h4 λ_ s5 ⟨x,H5,I5,r5,y5,st5,fr5⟩=>?_);have I5':=I5.pinned (stat fr5) (T.obj _ _ st5);refine Rc hp (thn (hg _ s5 σ3 H5 x u _ I5' r5 (step x H5 y5)) λ_ s6 ⟨σ6,H6,I6,q6⟩=>?_);refine Rc hp (thn (hb _ s6 σ6 H6 _ I6 q6) λf s7 q7=>?_);have again:∀{σ7:St}{H7:Hp},Inv X (pins++m9 fp s5.heap) σ7 H7 s7->N σ7 H7->∃m,m<n/\∃i σ' H',Inv X pins σ' H' s7/\tn i s7.heap/\(∀b∈fp,H' b=none)/\W i m σ' H':=λ{σ7 H7} I7 n7=>by
   obtain⟨m',hm,w7⟩:=hN σ7 H7 n7;refine⟨m',hm,i+1,σ7,H7,I7.jq,T.keep _ _ _ st5 λb hb o e=>(I7.pin (b,o) (OT _ (OT _ (fI hb e)))).1,λb hb=>?_,w7⟩;obtain⟨o,e,d⟩:=T.obj _ _ st5 b hb;exact(I7.pin (b,o) (OT _ (OT _ (fI hb e)))).2.1
  cases f with
  |next=>obtain⟨σ7,H7,I7,n7⟩:=q7;exact again I7 n7
  |cont=>obtain⟨σ7,H7,I7,n7⟩:=q7;exact again I7 n7
  |brk=>obtain⟨σ7,H7,I7,q7⟩:=q7;exact⟨σ7,H7,I7.jq,q7⟩
  |ret v=>obtain⟨x7,σ7,H7,I7,r7,q7⟩:=q7;exact⟨x7,σ7,H7,I7.jq,r7,q7⟩
end
noncomputable abbrev R2:=V->V->Hp->VK->Prop
def OpR(X:Cx)(f:Value->Value->Sem Value)(r:R2):Prop:=
 ∀(pins:List (Addr×Obj))(s:Shared)(σ:St)(H:Hp)(x y:V)(v u:Value)(Q:VK),Inv X pins σ H s->RelV x v->RelV y u->r x y H Q ->
  wpAny (model X.prog X.w) X.A (f v u) (EP X pins σ Q) X.xe s
def UnR(X:Cx)(f:Value->Sem Value)(r:V->Hp->VK->Prop):Prop:=
 ∀(pins:List (Addr×Obj))(s:Shared)(σ:St)(H:Hp)(x:V)(v:Value)(Q:VK),Inv X pins σ H s->RelV x v->r x H Q ->
  wpAny (model X.prog X.w) X.A (f v) (EP X pins σ Q) X.xe s
def aX(X:Cx)(f:Value)(r:List V->Hp->VK->Prop):Prop:=
 ∀(pins:List (Addr×Obj))(s:Shared)(σ:St)(H:Hp)(xs:List V)(us:List Value)(Q:VK),Inv X pins σ H s->Vals xs us->r xs H Q ->
  wpAny (model X.prog X.w) X.A (call f us) (EP X pins σ Q) X.xe s
def NV(X:Cx)(r:V->Hp->(Bool->Hp->Prop)->Prop):Prop:=
 ∀(pins:List (Addr×Obj))(s:Shared)(σ:St)(H:Hp)(x:V)(v:Value)(Q:Bool->Hp->Prop),Inv X pins σ H s->RelV x v->r x H Q ->
  wpAny (model X.prog X.w) X.A (truthy v) (TP X pins σ Q) X.xe s
noncomputable def tOp(r:R2)(ta tb:TE):TE:=λσ H Q=>ta σ H λx H1=>tb σ H1 λy H2=>r x y H2 Q
noncomputable def tUn(r:V->Hp->VK->Prop)(ta:TE):TE:=λσ H Q=>ta σ H λx H1=>r x H1 Q
noncomputable def rI(C:Int->Int->Prop)(g:Int->Int->V):R2:=λx y H Q=>∃i j,x=.int i/\y=.int j/\C i j/\Q (g i j) H
noncomputable def rI0(g:Int->Int->V):R2:=λx y H Q=>∃i j,x=.int i/\y=.int j/\Q (g i j) H
def rU(g:Int->V):V->Hp->VK->Prop:=λx H Q=>∃i,x=.int i/\Q (g i) H
section
variable{X:Cx}{a b c:Expr}{ta tb tc:TE}{pos:Pos}
theorem DH(ha:PE X a ta)(hb:PE X b tb){pins:List (Addr×Obj)}{s:Shared}{σ:St}{H:Hp}{R:V->V->Hp->Prop}(I:Inv X pins σ H s)
  (h:ta σ H λx H1=>tb σ H1 λy H2=>R x y H2) {Q:Value->Shared->Prop} {f:Value->Value->Sem Value}
  (hf:∀v u s2 x y H2,Inv X pins σ H2 s2->RelV x v->RelV y u->R x y H2->wpAny (model X.prog X.w) X.A (f v u) Q X.xe s2) :
  wpAny (model X.prog X.w) X.A (eval a X.env) (λv s₁=>wpAny (model X.prog X.w) X.A (eval b X.env) (λu s₂=>wpAny (model X.prog X.w) X.A (f v u) Q X.xe s₂) X.xe s₁) X.xe s:=by
 refine thn (ha pins s σ H _ I h) λv s1 ⟨x,H1,I1,r1,q1⟩=>?_;refine thn (hb pins s1 σ H1 _ I1 q1) λu s2 ⟨y,H2,I2,r2,q2⟩=>?_;exact hf v u s2 x y H2 I2 r1 r2 q2
theorem LN{op:Operator}{r:R2}(ho:OpR X (binaryOp op) r)(ha:PE X a ta)(hb:PE X b tb):PE X (.BinOp a op b pos) (tOp r ta tb):=by
 intro pins s σ H Q I h;exact wpAny_BinOp (DH ha hb I h λv u s2 x y H2 I2 rx ry q=>ho pins s2 σ H2 x y v u Q I2 rx ry q)
theorem Mk{op:UnaryOp}{r:V->Hp->VK->Prop}(ho:UnR X (unaryOp op) r)(ha:PE X a ta):PE X (.UnaryOp op a pos) (tUn r ta):=by
 intro pins s σ H Q I h;exact UnaryOp_ (thn (ha pins s σ H _ I h) λv s1 ⟨x,H1,I1,r1,q1⟩=>ho pins s1 σ H1 x v Q I1 r1 q1)
theorem opI{f:Value->Value->Sem Value}{C:Int->Int->Prop}{g:Int->Int->Int}
  (rule:∀(i j:Int)(t u:Tok)(s:Shared)(Q:Value->Shared->Prop)(E:Value->Shared->Prop),C i j->Q (.int (g i j) s.toks) { s with toks:=s.toks+1 }->wpAny (model X.prog X.w) X.A (f (.int i t) (.int j u)) Q E s) :
  OpR X f (rI C λi j=>.int (g i j)):=by
 intro pins s σ H x y v u Q I rx ry h;obtain⟨i,j,rfl,rfl,hc,q⟩:=h;obtain⟨t,rfl⟩:=rx;obtain⟨t',rfl⟩:=ry;exact rule i j t t' s _ _ hc ⟨.int (g i j),H,I.tok _,⟨_,rfl⟩,q⟩
theorem K_{f:Value->Value->Sem Value}{g:Int->Int->Int}
  (rule:∀(i j:Int)(t u:Tok)(s:Shared)(Q:Value->Shared->Prop)(E:Value->Shared->Prop),Q (.int (g i j) s.toks) { s with toks:=s.toks+1 }->wpAny (model X.prog X.w) X.A (f (.int i t) (.int j u)) Q E s) :
  OpR X f (rI0 λi j=>.int (g i j)):=by
 intro pins s σ H x y v u Q I rx ry h;obtain⟨i,j,rfl,rfl,q⟩:=h;obtain⟨t,rfl⟩:=rx;obtain⟨t',rfl⟩:=ry;exact rule i j t t' s _ _ ⟨.int (g i j),H,I.tok _,⟨_,rfl⟩,q⟩
theorem zf{f:Value->Value->Sem Value}{g:Int->Int->Bool}
  (rule:∀(i j:Int)(t u:Tok)(s:Shared)(Q:Value->Shared->Prop)(E:Value->Shared->Prop),Q (.bool (g i j)) s->wpAny (model X.prog X.w) X.A (f (.int i t) (.int j u)) Q E s) :
  OpR X f (rI0 λi j=>.bl (g i j)):=by
 intro pins s σ H x y v u Q I rx ry h;obtain⟨i,j,rfl,rfl,q⟩:=h;obtain⟨t,rfl⟩:=rx;obtain⟨t',rfl⟩:=ry;exact rule i j t t' s _ _ ⟨.bl (g i j),H,I,rfl,q⟩
def sh(i j:Int):Prop:=0<j/\j<1073741824
def sv(i j:Int):Prop:=0<=j/\j<=1000000/\i.natAbs<2 ^ 64
def l9(i j:Int):Prop:=(-(2 ^ 64)<i/\i<2 ^ 64)\/(-(2 ^ 64)<j/\j<2 ^ 64)
theorem l9.ok{i j:Int}(h:l9 i j):IntMulOk i j:=by
 rcases h with⟨h1,h2⟩ |⟨h1,h2⟩
 ·exact .of_left (Xd h1 h2)
 ·exact .of_right (Xd h1 h2)
theorem Kd:OpR X (binaryOp .Add) (rI0 λi j=>.int (i+j)):=K_ λ_ _ _ _ _ _ _ q=>add_int q
theorem IH:OpR X (binaryOp .Sub) (rI0 λi j=>.int (i-j)):=K_ λ_ _ _ _ _ _ _ q=>sub_int q
theorem Jl:OpR X (binaryOp .Mult) (rI l9 λi j=>.int (i*j)):=opI λ_ _ _ _ _ _ _ hc q=>mul_int q hc.ok
theorem F5:OpR X (binaryOp .FloorDiv) (rI sh λi j=>.int (i / j)):=opI λi j _ _ _ _ _ hc q=>by
 have h1:(0:Int)<j:=hc.1;have h2:j<1073741824:=hc.2;exact floordiv_int ⋯ (by rw[Int.fdiv_eq_ediv_of_nonneg i ⋯];exact q) (.inl (PyProof.noPylong_small ⋯))
theorem HW:OpR X (binaryOp .Mod) (rI (λ_ j=>0<j) λi j=>.int (i % j)):=opI λi j _ _ _ _ _ hc q=>by
 have h1:(0:Int)<j:=hc;exact mod_int' ⋯ (by rw[Int.fmod_eq_emod_of_nonneg i ⋯];exact q)
theorem JV:OpR X (binaryOp .Pow) (rI sv λi j=>.int (i ^ j.toNat)):=opI λ_ _ _ _ _ _ _ hc q=>pow_int_small hc.1 hc.2.1 hc.2.2 q
theorem unI{f:Value->Sem Value}{g:Int->Int}
  (rule:∀(i:Int)(t:Tok)(s:Shared)(Q:Value->Shared->Prop)(E:Value->Shared->Prop),Q (.int (g i) s.toks) { s with toks:=s.toks+1 }->wpAny (model X.prog X.w) X.A (f (.int i t)) Q E s) :
  UnR X f (rU λi=>.int (g i)):=by
 intro pins s σ H x v Q I rx h;obtain⟨i,rfl,q⟩:=h;obtain⟨t,rfl⟩:=rx;exact rule i t s _ _ ⟨.int (g i),H,I.tok _,⟨_,rfl⟩,q⟩
theorem IS:UnR X (unaryOp .USub) (rU λi=>.int (-i)):=unI λ_ _ _ _ _ q=>neg_int q
end
noncomputable def D8:V->V->Bool
 | .non,.non=>true | .non,.int _=>true | .int _,.non=>true | .non,.bl _=>true | .bl _,.non=>true | .non,.str _=>true | .str _,.non=>true
 | .int _,.int _=>true | .bl _,.bl _=>true | .str _,.str _=>true | .byt _,.byt _=>true
 | .int _,.str _=>true | .str _,.int _=>true | .bl _,.str _=>true | .str _,.bl _=>true
 |_,_=>false
noncomputable def rEq:R2:=λx y H Q=>D8 x y=true/\Q (.bl (decide (x=y))) H
noncomputable def rNe:R2:=λx y H Q=>D8 x y=true/\Q (.bl (!decide (x=y))) H
theorem xA{i j:Int}:decide (V.int i=V.int j)=(i==j):=by
 rw[Ph];simp
theorem Az{i j:Bool}:decide (V.bl i=V.bl j)=(i==j):=by
 rw[Ph];simp
theorem xQ{i j:Str}:decide (V.str i=V.str j)=(i==j):=by
 rw[Ph];simp
theorem xW{i j:Array UInt8}:decide (V.byt i=V.byt j)=(i.toList==j.toList):=by
 rw[Ph];cases i;cases j;simp
section
variable{X:Cx}{a b c:Expr}{ta tb tc:TE}{pos:Pos}
theorem aQ{pins:List (Addr×Obj)}{σ:St}{H:Hp}{s:Shared}{Q:VK}{k k':Bool}(I:Inv X pins σ H s)(q:Q (.bl k) H)(e:k=k'):EP X pins σ Q (.bool k') s:=by
 subst e;exact⟨.bl k,H,I,rfl,q⟩
theorem Ll:OpR X (compareOp .Eq) rEq:=by
 intro pins s σ H x y v u Q I rx ry h;obtain⟨hs,q⟩:=h;cases x with
 |non=>
  cases rx;cases y with
  |non=>cases ry;exact Xu (aQ I q (by simp))
  |bl j=>cases ry;exact Xv (aQ I q (by simp))
  |int j=>obtain⟨t',rfl⟩:=ry;exact XN (aQ I q (by simp))
  |str j=>obtain⟨t',rfl⟩:=ry;exact XQ (aQ I q (by simp))
  |_=>exact absurd (show false=true from hs) OF
 |bl i=>
  cases rx;cases y with
  |non=>cases ry;exact Xw (aQ I q (by simp))
  |bl j=>cases ry;exact eq_bool (aQ I q Az)
  |str j=>obtain⟨t',rfl⟩:=ry;exact Xx (aQ I q (by simp))
  |_=>exact absurd (show false=true from hs) OF
 |int i=>
  obtain⟨t,rfl⟩:=rx;cases y with
  |non=>cases ry;exact XR (aQ I q (by simp))
  |int j=>obtain⟨t',rfl⟩:=ry;exact eq_int (aQ I q xA)
  |str j=>obtain⟨t',rfl⟩:=ry;exact XU (aQ I q (by simp))
  |_=>exact absurd (show false=true from hs) OF
 |str i=>
  obtain⟨t,rfl⟩:=rx;cases y with
  |non=>cases ry;exact XW (aQ I q (by simp))
  |bl j=>cases ry;exact Xy (aQ I q (by simp))
  |int j=>obtain⟨t',rfl⟩:=ry;exact XX (aQ I q (by simp))
  |str j=>obtain⟨t',rfl⟩:=ry;exact eq_str (aQ I q xQ)
  |_=>exact absurd (show false=true from hs) OF
 |byt i=>
  obtain⟨t,rfl⟩:=rx;cases y with
  |byt j=>obtain⟨t',rfl⟩:=ry;exact PySem.W.eq_bytes (aQ I q xW)
  |_=>exact absurd (show false=true from hs) OF
 |_=>cases y<;>exact absurd (show false=true from hs) OF
theorem Lz:OpR X (compareOp .NotEq) rNe:=by
 intro pins s σ H x y v u Q I rx ry h;obtain⟨hs,q⟩:=h;cases x with
 |non=>
  cases rx;cases y with
  |non=>cases ry;exact Xz (aQ I q (by simp))
  |bl j=>cases ry;exact XB (aQ I q (by simp))
  |int j=>obtain⟨t',rfl⟩:=ry;exact XY (aQ I q (by simp))
  |str j=>obtain⟨t',rfl⟩:=ry;exact XZ (aQ I q (by simp))
  |_=>exact absurd (show false=true from hs) OF
 |bl i=>
  cases rx;cases y with
  |non=>cases ry;exact XC (aQ I q (by simp))
  |bl j=>cases ry;exact ne_bool (aQ I q (Pq not Az))
  |str j=>obtain⟨t',rfl⟩:=ry;exact XD (aQ I q (by simp))
  |_=>exact absurd (show false=true from hs) OF
 |int i=>
  obtain⟨t,rfl⟩:=rx;cases y with
  |non=>cases ry;exact X0 (aQ I q (by simp))
  |int j=>obtain⟨t',rfl⟩:=ry;exact ne_int (aQ I q (Pq not xA))
  |str j=>obtain⟨t',rfl⟩:=ry;exact X1 (aQ I q (by simp))
  |_=>exact absurd (show false=true from hs) OF
 |str i=>
  obtain⟨t,rfl⟩:=rx;cases y with
  |non=>cases ry;exact X2 (aQ I q (by simp))
  |bl j=>cases ry;exact XH (aQ I q (by simp))
  |int j=>obtain⟨t',rfl⟩:=ry;exact X3 (aQ I q (by simp))
  |str j=>obtain⟨t',rfl⟩:=ry;exact ne_str (aQ I q (Pq not xQ))
  |_=>exact absurd (show false=true from hs) OF
 |byt i=>
  obtain⟨t,rfl⟩:=rx;cases y with
  |byt j=>obtain⟨t',rfl⟩:=ry;exact PySem.W.ne_bytes (aQ I q (Pq not xW))
  |_=>exact absurd (show false=true from hs) OF
 |_=>cases y<;>exact absurd (show false=true from hs) OF
theorem zU:OpR X (compareOp .Lt) (rI0 λi j=>.bl (decide (i<j))):=zf λ_ _ _ _ _ _ _ q=>lt_int q
theorem qY:OpR X (compareOp .LtE) (rI0 λi j=>.bl (decide (i<=j))):=zf λ_ _ _ _ _ _ _ q=>le_int q
theorem Fz:OpR X (compareOp .Gt) (rI0 λi j=>.bl (decide (j<i))):=zf λ_ _ _ _ _ _ _ q=>gt_int q
theorem Mi:OpR X (compareOp .GtE) (rI0 λi j=>.bl (decide (j<=i))):=zf λ_ _ _ _ _ _ _ q=>ge_int q
theorem Ik:OpR X (compareOp .Is) (λx y H Q=>y=.non/\Q (.bl (decide (x=.non))) H):=by
  intro pins s σ H x y v u Q I rx ry h;obtain⟨rfl,q⟩:=h;cases ry;refine is_none_gen (aQ I q ?_);cases x<;>first
    |(cases rx;rfl)
    |(obtain⟨t,rfl⟩:=rx;rfl)
theorem F4:OpR X (compareOp .IsNot) (λx y H Q=>y=.non/\Q (.bl (!decide (x=.non))) H):=by
  intro pins s σ H x y v u Q I rx ry h;obtain⟨rfl,q⟩:=h;cases ry;refine isnot_none_gen (aQ I q ?_);cases x<;>first
    |(cases rx;rfl)
    |(obtain⟨t,rfl⟩:=rx;rfl)
theorem OpR.or{f:Value->Value->Sem Value}{r r':R2}(h:OpR X f r)(h':OpR X f r'):OpR X f (λx y H Q=>r x y H Q\/r' x y H Q):=by
 intro pins s σ H x y v u Q I rx ry q;rcases q with q |q
 ·exact h pins s σ H x y v u Q I rx ry q
 ·exact h' pins s σ H x y v u Q I rx ry q
theorem B4(b:Expr){op:CmpOp}(h:op≠.In:=by decide)(h2:op≠.NotIn:=by decide):behindInMarks op b=false:=by
  have e1:(op==CmpOp.In)=false:=by cases op<;>first |rfl |exact absurd rfl h
  have e2:(op==CmpOp.NotIn)=false:=by cases op<;>first |rfl |exact absurd rfl h2
  cases b<;>simp[behindInMarks,e1,e2]
theorem GG{op:CmpOp}{r:R2}(ho:OpR X (compareOp op) r)(ha:PE X a ta)(hb:PE X b tb)(hm:behindInMarks op b=false):PE X (.Compare a [op] [b] pos) (tOp r ta tb):=by
 intro pins s σ H Q I h;exact wpAny_Compare1 (DH ha hb I h λv u s2 x y H2 I2 rx ry q=>ho pins s2 σ H2 x y v u Q I2 rx ry q) hm
noncomputable def EW(t:TE):TT:=λσ H Q=>t σ H λx H'=>∃k,x=.bl k/\Q k H'
theorem F1{op:CmpOp}{r:R2}(ho:OpR X (compareOp op) r)(ha:PE X a ta)(hb:PE X b tb)(hm:behindInMarks op b=false):PT X (.Compare a [op] [b] pos) (EW (tOp r ta tb)):=by
 intro pins s σ H Q I h;refine wpAny_isTrue_Compare1 (thn (ha pins s σ H _ I h) λv s1 ⟨x,H1,I1,r1,q1⟩=>thn (hb pins s1 σ H1 _ I1 q1) λu s2 ⟨y,H2,I2,r2,q2⟩=>
  thn (ho pins s2 σ H2 x y v u _ I2 r1 r2 q2) λc s3 ⟨z,H3,I3,r3,k,e,q3⟩=>?_) hm
 subst e;cases r3;exact P_ ⟨H3,I3,q3⟩
noncomputable def vt(r r':R2)(ta tb tc:TE):TE:=λσ H Q=>ta σ H λx H1=>tb σ H1 λy H2=>r x y H2 λz H3=>∃k,z=.bl k /\
 (if k=true then tc σ H3 λw' H4=>r' y w' H4 Q else Q (.bl false) H3)
theorem DA{op op':CmpOp}{r r':R2}(ho:OpR X (compareOp op) r)(ho':OpR X (compareOp op') r')(ha:PE X a ta)(hb:PE X b tb)(hc:PE X c tc)
  (hm:lastMarks [op,op'] [b,c]=false:=by with_unfolding_all rfl):PE X (.Compare a [op,op'] [b,c] pos) (vt r r' ta tb tc):=by
 intro pins s σ H Q I h;refine Compare_chain (thn (ha pins s σ H _ I h) λv s1 ⟨x,H1,I1,r1,q1⟩=>chain_link (thn (hb pins s1 σ H1 _ I1 q1) λu s2 ⟨y,H2,I2,r2,q2⟩=>
  thn (ho pins s2 σ H2 x y v u _ I2 r1 r2 q2) λd s3 ⟨z,H3,I3,r3,k,e,q3⟩=>?_)) hm
 subst e;cases r3;refine P_ ?_;cases k with
 |false=>exact ite_ff ⟨.bl false,H3,I3,rfl,q3⟩
 |true=>exact ite_tt (chain_last (thn (hc pins s3 σ H3 _ I3 q3) λw' s4 ⟨z',H4,I4,r4,q4⟩=>ho' pins s4 σ H4 y z' u w' Q I4 r2 r4 q4))
theorem DS{op op':CmpOp}{r r':R2}(ho:OpR X (compareOp op) r)(ho':OpR X (compareOp op') r')(ha:PE X a ta)(hb:PE X b tb)(hc:PE X c tc)
  (hm:lastMarks [op,op'] [b,c]=false:=by with_unfolding_all rfl):PT X (.Compare a [op,op'] [b,c] pos) (EW (vt r r' ta tb tc)):=by
 intro pins s σ H Q I h;refine isTrue_chain (thn (ha pins s σ H _ I h) λv s1 ⟨x,H1,I1,r1,q1⟩=>test_link (thn (hb pins s1 σ H1 _ I1 q1) λu s2 ⟨y,H2,I2,r2,q2⟩=>
  thn (ho pins s2 σ H2 x y v u _ I2 r1 r2 q2) λd s3 ⟨z,H3,I3,r3,k,e,q3⟩=>?_)) hm
 subst e;cases r3;refine P_ ?_;cases k with
 |false=>
  obtain⟨k',e',q'⟩:=q3;cases e';exact ite_ff ⟨H3,I3,q'⟩
 |true=>
  refine ite_tt (test_last (thn (hc pins s3 σ H3 _ I3 q3) λw' s4 ⟨z',H4,I4,r4,q4⟩=>thn (ho' pins s4 σ H4 y z' u w' _ I4 r2 r4 q4) λd' s5 ⟨z2,H5,I5,r5,k2,e2,q5⟩=>?_));subst e2;cases r5;exact P_ ⟨H5,I5,q5⟩
def DB(K:Oh)(x:V)(H:Hp)(k:Bool):Prop:=
 match x with
 | .non=>k=false
 | .bl b=>k=b
 | .int i=>k=(i != 0)
 | .str y=>y.length<=sizeLine/\k=((y.length:Int) != 0)
 | .byt y=>y.size<=sizeLine/\k=((y.size:Int) != 0)
 | .ref p=>(∃xs,SqL K H p xs/\k=!xs.isEmpty)\/(∃xs,SqT K H p xs/\k=!xs.isEmpty)\/∃kvs,H p=some (.dK kvs)/\k=!kvs.isEmpty
 |_=>False
theorem yA{Z:Type}{kvs:List (Z×V)}{vs:List (Z×Value)}(r:KV kvs vs):(!vs.isEmpty)=!kvs.isEmpty:=by
 cases r<;>rfl
theorem p6{xs:List V}{its:List Value}(r:Vals xs its):(!its.toArray.isEmpty)=!xs.isEmpty:=by
 cases r<;>simp
theorem nh:(sizeLine:Nat)<2 ^ 63:=by rw[QT];decide
theorem Iv:NV X (λx H Q=>∃k,DB X.K x H k/\Q k H):=by
 intro pins s σ H x v Q I rx h;obtain⟨k,e,q⟩:=h;have hl:=nh;have hs:sizeLine=16777216:=QT;cases x with
 |non=>
  cases rx;have e':k=false:=e;subst e';exact truthy_none ⟨H,I,q⟩
 |bl b=>
  cases rx;have e':k=b:=e;subst e';exact P_ ⟨H,I,q⟩
 |int i=>
  obtain⟨t,rfl⟩:=rx;have e':k=(i != 0):=e;subst e';exact PySem.P.truthy_int ⟨H,I,q⟩
 |str y=>
  obtain⟨t,rfl⟩:=rx;obtain⟨hy,e'⟩:y.length<=sizeLine/\k=((y.length:Int) != 0):=e;subst e';exact PySem.P.truthy_str ⋯ ⟨H,I.tok _,q⟩
 |byt y=>
  obtain⟨t,rfl⟩:=rx;obtain⟨hy,e'⟩:y.size<=sizeLine/\k=((y.size:Int) != 0):=e;subst e';exact PySem.W.truthy_bytes ⋯ ⟨H,I.tok _,q⟩
 |ref p=>
  cases rx;have e':(∃xs,SqL X.K H p xs/\k=!xs.isEmpty)\/(∃xs,SqT X.K H p xs/\k=!xs.isEmpty)\/∃kvs,H p=some (.dK kvs)/\k=!kvs.isEmpty:=e;rcases e' with⟨xs,hx,e'⟩ |⟨xs,hx,e'⟩ |⟨kvs,hx,e'⟩
  ·subst e';obtain⟨its,r,pl,hz⟩:=I.list hx;have hlen:=r.length;exact wpAny_truthy_list pl.isList (by simp only[Ov];omega) ⟨H,I.tok _,by rw[p6 r];exact q⟩
  ·subst e';obtain⟨its,r,pl,hz⟩:=I.tuple hx;have hlen:=r.length;exact truthy_tuple pl (by simp only[Ov];omega) ⟨H,I.tok _,by rw[p6 r];exact q⟩
  ·subst e';obtain⟨hz,hS,vs,r,m⟩:kvs.length<=sizeLine/\(p==sysModules)=false/\∃vs,KV kvs vs/\s.heap.DictOf (aK X.prog X.w) p vs:=I.hok p _ hx;have hlen:kvs.length=vs.length:=TR r;exact wpAny_truthy_dict hS m ⋯ ⟨H,I.tok _,by rw[yA r];exact q⟩
 |_=>exact(show False from e).elim
theorem Dl(ha:PE X a ta)(he:∀whole,isTrue a X.env whole=(do let v<-whole;standAt a.pos;holding [v] (truthy v))) :
  PT X a (λσ H Q=>ta σ H λx H'=>∃k,DB X.K x H' k/\Q k H'):=by
 intro pins s σ H Q I h;exact isTrue_plain (thn (ha pins s σ H _ I h) λv s1 ⟨x,H1,I1,r1,q1⟩=>Iv pins s1 σ H1 x v Q I1 r1 q1) (he _)
theorem zQ:OpR X (binaryOp .Add) (λx y H Q=>∃i j,x=.str i/\y=.str j/\i.length+j.length<=sizeLine/\Q (.str (i++j)) H):=by
 intro pins s σ H x y v u Q I rx ry h;obtain⟨i,j,rfl,rfl,hz,q⟩:=h;obtain⟨t,rfl⟩:=rx;obtain⟨t',rfl⟩:=ry;exact add_str (λt' tk=>⟨.str (i++j),H,I.tok _,⟨_,rfl⟩,q⟩) hz
theorem vals1{x:V}{us:List Value}(r:Vals [x] us):∃u,us=[u]/\RelV x u:=by
 cases r with
 |cons r1 r2=>cases r2;exact⟨_,rfl,r1⟩
theorem vals2{x y:V}{us:List Value}(r:Vals [x,y] us):∃u w',us=[u,w']/\RelV x u/\RelV y w':=by
 cases r with
 |cons r1 r2=>
  cases r2 with
  |cons r3 r4=>cases r4;exact⟨_,_,rfl,r1,r3⟩
theorem Co(hc:X.calm=true):aX X (.builtin "max") (λxs H Q=>∃i j,xs=[.int i,.int j]/\Q (.int (if j>i then j else i)) H):=by
 intro pins s σ H xs us Q I r h;obtain⟨i,j,rfl,q⟩:=h;obtain⟨u,w',rfl,⟨t,rfl⟩,⟨t',rfl⟩⟩:=vals2 r;refine max_two_ints (I.ok.hd hc) λh' tk k=>⟨_,H,I.kept k,?_,q⟩;by_cases hj:j>i
 ·rw[Oe hj,Oe hj];exact⟨_,rfl⟩
 ·rw[Ot hj,Ot hj];exact⟨_,rfl⟩
theorem B0(hc:X.calm=true):aX X (.builtin "min") (λxs H Q=>∃i j,xs=[.int i,.int j]/\Q (.int (if j<i then j else i)) H):=by
 intro pins s σ H xs us Q I r h;obtain⟨i,j,rfl,q⟩:=h;obtain⟨u,w',rfl,⟨t,rfl⟩,⟨t',rfl⟩⟩:=vals2 r;refine min_two_ints (I.ok.hd hc) λh' tk k=>⟨_,H,I.kept k,?_,q⟩;by_cases hj:j<i
 ·rw[Oe hj,Oe hj];exact⟨_,rfl⟩
 ·rw[Ot hj,Ot hj];exact⟨_,rfl⟩
def Nx(K:Oh)(x:V)(H:Hp)(n:Nat):Prop:=
 match x with
 | .str y=>y.length<=sizeLine/\n=y.length
 | .byt y=>y.size<=sizeLine/\n=y.size
 | .ref p=>(∃xs,SqL K H p xs/\n=xs.length)\/∃xs,SqT K H p xs/\n=xs.length
 |_=>False
theorem vz:aX X (.builtin "len") (λxs H Q=>∃x n,xs=[x]/\Nx X.K x H n/\Q (.int n) H):=by
 intro pins s σ H xs us Q I r h;obtain⟨x,n,rfl,e,q⟩:=h;obtain⟨u,rfl,rx⟩:=vals1 r;have hl:=nh;have hs:sizeLine=16777216:=QT;cases x with
 |str y=>
  obtain⟨t,rfl⟩:=rx;obtain⟨hy,e'⟩:y.length<=sizeLine/\n=y.length:=e;subst e';exact len_str ⋯ ⟨.int _,H,I.tok _,⟨_,rfl⟩,q⟩
 |byt y=>
  obtain⟨t,rfl⟩:=rx;obtain⟨hy,e'⟩:y.size<=sizeLine/\n=y.size:=e;subst e';exact PySem.W.len_bytes ⋯ ⟨.int _,H,I.tok _,⟨_,rfl⟩,q⟩
 |ref p=>
  cases rx;have e':(∃xs,SqL X.K H p xs/\n=xs.length)\/∃xs,SqT X.K H p xs/\n=xs.length:=e;rcases e' with⟨xs,hx,e'⟩ |⟨xs,hx,e'⟩
  ·subst e';obtain⟨its,r',pl,hz⟩:=I.list hx;have hlen:=r'.length;exact Calls.call_len_list pl.isList (by simp only[Ov];omega) ⟨.int xs.length,H,I.tok _,⟨_,by simp only[Ov];rw[hlen]⟩,q⟩
  ·subst e';obtain⟨its,r',pl,hz⟩:=I.tuple hx;have hlen:=r'.length;exact len_tuple pl (by simp only[Ov];omega) ⟨.int xs.length,H,I.tok _,⟨_,by simp only[Ov];rw[hlen]⟩,q⟩
 |_=>exact(show False from e).elim
end
structure DN(h:Heap)(x dx C:Addr)(mA:Str->Option Value):Prop where
 obj:h.get? x=some (UA C dx)
 ns:h.Ns1 dx mA
 ne:dx≠x
theorem BQ{h:Heap}{dx:Addr}{mA:Str->Option Value}(n:h.Ns1 dx mA):∃od,h.get? dx=some od/\∀name,UZ name od=some (mA name):=by
 obtain⟨o,es,ep,ho,hd,hk,_,hm⟩:=n;refine⟨o,ho,λname=>?_⟩;have e:=hm name;unfold nsFind findBy at e;rw[<-Array.find?_toList]at e;unfold UZ;rw[hd];dsimp only;split
 ·rename_i y q;rw[q]at e;exact Pq some e
 ·rename_i q;rw[q]at e;have a:es.toList.any (·.refKey)=false:=by
   rw[List.any_eq_false];intro y hy;obtain⟨z,t,hkey⟩:=hk y (Rq.mp hy);simp[DictEntry.refKey,hkey]
  have a':¬es.toList.any (·.refKey)=true:=by rw[a];exact OF
  rw[Ot a'];exact Pq some e
theorem DN.look{h:Heap}{x dx C:Addr}{mA:Str->Option Value}(I:DN h x dx C mA):∃od,PySem.W.InstAt h x (UA C dx) C (some od)/\∀name,UZ name od=some (mA name):=
 let⟨od,ho,hl⟩:=BQ I.ns
 ⟨od,⟨I.obj,rfl,rfl,ho⟩,hl⟩
theorem gF.some_of{v:V}{o:Option Value}(r:gF (some v) o):∃u,o=some u/\RelV v u:=by
 cases o with
 |none=>exact(show False from r).elim
 |some u=>exact⟨u,rfl,r⟩
section
variable{P:Program}{w:World}{H H':Hp}{h h':Heap}{a C dx:Addr}{fs fs':List (Str×V)}
theorem GW(hok:HOk P w H h)(e:H a=some (.ins C dx fs)):∃mA,DN h a dx C mA/\(∀f,gF (fs.lookup f) (mA f))/\XM mA (fs.map (·.1))/\fs.length<=1000/\H dx=some (.own a):=by
 obtain⟨d,z,ne,ob,mA,n,r,q⟩:=(show aV P w H h a (.ins C dx fs)from hok a _ e);exact⟨mA,⟨ob,n,ne⟩,r,q,z,d⟩
end
structure Cls(K:Oh)(C:Addr):Prop where
 pg:Wq K C Str.empty=true
 hd:PySem.W.hasDictIn K C=true
 po:PySem.W.plainOver K C=true
 sa:WY K (.ref C) "__setattr__"=some (some (.builtin "object.__setattr__"))
theorem Cls.get{K:Oh}{C:Addr}(c:Cls K C)(f:Str):Wq K C f=true:=c.pg
section
variable{X:Cx}{pins:List (Addr×Obj)}{σ:St}{H:Hp}{s:Shared}{A:Around}{E:Value->Shared->Prop}{Q:Value->Shared->Prop}{c:Value}{b:Bool}
inductive gB(K:Oh)(H:Hp):V->Value->Prop where
 |non:gB K H .non (.type "NoneType")
 |bl (x:Bool):gB K H (.bl x) (.type "bool")
 |int (i:Int):gB K H (.int i) (.type "int")
 |str (x:Str):gB K H (.str x) (.type "str")
 |flt (x:UInt64):gB K H (.flt x) (.type "float")
 |lst {a:Addr} {xs:List V} (e:H a=some (.lst xs)):gB K H (.ref a) (.type "list")
 |frz {a:Addr} {o:Obj} {xs:List V} (e:H a=some (.frz o (.lst xs))):gB K H (.ref a) (.type "list")
 |tup {a:Addr} {xs:List V} (e:H a=some (.tup xs)):gB K H (.ref a) (.type "tuple")
 |dK {a:Addr} {kvs:List (Key×V)} (e:H a=some (.dK kvs)):gB K H (.ref a) (.type "dict")
 |dT {a:Addr} {kvs:List (List Key×V)} (e:H a=some (.dT kvs)):gB K H (.ref a) (.type "dict")
 |ins {a C dx:Addr} {fs:List (Str×V)} (e:H a=some (.ins C dx fs)) (cl:Cls K C) (ha:WY K (.ref C) "__class__"=some (some (.builtin "object.__class__")))
   (hn:PySem.W.specialIn K (.builtin "object.__class__") "__get__"=some (some (.builtin "getset_descriptor.__get__"))) (htk:PySem.W.takesIn K (.builtin "object.__class__")=some true)
   (hm:PySem.W.mroIn K C (.type "object")=some true):gB K H (.ref a) (.ref C)
theorem Cs{x:V}{u t:Value}(I:Inv X pins σ H s)(rx:RelV x u)(ty:gB X.K H x t)(e:WZ X.K t c=some b)(h:∀tk,Q (.bool b) { s with toks:=tk }) :
  wpAny (model X.prog X.w) A (call (.builtin "isinstance") [u,c]) Q E s:=by
 cases ty with
 |non=>cases(show u=Value.none from rx);exact Qe PySem.W.kitx_none I.kIn True.intro e (λz=>nomatch z) h
 |bl y=>cases(show u=Value.bool y from rx);exact Qe PySem.W.kitx_bool I.kIn True.intro e (λz=>nomatch z) h
 |int i=>obtain⟨t,q⟩:=(show∃t,u=Value.int i t from rx);cases q;exact Qe PySem.W.kitx_int I.kIn True.intro e (λz=>nomatch z) h
 |str y=>obtain⟨t,q⟩:=(show∃t,u=Value.str y t from rx);cases q;exact Qe PySem.W.kitx_str I.kIn True.intro e (λz=>nomatch z) h
 |flt y=>obtain⟨t,q⟩:=(show∃t,u=Value.float y t from rx);cases q;exact Qe PySem.W.kitx_float I.kIn True.intro e (λz=>nomatch z) h
 | @lst a xs ea=>
  cases(show u=Value.ref a from rx);obtain⟨_,_,n,_,h1⟩:=(show aV X.prog X.w H s.heap a (.lst xs)from I.hok a _ ea);exact Qe V4 I.kIn ⟨_,h1,rfl⟩ e (λz=>nomatch z) h
 | @frz a ob xs ea=>
  cases(show u=Value.ref a from rx);obtain⟨_,_,_,n,_,h1⟩:=(show aV X.prog X.w H s.heap a (.frz ob (.lst xs))from I.hok a _ ea);exact Qe V4 I.kIn ⟨_,h1,rfl⟩ e (λz=>nomatch z) h
 | @tup a xs ea=>
  cases(show u=Value.ref a from rx);obtain⟨_,_,_,p⟩:=(show aV X.prog X.w H s.heap a (.tup xs)from I.hok a _ ea);obtain⟨o,h1,h2,_⟩:=p;exact Qe PySem.W.kitx_tuple I.kIn ⟨o,h1,h2⟩ e (λz=>nomatch z) h
 | @dK a kvs ea=>
  cases(show u=Value.ref a from rx);obtain⟨_,_,vs,_,p⟩:=(show aV X.prog X.w H s.heap a (.dK kvs)from I.hok a _ ea);obtain⟨o,es,ep,h1,h2,_⟩:=p;exact Qe V5 I.kIn ⟨o,h1,h2.1⟩ e (λz=>nomatch z) h
 | @dT a kvs ea=>
  cases(show u=Value.ref a from rx);obtain⟨_,_,xs,_,o,es,ep,h1,h2,_⟩:=(show aV X.prog X.w H s.heap a (.dT kvs)from I.hok a _ ea);exact Qe V5 I.kIn ⟨o,h1,h2.1⟩ e (λz=>nomatch z) h
 | @ins a C dx fs ea cl ha hn htk hm=>
  cases(show u=Value.ref a from rx);obtain⟨mA,O,_⟩:=GW I.hok ea;obtain⟨od,J,_⟩:=O.look;exact Qe (PySem.W.kitx_own (cl.get _) cl.hd ha hn htk hm) I.kIn J e (λz=>nomatch z) h
end
structure cP(k:Nat)(A:Around):Prop where
 hd:A.handled=none
 dp:A.depth+3*k+5<recursionLimit
 un:A.units+16*k+200<cLine
theorem cP.mono{j k:Nat}{A:Around}(r:cP k A)(h:j<=k):cP j A:=⟨r.hd,by have:=r.dp;omega,by have:=r.un;omega⟩
theorem cP.deeper{k:Nat}{A:Around}(r:cP (k+1) A)(env:Env):cP k (A.deeper env):=
 ⟨r.hd,by have:=r.dp;show A.depth+1+3*k+5<_;omega,by have:=r.un;show A.units+3+16*k+200<_;omega⟩
theorem cP.depth{k:Nat}{A:Around}(r:cP k A):A.depth<recursionLimit:=by have:=r.dp;omega
theorem cP.units{k:Nat}{A:Around}(r:cP k A):A.units+64<cLine:=by have:=r.un;omega
noncomputable def NU:TA:=λ_ H Q=>Q [] H
noncomputable def MJ(ta:TE)(tr:TA):TA:=λσ H Q=>ta σ H λx H1=>tr σ H1 λxs H2=>Q (x::xs) H2
section
variable{X:Cx}{e:Expr}{es:List Expr}{te:TE}{t:TA}{pos:Pos}
theorem h8:PA X [] NU:=λ_ _ _ _ H Q I h=>V6 ⟨[],H,I,.nil,h⟩
theorem eC(ha:PE X e te)(hr:PA X es t)(hs:starEach (e::es) X.env=(false,eval e X.env)::starEach es X.env:=by rfl):PA X (e::es) (MJ te t):=by
 intro pos pins s σ H Q I h;rw[hs];show wpAny _ _ (spliced ((false,eval e X.env)::backTo pos (starEach es X.env))) _ _ s;refine QK (thn (ha pins s σ H _ I h) λu s1 ⟨x,H1,I1,r1,q1⟩=>?_);exact thn (hr pos pins s1 σ H1 _ I1 q1) λus s2 ⟨xs,H2,I2,r2,q2⟩=>⟨x::xs,H2,I2,.cons r1 r2,q2⟩
noncomputable def NH(t:TA):TE:=λσ H Q=>t σ H λxs H1=>xs.length<=sizeLine/\∀p,H1 p=none->Q (.ref p) (upd H1 p (.tup xs))
noncomputable def NZ(t:TA):TE:=λσ H Q=>t σ H λxs H1=>xs.length<=sizeLine/\∀p,H1 p=none->Q (.ref p) (upd H1 p (.lst xs))
theorem By{x1}(h:PA X es t):PE X (.Tuple es x1 pos) (NH t):=by
 intro pins s σ H Q I hq;refine wpAny_Tuple_spliced (thn (h pos pins s σ H _ I hq) λus s1 ⟨xs,H1,I1,r,z,q⟩=>⟨by rw[<-r.length];exact z,?_⟩);have hf:H1 s1.heap.objs.size=none:=I1.hok.fresh (Oj _);refine⟨.ref s1.heap.objs.size,upd H1 s1.heap.objs.size (.tup xs),I1.laid (t':=s1.toks) (λb u e=>Od _ e) (Oj _) ?_,rfl,q _ hf⟩;exact⟨z,us,r,⟨_,OA _ rfl,rfl,_,rfl⟩⟩
theorem Cu(h:PA X es t):PE X (.List es pos) (NZ t):=by
 intro pins s σ H Q I hq;refine wpAny_List_spliced (thn (h pos pins s σ H _ I hq) λus s1 ⟨xs,H1,I1,r,z,q⟩=>⟨by rw[<-r.length];exact z,?_⟩);have hf:H1 s1.heap.objs.size=none:=I1.hok.fresh (Oj _);refine⟨.ref s1.heap.objs.size,upd H1 s1.heap.objs.size (.lst xs),I1.laid (t':=s1.toks) (λb u e=>Od _ e) (Oj _) ?_,rfl,q _ hf⟩;exact⟨z,us,0,r,OA _ rfl⟩
end
noncomputable abbrev Sp:=List V->Hp->VK->XK->Prop
noncomputable abbrev CXT:=List Env->Hp->Shared->XK->Value->Shared->Prop
structure zP(P:Program)(w:World)(K:Oh)(mg:Str->Option Value)(base:Heap)(A:Around)(outer:List Env)(s:Shared)(H:Hp):Prop where
 frames:A.frames=some outer
 mod:Mod K mg base
 bs:∀b o,base.get? b=some o->s.heap.get? b=some o/\H b=none
 bsz:base.objs.size<=s.heap.objs.size
 jf:s.heap.FunFrames base outer
 frf:∀b∈frs outer,H b=none
 hok:HOk P w H s.heap
 bare:AllBare s.gens
def CE(outer:List Env)(P:Program)(w:World)(H:Hp)(s:Shared)(Q:VK)(u:Value)(s':Shared):Prop:=
 ∃v H',s'.os=s.os/\AllBare s'.gens/\Un (frs outer) [] H H' s.heap s'.heap/\HOk P w H' s'.heap/\RelV v u/\Q v H'
def CR(CX:CXT)(outer:List Env)(P:Program)(w:World)(H:Hp)(s:Shared)(Q:VK)(E:XK)(r:Result)(s':Shared):Prop:=
 match r with
 | .ok (.ret u)=>CE outer P w H s Q u s'
 | .ok _=>False
 | .error e=>CX outer H s E e s'
structure dY(P:Program)(w:World)(K:Oh)(mg:Str->Option Value)(base:Heap)(CX:CXT)(k:Nat)(f:Addr)(fd:FuncData)(ps:List Str)(sp:Sp):Prop where
 len:∀vs H Q E,sp vs H Q E->vs.length=ps.length
 run:∀(A:Around)(outer:List Env)(s:Shared)(H:Hp)(args:Args)(us:List Value)(vs:List V)(Q:VK)(E:XK),cP k A->zP P w K mg base A outer s H->BindsTo s fd args (ps.zip us)->Vals vs us->sp vs H Q E ->
  codeAny (model P w) A (.call (.ref f) args) (CR CX outer P w H s Q E) s
theorem dY.mono{P:Program}{w:World}{K:Oh}{mg:Str->Option Value}{base:Heap}{CX:CXT}{j k:Nat}{f:Addr}{fd:FuncData}{ps:List Str}{sp:Sp}(F:dY P w K mg base CX j f fd ps sp)(h:j<=k) :
  dY P w K mg base CX k f fd ps sp:=⟨F.len,λA outer s H args us vs Q E hr=>F.run A outer s H args us vs Q E (hr.mono h)⟩
theorem dY.imp{P:Program}{w:World}{K:Oh}{mg:Str->Option Value}{base:Heap}{CX:CXT}{k:Nat}{f:Addr}{fd:FuncData}{ps:List Str}{sp sp':Sp}(F:dY P w K mg base CX k f fd ps sp)
  (h:∀vs H Q E,sp' vs H Q E->sp vs H Q E):dY P w K mg base CX k f fd ps sp':=
 ⟨λvs H Q E q=>F.len vs H Q E (h _ _ _ _ q),λA outer s H args us vs Q E hr he hb hv hs=>F.run A outer s H args us vs Q E hr he hb hv (h _ _ _ _ hs)⟩
section
variable{X:Cx}{pins:List (Addr×Obj)}{σ:St}{H:Hp}{s s':Shared}
theorem Inv.Ny(I:Inv X pins σ H s):zP X.prog X.w X.K X.mg X.base X.A X.stack s H:=
 ⟨I.ok.frames,I.ok.mod,I.bs,PC I.ok.bsz I.sz,I.stack,I.xI,I.hok,I.bare⟩
theorem Inv.after{Q:VK}{u:Value}(I:Inv X pins σ H s)(h:CE X.stack X.prog X.w H s Q u s'):EP X pins σ Q u s':=by
 obtain⟨v,H',os,bare,un,hok,r,q⟩:=h;obtain⟨hh,g,d,t,os'⟩:=s';obtain rfl:os'=s.os:=os;exact⟨v,H',I.call (h':=hh) (g':=g) (d':=d) (t':=t) (ch:=[]) un hok bare (λb z=>absurd z (by simp)),r,q⟩
end
noncomputable def EZ(sp:Sp)(dvs:List V)(E:XK)(t:TA):TE:=λσ H Q=>t σ H λvs H1=>sp (vs++dvs) H1 Q E
def Binds(K:Oh)(fd:FuncData)(ps:List Str)(ds:List Value):Prop:=
 ∀(s:Shared)(us:List Value),K.In s.heap->(us++ds).length=ps.length->BindsTo s fd ⟨us,[]⟩ (ps.zip (us++ds))
theorem Binds.all{K:Oh}{fd:FuncData}{ps:List Str}(h:∀us:List Value,us.length=ps.length->bindArgs fd ⟨us,[]⟩=pure (ps.zip us)):Binds K fd ps []:=λs us _ hl=>by
 rw[Qp]at hl ⊢;exact .of_eq (h us hl)
def Passes(CX:CXT)(X:Cx)(E:XK):Prop:=∀(pins:List (Addr×Obj))(σ:St)(H:Hp)(s:Shared)(e:Value)(s':Shared),Inv X pins σ H s->CX X.stack H s E e s'->X.xe e s'
section
variable{X:Cx}{CX:CXT}{k:Nat}{f C:Addr}{fd:FuncData}{ps:List Str}{sp:Sp}{dvs:List V}{ds:List Value}{E:XK}{x m:Str}{p pos apos:Pos}{e o:Expr}{es:List Expr}{ta:TE}{t:TA}
theorem Cj{pins:List (Addr×Obj)}{σ:St}{H:Hp}{s:Shared}{Q:VK}{us:List Value}{vs:List V}(F:dY X.prog X.w X.K X.mg X.base CX k f fd ps sp)(hr:cP k X.A)(hb:Binds X.K fd ps ds)(hd:Vals dvs ds)(hx:Passes CX X E)
  (I:Inv X pins σ H s) (r:Vals vs us) (h:sp (vs++dvs) H Q E):wpAny (model X.prog X.w) X.A (call (.ref f) us) (EP X pins σ Q) X.xe s:=by
 have r2:Vals (vs++dvs) (us++ds):=r.append hd;have hl:(us++ds).length=ps.length:=by rw[<-r2.length];exact F.len _ _ _ _ h
 refine Ve (Ud (F.run X.A X.stack s H ⟨us,[]⟩ (us++ds) (vs++dvs) Q E hr I.Ny (hb s us I.kIn hl) r2 h) λr s' hq=>?_);cases r with
 |error e=>exact hx pins σ H s e s' I hq
 |ok fl=>
  cases fl with
  |ret u=>exact I.after hq
  |next=>exact QU hq
  |brk=>exact QU hq
  |cont=>exact QU hq
theorem GF(F:dY X.prog X.w X.K X.mg X.base CX k f fd ps sp)(hr:cP k X.A)(hg:Gl X x)(hm:X.mg x=some (.ref f))(hk:R4 X.K (.ref f)=true)(hb:Binds X.K fd ps ds)(hd:Vals dvs ds)(hx:Passes CX X E)
  (ha:PA X (e::es) t) (hdb:(x==("__debug__":Str))=false:=by decide) (he:starEach (e::es) X.env=(false,eval e X.env)::starEach es X.env:=by rfl) (hpl:(backTo pos (starEach es X.env)).any (·.1)=false:=by rfl) :
  PE X (.Call (.Name x p) (e::es) [] pos) (EZ sp dvs E t):=by
 intro pins s σ H Q I h;refine Qt (yk I hg hm ?_ hdb);refine VC (h₀:=X.base) I.ok.mod.kin hk (thn (ha pos pins s σ H _ I h) λus s1 ⟨vs,H1,I1,r,q⟩=>⟨I1.kIn,?_⟩) he hpl;exact Cj F hr hb hd hx I1 r q
end
structure kX(N P:List Str)(sc:Scope):Prop where
 kind:sc.kind=.function
 co:sc.isCoroutine=false
 gen:sc.isGenerator=false
 nd:N.Nodup
 pre:N.take P.length=P
 par:∀x∈P,sc.names.lookup x=some .local\/sc.names.lookup x=some .cell
 nofree:∀y∈sc.names,y.2≠.free
theorem tG{kindOf:Str->Option NameKind}{x:Str}:∀{binds:List (Str×Value)}{m:Str->Option Value},(∀v,(x,v)∉binds)->bindL kindOf binds m x=m x
 | [],_,_=>rfl
 |(n,v)::r,m,h=>by
  unfold bindL;rw[tG λw hw=>h w (OJ _ hw)];split
  ·have:x≠n:=by rintro rfl;exact h v OY
   simp[this]
  ·rfl
theorem sX{kindOf:Str->Option NameKind}{x:Str}:∀{binds:List (Str×Value)}{m:Str->Option Value},(∀v,(x,v)∉binds)->bindC kindOf binds m x=m x
 | [],_,_=>rfl
 |(n,v)::r,m,h=>by
  unfold bindC;rw[sX λw hw=>h w (OJ _ hw)];split
  ·rfl
  ·have:x≠n:=by rintro rfl;exact h v OY
   simp[this]
theorem tL{kindOf:Str->Option NameKind}{x:Str}{v:Value}:∀{P:List Str}{vs:List Value}{i:Nat}{m:Str->Option Value},P.Nodup->P[i]?=some x->vs[i]?=some v->kindOf x=some .local ->
  bindL kindOf (P.zip vs) m x=some v
 | [],_,_,_,_,h,_,_=>by simp at h
 |_::_,[],_,_,_,_,h,_=>by simp at h
 |p::P,w::vs,0,m,nd,h1,h2,hk=>by
  simp at h1 h2;subst h1;subst h2;show bindL kindOf ((p,w)::P.zip vs) m p=_;unfold bindL;rw[tG λv hv=>(OW.mp nd).1 (UC hv).1,Oe hk];simp
 |p::P,w::vs,i+1,m,nd,h1,h2,hk=>by
  show bindL kindOf ((p,w)::P.zip vs) m x=_;unfold bindL;exact tL (i:=i) (OW.mp nd).2 (by simpa using h1) (by simpa using h2) hk
theorem sW{kindOf:Str->Option NameKind}{x:Str}{v:Value}:∀{P:List Str}{vs:List Value}{i:Nat}{m:Str->Option Value},P.Nodup->P[i]?=some x->vs[i]?=some v->kindOf x≠some .local ->
  bindC kindOf (P.zip vs) m x=some v
 | [],_,_,_,_,h,_,_=>by simp at h
 |_::_,[],_,_,_,_,h,_=>by simp at h
 |p::P,w::vs,0,m,nd,h1,h2,hk=>by
  simp at h1 h2;subst h1;subst h2;show bindC kindOf ((p,w)::P.zip vs) m p=_;unfold bindC;rw[sX λv hv=>(OW.mp nd).1 (UC hv).1,Ot hk];simp
 |p::P,w::vs,i+1,m,nd,h1,h2,hk=>by
  show bindC kindOf ((p,w)::P.zip vs) m x=_;unfold bindC;exact sW (i:=i) (OW.mp nd).2 (by simpa using h1) (by simpa using h2) hk
noncomputable def start(N:List Str)(vs:List V):St:=vs.map some++Pm (N.length-vs.length) none
noncomputable def mT(CX:CXT)(P:Program)(w:World)(K:Oh)(mg:Str->Option Value)(base:Heap)(N:List Str)(qual:Str)(scope:Scope)(f:Addr)(cd:Value)(A:Around)(outer:List Env)(s:Shared)(H:Hp)(E:XK):Cx where
 prog:=P
 w:=w
 K:=K
 mg:=mg
 base:=base
 A:=A.deeper (envOfC qual scope s.heap.objs.size f cd)
 N:=N
 s₀:=s
 H₀:=H
 env:=envOfC qual scope s.heap.objs.size f cd
 outer:=outer
 stack:=envOfC qual scope s.heap.objs.size f cd::outer
 ex:=[]
 calm:=true
 fn:=λ_=>true
 pn:=[]
 xe:=λe s'=>wpAny (model P w) (A.deeper (envOfC qual scope s.heap.objs.size f cd)) (leaving (envOfC qual scope s.heap.objs.size f cd) e) (λ_ s''=>CX outer H s E e s'') (λe' s''=>CX outer H s E e' s'') s'
theorem uM{sc:Scope}{n:Nat}{x:Str}(h:sc.names.lookup x=some .cell):∃c,(cellsFrom n sc.names []).lookup x=some c:=by
 have q:=UM sc.names n [] (.inl h);exact Rw.mp q
theorem AI{CX:CXT}{P:Program}{w:World}{K:Oh}{mg:Str->Option Value}{base:Heap}{N ps:List Str}{qual:Str}{scope:Scope}{f:Addr}{cd:Value}{A:Around}{outer:List Env}{s s1:Shared}{H:Hp}{E:XK}{us:List Value}{vs:List V}
  (S:kX N ps scope) (hd:A.handled=none) (e0:zP P w K mg base A outer s H) (hl:vs.length=ps.length) (r:Vals vs us)
  (x:InCallC s s.heap.objs.size (bindL (envOfC qual scope s.heap.objs.size f cd).kindOf (ps.zip us) λ_=>none) (cellsFrom (s.heap.objs.size+1) scope.names []) (bindC (envOfC qual scope s.heap.objs.size f cd).kindOf (ps.zip us) λ_=>none) s1) :
  Inv (mT CX P w K mg base N qual scope f cd A outer s H E) [] (start N vs) H s1:=by
 have hpl:ps.length<=N.length:=by have:=Pq TF S.pre;rw[Pd]at this;omega
 obtain⟨h1,tk,rfl,hk⟩:=x.done;have noA:∀b:Addr,b∉(mT CX P w K mg base N qual scope f cd A outer s H E).ex:=λb z=>absurd (show b∈([]:List Addr)from z) (by simp);refine⟨⟨e0.mod,S.kind,rfl,rfl,Oj _,λy z c h1 h2=>?_,λy hy=>?_,λy c _ h=>?_,λ_=>hd,Around.frames_deeper e0.frames,.inr ⟨rfl,rfl⟩,λb z=>absurd z (noA b),e0.bs,e0.bsz,λb _ _=>noA b,λb z=>absurd z (noA b),e0.jf,e0.frf⟩,
  rfl,e0.bare,Un.kept hk,⟨_,x.toInCall.ns,λi y v h1 h2 h3=>?_⟩,λy c h=>⟨_,x.cell y c h⟩,e0.hok.fresh (Oj _),λy c h=>?_,λp hp=>absurd (show p∈([]:List (Addr×Obj))from hp) (by simp),e0.hok.kept hk,?_⟩
 ·exact name_of_addr x.apart (PM h1) (PM h2)
 ·have hy:scope.names.lookup y=some .cell\/scope.names.lookup y=some .free:=hy;rcases hy with hy |hy
  ·exact uM hy
  ·exact absurd rfl (S.nofree _ (PM hy))
 ·exact Qb (x.above y c (PM h))
 ·have hi:i<vs.length:=by
   unfold start at h2;by_cases hi:i<vs.length
   ·exact hi
   ·rw[OP (by simpa using hi)]at h2;rw[RH]at h2;split at h2<;>cases h2
  have ha:vs[i]?=some v:=by
   unfold start at h2;rw[OC (by simpa using hi),Ox]at h2;cases e:vs[i]? with
   |none=>rw[e]at h2;cases h2
   |some a=>rw[e]at h2;cases h2;rfl
  obtain⟨u,hu,rv⟩:=r.get ha;have hp:ps[i]?=some y:=by
   rw[<-S.pre,List.getElem?_take_of_lt ⋯];exact h1
  have ndP:ps.Nodup:=by rw[<-S.pre];exact S.nd.sublist (List.take_sublist _ _)
  refine⟨u,rv,?_⟩;rcases S.par y (OG hp)with k |k
  ·exact .inl ⟨k,tL ndP hp hu k⟩
  ·obtain⟨c,e⟩:=uM (n:=s.heap.objs.size+1) k;refine .inr ⟨.inl k,c,e,?_⟩;have q:=x.cell y c e;rw[sW ndP hp hu (by show scope.names.lookup y≠_;rw[k];decide)]at q;exact q
 ·exact e0.hok.fresh (Qb (x.above y c (PM h)))
 ·unfold start;show _=N.length;rw[Pj,Oa,U0];omega
theorem LV{CX:CXT}{P:Program}{w:World}{K:Oh}{mg:Str->Option Value}{base:Heap}{k:Nat}{f:Addr}{name qual:Str}{params:Arguments}{body:List Stmt}{scope:Scope}{dV kV doc pm cdv ct oc:Value}{an od:Option Addr}
  {osl:Array (Option Value)} {N ps:List Str} {sp:Sp} (lk:K.lookup f=some ⟨oc,od,.func (R5 name qual params body scope dV kV doc pm an cdv ct),osl⟩) (hcd:Tv K cdv qual=true) (S:kX N ps scope)
  (len:∀vs H Q E,sp vs H Q E->vs.length=ps.length)
  (hbody:∀(A:Around)(outer:List Env)(s:Shared)(H:Hp)(vs:List V)(Q:VK)(E:XK),cP k (A.deeper (envOfC qual scope s.heap.objs.size f cdv))->sp vs H Q E ->
   ∃t,PSs (mT CX P w K mg base N qual scope f cdv A outer s H E) body t/\t { nx:=λ_ H'=>Q .non H',rt:=Q } (start N vs) H) :
  dY P w K mg base CX (k+1) f (R5 name qual params body scope dV kV doc pm an cdv ct) ps sp:=by
 refine⟨len,λA outer s H args us vs Q E hr e0 hb r hsp=>?_⟩;have hl:=len _ _ _ _ hsp;have KX:K.In s.heap:=e0.mod.kin.keeps λb o e=>(e0.bs b o e).1;have lim:s.heap.NoLimit:=e0.mod.nolimit.keeps λb o e=>(e0.bs b o e).1;have hkind:∀y∈ps.zip us,scope.names.lookup y.1=some .local\/(scope.names.lookup y.1=some .cell/\((cellsFrom (s.heap.objs.size+1) scope.names []).lookup y.1).isSome=true):=λ⟨n,v⟩ hy=>by
  rcases S.par n (UC hy).1 with q |q
  ·exact .inl q
  ·exact .inr ⟨q,UM _ _ _ (.inl q)⟩
 refine codeAny_call_function hr.depth (KX _ _ lk) rfl S.co S.gen rfl (PySem.W.codeRec_of KX hcd) (hb _ _ _ _ ?_);refine wpAny_newFunctionEnv_cells S.kind hkind λenv he s1 x=>?_;subst he;refine⟨lim.keeps x.toInCall.keep,codeAny_func ?_⟩;obtain⟨t,ht,hq⟩:=hbody A outer s H vs Q E (hr.deeper _) hsp;have I:Inv (mT CX P w K mg base N qual scope f cdv A outer s H E) [] (start N vs) H s1:=AI S hr.hd e0 hl r x;refine P9 (ht [] s1 (start N vs) H _ I hq) (λfl s' hs=>?_) λe s' hs=>hs;have fin:∀{q':St}{H':Hp}{v:V}{u:Value},Inv (mT CX P w K mg base N qual scope f cdv A outer s H E) [] q' H' s'->RelV v u->Q v H'->CE outer P w H s Q u s':=
  λ{q' H' v u} J rv q=>⟨v,H',J.os,J.bare,J.base,J.hok,rv,q⟩
 cases fl with
 |ret u=>
  obtain⟨v,q',H',J,rv,q⟩:=hs;exact fin J rv q
 |next=>
  obtain⟨q',H',J,q⟩:=hs;exact fin (v:=V.non) (u:=Value.none) J rfl q
 |brk=>
  obtain⟨_,_,_,q⟩:=hs;exact QU q
 |cont=>
  obtain⟨_,_,_,q⟩:=hs;exact QU q
section
variable{X:Cx}{x:Str}{p pos:Pos}{e:Expr}{es:List Expr}{t:TA}{id T:String}{r:List V->Hp->VK->Prop}
noncomputable def tCB(r:List V->Hp->VK->Prop)(t:TA):TE:=λσ H Q=>t σ H λvs H1=>r vs H1 Q
theorem Ey(hc:aX X (.builtin id) r)(hg:Gl X x)(hm:X.mg x=none)(hv:bootBuiltins x=some (.builtin id))(ha:PA X (e::es) t)(hn:x≠"__name__":=by decide)(hdb:(x==("__debug__":Str))=false:=by decide)
  (he:starEach (e::es) X.env=(false,eval e X.env)::starEach es X.env:=by rfl) (hpl:(backTo pos (starEach es X.env)).any (·.1)=false:=by rfl):PE X (.Call (.Name x p) (e::es) [] pos) (tCB r t):=by
 intro pins s σ H Q I h;refine Qt (cv I hg hm hv ?_ hn hdb);exact Ta (thn (ha pos pins s σ H _ I h) λus s1 ⟨vs,H1,I1,r1,q1⟩=>hc pins s1 σ H1 vs us Q I1 r1 q1) he hpl
theorem BA(hc:aX X (.type T) r)(hg:Gl X x)(hm:X.mg x=none)(hv:bootBuiltins x=some (.type T))(ha:PA X (e::es) t)(hn:x≠"__name__":=by decide)(hdb:(x==("__debug__":Str))=false:=by decide)
  (he:starEach (e::es) X.env=(false,eval e X.env)::starEach es X.env:=by rfl) (hpl:(backTo pos (starEach es X.env)).any (·.1)=false:=by rfl):PE X (.Call (.Name x p) (e::es) [] pos) (tCB r t):=by
 intro pins s σ H Q I h;refine Qt (cv I hg hm hv ?_ hn hdb);exact O6 (thn (ha pos pins s σ H _ I h) λus s1 ⟨vs,H1,I1,r1,q1⟩=>hc pins s1 σ H1 vs us Q I1 r1 q1) he hpl
end
end L2
namespace HT
open PySem PyProof.Rows
section
variable{prog:Program}{w:World}{A:Around}{E:Value->Shared->Prop}{s:Shared}
theorem FZ{t b:Addr}{vs ws:List Value}{Q:Value->Shared->Prop}(ht:IsTup s.heap t vs.toArray)(hb:IsTup s.heap b ws.toArray)(hv:vs≠[])
  (h1:ws=[]->Q (.ref t) s) (h2:ws≠[]->Q (.ref s.heap.objs.size) { s with heap:=s.heap.push { cls:=.type "tuple",data:=.seq (vs++ws).toArray } })
  (hsz:vs.length+ws.length<=sizeLine):wpAny (model prog w) A (binaryOp .Add (.ref t) (.ref b)) Q E s:=by
 obtain⟨⟨cls,dd,data,sl⟩,ho,hc,n,hd⟩:=id ht;obtain⟨⟨cls2,dd2,data2,sl2⟩,ho2,hc2,n2,hd2⟩:=id hb;simp only at hc hd hc2 hd2;subst hc hd hc2 hd2;have e:vs.toArray++ws.toArray=(vs++ws).toArray:=by simp
 by_cases hw:ws=[]
 ·exact VD ⟨_,ho,rfl⟩ ⟨_,ho2,rfl⟩ Ue Vj SU SH (Sy _ _)
   (tuple_addW1 t b vs.toArray ws.toArray n n2 dd dd2 sl sl2 (by simpa using hv) (by simp[hw])) ⟨ho,ho2,h1 hw⟩
 ·refine VD ⟨_,ho,rfl⟩ ⟨_,ho2,rfl⟩ Ue Vj SU SH (Sy _ _)
   (tuple_addW2 t b vs.toArray ws.toArray n n2 dd dd2 sl sl2 (by simpa using hv) (by simpa using hw) (by rw[Ov,Ov];exact hsz)) ⟨ho,ho2,?_⟩
  rw[e];exact h2 hw
noncomputable def sIx(n d:Nat):Option Int->Nat
 |none=>d
 |some v=>if v<0 then(v+(n:Int)).toNat else min v.toNat n
theorem pK(n d:Nat):sIx n d none=d:=rfl
theorem kM(n d k:Nat):sIx n d (some (k:Int))=min k n:=by
 show(if(k:Int)<0 then((k:Int)+(n:Int)).toNat else min (k:Int).toNat n)=min k n;rw[Ot ⋯,O0]
theorem Kl(n d:Nat)(hd:d<=n)(o:Option Int):sIx n d o<=n:=by
 cases o with
 |none=>exact hd
 |some v=>
  show(if v<0 then(v+(n:Int)).toNat else min v.toNat n)<=n;by_cases hv:v<0
  ·rw[Oe hv];omega
  ·rw[Ot hv];exact Nat.min_le_right _ _
theorem ym(v:Int)(n d:Nat):(if v<0 then max (v+(n:Int)) 0 else min v (n:Int))=((sIx n d (some v):Nat):Int):=by
 show(if v<0 then max (v+(n:Int)) 0 else min v (n:Int))=(((if v<0 then(v+(n:Int)).toNat else min v.toNat n):Nat):Int);by_cases hv:v<0
 ·simp only[Oe hv];omega
 ·simp only[Ot hv];omega
theorem yV(lo hi:Option Int)(n:Nat):Su lo hi 1 (n:Int)=(((sIx n 0 lo:Nat):Int),((sIx n n hi:Nat):Int)):=by
 have h1:¬((1:Int)<0):=by omega
 unfold Su;simp only[h1,QI];refine Y1 ?_ ?_
 ·cases lo with
  |none=>rfl
  |some v=>exact ym v n 0
 ·cases hi with
  |none=>rfl
  |some v=>exact ym v n n
theorem yx(i j:Nat):P6 (i:Int) (j:Int) 1=j-i:=by
 unfold P6;have h1:(1:Int)>0:=by omega
 simp only[h1,QL,X4];split<;>omega
theorem rC{v:Value}{o:Option Int}{Q:Option Int->Shared->Prop}(p:IsPart v o)(h:Q o s):wpAny (model prog w) A (W2 v) Q E s:=by
 cases p with
 |none=>exact Tw h
 |int i t=>exact Xe h
theorem i6{sl:Addr}{vl vu:Value}{lo hi:Option Int}{n:Nat}{Q:Int×Int×Nat->Shared->Prop}(hs:s.heap.IsSliceOf sl vl vu .none)(pl:IsPart vl lo)(pu:IsPart vu hi)
  (h:Q (((sIx n 0 lo:Nat):Int),1,sIx n n hi-sIx n 0 lo) s):wpAny (model prog w) A (Rk (.ref sl) (pure (n:Int))) Q E s:=by
 obtain⟨os,hos,hcs,hds⟩:=id hs;unfold Rk T_;refine ar (ar (O9 hos hds (x:=vl) rfl (ar (O9 hos hds (x:=vu) rfl (ar (O9 hos hds (x:=.none) rfl (C0 ?_)))))));refine ar (Tw ?_);show wpAny _ _ (if((1:Int)==0)=true then _ else _) _ _ s;rw[Ot (by decide)];refine ar (rC pl (ar (rC pu (ar (C0 ?_)))));show wpAny _ _ (match Su lo hi 1 (n:Int)with |(lo,hi)=>pure (lo,(1:Int),P6 lo hi 1)) _ _ s;rw[yV lo hi n];show wpAny _ _ (pure (((sIx n 0 lo:Nat):Int),(1:Int),P6 ((sIx n 0 lo:Nat):Int) ((sIx n n hi:Nat):Int) 1)) _ _ s;rw[yx];exact C0 h
theorem Dg(xs:Array Value)(i k:Nat):((Oy k).filterMap λ(m:Nat)=>xs[((i:Int)+(m:Int)*1).toNat]?).toArray=((xs.toList.drop i).take k).toArray:=by
 have e:(λ(m:Nat)=>xs[((i:Int)+(m:Int)*1).toNat]?)=λm=>xs[i+m]?:=by
  funext m;have:((i:Int)+(m:Int)*1).toNat=i+m:=by omega
  rw[this]
 rw[e];have:=pick_run xs i k;rw[VE]at this;have e2:((λx=>xs[x]?)∘λx=>i+x)=λm=>xs[i+m]?:=rfl;rw[e2]at this;rw[this]
theorem oH{t sl:Addr}{items:Array Value}{vl vu:Value}{lo hi:Option Int}{Q:Value->Shared->Prop}(ht:IsTup s.heap t items)(hs:s.heap.IsSliceOf sl vl vu .none)(pl:IsPart vl lo)(pu:IsPart vu hi)
    (hw:¬(sIx items.size 0 lo=0/\sIx items.size items.size hi=items.size))
    (h:Q (.ref s.heap.objs.size) { s with heap:=s.heap.push { cls:=.type "tuple",data:=.seq ((items.toList.drop (sIx items.size 0 lo)).take (sIx items.size items.size hi-sIx items.size 0 lo)).toArray } })
    (hsz:items.size<=sizeLine):wpAny (model prog w) A (getItem (.ref t) (.ref sl)) Q E s:=by
  have htake:sizeOk (.seq ((items.toList.drop (sIx items.size 0 lo)).take (sIx items.size items.size hi-sIx items.size 0 lo)).toArray):=by
    show((items.toList.drop (sIx items.size 0 lo)).take (sIx items.size items.size hi-sIx items.size 0 lo)).toArray.size<=sizeLine;rw[Ov,Pd,Wr,OM];omega
  have hj:sIx items.size items.size hi<=items.size:=Kl _ _ (Oj _) hi;obtain⟨os,hos,hcs,hds⟩:=id hs;have hTs:s.TypeIs (.ref sl) "slice":=⟨os,hos,hcs⟩;unfold getItem
  try with_reducible refine OO ?_
  first |refine ar (C0 ?_) |skip
  refine ar (T7 ht.typeIs (by decide) ?_);refine ar (Pc (name:=OS "__getitem__") ht.typeIs Pb
    (Pe Pb ht.typeIs Tu ?_ (TK _ _)))
  show wpAny _ _ (Sl (.ref t)>>=_) _ _ s;refine ar (Vk ht ?_);refine ar (Qd hTs ?_);rw[Oe (by decide)];refine ar (i6 hs pl pu ?_);have hno:¬((((sIx items.size 0 lo:Nat):Int)==0&&(1:Int)==1&&(sIx items.size items.size hi-sIx items.size 0 lo)==items.size)=true):=by
    intro q;rw[OQ,OQ]at q;have q1:((sIx items.size 0 lo:Nat):Int)=0:=eq_of_beq q.1.1;have q2:sIx items.size items.size hi-sIx items.size 0 lo=items.size:=eq_of_beq q.2;exact hw ⟨by omega,by omega⟩
  show wpAny _ _ (if(((sIx items.size 0 lo:Nat):Int)==0&&(1:Int)==1&&(sIx items.size items.size hi-sIx items.size 0 lo)==items.size)=true then _ else _) _ _ s;rw[Ot hno,Dg]
  first
    |exact ar (m:=PL _) (Pp (C0 ⟨_,rfl,C0 h⟩) htake)
    |exact ar (m:=PL _) (Pp (ar (C0 (C0 ⟨_,rfl,C0 h⟩))) htake)
    |exact ar (ar (m:=PL _) (Pp (C0 (C0 ⟨_,rfl,C0 h⟩)) htake))
    |exact ar (ar (m:=PL _) (Pp (C0 ⟨_,rfl,C0 h⟩) htake))
end
end HT
namespace L2
open PySem PySem.Spec PyProof.Rows
noncomputable abbrev TO:=St->Hp->(Option Int->Hp->Prop)->Prop
def PO(X:Cx)(e:Option Expr)(t:TO):Prop:=
 ∀(pins:List (Addr×Obj))(s:Shared)(σ:St)(H:Hp)(Q:Option Int->Hp->Prop),Inv X pins σ H s->t σ H Q ->
  wpAny (model X.prog X.w) X.A (evalPart e X.env) (λu s'=>∃o H',Inv X pins σ H' s'/\IsPart u o/\Q o H') X.xe s
noncomputable def HC:TO:=λ_ H Q=>Q none H
noncomputable def Mb(t:TE):TO:=λσ H Q=>t σ H λx H1=>∃i,x=.int i/\Q (some i) H1
theorem intsAre_of{ns:List Int}:∀{us:List Value},Vals (ns.map V.int) us->IntsAre us ns:=by
 induction ns with
 |nil=>intro us r;rw[Tb]at r;cases r;exact .nil
 |cons n ns ih=>
  intro us r;rw[Oq]at r;cases r with
  |cons r1 r2=>
   obtain⟨t,e⟩:=r1;subst e;exact .cons n t (ih r2)
section
variable{X:Cx}{e:Expr}{te:TE}{lo hi:Option Expr}{tl th:TO}{pos p2:Pos}
theorem Gn:PO X none HC:=by
 intro pins s σ H Q I h;rw[Vm];exact C0 ⟨none,H,I,.none,h⟩
theorem Gm(h:PE X e te):PO X (some e) (Mb te):=by
 intro pins s σ H Q I hw;rw[Xf];refine thn (h pins s σ H _ I hw) λu s1 ⟨x,H1,I1,r1,q1⟩=>?_;obtain⟨i,rfl,q⟩:=q1;obtain⟨t,rfl⟩:=r1;exact⟨some i,H1,I1,.int i t,q⟩
def SlR(X:Cx)(r:V->Option Int->Option Int->Hp->VK->Prop):Prop:=
 ∀(pins:List (Addr×Obj))(s:Shared)(σ:St)(H:Hp)(x:V)(v vl vu:Value)(lo hi:Option Int)(sl:Addr)(Q:VK),Inv X pins σ H s->RelV x v->s.heap.IsSliceOf sl vl vu .none->IsPart vl lo->IsPart vu hi->r x lo hi H Q ->
  ∃T id,typeLookup (.type T) "__getitem__"=pure (some (.builtin id))/\s.TypeIs v T/\wpAny (model X.prog X.w) X.A (getItem v (.ref sl)) (EP X pins σ Q) X.xe s
noncomputable def tSl(r:V->Option Int->Option Int->Hp->VK->Prop)(te:TE)(tl th:TO):TE:=λσ H Q=>te σ H λx H1=>tl σ H1 λl H2=>th σ H2 λu H3=>r x l u H3 Q
theorem v5{r:V->Option Int->Option Int->Hp->VK->Prop}(hr:SlR X r)(he:PE X e te)(hl:PO X lo tl)(hu:PO X hi th):PE X (.Subscript e (.Slice lo hi none p2) pos) (tSl r te tl th):=by
 intro pins s σ H Q I h;refine Vf (thn (he pins s σ H _ I h) λv s1 ⟨x,H1,I1,r1,q1⟩=>?_);refine wpAny_Slice (thn (hl pins s1 σ H1 _ I1 q1) λvl s2 ⟨l,H2,I2,pl,q2⟩=>thn (hu pins s2 σ H2 _ I2 q2) λvu s3 ⟨u,H3,I3,pu,q3⟩=>?_);rw[Vm];refine C0 ?_;have I4:Inv X pins σ H3 { s3 with heap:=s3.heap.push { cls:=.type "slice",data:=.fields #[vl,vu,.none] } }:=I3.kept (t':=s3.toks) λb ob q=>Od _ q;obtain⟨T,id,hT,ht,hg⟩:=hr pins { s3 with heap:=s3.heap.push { cls:=.type "slice",data:=.fields #[vl,vu,.none] } } σ H3 x v vl vu l u s3.heap.objs.size Q I4 r1 (VF ..) pl pu q3;show wpAny (model X.prog X.w) X.A (subscriptTail e (.Slice lo hi none p2) v (.ref s3.heap.objs.size)) (EP X pins σ Q) X.xe { s3 with heap:=s3.heap.push { cls:=.type "slice",data:=.fields #[vl,vu,.none] } };exact tail_any (ops:=[.ref s3.heap.objs.size,v]) ht hT hg (by with_unfolding_all rfl)
noncomputable def jg(xs:List V)(lo hi:Option Int):List V:=(xs.drop (HT.sIx xs.length 0 lo)).take (HT.sIx xs.length xs.length hi-HT.sIx xs.length 0 lo)
theorem oR(xs:List V)(lo hi:Option Int):(jg xs lo hi).length<=xs.length:=by
 unfold jg;rw[Pd,Wr];omega
def Nz(K:Oh):V->Option Int->Option Int->Hp->VK->Prop:=λx lo hi H Q=>∃a xs,x=.ref a/\SqT K H a xs /\
 ¬(HT.sIx xs.length 0 lo=0/\HT.sIx xs.length xs.length hi=xs.length)/\∀p,H p=none->Q (.ref p) (upd H p (.tup (jg xs lo hi)))
theorem Kq:SlR X (Nz X.K):=by
 intro pins s σ H x v vl vu lo hi sl Q I rx hs pl pu h;obtain⟨a,xs,rfl,hx,hw,q⟩:=h;cases rx;obtain⟨its,r,ht,hz⟩:=I.tuple hx;have hlen:its.toArray.size=xs.length:=by rw[Ov];exact r.length.symm
 refine⟨"tuple",_,Pb.lookup,ht.typeIs,?_⟩;refine HT.oH ht hs pl pu (by rw[hlen];exact hw) ?_ (by rw[hlen];exact hz);rw[hlen];refine⟨.ref s.heap.objs.size,_,I.laid (t':=s.toks) (o:=.tup (jg xs lo hi)) (λb ob q=>Od _ q) (Oj _) ?_,rfl,q _ (I.hok.fresh (Oj _))⟩;exact⟨PC (oR xs lo hi) hz,_,(r.drop (HT.sIx xs.length 0 lo)).take (HT.sIx xs.length xs.length hi-HT.sIx xs.length 0 lo),VG _ _⟩
noncomputable def MM(K:Oh):R2:=λx y H Q=>∃a b xs ys,x=.ref a/\y=.ref b/\SqT K H a xs/\SqT K H b ys/\xs≠[]/\xs.length+ys.length<=sizeLine /\
 (ys=[]->Q (.ref a) H)/\(ys≠[]->∀p,H p=none->Q (.ref p) (upd H p (.tup (xs++ys))))
theorem Vals.oo{xs:List V}{us:List Value}(r:Vals xs us):us=[]↔xs=[]:=by
 cases r with
 |nil=>simp
 |cons _ _=>simp
theorem G8:OpR X (binaryOp .Add) (MM X.K):=by
 intro pins s σ H x y v u Q I rx ry h;obtain⟨a,b,xs,ys,rfl,rfl,ha,hb,hx,hz,q1,q2⟩:=h;cases rx;cases ry;obtain⟨its,r1,p1,_⟩:=I.tuple ha;obtain⟨its2,r2,p2,_⟩:=I.tuple hb;refine HT.FZ p1 p2 (λz=>hx (r1.oo.mp z)) (λz=>⟨.ref a,H,I,rfl,q1 (r2.oo.mp z)⟩) (λz=>?_) (by rw[<-r1.length,<-r2.length];exact hz);refine⟨.ref s.heap.objs.size,_,I.laid (t':=s.toks) (o:=.tup (xs++ys)) (λb ob q=>Od _ q) (Oj _) ?_,rfl,q2 (λw=>z (r2.oo.mpr w)) _ (I.hok.fresh (Oj _))⟩;exact⟨by rw[Pj];exact hz,_,r1.append r2,VG _ _⟩
end
noncomputable def ixN(n:Nat)(i:Int):Option Nat:=if 0<=i then(if i<n then some i.toNat else none)else if -(n:Int)<=i then some (i+n).toNat else none
noncomputable def atI{α:Type}(xs:List α)(i:Int):Option α:=(ixN xs.length i).bind λj=>xs[j]?
theorem xR{n:Nat}{i:Int}{j:Nat}(h:ixN n i=some j):seqIndex? i n=some j/\j<n/\-(n:Int)<=i/\i<n:=by
 unfold ixN at h;by_cases h0:0<=i
 ·rw[Oe h0]at h;by_cases h1:i<n
  ·rw[Oe h1]at h;have e:i.toNat=j:=OV h;exact⟨by rw[Wg h0 h1,e],by omega,by omega,h1⟩
  ·rw[Ot h1]at h;cases h
 ·rw[Ot h0]at h;by_cases h1:-(n:Int)<=i
  ·rw[Oe h1]at h;have e:(i+n).toNat=j:=OV h;exact⟨by rw[VH ⋯ h1,e],by omega,h1,by omega⟩
  ·rw[Ot h1]at h;cases h
theorem yq{α:Type}{xs:List α}{i:Int}{v:α}(h:atI xs i=some v):∃j,seqIndex? i xs.length=some j/\xs[j]?=some v/\j<xs.length/\-(xs.length:Int)<=i/\i<xs.length:=by
 unfold atI at h;cases e:ixN xs.length i with
 |none=>rw[e]at h;cases h
 |some j=>
  rw[e]at h;obtain⟨h1,h2,h3,h4⟩:=xR e;exact⟨j,h1,h,h2,h3,h4⟩
def rQ(b:Expr):Prop:=∀o i,subscripted b false o i=operate [o,i] (getItem o i)
def IxR(X:Cx)(r:R2):Prop:=
 ∀(value slice:Expr)(pins:List (Addr×Obj))(s:Shared)(σ:St)(H:Hp)(x y:V)(v u:Value)(Q:VK),Inv X pins σ H s->RelV x v->RelV y u->r x y H Q ->
  subscripted slice false v u=operate [v,u] (getItem v u)->wpAny (model X.prog X.w) X.A (subscriptTail value slice v u) (EP X pins σ Q) X.xe s
section
variable{X:Cx}{a b:Expr}{ta tb:TE}{pos:Pos}
theorem FI{r:R2}(hr:IxR X r)(ha:PE X a ta)(hb:PE X b tb)(hs:rQ b):PE X (.Subscript a b pos) (tOp r ta tb):=by
 intro pins s σ H Q I h;exact Vf (DH ha hb I h λv u s2 x y H2 I2 rx ry q=>hr a b pins s2 σ H2 x y v u Q I2 rx ry q (hs _ _))
noncomputable def N5(K:Oh):R2:=λx y H Q=>∃p xs i v,x=.ref p/\y=.int i/\SqL K H p xs/\atI xs i=some v/\Q v H
noncomputable def Nm(K:Oh):R2:=λx y H Q=>∃p xs i v,x=.ref p/\y=.int i/\SqT K H p xs/\atI xs i=some v/\Q v H
theorem Gy:IxR X (N5 X.K):=by
 intro value slice pins s σ H x y v u Q I rx ry h hs;obtain⟨p,xs,i,z,rfl,rfl,hq,he,q⟩:=h;cases rx;obtain⟨t,rfl⟩:=ry;obtain⟨its,r,pl,hz⟩:=I.list hq;obtain⟨j,h1,h2,h3,h4,h5⟩:=yq he;obtain⟨w,ew,rw'⟩:=r.get h2;have hl:=r.length;have hn:=nh;have fin:EP X pins σ Q w s:=⟨z,H,I,rw',q⟩;by_cases h0:0<=i
 ·have hj:i.toNat=j:=by
   rw[Wg h0 h5]at h1;exact OV h1
  exact item_listR pl.isList h0 ⋯ (by rw[hj];simpa using ew) fin hs
 ·have hj:(i+(its.toArray.size:Int)).toNat=j:=by
   rw[VH ⋯ h4]at h1;rw[Ov,<-hl];exact OV h1
  exact UN (x:=w) pl.isList.typeIs V7.lookup
   (wpAny_getItem_list_neg (Q:=λr s'=>r=w/\EP X pins σ Q r s') pl.isList ⋯ (by rw[Ov]<;>omega) ⋯ (by rw[hj];simpa using ew) ⟨rfl,fin⟩) hs
theorem Jy:IxR X (Nm X.K):=by
 intro value slice pins s σ H x y v u Q I rx ry h hs;obtain⟨p,xs,i,z,rfl,rfl,hq,he,q⟩:=h;cases rx;obtain⟨t,rfl⟩:=ry;obtain⟨its,r,pl,hz⟩:=I.tuple hq;obtain⟨j,h1,h2,h3,h4,h5⟩:=yq he;obtain⟨w,ew,rw'⟩:=r.get h2;have hl:=r.length;have hn:=nh;have fin:EP X pins σ Q w s:=⟨z,H,I,rw',q⟩;exact UN (x:=w) pl.typeIs slot_tuple_getitem.lookup
  (getItem_tuple (j:=j) (Q:=λr s'=>r=w/\EP X pins σ Q r s') pl ⋯ ⋯ (by rw[Ov,<-hl];exact h1) (by simpa using ew) ⟨rfl,fin⟩) hs
theorem zh(its:List Value)(n j:Nat)(u:Value):Rt (·.setIfInBounds j u) { cls:=.type "list",data:=.seq its.toArray n }={ cls:=.type "list",data:=.seq (its.set j u).toArray n }:=by
 simp[Rt]
theorem Inv.lst{pins:List (Addr×Obj)}{σ:St}{H:Hp}{s:Shared}{p:Addr}{xs:List V}(I:Inv X pins σ H s)(h:H p=some (.lst xs)) :
  ∃(its:List Value)(n:Nat),Vals xs its/\s.heap.get? p=some { cls:=.type "list",data:=.seq its.toArray n }/\xs.length<=sizeLine:=by
 obtain⟨z,its,n,r,e⟩:=I.hok p _ h;exact⟨its,n,r,e,z⟩
theorem Inv.Ko{pins:List (Addr×Obj)}{σ:St}{H:Hp}{s:Shared}{p:Addr}{xs ys:List V}{its its':List Value}{n n':Nat}{f:Obj->Obj}(I:Inv X pins σ H s)(h:H p=some (.lst xs))
  (ho:s.heap.get? p=some { cls:=.type "list",data:=.seq its.toArray n }) (hf:f { cls:=.type "list",data:=.seq its.toArray n }={ cls:=.type "list",data:=.seq its'.toArray n' }) (r:Vals ys its') (hz:ys.length<=sizeLine) (t:Nat) :
  Inv X pins σ (upd H p (.lst ys)) { s with heap:=s.heap.update p f,toks:=t }:=by
 have e:(s.heap.update p f).get? p=some { cls:=.type "list",data:=.seq its'.toArray n' }:=by
  rw[QM f ho (by rw[hf]<;>rfl),hf]
 refine I.write (x:=p) (e:=p) (by rw[h];trivial) (.inl rfl) (λb u hb q=>(UO _ _ (Qg hb)).trans q) ⟨_,e⟩ ?_;exact⟨hz,its',n',r,e⟩
def yM:V->V->V->Hp->(Hp->Prop)->Prop:=λo i v H Q=>∃p xs k j,o=.ref p/\i=.int k/\H p=some (.lst xs)/\ixN xs.length k=some j/\Q (upd H p (.lst (xs.set j v)))
theorem set_list:zc X yM:=by
 intro pins s σ H o i v ov iv u Q I ro ri rv h;obtain⟨p,xs,k,j,rfl,rfl,hp,hj,q⟩:=h;cases ro;obtain⟨t,rfl⟩:=ri;obtain⟨its,n,r,ho,hz⟩:=I.lst hp;obtain⟨h1,h2,h3,h4⟩:=xR hj;have hl:=r.length;have hn:=nh;have I':Inv X pins σ (upd H p (.lst (xs.set j v))) { s with heap:=s.heap.update p (Rt (·.setIfInBounds j u)) }:=
  I.Ko hp ho (zh its n j u) (r.set rv j) (by rw[PJ];exact hz) s.toks
 by_cases h0:0<=k
 ·have hk:k.toNat=j:=by
   rw[Wg h0 h4]at h1;exact OV h1
  exact PySem.W.ki_setAt ho h0 ⋯ (by rw[Ov,<-hl];exact h4) (by rw[hk];exact⟨_,I',q⟩)
 ·have hk:(k+(its.toArray.size:Int)).toNat=j:=by
   rw[VH ⋯ h3]at h1;rw[Ov,<-hl];exact OV h1
  exact PySem.W.ki_setBack ho ⋯ (by rw[Ov,<-hl];exact h3) ⋯ (by rw[hk];exact⟨_,I',q⟩)
theorem vL(lo hi:Option Int)(n:Nat):(sliceBounds lo hi none n).1=((HT.sIx n 0 lo:Nat):Int)/\(sliceBounds lo hi none n).2.1=((HT.sIx n n hi:Nat):Int)/\(sliceBounds lo hi none n).2.2=1:=by
 refine⟨?_,?_,rfl⟩
 ·cases lo with
  |none=>simp[sliceBounds,HT.sIx]
  |some i=>
   simp only[sliceBounds,HT.sIx,Ug,show(1:Int)>0 by decide,QL];by_cases h:i<0
   ·simp only[h,QL]<;>omega
   ·simp only[h,QI]<;>omega
 ·cases hi with
  |none=>simp[sliceBounds,HT.sIx]
  |some i=>
   simp only[sliceBounds,HT.sIx,Ug,show(1:Int)>0 by decide,QL];by_cases h:i<0
   ·simp only[h,QL]<;>omega
   ·simp only[h,QI]<;>omega
theorem ud(its:List Value)(lo hi:Option Int):slicePick its.toArray lo hi none=((its.drop (HT.sIx its.length 0 lo)).take (HT.sIx its.length its.length hi-HT.sIx its.length 0 lo)).toArray:=by
 obtain⟨h1,h2,h3⟩:=vL lo hi its.toArray.size;unfold slicePick;rw[h1,h2,h3];simp only[sliceRange_one,pick_run,Ov]<;>rfl
def Nr(K:Oh):V->Option Int->Option Int->Hp->VK->Prop:=λx lo hi H Q=>∃a xs,x=.ref a/\SqL K H a xs/\∀p,H p=none->Q (.ref p) (upd H p (.lst (jg xs lo hi)))
theorem yi:SlR X (Nr X.K):=by
 intro pins s σ H x v vl vu lo hi sl Q I rx hs pl pu h;obtain⟨a,xs,rfl,hx,q⟩:=h;cases rx;obtain⟨its,r,ht,hz⟩:=I.list hx;have hlen:=r.length;refine⟨"list",_,V7.lookup,ht.isList.typeIs,?_⟩;refine wpAny_getItem_list_slice ht.isList hs pl pu .none (by simp) ?_ (by rw[Ov]<;>omega);rw[ud,<-hlen];refine⟨.ref s.heap.objs.size,_,I.laid (t':=s.toks) (o:=.lst (jg xs lo hi)) (λb ob q=>Od _ q) (Oj _) ?_,rfl,q _ (I.hok.fresh (Oj _))⟩;exact⟨PC (oR xs lo hi) hz,_,0,(r.drop (HT.sIx xs.length 0 lo)).take (HT.sIx xs.length xs.length hi-HT.sIx xs.length 0 lo),OA _ rfl⟩
noncomputable def eX:V->Bool
 | .non=>true
 | .bl _=>true
 | .int _=>true
 | .str _=>true
 |_=>false
noncomputable def eqV:V->V->Bool
 | .non,.non=>true
 | .bl a,.bl b=>a==b
 | .bl a,.int b=>(if a then 1 else 0)==b
 | .int a,.bl b=>a==(if b then 1 else 0)
 | .int a,.int b=>a==b
 | .str a,.str b=>a==b
 |_,_=>false
theorem nA{A:Around}{s:Shared}{y x:V}{u v:Value}(ry:RelV y u)(rx:RelV x v)(fy:eX y=true)(fx:eX x=true):SF A s u v (eqV y x):=by
 cases y with
 |non=>
  cases ry;cases x with
  |non=>cases rx;exact UD _
  |bl b=>cases rx;exact Yr b
  |int b=>obtain⟨t,rfl⟩:=rx;exact YF b t
  |str b=>obtain⟨t,rfl⟩:=rx;exact YG b t
  |_=>exact absurd (show false=true from fx) OF
 |bl a=>
  cases ry;cases x with
  |non=>cases rx;exact Ys a
  |bl b=>cases rx;exact Yt a b
  |int b=>obtain⟨t,rfl⟩:=rx;exact YH a b t
  |str b=>obtain⟨t,rfl⟩:=rx;exact YI a b t
  |_=>exact absurd (show false=true from fx) OF
 |int a=>
  obtain⟨t',rfl⟩:=ry;cases x with
  |non=>cases rx;exact YJ a t'
  |bl b=>cases rx;exact YK a t' b
  |int b=>obtain⟨t,rfl⟩:=rx;exact YT a t' b t
  |str b=>obtain⟨t,rfl⟩:=rx;exact Vz a t' b t
  |_=>exact absurd (show false=true from fx) OF
 |str a=>
  obtain⟨t',rfl⟩:=ry;cases x with
  |non=>cases rx;exact YL a t'
  |bl b=>cases rx;exact YM a t' b
  |int b=>obtain⟨t,rfl⟩:=rx;exact VA a t' b t
  |str b=>obtain⟨t,rfl⟩:=rx;exact YU a t' b t
  |_=>exact absurd (show false=true from fx) OF
 |_=>exact absurd (show false=true from fy) OF
noncomputable def eqU(x:V)(u:Value):Bool:=match u with
 | .none=>eqV .non x
 | .bool b=>eqV (.bl b) x
 | .int i _=>eqV (.int i) x
 | .str z _=>eqV (.str z) x
 |_=>false
theorem Ae{x y:V}{u:Value}(r:RelV y u)(f:eX y=true):eqU x u=eqV y x:=by
 cases y with
 |non=>cases r;rfl
 |bl b=>cases r;rfl
 |int i=>obtain⟨t,rfl⟩:=r;rfl
 |str z=>obtain⟨t,rfl⟩:=r;rfl
 |_=>exact absurd (show false=true from f) OF
theorem kA{x:V}:∀{xs:List V}{us:List Value},Vals xs us->xs.all eX=true->us.any (eqU x)=xs.any λy=>eqV y x
 |_,_,.nil,_=>rfl
 |y::xs,u::us,.cons r t,f=>by
  rw[QG,OQ]at f;rw[Q4,Q4,Ae r f.1,kA t f.2]
theorem iY{A:Around}{s:Shared}{x:V}{v:Value}(rx:RelV x v)(fx:eX x=true):∀{xs:List V}{us:List Value},Vals xs us->xs.all eX=true->∀u∈us,SF A s u v (eqU x u)
 |_,_,.nil,_=>λu hu=>by cases hu
 |y::xs,u::us,.cons r t,f=>λu' hu=>by
  rw[QG,OQ]at f;rcases Ow.mp hu with rfl |hu
  ·rw[Ae r f.1];exact nA r rx f.1 fx
  ·exact iY rx fx t f.2 u' hu
noncomputable def inV(x:V)(xs:List V):Bool:=xs.any λy=>eqV y x
noncomputable def rIn(K:Oh)(neg:Bool):R2:=λx y H Q=>∃p xs,y=.ref p/\(SqL K H p xs\/SqT K H p xs)/\eX x=true/\xs.all eX=true/\Q (.bl (if neg then !inV x xs else inV x xs)) H
theorem tD:OpR X (compareOp .In) (rIn X.K false):=by
 intro pins s σ H x y v u Q I rx ry h;obtain⟨p,xs,rfl,hq,fx,fs,q⟩:=h;cases ry;rcases hq with hq |hq
 ·obtain⟨its,r,pl,hz⟩:=I.list hq;refine WH (eqU x) pl.isList (λw hw=>iY rx fx r fs w (by simpa using hw)) ⟨.bl _,H,I,rfl,?_⟩;rw[show its.toArray.any (eqU x)=its.any (eqU x) by simp,kA r fs];exact q
 ·obtain⟨its,r,pl,hz⟩:=I.tuple hq;refine SeqAt.in_tupleAt (eqU x) pl (λw hw=>iY rx fx r fs w (by simpa using hw)) ⟨.bl _,H,I,rfl,?_⟩;rw[show its.toArray.any (eqU x)=its.any (eqU x) by simp,kA r fs];exact q
theorem nY:OpR X (compareOp .NotIn) (rIn X.K true):=by
 intro pins s σ H x y v u Q I rx ry h;obtain⟨p,xs,rfl,hq,fx,fs,q⟩:=h;cases ry;rcases hq with hq |hq
 ·obtain⟨its,r,pl,hz⟩:=I.list hq;refine VI (eqU x) pl.isList (λw hw=>iY rx fx r fs w (by simpa using hw)) ⟨.bl _,H,I,rfl,?_⟩;rw[show its.toArray.any (eqU x)=its.any (eqU x) by simp,kA r fs];exact q
 ·obtain⟨its,r,pl,hz⟩:=I.tuple hq;refine SeqAt.notIn_tupleAt (eqU x) pl (λw hw=>iY rx fx r fs w (by simpa using hw)) ⟨.bl _,H,I,rfl,?_⟩;rw[show its.toArray.any (eqU x)=its.any (eqU x) by simp,kA r fs];exact q
theorem aX.or{f:Value}{r r':List V->Hp->VK->Prop}(h:aX X f r)(h':aX X f r'):aX X f (λxs H Q=>r xs H Q\/r' xs H Q):=by
 intro pins s σ H xs us Q I rs q;rcases q with q |q
 ·exact h pins s σ H xs us Q I rs q
 ·exact h' pins s σ H xs us Q I rs q
theorem nc:aX X (.type "list") (λxs H Q=>∃p ys,xs=[.ref p]/\(SqL X.K H p ys\/SqT X.K H p ys)/\∀l,H l=none->Q (.ref l) (upd H l (.lst ys))):=by
 intro pins s σ H xs us Q I r h;obtain⟨p,ys,rfl,hq,q⟩:=h;obtain⟨u,rfl,rx⟩:=vals1 r;cases rx;have fin:∀(its:List Value),Vals ys its->ys.length<=sizeLine->∀(h':Heap)(c':Nat),(∀b o',s.heap.get? b=some o'->h'.get? b=some o') ->
   h'.get? s.heap.objs.size=some { cls:=.type "list",dict:=none,data:=.seq its.toArray c',slots:=#[] }->EP X pins σ Q (.ref s.heap.objs.size) { s with heap:=h' }:=λits r' hz h' c' kp e=>
  ⟨.ref s.heap.objs.size,_,I.laid (t':=s.toks) kp (Oj _) (show aV X.prog X.w _ h' _ (.lst ys)from⟨hz,its,c',r',e⟩),rfl,q _ (I.hok.fresh (Oj _))⟩
 rcases hq with hq |hq
 ·obtain⟨its,r',pl,hz⟩:=I.list hq;have hlen:=r'.length;obtain⟨o,ho,hc,n,hd⟩:=pl.isList;exact Xg p (.inl rfl) ho hc hd (λh' c' kp e=>fin its r' hz h' c' kp e) (by simp only[Ov]<;>omega)
 ·obtain⟨its,r',pl,hz⟩:=I.tuple hq;have hlen:=r'.length;obtain⟨o,ho,hc,n,hd⟩:=pl;exact Xg p (.inr rfl) ho hc hd (λh' c' kp e=>fin its r' hz h' c' kp e) (by simp only[Ov]<;>omega)
theorem mz:aX X (.type "tuple") (λxs H Q=>∃p ys,xs=[.ref p]/\((SqL X.K H p ys/\∀l,H l=none->Q (.ref l) (upd H l (.tup ys)))\/(SqT X.K H p ys/\Q (.ref p) H))):=by
 intro pins s σ H xs us Q I r h;obtain⟨p,ys,rfl,h⟩:=h;obtain⟨u,rfl,rx⟩:=vals1 r;cases rx;rcases h with⟨hq,q⟩ |⟨hq,q⟩
 ·obtain⟨its,r',pl,hz⟩:=I.list hq;have hlen:=r'.length;refine call_tuple_list pl.isList (λh' kp=>?_) (by simp only[Ov]<;>omega);have I1:Inv X pins σ H { s with heap:=h' }:=I.kept (t':=s.toks) kp;have I2:Inv X pins σ (upd H h'.objs.size (.tup ys)) { s with heap:=h'.push { cls:=.type "tuple",data:=.seq its.toArray } }:=
   I1.laid (t':=s.toks) (λb o e=>Od _ e) (Oj _) (show aV X.prog X.w _ _ _ (.tup ys)from⟨hz,its,r',VG _ _⟩)
  exact⟨.ref h'.objs.size,_,I2,rfl,q _ (I1.hok.fresh (Oj _))⟩
 ·obtain⟨its,r',pl,hz⟩:=I.tuple hq;exact call_tuple_same pl ⟨.ref p,H,I,rfl,q⟩
def tyV(K:Oh)(T:String)(x:V)(H:Hp):Prop:=match x with
 | .str _=>T="str"
 | .int _=>T="int"
 | .ref p=>(T="list"/\∃xs,SqL K H p xs)\/(T="tuple"/\∃o,K.lookup p=some o/\o.cls=.type "tuple"/\o.dict=none) \/
   (T="dict"/\((∃kvs,H p=some (.dK kvs))\/∃kvs,H p=some (.dT kvs)))\/(T="set"/\∃S n,H p=some (.set S n))
 |_=>False
theorem Af{pins:List (Addr×Obj)}{σ:St}{H:Hp}{s:Shared}{T:String}{x:V}{v:Value}(I:Inv X pins σ H s)(r:RelV x v)(ty:tyV X.K T x H) :
  s.TypeIs v T/\∀a,v=.ref a->∃ob,s.heap.get? a=some ob/\ob.dict=none:=by
 cases x with
 |str z=>
  obtain⟨t,rfl⟩:=r;cases(show T="str"from ty);exact⟨typeIs_str s z t,λ_ e=>nomatch e⟩
 |int i=>
  obtain⟨t,rfl⟩:=r;cases(show T="int"from ty);exact⟨typeIs_int s i t,λ_ e=>nomatch e⟩
 |ref p=>
  cases r;rcases ty with⟨rfl,xs,hq⟩ |⟨rfl,o,hk,hc,hd⟩ |⟨rfl,hk⟩ |⟨rfl,S,n,hk⟩
  ·obtain⟨its,_,pl,_⟩:=I.list hq;refine⟨pl.isList.typeIs,λa e=>?_⟩;cases e;obtain⟨o,n,e,c,hd,_⟩:=pl;exact⟨o,e,hd⟩
  ·refine⟨⟨o,I.kIn p o hk,hc⟩,λa e=>?_⟩;cases e;exact⟨o,I.kIn _ o hk,hd⟩
  ·have z:∃o,s.heap.get? p=some o/\o.ExactDict:=by
    rcases hk with⟨kvs,hk⟩ |⟨kvs,hk⟩
    ·obtain⟨_,_,_,_,o,_,_,e,ex,_⟩:=I.hok p _ hk;exact⟨o,e,ex⟩
    ·obtain⟨_,_,_,_,o,_,_,e,ex,_⟩:=I.hok p _ hk;exact⟨o,e,ex⟩
   obtain⟨o,e,ex⟩:=z;refine⟨⟨o,e,ex.1⟩,λa e2=>?_⟩;cases e2;exact⟨o,e,ex.2.1⟩
  ·obtain⟨o,_,_,_,e,ex,_⟩:=I.hok p _ hk;refine⟨⟨o,e,ex.1⟩,λa e2=>?_⟩;cases e2;exact⟨o,e,ex.2.1⟩
 |_=>exact QU ty
variable{o e:Expr}{es:List Expr}{to:TE}{t:TA}{name:Str}{apos cpos:Pos}{T id:String}{r:V->List V->Hp->VK->Prop}
end
def MtM(X:Cx)(id:String)(r:V->List V->Hp->VK->Prop):Prop:=
 ∀(pins:List (Addr×Obj))(s:Shared)(σ:St)(H:Hp)(x:V)(xs:List V)(v:Value)(us:List Value)(Q:VK),Inv X pins σ H s->RelV x v->Vals xs us->r x xs H Q ->
  wpAny (model X.prog X.w) X.A (call (.builtin id) (v::us)) (EP X pins σ Q) X.xe s
theorem Vals.one{x:V}{us:List Value}(h:Vals [x] us):∃u,us=[u]/\RelV x u:=by
 cases h with
 |cons r t=>cases t;exact⟨_,rfl,r⟩
theorem Vals.two{x y:V}{us:List Value}(h:Vals [x,y] us):∃u v,us=[u,v]/\RelV x u/\RelV y v:=by
 cases h with
 |cons r t=>obtain⟨u,rfl,q⟩:=Vals.one t;exact⟨_,_,rfl,r,q⟩
theorem Vals.eraseIdx:∀{xs:List V}{us:List Value}(i:Nat),Vals xs us->Vals (xs.eraseIdx i) (us.eraseIdx i)
 |_,_,_,.nil=>.nil
 |_,_,0,.cons _ t=>t
 |_,_,i+1,.cons r t=>.cons r (Vals.eraseIdx i t)
theorem Vals.reverse{xs:List V}{us:List Value}(h:Vals xs us):Vals xs.reverse us.reverse:=by
 induction h with
 |nil=>exact .nil
 |cons r t ih=>rw[R0,R0];exact Vals.append ih (.cons r .nil)
theorem sT{α:Type}:∀(l:List α)(i:Nat),(l.eraseIdx i).length<=l.length
 | [],_=>Oj _
 |_::_,0=>So _
 |_::r,i+1=>Nat.succ_le_succ (sT r i)
section
variable{X:Cx}{pins:List (Addr×Obj)}{σ:St}{H:Hp}{s:Shared}{l b:Addr}{xs ys zs:List V}
theorem Inv.zF{its its':List Value}{n:Nat}{f:Array Value->Array Value}{t':Nat}(I:Inv X pins σ H s)(hH:H l=some (.lst xs))
  (e:s.heap.get? l=some { cls:=.type "list",data:=.seq its.toArray n }) (hf:f its.toArray=its'.toArray) (hv:Vals ys its') (hz:ys.length<=sizeLine) :
  Inv X pins σ (upd H l (.lst ys)) { s with heap:=s.heap.update l (Rt f),toks:=t' }:=by
 have q:=PySem.IsL.update e f;rw[hf]at q;refine I.write (x:=l) (e:=l) (by rw[hH];exact trivial) (.inl rfl) (λb' u hb hu=>(UO s.heap (Rt f) (Qg hb)).trans hu) ⟨_,q⟩ ?_;exact⟨hz,its',_,hv,q⟩
theorem Inv.Nj{its:List Value}{t':Nat}(I:Inv X pins σ H s)(hv:Vals ys its)(hz:ys.length<=sizeLine) :
  Inv X pins σ (upd H s.heap.objs.size (.lst ys)) { s with heap:=s.heap.push { cls:=.type "list",data:=.seq its.toArray },toks:=t' }:=
 I.laid (λ_ _ q=>Od _ q) (Oj _) ⟨hz,its,0,hv,OA _ rfl⟩
theorem Inv.fresh(I:Inv X pins σ H s):H s.heap.objs.size=none:=I.hok.fresh (Oj _)
theorem Inv.pI(I:Inv X pins σ H s)(hH:H l=some (.lst xs)):xs.length<=sizeLine/\∃(its:List Value)(n:Nat),Vals xs its/\xs.length=its.length/\s.heap.get? l=some { cls:=.type "list",data:=.seq its.toArray n }:=by
 obtain⟨z,its,n,r,e⟩:=I.hok l _ hH;exact⟨z,its,n,r,r.length,e⟩
theorem wC{n:Nat}(h:n<=sizeLine):Rx n=false:=by
 unfold Rx;exact Oo ⋯
end
section
variable{X:Cx}
def Gg:V->List V->Hp->VK->Prop:=λx vs H Q=>∃l xs y,x=.ref l/\vs=[y]/\H l=some (.lst xs)/\xs.length<sizeLine/\Q .non (upd H l (.lst (xs++[y])))
theorem tN:MtM X "list.append" Gg:=by
 intro pins s σ H x vs v us Q I rx rv h;obtain⟨l,xs,y,rfl,rfl,hH,hz,q⟩:=h;cases rx;obtain⟨u,rfl,ru⟩:=rv.one;obtain⟨z,its,n,r,hl,e⟩:=I.pI hH;refine Ua F.slot_list_append ⟨_,e,rfl⟩ F.entry_list_append (F.args_list_append_2 _ _) (PySem.list_append l its.toArray n u (by rw[Ov];omega)) ⟨e,?_⟩;refine⟨.non,_,I.zF (its':=its++[u]) hH e (by simp) (r.append (.cons ru .nil)) ?_,rfl,q⟩;rw[Pj,U1];omega
def xE:V->List V->Hp->VK->Prop:=λx vs H Q=>∃l b xs zs,x=.ref l/\vs=[.ref b]/\H l=some (.lst xs)/\H b=some (.lst zs)/\xs.length+zs.length<=sizeLine/\Q .non (upd H l (.lst (xs++zs)))
theorem AW:MtM X "list.extend" xE:=by
 intro pins s σ H x vs v us Q I rx rv h;obtain⟨l,b,xs,zs,rfl,rfl,hH,hB,hz,q⟩:=h;cases rx;obtain⟨u,rfl,ru⟩:=rv.one;cases ru;obtain⟨z,its,n,r,hl,e⟩:=I.pI hH;obtain⟨z2,its2,n2,r2,hl2,e2⟩:=I.pI hB;have hsz:its.toArray.size+its2.toArray.size<=sizeLine:=by rw[Ov,Ov];omega
 have hlong:¬(!its.toArray.isEmpty&&Rx (its.toArray.size+its2.toArray.size))=true:=by
  rw[wC hsz,Qy];exact OF
 refine Ua VJ ⟨_,e,rfl⟩ Vs (Vg _ _)
  (AutoSeq1.list_extend_list_list_0 l its.toArray n b its2.toArray n2 hlong (by rw[Ov];omega) ⋯) ⟨e,e2,?_⟩
 refine⟨.non,_,I.zF (its':=its++its2) hH e (by simp) (r.append r2) ?_,rfl,q⟩;rw[Pj];omega
def Bb:V->List V->Hp->VK->Prop:=λx vs H Q=>∃l xs i k y,x=.ref l/\vs=[.int i]/\H l=some (.lst xs)/\-(2 ^ 63)<=i/\i<2 ^ 63/\seqIndex? i xs.length=some k/\xs[k]?=some y/\Q y (upd H l (.lst (xs.eraseIdx k)))
theorem Ec:MtM X "list.pop" Bb:=by
 intro pins s σ H x vs v us Q I rx rv h;obtain⟨l,xs,i,k,y,rfl,rfl,hH,h1,h2,hk,hy,q⟩:=h;cases rx;obtain⟨u,rfl,ru⟩:=rv.one;obtain⟨t,rfl⟩:=ru;obtain⟨z,its,n,r,hl,e⟩:=I.pI hH;obtain⟨w,hw,rw'⟩:=r.get hy;refine Ua F.slot_list_pop ⟨_,e,rfl⟩ F.entry_list_pop (F.args_list_pop_2 _ _)
  (MeetsSeq.list_pop_at l its.toArray n i t k w (fitsIndex_both h1 h2) (by rw[Ov,<-hl];exact hk) (by rw[<-PF];exact hw) (by rw[Ov];omega)) ⟨e,?_⟩
 refine⟨y,_,I.zF (its':=its.eraseIdx k) hH e ?_ (r.eraseIdx k) ?_,rw',q⟩
 ·show its.toArray.eraseIdxIfInBounds k=(its.eraseIdx k).toArray;rw[List.eraseIdxIfInBounds_toArray]
 ·have:=sT xs k;omega
noncomputable def N3:R2:=λx y H Q=>∃l b xs zs,x=.ref l/\y=.ref b/\H l=some (.lst xs)/\H b=some (.lst zs)/\xs.length+zs.length<=sizeLine/\∀p,H p=none->Q (.ref p) (upd H p (.lst (xs++zs)))
theorem KZ:OpR X (binaryOp .Add) N3:=by
 intro pins s σ H x y v u Q I rx ry h;obtain⟨l,b,xs,zs,rfl,rfl,hH,hB,hz,q⟩:=h;cases rx;cases ry;obtain⟨z,its,n,r,hl,e⟩:=I.pI hH;obtain⟨z2,its2,n2,r2,hl2,e2⟩:=I.pI hB;refine PySem.P.add_list e e2 ?_ (by rw[Ov,Ov];omega);have ea:its.toArray++its2.toArray=(its++its2).toArray:=by simp
 rw[ea];exact⟨.ref _,_,I.Nj (t':=s.toks) (r.append r2) (by rw[Pj];omega),rfl,q _ I.fresh⟩
end
end L2
namespace Att
open PySem PySem.W PySem.Calls PyProof.Rows
theorem qo{P:Params}{h:Heap}:∀(ns:List Int)(vs:List Value),WellAll P h vs (ns.map WData.int)->IntsAre vs ns:=by
 intro ns
 induction ns with
 |nil=>
  intro vs w;rw[Tb]at w;cases w;exact .nil
 |cons n ns ih=>
  intro vs w;rw[Oq]at w;cases w with
  |cons a b=>
   cases a;exact .cons _ _ (ih _ b)
theorem B1{l:OpenLaw}{n:Nat}(hn:l.most=some n){P:Params}{h:Heap}{args:List WData}{vals:List Value}
    (hpre:l.row.toRowW.claim.pre args=true) (hwl:WellAll P h vals args) :
    ∃a vs ns,vals=[Value.ref a]/\args=[WData.list (ns.map WData.int)]/\h.get? a=some { cls:=.type "list",data:=.seq vs.toArray }/\IntsAre vs ns/\ns.length<=n:=by
  have hsh:WShape.hasAll [] args [.list .int]=true:=(pre_splitW hpre).1;have hc:l.pre.holds [] { args:=args }=true:=(pre_splitW hpre).2;obtain⟨d,r,rfl,h1,h2⟩:=hasAllW_cons hsh;obtain rfl:=hasAllW_nil h2;obtain⟨xs,rfl,h3⟩:=hasW_list h1;obtain⟨ns,rfl⟩:=items_int h3;have hlen:ns.length<=n:=by
    unfold OpenLaw.pre at hc;have h4:(WTm.not (.lt (.lit (.int (n:Int))) (.len (.arg 0)))).holds [] { args:=[.list (ns.map .int)] }=true:=by
      have h4:=(holds_andW hc).1;rw[hn]at h4;exact h4
    have h5:=condW_of h4 (w_not (w_lt w_lit (w_len_list (w_arg rfl))));rw[Oa]at h5;refine Uh λq=>?_;have q':(n:Int)<((ns.length:Nat):Int):=by omega
    first
      |(rw[Oi q']at h5;exact absurd h5 (by decide))
      |(simp at h5;omega)
  cases hwl with
  |cons w1 w2=>
    cases w2;cases w1 with
    |list ho hall=>exact⟨_,_,ns,rfl,rfl,ho,qo ns _ hall,hlen⟩
theorem AB(l:OpenLaw)(args:List WData):l.row.toRowW.claim.post args (.bool true) args=true:=
 postW_of (r:=l.row.toRowW) (X:=(true==true))
  (show Yu [] (.bool true) .bool=true by first |rfl |decide |simp[Yu,WShape.arms,WShape.armsAll])
  (show(WTm.eq .res (.lit (.bool true))).value [] { args:=args,res:=some (.bool true),after:=args }=some (.bool (true==true))from w_eq_bool (w_res rfl) w_lit) rfl
theorem xw{l:OpenLaw}{n:Nat}{q:Program}{loose:List Str}{XP:(Str->Option Value)->Heap->Prop}{YP:World->Heap->Prop}{d:DefRec}
  (hn:l.most=some n) (hdf:d.params.defaults=[])
  (call:∀(w:World)(s₀ s1:Shared)(mg mb:Str->Option Value)(fa:Addr)(o:Obj)(pm cd doc:Value)(a:Addr)(vs:List Value)(ns:List Int),
   Ground q loose [] XP w s₀ mg mb s1.heap->YP w s1.heap ->
   s1.heap.get? fa=some o->o.data=.func (docDef d.name d.params d.body d.scope pm cd doc)->s1.heap.CodeRec cd d.name->mg d.name=some (.ref fa) ->
   s1.heap.get? a=some { cls:=.type "list",data:=.seq vs.toArray }->IntsAre vs ns->ns.length<=n->s1.gens=#[] ->
   codeAny (model l.prog w) callerA (.call (.ref fa) ⟨[.ref a],[]⟩) (λr s'=>r=.ok (.ret (.bool true))/\OldK s1.heap s'.heap/\s'.os=s1.os/\AllBare s'.gens) s1) :
  WalkO q loose XP YP l.row.toRowW d [] (λf vs=>WI f vs):=by
 intro w s₀ s1 mg mb G Y fa o pm cd doc dV kV ho hd hcd hD hmg hg args vals as hpre hlay hrd hwl hlo;obtain rfl:dV=.none:=Dflts.none hD hdf;obtain rfl:kV=.none:=Dflts.noKw hD;obtain⟨a,vs,ns,rfl,rfl,hobj,hints,hlen⟩:=B1 hn hpre hwl;refine enter_call (Ud (call w s₀ s1 mg mb fa o pm cd doc a vs ns G Y ho (fd_plain hd) hcd hmg hobj hints hlen hg) λr s' hq=>?_);obtain⟨rfl,h2,h3,h4⟩:=hq;exact⟨.inl ⟨.bool true,.bool true,[],rfl,λ_=>rfl,.bool true,AB l _,λ_=>⟨List.Pairwise.nil,λ_ hm=>(nomatch hm)⟩⟩,h2,h3,h4⟩
end Att
namespace L2
open PySem PySem.Spec PyProof.Rows
theorem fq:∀{vs:List Value}{ns:List Int},IntsAre vs ns->Vals (ns.map V.int) vs
 |_,_,.nil=>.nil
 |_,_,.cons n t h=>.cons ⟨t,rfl⟩ (fq h)
def DZ(H:Hp):Prop:=∀b,H b=none\/∃o xs,H b=some (.frz o (.lst xs))
theorem CQ{P:Program}{w:World}{K:Oh}{mg mb:Str->Option Value}{CX:CXT}{k:Nat}{fa a:Addr}{fd:FuncData}{x:Str}{sp:Sp}{s1:Shared}{vs:List Value}{ns:List Int}
  (KX:K.In s1.heap) (hns:s1.heap.Ns mainGlobals mg) (hb:s1.heap.Ns builtinsNs mb) (hbb:∀x:Str,x≠"__name__"->mb x=bootBuiltins x) (hlim:s1.heap.NoLimit) (hg:s1.gens=#[])
  (ha:s1.heap.get? a=some { cls:=.type "list",data:=.seq vs.toArray }) (hi:IntsAre vs ns) (hl:ns.length<=sizeLine) (hr:cP k callerA)
  (F:∀base:Heap,K.In base->base.Ns mainGlobals mg->dY P w K mg base CX k fa fd [x] sp) (hbind:∀(s:Shared)(u:Value),BindsTo s fd ⟨[u],[]⟩ [(x,u)])
  (hsp:∀H:Hp,DZ H->SqL K H a (ns.map V.int)->sp [.ref a] H (λv _=>v=.bl true) λ_ _ _=>False)
  (hCX:∀H e s',CX [] H s1 (λ_ _ _=>False) e s'->False) :
  codeAny (model P w) callerA (.call (.ref fa) ⟨[.ref a],[]⟩) (λr s'=>r=.ok (.ret (.bool true))/\OldK s1.heap s'.heap/\s'.os=s1.os/\AllBare s'.gens) s1:=by
 have rv:=fq hi;have lenV:=hi.length;have core:∀H:Hp,DZ H->SqL K H a (ns.map V.int)->HOk P w H s1.heap->(∀b,H b≠none->b=a)->(H a≠none->K.lookup a=none) ->
   codeAny (model P w) callerA (.call (.ref fa) ⟨[.ref a],[]⟩) (λr s'=>r=.ok (.ret (.bool true))/\OldK s1.heap s'.heap/\s'.os=s1.os/\AllBare s'.gens) s1:=by
  intro H hO hS hok hA hK;have base_of:∀{b:Addr}{o:Obj},s1.heap.get? b=some o->H b=none->(lY s1.heap H).get? b=some o:=λe n=>Dk e n;have noA:∀{b:Addr}{o:Obj}{es:Array DictEntry}{ep:Nat},s1.heap.get? b=some o->o.data=.dict es ep->H b=none:=λ{b o es ep} e d=>by
   cases q:H b with
   |none=>rfl
   |some u=>
    have e':b=a:=hA b (by rw[q];simp);subst e';rw[ha]at e;cases e;have d':Data.seq vs.toArray _=Data.dict es ep:=d;cases d'
  have nsK:∀{b:Addr}{m:Str->Option Value},s1.heap.Ns b m->(lY s1.heap H).Ns b m:=λ{b m} ⟨o,es,ep,e,d,r⟩=>⟨o,es,ep,base_of e (noA e d),d,r⟩;have hKb:K.In (lY s1.heap H):=λb o e=>base_of (KX b o e) (by
   cases q:H b with
   |none=>rfl
   |some u=>
    have e':b=a:=hA b (by rw[q];simp);subst e';rw[hK (by rw[q];simp)]at e;cases e)
  have hM:Mod K mg (lY s1.heap H):=⟨hKb,nsK hns,⟨mb,nsK hb,hbb⟩,let⟨mc,h1,h2⟩:=hlim;⟨mc,nsK h1,h2⟩⟩;have e0:zP P w K mg (lY s1.heap H) callerA [] s1 H:=⟨rfl,hM,λb o e=>GI e,Ry (AR _ _),trivial,λb hb=>absurd (show b∈([]:List Addr)from hb) (by simp),hok,.of_eq hg⟩;refine Ud ((F _ hKb (nsK hns)).run callerA [] s1 H ⟨[.ref a],[]⟩ [.ref a] [.ref a] _ _ hr e0 (hbind s1 (.ref a)) (.cons rfl .nil) (hsp H hO hS)) λr s' h=>?_;cases r with
  |error e=>exact(hCX H e s' h).elim
  |ok fl=>
   cases fl with
   |next=>exact QU h
   |brk=>exact QU h
   |cont=>exact QU h
   |ret u=>
    obtain⟨v,H',os,bare,un,hok',r',q⟩:=h;have q':v=.bl true:=q;subst q';obtain rfl:u=Value.bool true:=r';refine⟨rfl,OldK.of_keep λb o e=>?_,os,bare⟩;cases q:H b with
    |none=>exact un.keep b o e q (by intro z;exact absurd (show b∈([]:List Addr)from z) (by simp)) (by simp)
    |some u=>
     rcases hO b with z |⟨ob,xs,z⟩
     ·rw[q]at z;cases z
     ·have z2:=un.frzs b ob _ z;obtain⟨e1,_⟩:=hok b _ z;obtain⟨e2,_⟩:=hok' b _ z2;rw[e]at e1;cases e1;exact e2
 cases hk:K.lookup a with
 |some o=>
  have e:=KX a o hk;rw[ha]at e;cases e;refine core (λ_=>none) (λ_=>.inl rfl) (.inr ⟨_,vs.toArray,_,hk,rfl,rfl,rfl,by rw[Ov,lenV];exact hl,by simpa using rv⟩) (λb u z=>by have z':(none:Option HO)=some u:=z;cases z') (λb z=>absurd rfl z) λz=>absurd rfl z
 |none=>
  refine core (λb=>if b=a then some (.frz { cls:=.type "list",data:=.seq vs.toArray } (.lst (ns.map V.int)))else none) (λb=>?_) (.inl (.inr ⟨{ cls:=.type "list",data:=.seq vs.toArray },Oe rfl⟩)) (λb u z=>?_) (λb z=>?_) λ_=>hk
  ·by_cases hb:b=a
   ·exact .inr ⟨_,_,Oe hb⟩
   ·exact .inl (Ot hb)
  ·by_cases hb:b=a
   ·have z':=(Oe hb).symm.trans z;cases z';subst hb;exact⟨ha,by rw[Oa];exact hl,vs,_,rv,ha⟩
   ·have z':=(Ot hb).symm.trans z;cases z'
  ·by_cases hb:b=a
   ·exact hb
   ·exact absurd (Ot hb) z
theorem F7{l:PySem.W.OpenLaw}{n k:Nat}{q:Program}{loose:List Str}{XP:(Str->Option Value)->Heap->Prop}{YP:World->Heap->Prop}{d:DefRec}{K:Params->Oh}{CX:World->CXT}{sp:World->Sp}{x:Str}
  (hn:l.most=some n) (hn2:n<=sizeLine) (hdf:d.params.defaults=[]) (hr:cP k callerA)
  (hY:∀(w:World)(h:Heap),YP w h->(K w.params).In h)
  (F:∀(w:World)(mg:Str->Option Value)(fa:Addr)(h:Heap),(K w.params).In h->h.Ns mainGlobals mg->mg d.name=some (.ref fa) ->
   ∃fd:FuncData,(∀(s:Shared)(u:Value),BindsTo s fd ⟨[u],[]⟩ [(x,u)]) /\
    ∀base:Heap,(K w.params).In base->base.Ns mainGlobals mg->dY l.prog w (K w.params) mg base (CX w) k fa fd [x] (sp w))
  (hsp:∀(w:World)(H:Hp)(a:Addr)(ns:List Int),ns.length<=n->DZ H->SqL (K w.params) H a (ns.map V.int)->sp w [.ref a] H (λv _=>v=.bl true) λ_ _ _=>False)
  (hCX:∀(w:World)(H:Hp)(s:Shared)(e:Value)(s':Shared),CX w [] H s (λ_ _ _=>False) e s'->False) :
  Xh q loose XP YP l.row.toRowW d [] (λf vs=>WI f vs):=by
 refine Att.xw hn hdf λw s₀ s1 mg mb fa o pm cd doc a vs ns G Y ho hd hcd hmg hobj hints hlen hg=>?_;have KX:=hY w _ Y;obtain⟨fd,hb,hF⟩:=F w mg fa _ KX G.T.g hmg;exact CQ KX G.T.g G.T.b G.T.builtins G.T.nolimit hg hobj hints (PC hlen hn2) hr hF hb (λH hO hS=>hsp w H a ns hlen hO hS) λH e s'=>hCX w H s1 e s'
noncomputable def kG(s:Stmt):Arguments:=match s with
 | .FunctionDef _ a _ _ _ _ _ _ _ _=>a
 |_=>{ posonlyargs:=[],args:=[],vararg:=none,kwonlyargs:=[],kw_defaults:=[],kwarg:=none,defaults:=[] }
noncomputable def fz(s:Stmt):List Stmt:=match s with
 | .FunctionDef _ _ b _ _ _ _ _ _ _=>b
 |_=>[]
noncomputable def bM(s:Stmt):Scope:=match s with
 | .FunctionDef _ _ _ _ _ _ sc _ _ _=>sc
 |_=>{ kind:=.function,names:=[],isGenerator:=false,isCoroutine:=false }
noncomputable abbrev CX0:CXT:=λ_ _ _ _ _ _=>False
noncomputable abbrev E0:XK:=λ_ _ _=>False
theorem EX{X:Cx}:Passes CX0 X E0:=λ_ _ _ _ _ _ _ h=>h.elim
structure Fun(K:Oh)(x qual:Str)(st:Stmt)(f:Addr)(fd:FuncData):Prop where
 ex:∃(oc:Value)(od:Option Addr)(kV doc pm:Value)(an:Option Addr)(cdv ct:Value)(osl:Array (Option Value)),
  fd=R5 x qual (kG st) (fz st) (bM st) .none kV doc pm an cdv ct/\K.lookup f=some ⟨oc,od,.func fd,osl⟩/\Tv K cdv qual=true
 kp:R4 K (.ref f)=true
section
variable{P:Program}{w:World}{K:Oh}{mg:Str->Option Value}{base:Heap}
theorem Fun.ok{x qual:Str}{st:Stmt}{f:Addr}{fd:FuncData}{N ps:List Str}{k:Nat}{sp:Sp}(F:Fun K x qual st f fd)(S:kX N ps (bM st))(len:∀vs H Q E,sp vs H Q E->vs.length=ps.length)
  (hbody:∀(cdv:Value)(A:Around)(outer:List Env)(s:Shared)(H:Hp)(vs:List V)(Q:VK)(E:XK),cP k (A.deeper (envOfC qual (bM st) s.heap.objs.size f cdv))->sp vs H Q E ->
   ∃t,PSs (mT CX0 P w K mg base N qual (bM st) f cdv A outer s H E).nox (fz st) t/\t { nx:=λ_ H'=>Q .non H',rt:=Q } (start N vs) H):dY P w K mg base CX0 (k+1) f fd ps sp:=by
 obtain⟨oc,od,kV,doc,pm,an,cdv,ct,osl,rfl,lk,hcd⟩:=F.ex;refine LV lk hcd S len λA outer s H vs Q E hr hsp=>?_;obtain⟨t,h,q⟩:=hbody cdv A outer s H vs Q E hr hsp;exact⟨t,h.nox,q⟩
theorem JD{x qual:Str}{st:Stmt}{f:Addr}{oc:Value}{od an:Option Addr}{osl:Array (Option Value)}{kV doc pm cdv ct:Value}(l:K.lookup f=some ⟨oc,od,.func (R5 x qual (kG st) (fz st) (bM st) .none kV doc pm an cdv ct),osl⟩)
  (c:Tv K cdv qual=true) (k:R4 K (.ref f)=true):Fun K x qual st f (R5 x qual (kG st) (fz st) (bM st) .none kV doc pm an cdv ct):=⟨⟨oc,od,kV,doc,pm,an,cdv,ct,osl,rfl,l,c⟩,k⟩
end
theorem dg{n:Nat}(h:n<=1000):n<sizeLine:=VL h (by decide)
def dy(H H':Hp):Prop:=∀b o,H b=some o->H' b=some o
noncomputable def gA(env:Env):List (Str×NameKind)->List (Str×Addr)->List (Str×Addr)
 | [],acc=>acc
 |(n,k)::r,acc=>gA env r (if k == .free then(n,(env.cells.lookup n).getD 0)::acc else acc)
theorem jy(h:∀y∈scope.names,y.2=.free->∃c,env.cells.lookup y.1=some c):closureFor scope env=pure (gA env scope.names []):=by
 have all:∀(l:List (Str×NameKind))(acc:List (Str×Addr)),(∀y∈l,y.2=.free->∃c,env.cells.lookup y.1=some c) ->
   (forIn l acc λ(x:Str×NameKind)(r:List (Str×Addr))=>match x with
    |(name,kind)=>if(kind==NameKind.free)=true then(do let a<-cellOf env name;pure (ForInStep.yield ((name,a)::r)))else pure (ForInStep.yield r):Sem (List (Str×Addr)))=pure (gA env l acc):=by
  intro l
  induction l with
  |nil=>intro acc _;rfl
  |cons y r ih=>
   intro acc hl;obtain⟨n,k⟩:=y;have hr:∀y∈r,y.2=.free->∃c,env.cells.lookup y.1=some c:=λy hy=>hl y (OJ _ hy);rw[Rf];by_cases hk:k=.free
   ·subst hk;obtain⟨c,hc⟩:=hl _ OY rfl;have e:cellOf env n=pure c:=by unfold cellOf;rw[show env.cells.lookup n=some c from hc]
    simp only[Ui,QL,e,pure_bind];rw[ih _ hr];simp only[gA,Ui,QL,show env.cells.lookup n=some c from hc,SW]
   ·have hb:(k==NameKind.free)=false:=by simpa using hk
    simp only[hb,Pw,QI,pure_bind];rw[ih _ hr];simp only[gA,hb,Pw,QI]
 have q:=all scope.names [] h;unfold closureFor;simp only[bind_pure]at q ⊢;exact q
theorem vJ:∀{l:List (Str×NameKind)}{acc:List (Str×Addr)}{x:Str}{c:Addr},(∀y∈l,y.2=.free->∃c,env.cells.lookup y.1=some c) ->
  (∀x c,(x,c)∈acc->env.cells.lookup x=some c)->(x,c)∈gA env l acc->env.cells.lookup x=some c
 | [],_,_,_,_,ha,h=>ha _ _ h
 |(n,k)::r,acc,x,c,hl,ha,h=>by
  refine vJ (l:=r) (λy hy=>hl y (OJ _ hy)) (λx c hm=>?_) h;by_cases hk:(k==NameKind.free)=true
  ·rw[Oe hk]at hm;rcases Ow.mp hm with e |e
   ·cases e;obtain⟨c',hc⟩:=hl _ OY (by simpa using hk);have hc':env.cells.lookup n=some c':=hc;rw[hc'];rfl
   ·exact ha _ _ e
  ·rw[Ot hk]at hm;exact ha _ _ hm
theorem eg(hl:∀y∈l,y.2=.free->∃c,env.cells.lookup y.1=some c)(h:(gA env l []).lookup x=some c):env.cells.lookup x=some c:=
 vJ hl (λ_ _ z=>absurd z (by simp)) (PM h)
theorem pH:∀{l:List (Str×NameKind)}{acc:List (Str×Addr)}{x:Str},((x,NameKind.free)∈l\/∃c,(x,c)∈acc)->∃c,(x,c)∈gA env l acc
 | [],_,_,h=>h.elim (λz=>absurd z (by simp)) λz=>z
 |(n,k)::r,acc,x,h=>by
  refine pH (l:=r) ?_;rcases h with h |⟨c,h⟩
  ·rcases Ow.mp h with e |e
   ·cases e;exact .inr ⟨_,by rw[Oe (by simp)];exact OY⟩
   ·exact .inl e
  ·by_cases hk:(k==NameKind.free)=true
   ·exact .inr ⟨c,by rw[Oe hk];exact OJ _ h⟩
   ·exact .inr ⟨c,by rw[Ot hk];exact h⟩
theorem eN:∀{l:List (Str×y)}{x:Str}{c:y},(x,c)∈l->∃c',l.lookup x=some c'
 | [],_,_,h=>nomatch h
 |(n,d)::r,x,c,h=>by
  rw[Pu];cases e:x==n with
  |true=>exact⟨d,rfl⟩
  |false=>
   rcases Ow.mp h with q |q
   ·cases q;simp at e
   ·exact eN q
noncomputable def bP(X:Cx)(scope:Scope)(N:List Str)(C:Addr)(s:Shared)(H:Hp)(fp:List Addr):Cx:=
 { X with N:=N,s₀:=s,H₀:=H,env:=compEnvC scope (gA X.env scope.names []) C X.env,outer:=X.stack,ex:=fp,fn:=λ_=>false,pn:=[],xe:=λ_ _=>False }
structure eI(esc scope:Scope)(EN N:List Str)(k:Nat):Prop where
 kind:scope.kind=.function
 nocell:∀y∈scope.names,y.2≠.cell
 names:∀y∈scope.names,y.2=.local->scope.names.lookup y.1=some .local
 frees:∀y∈scope.names,y.2=.free->esc.names.lookup y.1=some .cell\/esc.names.lookup y.1=some .free
 len:N.length=k+EN.length
 nm:(((N.drop k).zip EN).all λp=>(decide (p.1=p.2)&&decide (scope.names.lookup p.1=some .free))||decide (scope.names.lookup p.1=none))=true
theorem cH{scope:Scope}{env:Env}{x:Str}{k:NameKind}:∀{l:List (Str×NameKind)},
  (l.map λ(n,k)=>if(k==NameKind.free&&env.scope.kind == .function&&env.kindOf n==some .cell)then(n,NameKind.cell)else(n,k)).lookup x=some k ->
  l.lookup x=some k\/(l.lookup x=some .free/\k=.cell/\env.kindOf x=some .cell)
 | [],h=>by simp at h
 |(n,k')::r,h=>by
  have ih:=@cH scope env x k r;cases hx:x==n with
  |true=>
   have e:x=n:=by simpa using hx
   subst e;by_cases hc:(k'==NameKind.free&&env.scope.kind == .function&&env.kindOf x==some .cell)=true
   ·simp only[Oq,Oe hc,Pu,hx]at h;cases h;have hc2:(k'=.free/\env.scope.kind=.function)/\env.kindOf x=some .cell:=by simpa using hc
    exact .inr ⟨by simp[Pu,hc2.1.1],rfl,hc2.2⟩
   ·simp only[Oq,Ot hc,Pu,hx]at h;exact .inl (by simpa[Pu]using h)
  |false=>
   have h':(r.map λ(n,k)=>if(k==NameKind.free&&env.scope.kind == .function&&env.kindOf n==some .cell)then(n,NameKind.cell)else(n,k)).lookup x=some k:=by
    by_cases hc:(k'==NameKind.free&&env.scope.kind == .function&&env.kindOf n==some .cell)=true
    ·simpa only[Oq,Oe hc,Pu,hx]using h
    ·simpa only[Oq,Ot hc,Pu,hx]using h
   rw[Pu,hx];exact ih h'
theorem mP{scope:Scope}{env:Env}{x:Str}:∀{l:List (Str×NameKind)},l.lookup x=some .free ->
  (l.map λ(n,k)=>if(k==NameKind.free&&env.scope.kind == .function&&env.kindOf n==some .cell)then(n,NameKind.cell)else(n,k)).lookup x=some .cell \/
  (l.map λ(n,k)=>if(k==NameKind.free&&env.scope.kind == .function&&env.kindOf n==some .cell)then(n,NameKind.cell)else(n,k)).lookup x=some .free
 | [],h=>by simp at h
 |(n,k')::r,h=>by
  have ih:=@mP scope env x r;cases hx:x==n with
  |true=>
   by_cases hc:(k'==NameKind.free&&env.scope.kind == .function&&env.kindOf n==some .cell)=true
   ·exact .inl (by simp only[Oq,Oe hc,Pu,hx])
   ·refine .inr ?_;simp only[Oq,Ot hc,Pu,hx];simpa only[Pu,hx]using h
  |false=>
   have h':r.lookup x=some .free:=by simpa only[Pu,hx]using h
   by_cases hc:(k'==NameKind.free&&env.scope.kind == .function&&env.kindOf n==some .cell)=true
   ·simpa only[Oq,Oe hc,Pu,hx]using ih h'
   ·simpa only[Oq,Ot hc,Pu,hx]using ih h'
section
variable{X:Cx}{pins:List (Addr×Obj)}{σ:St}{H:Hp}{s:Shared}{scope:Scope}{N:List Str}{k:Nat}{fp:List Addr}
theorem eI.cells(S:eI X.env.scope scope X.N N k)(ok:X.Ok):∀y∈scope.names,y.2=.free->∃c,X.env.cells.lookup y.1=some c:=λy hy hf=>ok.has y.1 (S.frees y hy hf)
theorem Inv.G0{h4:Heap}(I:Inv X pins σ H s)(S:eI X.env.scope scope X.N N k)(hf:∀b∈fp,fj X pins H b)(hlt:∀b∈fp,b<s.heap.objs.size)(hn:h4.Ns s.heap.objs.size λ_=>none)(hk:∀b o,s.heap.get? b=some o->h4.get? b=some o) :
  Inv (bP X scope N s.heap.objs.size s H fp) [] (Pm k none++σ) H { s with heap:=h4,toks:=tk }:=by
 have hcells:=S.cells I.ok;have noA:∀p:Addr×Obj,p∈(bP X scope N s.heap.objs.size s H fp).pn++[]->False:=λp hp=>absurd (show p∈([]:List (Addr×Obj))from hp) (by simp);refine⟨⟨I.ok.mod,S.kind,I.ok.glob,I.ok.blt,Oj _,λy z c h1 h2=>?_,λy hy=>?_,λy c h=>?_,I.ok.hd,I.ok.frames,.inl rfl,λb hb=>?_,I.bs,PC I.ok.bsz I.sz,λb o e hb=>?_,λb hb hz=>?_,I.stack,I.xI⟩,
  rfl,I.bare,Un.kept hk,⟨_,hn,λi y v h1 h2 h3=>?_⟩,λy c h=>?_,I.hok.fresh (Oj _),λy c h=>?_,λp hp=>(noA p hp).elim,I.hok.kept hk,?_⟩
 ·exact I.ok.inj y z c (eg hcells h1) (eg hcells h2)
 ·have hy:(relabel scope X.env).names.lookup y=some .cell\/(relabel scope X.env).names.lookup y=some .free:=hy;have hfree:scope.names.lookup y=some .free:=by
   rcases hy with q |q
   ·rcases cH (scope:=scope) q with q |⟨q,_⟩
    ·exact absurd rfl (S.nocell _ (PM q))
    ·exact q
   ·rcases cH (scope:=scope) q with q |⟨q,z,_⟩
    ·exact q
    ·cases z
  obtain⟨c,hc⟩:=pH (env:=X.env) (l:=scope.names) (acc:=[]) (.inl (PM hfree));exact eN hc
 ·exact absurd h (by show¬(false=true);decide)
 ·obtain⟨f0,f1,f2,f3,f4,f5⟩:=hf b hb;exact⟨OE (hlt b hb),λx c h=>f4 x c (eg hcells h)⟩
 ·obtain⟨f0,f1,f2,f3,f4,f5⟩:=hf b hb;rcases f3 with q |q
  ·exact I.ok.noex b o e q
  ·exact absurd (ON (Ou (I.ok.bs b o e).1) q) (Pt _)
 ·obtain⟨f0,f1,f2,f3,f4,f5⟩:=hf b hb;rcases Ow.mp (I.pQ b hz)with z |z
  ·exact f1 z
  ·exact f2 z
 ·
  have hi:k<=i:=by
   refine Uh λq=>?_;rw[OC (by simpa using q),RH]at h2;split at h2<;>cases h2
  obtain⟨j,rfl⟩:=Nat.exists_eq_add_of_le hi;have h2':σ[j]?=some (some v):=by
   rw[OP (by simp)]at h2;simpa using h2
  have hy:(relabel scope X.env).names.lookup y=some .local\/(relabel scope X.env).names.lookup y=some .cell\/(relabel scope X.env).names.lookup y=some .free:=h3;have hjn:j<X.N.length:=by
   have:=(Ol.mp h2').1;rw[I.len]at this;exact this
  have hyn:N[k+j]?=some y:=h1;have hnm:=Pf.mp S.nm (y,X.N[j]) (by
   refine R6.mpr ⟨j,?_⟩;rw[Ub];exact⟨by rw[TL];exact hyn,by simp[hjn]⟩)
  have hvis:scope.names.lookup y≠none:=by
   rcases hy with q |q |q
   ·rcases cH (scope:=scope) q with q |⟨q,_⟩<;>rw[q]<;>simp
   ·rcases cH (scope:=scope) q with q |⟨q,_⟩<;>rw[q]<;>simp
   ·rcases cH (scope:=scope) q with q |⟨q,_⟩<;>rw[q]<;>simp
  have hnm2:y=X.N[j]/\scope.names.lookup y=some .free:=by
   rcases(PV _ _).mp hnm with q |q
   ·exact⟨QX ((OQ _ _).mp q).1,QX ((OQ _ _).mp q).2⟩
   ·exact absurd (QX q) hvis
  obtain⟨hyj,hfree⟩:=hnm2;have hk2:=S.frees _ (PM hfree) rfl;have hvis2:Vis X.env.scope y:=.inr hk2;obtain⟨m,hm,hl⟩:=I.loc;obtain⟨u,ru,lk⟩:=hl j y v (by rw[hyj];simp[hjn]) h2' hvis2;refine⟨u,ru,?_⟩;rcases lk with⟨q,_⟩ |⟨_,c,hc,hcell⟩
  ·rcases hk2 with z |z
   ·exact absurd (q.symm.trans (show X.env.kindOf y=some .cell from z)) (by simp)
   ·exact absurd (q.symm.trans (show X.env.kindOf y=some .free from z)) (by simp)
  ·refine .inr ⟨mP (scope:=scope) hfree,c,?_,hcell.keeps hk⟩;obtain⟨c',hc'⟩:=pH (env:=X.env) (l:=scope.names) (acc:=[]) (.inl (PM hfree));obtain⟨c2,hc2⟩:=eN hc';have q:=eg hcells hc2;rw[hc]at q;cases q;exact hc2
 ·obtain⟨v,q⟩:=I.cell y c (eg hcells h);exact⟨v,q.keeps hk⟩
 ·exact I.freeC y c (eg hcells h)
 ·show(Pm k none++σ).length=N.length;rw[Pj,U0,S.len,I.len]
end
section
variable{prog:Program}{w:World}{A:Around}{R:Result->Shared->Prop}{s:Shared}
theorem ku{R:Value->Shared->Prop}:∀(x:Value)(s':Shared),False->notedBy (model prog w) A env R x s':=λ_ _ h=>h.elim
theorem vv(I:Nat->Shared->Prop)
  (turn:∀n s,I n s->wpAny (model prog w) A (pyNext it) (λr s1=>match r with
   |none=>R (.ok .next) s1
   |some v=>wpAny (model prog w) A (letOwnedTupleGo target it v) (λ_ s1'=>wpAny (model prog w) A (assign target env v) (λ_ s2=>
     wpAny (model prog w) A (forIn ifs true λc r=>if r=true then do let ok<-isTrue c env (eval c env);pure (ForInStep.yield ok)else pure (ForInStep.yield r)) (λok s₃=>
      if ok=true then wpAny (model prog w) A (eval elt env) (λx s4=>
       wpAny (model prog w) A (call (.builtin "list.append") [acc,x]) (λ_ s5=>∃m,m<n/\I m s5) (λ_ _=>False) s4) (notedBy (model prog w) A env λx s'=>R (.error x) s') s₃
      else∃m,m<n/\I m s₃) (λ_ _=>False) s2) (λ_ _=>False) s1') (λ_ _=>False) s1) (λ_ _=>False) s)
  (n:Nat) (h:I n s) :
  codeAny (model prog w) A (.compLoop (.ListComp elt [⟨target,iter,ifs,0⟩] scope pos) 0 it acc env) R s:=by
 refine codeAny_loop rfl I (λn s hI=>?_) n h;show wpAny _ A ((compTurn (.ListComp elt [⟨target,iter,ifs,0⟩] scope pos) 0 it acc env).onRaise (λx=>do noteFrame x env;theTreesLotGoes x)) _ _ s;refine wpAny_noted ?_;rw[compTurn_list];refine ar (Vi (ar (P9 (turn n s hI) (λr s1 h1=>?_) ku)));cases r with
 |none=>exact C0 h1
 |some v=>
  refine ar (P9 h1 (λ_ s1' h1'=>?_) ku);refine ar (P9 h1' (λ_ s2 h₂=>ar (P9 h₂ (λok s₃ h3=>?_) ku)) ku);cases ok with
  |false=>exact C0 ⟨rfl,h3⟩
  |true=>
   exact ar (ar (P9 h3 (λx s4 h₄=>ar (P9 h₄ (λ_ s5 h5=>C0 (C0 ⟨rfl,h5⟩)) ku)) λ_ _ q=>q))
end
def PTs(X:Cx)(ifs:List Expr)(t:TT):Prop:=
 ∀(pins:List (Addr×Obj))(s:Shared)(σ:St)(H:Hp)(Q:Bool->Hp->Prop),Inv X pins σ H s->t σ H Q ->
  wpAny (model X.prog X.w) X.A (forIn ifs true λc r=>if r=true then do let ok<-isTrue c X.env (eval c X.env);pure (ForInStep.yield ok)else pure (ForInStep.yield r)) (TP X pins σ Q) X.xe s
noncomputable def NJ:TT:=λ_ H Q=>Q true H
theorem GL:PTs X [] NJ:=λ_ _ _ H _ I h=>wpAny_tests_nil ⟨H,I,h⟩
theorem FR(h:PT X c t):PTs X [c] t:=λpins s σ H Q I q=>wpAny_tests_one (h pins s σ H Q I q)
def LCW(J:It)(g:TG)(tt:TT)(te:TE)(k:Nat)(D:Addr)(σ:St)(H1:Hp)(Q:Hp->Prop):Prop:=
 ∃W:Nat->Nat->St->Hp->Prop,(∃m,W 0 m (Pm k none++σ) (upd H1 D (.lst [])))/\∀i m σ' H',W i m σ' H' ->
  (J.stop i H'/\Q H')\/(J.go i H'/\∃N:St->Hp->Prop,(∀σ2 H2,N σ2 H2->∃m',m'<m/\W (i+1) m' σ2 H2) /\
   ∀x H2,J.yld i H' x H2->g x σ' H2 λσ3 H3=>tt σ3 H3 λb H4=>if b=true then te σ3 H4 λv H5=>∃xs,H5 D=some (.lst xs)/\xs.length<sizeLine/\N σ3 (upd H5 D (.lst (xs++[v])))else N σ3 H4)
noncomputable def Ii(wi:TI)(g:TG)(tt:TT)(te:Hp->TE)(k:Nat):TE:=λσ H Q=>wi σ H λJ H1=>∀D,H1 D=none->LCW J g tt (te (upd H1 D (.lst []))) k D σ H1 λH2=>Q (.ref D) H2
def Fm(X:Cx)(C:Addr)(x:Value)(s':Shared):Prop:=∃m,s'.heap.Ns C m/\∀h',OR C s'.heap h'->∀cenv:Env,cenv.locals=C->wpAny (model X.prog X.w) X.A (passOn "comprehension.variables-let-go" x cenv:Sem Value) (λ_ _=>False) X.xe { s' with heap:=h' }
def LCE(X:Cx)(scope:Scope)(N:List Str)(elt:Expr)(te:Hp->TE):Prop:=∀(pins:List (Addr×Obj))(σ:St)(C:Addr)(s3:Shared)(H3:Hp)(fp:List Addr)(pt:List (Addr×Obj))(s:Shared)(σ':St)(H':Hp)(Q:VK),s3.heap.objs.size=C->Inv X pins σ H3 s3->(∀b∈fp,fj X pins H3 b)->(∀b∈fp,∃o,(b,o)∈pt) ->
 Inv (bP X scope N C s3 H3 fp) pt σ' H' s->te H3 σ' H' Q->wpAny (model X.prog X.w) X.A (eval elt (compEnvC scope (gA X.env scope.names []) C X.env)) (EP (bP X scope N C s3 H3 fp) pt σ' Q) (notedBy (model X.prog X.w) X.A (compEnvC scope (gA X.env scope.names []) C X.env) (Fm X C)) s
theorem AK(he:∀C s H fp,PE (bP X scope N C s H fp) elt te):LCE X scope N elt λ_=>te:=λ_ _ C s3 H3 fp pt s q' H' Q _ _ _ _ I q=>P9 (he C s3 H3 fp pt s q' H' Q I q) (λ_ _ z=>z) λ_ _ z=>z.elim
noncomputable def tLC(wi:TI)(g:TG)(tt:TT)(te:TE)(k:Nat):TE:=λσ H Q=>wi σ H λJ H1=>∀D,H1 D=none->LCW J g tt te k D σ H1 λH2=>Q (.ref D) H2
section
variable{X:Cx}{tg elt iter:Expr}{ifs:List Expr}{scope:Scope}{pos:Pos}{wi:TI}{g:TG}{tt:TT}{N:List Str}{k:Nat}
theorem vN{pins:List (Addr×Obj)}{σ:St}{H2:Hp}{s2:Shared}{it:Addr}{fp:List Addr}{tn:Nat->Heap->Prop}{J:It}{E:Value->Shared->Prop}{QD:Addr->Hp->Prop}{RR:Value->Addr->Result->Shared->Prop}{te:Hp->TE}
  (hc:X.calm=true) (S:eI X.env.scope scope X.N N k) (hg:∀C s H fp,PG (bP X scope N C s H fp) tg g) (ht:∀C s H fp,PTs (bP X scope N C s H fp) ifs tt) (he:LCE X scope N elt te) (hRE:∀D C x s',Fm X C x s'->RR (.ref D) C (.error x) s')
  (I2:Inv X pins σ H2 s2) (T:Turn X.prog X.w X.K tg J fp it tn) (st2:tn 0 s2.heap) (f2:∀b∈fp,fj X pins H2 b) (q:∀D,H2 D=none->LCW J g tt (te (upd H2 D (.lst []))) k D σ H2 (QD D))
  (hRR:∀(D C:Addr)(s':Shared)(H':Hp)(m:Str->Option Value),s2.heap.objs.size<C->Inv X pins σ H' s'->s'.heap.Ns C m->H' C=none->C≠X.env.locals->C∉X.fs->X.s₀.heap.objs.size<=C->(∀x c,X.env.cells.lookup x=some c->c≠C)->(∀p∈X.pn++pins,p.1≠C)->QD D H'->RR (.ref D) C (.ok .next) s') :
  wpAny (model X.prog X.w) X.A (newList []) (λacc s₃=>wpAny (model X.prog X.w) X.A (newFunctionEnv scope X.env.globals (gA X.env scope.names []) [] X.env.qual none .none (some X.env)) (λcenv s4=>
   codeAny (model X.prog X.w) X.A (.compStart (.ListComp elt [⟨tg,iter,ifs,0⟩] scope pos) 0 (.ref it) acc { cenv with scope:=relabel scope X.env }) (RR acc cenv.locals) s4) E s₃) E s2:=by
 have hD:H2 s2.heap.objs.size=none:=I2.hok.fresh (Oj _);obtain⟨W,⟨m0,w0⟩,turn⟩:=q _ hD;refine Pp ?_;have I3:Inv X pins σ (upd H2 s2.heap.objs.size (.lst [])) { s2 with heap:=s2.heap.push { cls:=.type "list",dict:=none,data:=.seq ([]:List Value).toArray } }:=by
  refine I2.laid (t':=s2.toks) (λb u e=>Od _ e) (Oj _) ?_;exact⟨QF _,[],0,.nil,OA _ rfl⟩
 have k3:∀b o,s2.heap.get? b=some o->(s2.heap.push { cls:=.type "list",dict:=none,data:=.seq ([]:List Value).toArray }).get? b=some o:=λb o e=>Od _ e;generalize hs3:({ s2 with heap:=s2.heap.push { cls:=.type "list",dict:=none,data:=.seq ([]:List Value).toArray } }:Shared)=s3 at I3 ⊢;have hsz:s3.heap.objs.size=s2.heap.objs.size+1:=by rw[<-hs3];exact Qz ..
 have k3':∀b o,s2.heap.get? b=some o->s3.heap.get? b=some o:=by rw[<-hs3];exact k3
 generalize hDe:s2.heap.objs.size=D at *;have fpD:∀b∈fp,b<D:=λb hb=>by
  obtain⟨o,e,_⟩:=T.obj _ _ st2 b hb;rw[<-hDe];exact Ou e
 have f3:∀b∈fp,fj X pins (upd H2 D (.lst [])) b:=λb hb=>by
  refine⟨?_,(f2 b hb).2⟩;rw[aw (OE (fpD b hb))];exact(f2 b hb).1
 refine wpAny_newFunctionEnv S.nocell (by intro y hy;simp at hy) (λh4 hn4 hs4=>?_) S.kind
 try dsimp only at hn4 hs4 ⊢
 have k4:∀b o,s3.heap.get? b=some o->h4.get? b=some o:=λb o e=>hs4.extBut b o (OE (Ou e)) (Od _ e);have I4:=I3.G0 (h4:=h4) (tk:=s3.toks+0) S f3 (λb hb=>by rw[hsz];exact Rn (fpD b hb)) hn4 k4;have st4:tn 0 h4:=T.keep _ _ _ st2 λb hb o e=>k4 b o (k3' b o e);have fr4:∀b∈fp,(upd H2 D (.lst [])) b=none:=λb hb=>(f3 b hb).1;generalize hC:s3.heap.objs.size=C at *;have hX:∀(H':Hp),(∀b∈fp,H' b=none)->∀b∈fp,fj (bP X scope N C s3 (upd H2 D (.lst [])) fp) [] H' b:=λH' hn b hb=>by
  obtain⟨g0,g1,g2,g3,g4,g5⟩:=f3 b hb;refine⟨hn b hb,?_,?_,.inl hb,?_,λp hp=>absurd (show p∈([]:List (Addr×Obj))from hp) (by simp)⟩
  ·exact OE (VM (Rn (fpD b hb)) hsz.symm)
  ·intro z;rcases Ow.mp (I3.pQ b z)with z |z
   ·exact g1 z
   ·exact g2 z
  ·intro x c h;exact g4 x c (eg (S.cells I3.ok) h)
 have fin:∀(s':Shared)(σ':St)(H':Hp),Inv (bP X scope N C s3 (upd H2 D (.lst [])) fp) [] σ' H' s'->QD D H'->RR (.ref D) C (.ok .next) s':=by
  intro s' σ' H' I' qd;obtain⟨m,hm,_⟩:=id I'.loc;have IX:Inv X pins σ H' s':=by
   refine I3.Lu (s':=s') (ch:=fp) I'.os I'.base I'.hok I'.bare λb hb=>?_;obtain⟨g0,g1,g2,g3,g4,g5⟩:=f3 b hb;exact⟨g3,g1,g4,g5⟩
  have hlt:=I3.lt;rw[hC]at hlt;refine hRR D C s' H' m (VM (Uj D) hsz.symm) IX hm I'.free (Qc hlt) (I3.IW (Ry hC)) (PC I3.sz (Ry hC)) (λx c e z=>?_) (λp hp z=>?_) qd
  ·obtain⟨v,hv⟩:=I3.cell x c e;have q:=hv.lt;rw[hC,z]at q;exact Pt _ q
  ·have q:=Ou (I3.pin p hp).1;rw[hC,z]at q;exact Pt _ q
 have loop:∀s₀:Shared,s₀={ s3 with heap:=h4,toks:=s3.toks+([]:List (Str×Value)).length } ->
   codeAny (model X.prog X.w) X.A (.compLoop (.ListComp elt [⟨tg,iter,ifs,0⟩] scope pos) 0 (.ref it) (.ref D) (compEnvC scope (gA X.env scope.names []) C X.env)) (RR (.ref D) C) s₀:=by
  rintro s₀ rfl;refine vv (λn s'=>∃i σ' H',Inv (bP X scope N C s3 (upd H2 D (.lst [])) fp) [] σ' H' s'/\tn i s'.heap/\(∀b∈fp,H' b=none)/\W i n σ' H') ?_ m0 ⟨0,_,_,I4,st4,fr4,w0⟩;rintro n s5 ⟨i,σ5,H5,I5,st5,fr5,w5⟩;rcases turn i n σ5 H5 w5 with⟨stop,qn⟩ |⟨go,NN,hN,step⟩
  ·refine thn (T.done (bP X scope N C s3 (upd H2 D (.lst [])) fp) rfl rfl rfl hc i [] s5 σ5 H5 _ I5 (hX _ fr5) st5 stop) λr s6 ⟨hr,I6⟩=>?_;subst hr;exact fin s6 σ5 H5 I6 qn
  ·refine thn (T.item (bP X scope N C s3 (upd H2 D (.lst [])) fp) rfl rfl rfl hc i [] s5 σ5 H5 _ I5 (hX _ fr5) st5 go) λr s6 ⟨u,hr,h6⟩=>?_;subst hr;refine thn h6 λ_ s7 ⟨x,H7,I7,r7,y7,st7,fr7⟩=>?_;have I7':=I7.pinned (hX _ fr7) (T.obj _ _ st7);have back:∀{s9:Shared}{σ9:St}{H9:Hp},Inv (bP X scope N C s3 (upd H2 D (.lst [])) fp) ([]++m9 fp s7.heap) σ9 H9 s9->NN σ9 H9->∃m,m<n/\∃i σ' H',Inv (bP X scope N C s3 (upd H2 D (.lst [])) fp) [] σ' H' s9/\tn i s9.heap/\(∀b∈fp,H' b=none)/\W i m σ' H':=λ{s9 σ9 H9} I9 n9=>by
    obtain⟨m',hm,w9⟩:=hN σ9 H9 n9;refine⟨m',hm,i+1,σ9,H9,I9.jq,T.keep _ _ _ st7 λb hb o e=>(I9.pin (b,o) (OT _ (OT _ (fI hb e)))).1,λb hb=>?_,w9⟩;obtain⟨o,e,d⟩:=T.obj _ _ st7 b hb;exact(I9.pin (b,o) (OT _ (OT _ (fI hb e)))).2.1
   refine thn (hg C s3 _ fp _ s7 σ5 H7 x u _ I7' r7 (step x H7 y7)) λ_ s8 ⟨σ8,H8,I8,q8⟩=>?_;refine thn (ht C s3 _ fp _ s8 σ8 H8 _ I8 q8) λok s9 ⟨H9,I9,q9⟩=>?_;cases ok with
   |false=>
    rw[Ot OF]at q9;rw[Ot OF];exact back I9 q9
   |true=>
    rw[Oe rfl]at q9;rw[Oe rfl];refine P9 (he pins σ C s3 _ fp _ s9 σ8 H9 _ hC I3 f3 (λb hb=>by
      obtain⟨o,e,_⟩:=T.obj _ _ st7 b hb;exact⟨o,OT _ (fI hb e)⟩) I9 q9) (λy s10 ⟨v,H10,I10,r10,q10⟩=>?_) λx s10 z=>P9 z (λ_ _=>hRE D C x _) (λ_ _=>hRE D C _ _)
    obtain⟨xs,hD10,hz,qN⟩:=q10;refine thn (tN (X:=bP X scope N C s3 (upd H2 D (.lst [])) fp) _ s10 σ8 H10 (.ref D) [v] (.ref D) [y] (λ_ H'=>NN σ8 H') I10 rfl (.cons r10 .nil) ⟨D,xs,v,rfl,rfl,hD10,hz,qN⟩) λ_ s11 ⟨_,H11,I11,_,q11⟩=>?_;exact back I11 q11
 exact codeAny_compStart_list (loop _ rfl) (T.self _ 0 _ _ _ st4 (loop _ rfl))
theorem Jw{te:Hp->TE}(hc:X.calm=true)(S:eI esc scope EN N k)(h1:X.env.scope=esc)(h2:X.N=EN)(hi:PI X tg iter wi)(hg:∀C s H fp,PG (bP X scope N C s H fp) tg g)(ht:∀C s H fp,PTs (bP X scope N C s H fp) ifs tt)(he:LCE X scope N elt te)
  (hs:∀x,foldedSetIterable iter X.env x=pure x:=by intro _;rfl):PE X (.ListComp elt [⟨tg,iter,ifs,0⟩] scope pos) (Ii wi g tt te k):=by
 subst h1 h2;intro pins s σ H Q I h;rw[eval_ListComp];refine Uk (use:=none) rfl hs (jy (S.cells I.ok)) S.kind S.names (thn (hi pins s σ H _ I h) λv s1 h1=>thn h1 λitv s2 h2=>?_);obtain⟨it,fp,tn,J,H2,e,I2,T,st2,f2,q⟩:=h2;subst e;refine vN (RR:=λacc C=>compPost (model X.prog X.w) X.A X.xe none (EP X pins σ Q) acc C) hc S hg ht he (λ_ _ _ _ z=>z) I2 T st2 f2 q ?_;intro D C s' H' m hC IX hm hn hL hF hS hcell hp qd;refine⟨m,hm,λh' sb=>?_⟩;exact⟨.ref D,H',IX.turned (t':=s'.toks) (λb o hb e=>sb.extBut b o hb e) hn hL (.inr hS) hcell hp,rfl,qd⟩
theorem LL{te:TE}(hc:X.calm=true)(S:eI esc scope EN N k)(h1:X.env.scope=esc)(h2:X.N=EN)(hi:PI X tg iter wi)(hg:∀C s H fp,PG (bP X scope N C s H fp) tg g)(ht:∀C s H fp,PTs (bP X scope N C s H fp) ifs tt)(he:∀C s H fp,PE (bP X scope N C s H fp) elt te)
  (hs:∀x,foldedSetIterable iter X.env x=pure x:=by intro _;rfl):PE X (.ListComp elt [⟨tg,iter,ifs,0⟩] scope pos) (tLC wi g tt te k):=Jw hc S h1 h2 hi hg ht (AK he) hs
noncomputable def sLC(wi:TI)(g:TG)(tt:TT)(te:TE)(k i:Nat):TS:=λD σ H=>tLC wi g tt te k σ H λv H1=>D.nx (σ.set i (some v)) H1
theorem Lx{te:TE}(hN:X.N.Nodup)(hi':X.N[i]?=some y)(hy:Loc X.env.scope y)(hc:X.calm=true)(S:eI esc scope EN N k)(h1:X.env.scope=esc)(h2:X.N=EN)(hi:PI X tg iter wi)(hg:∀C s H fp,PG (bP X scope N C s H fp) tg g)(ht:∀C s H fp,PTs (bP X scope N C s H fp) ifs tt)(he:∀C s H fp,PE (bP X scope N C s H fp) elt te)
  (hsw:swapsWith (.ListComp elt [⟨tg,iter,ifs,0⟩] scope pos) (some (.Name y py)) spos.line X.env=pure true:=by rfl)
  (hs:∀x,foldedSetIterable iter X.env x=pure x:=by intro _;rfl) (hf:X.fn y=true\/X.env.scope.names.lookup y=some .local:=by first |exact .inl rfl |exact .inr rfl |assumption) :
  PS X (.Assign [.Name y py] (.ListComp elt [⟨tg,iter,ifs,0⟩] scope pos) spos) (sLC wi g tt te k i):=by
 subst h1 h2;intro pins s σ H D0 I h;rw[exec_Assign_Name_used _ _ _ _ hsw];refine ar (Vi (ar ?_));show wpAny _ X.A (do let _<-comprehension (.ListComp elt [⟨tg,iter,ifs,0⟩] scope pos) scope X.env _ (newList []) false (eval iter X.env) (some (assign (.Name y py) X.env))) _ _ s;refine ar (P9 (Uk (use:=some (assign (.Name y py) X.env)) (Q:=λ_ s'=>SP X pins D0 .next s') rfl hs (jy (S.cells I.ok)) S.kind S.names
  (thn (hi pins s σ H _ I h) λv s1 h1=>thn h1 λitv s2 h2=>?_)) (λ_ s' hq=>C0 (C0 hq)) λ_ _ e=>e)
 obtain⟨it,fp,tn,J,H2,e,I2,T,st2,f2,q⟩:=h2;subst e;refine vN (RR:=λacc C=>compPost (model X.prog X.w) X.A X.xe (some (assign (.Name y py) X.env)) (λ_ s'=>SP X pins D0 .next s') acc C) hc S hg ht (AK he) (λ_ _ _ _ z=>z) I2 T st2 f2 q ?_;intro D C s' H' m hC IX hm hn hL hF hS hcell hp qd;show wpAny _ X.A (assign (.Name y py) X.env (.ref D)) _ _ _;obtain⟨o,es,ep,ho,hd,hr⟩:=id hm;have IP:Inv X (pins++[(C,o)]) σ H' s':=IX.rM λp hp=>by
  rcases OI.mp hp with z |z
  ·exact IX.pin p (OT _ z)
  ·obtain rfl:p=(C,o):=Og.mp z;exact⟨ho,hn,hL,hF,λv z=>by rw[hd]at z;cases z⟩
 refine V3 (pE IP hN hi' hy (v:=.ref D) (u:=.ref D) rfl (λs'' I''=>?_) hf);have hC2:=(I''.pin (C,o) (OT _ (OT _ (Og.mpr rfl)))).1;refine⟨m,⟨o,es,ep,hC2,hd,hr⟩,λh' sb=>?_⟩;exact⟨_,H',(I''.jq).turned (t':=s''.toks) (λb o hb e=>sb.extBut b o hb e) hn hL (.inr hS) hcell hp,qd⟩
end
inductive D where
 |non |bl (b:Bool) |int (i:Int) |str (x:Str) |tup (xs:List D) |lst (xs:List D)
mutual
noncomputable def D.eqv:D->D->Bool
 | .non,.non=>true
 | .bl a,.bl b=>a==b
 | .bl a,.int b=>(if a then 1 else 0)==b
 | .int a,.bl b=>a==(if b then 1 else 0)
 | .int a,.int b=>a==b
 | .str a,.str b=>a==b
 | .tup xs,.tup ys=>D.dN xs ys
 | .lst xs,.lst ys=>D.dN xs ys
 |_,_=>false
noncomputable def D.dN:List D->List D->Bool
 | [],[]=>true
 |x::xs,y::ys=>D.eqv x y&&D.dN xs ys
 |_,_=>false
end
mutual
theorem D.eqv_refl:∀d:D,D.eqv d d=true
 | .non=>rfl
 | .bl a=>by simp[D.eqv]
 | .int a=>by simp[D.eqv]
 | .str a=>by simp[D.eqv]
 | .tup xs=>by simp only[D.eqv];exact D.nJ xs
 | .lst xs=>by simp only[D.eqv];exact D.nJ xs
theorem D.nJ:∀ds:List D,D.dN ds ds=true
 | []=>rfl
 |d::ds=>by simp only[D.dN,D.eqv_refl d,D.nJ ds,Bool.and_self]
end
mutual
noncomputable def D.depth:D->Nat
 | .tup xs=>D.cU xs+1
 | .lst xs=>D.cU xs+1
 |_=>0
noncomputable def D.cU:List D->Nat
 | []=>0
 |x::xs=>max (D.depth x) (D.cU xs)
end
mutual
inductive Rep(H:Hp):V->D->Prop
 |non:Rep H .non .non
 |bl (b:Bool):Rep H (.bl b) (.bl b)
 |int (i:Int):Rep H (.int i) (.int i)
 |str (x:Str):Rep H (.str x) (.str x)
 |tup {a:Addr} {vs:List V} {ds:List D}:H a=some (.tup vs)->ak H vs ds->Rep H (.ref a) (.tup ds)
 |lst {a:Addr} {vs:List V} {ds:List D}:H a=some (.lst vs)->ak H vs ds->Rep H (.ref a) (.lst ds)
inductive ak(H:Hp):List V->List D->Prop
 |nil:ak H [] []
 |cons {v:V} {d:D} {vs:List V} {ds:List D}:Rep H v d->ak H vs ds->ak H (v::vs) (d::ds)
end
theorem ak.length:∀{vs:List V}{ds:List D},ak H vs ds->vs.length=ds.length
 |_,_,.nil=>rfl
 |_,_,.cons _ t=>by simp[ak.length t]
theorem ak.get:∀{vs:List V}{ds:List D}{i:Nat}{v:V},ak H vs ds->vs[i]?=some v->∃d,ds[i]?=some d/\Rep H v d
 |_,_,_,_,.nil,e=>by simp at e
 |_,_,0,_,.cons r _,e=>by simp at e;subst e;exact⟨_,rfl,r⟩
 |_,_,i+1,v,.cons _ t,e=>by
  obtain⟨d,h1,h2⟩:=ak.get (i:=i) (v:=v) t (by simpa using e);exact⟨d,by simpa using h1,h2⟩
theorem ak.get':∀{vs:List V}{ds:List D}{i:Nat}{d:D},ak H vs ds->ds[i]?=some d->∃v,vs[i]?=some v/\Rep H v d
 |_,_,_,_,.nil,e=>by simp at e
 |_,_,0,_,.cons r _,e=>by simp at e;subst e;exact⟨_,rfl,r⟩
 |_,_,i+1,v,.cons _ t,e=>by
  obtain⟨d,h1,h2⟩:=ak.get' (i:=i) (d:=v) t (by simpa using e);exact⟨d,by simpa using h1,h2⟩
theorem ak.append:∀{vs us:List V}{ds es:List D},ak H vs ds->ak H us es->ak H (vs++us) (ds++es)
 |_,_,_,_,.nil,s=>s
 |_,_,_,_,.cons r t,s=>.cons r (ak.append t s)
theorem ak.take:∀{vs:List V}{ds:List D}(n:Nat),ak H vs ds->ak H (vs.take n) (ds.take n)
 |_,_,0,_=>.nil
 |_,_,_+1,.nil=>.nil
 |_,_,n+1,.cons r t=>.cons r (ak.take n t)
theorem ak.drop:∀{vs:List V}{ds:List D}(n:Nat),ak H vs ds->ak H (vs.drop n) (ds.drop n)
 |_,_,0,r=>r
 |_,_,_+1,.nil=>.nil
 |_,_,n+1,.cons _ t=>ak.drop n t
theorem ak.reverse:∀{vs:List V}{ds:List D},ak H vs ds->ak H vs.reverse ds.reverse
 |_,_,.nil=>.nil
 |_,_,.cons r t=>by rw[R0,R0];exact(ak.reverse t).append (.cons r .nil)
mutual
theorem Rep.mono(e:dy H H'):∀{v:V}{d:D},Rep H v d->Rep H' v d
 |_,_,.non=>.non
 |_,_,.bl b=>.bl b
 |_,_,.int i=>.int i
 |_,_,.str x=>.str x
 |_,_,.tup h r=>.tup (e _ _ h) (ak.mono e r)
 |_,_,.lst h r=>.lst (e _ _ h) (ak.mono e r)
theorem ak.mono(e:dy H H'):∀{vs:List V}{ds:List D},ak H vs ds->ak H' vs ds
 |_,_,.nil=>.nil
 |_,_,.cons r t=>.cons (Rep.mono e r) (ak.mono e t)
end
mutual
theorem Rep.inj:∀{v:V}{d e:D},Rep H v d->Rep H v e->d=e
 |_,_,_,.non,.non=>rfl
 |_,_,_,.bl _,.bl _=>rfl
 |_,_,_,.int _,.int _=>rfl
 |_,_,_,.str _,.str _=>rfl
 |_,_,_,.tup h r,.tup h' r'=>by rw[h]at h';cases h';rw[ak.inj r r']
 |_,_,_,.tup h r,.lst h' r'=>by rw[h]at h';cases h'
 |_,_,_,.lst h r,.tup h' r'=>by rw[h]at h';cases h'
 |_,_,_,.lst h r,.lst h' r'=>by rw[h]at h';cases h';rw[ak.inj r r']
theorem ak.inj:∀{vs:List V}{ds es:List D},ak H vs ds->ak H vs es->ds=es
 |_,_,_,.nil,.nil=>rfl
 |_,_,_,.cons r t,.cons r' t'=>by rw[Rep.inj r r',ak.inj t t']
end
theorem ak.ints:∀(ns:List Int),ak H (ns.map V.int) (ns.map D.int)
 | []=>.nil
 |n::ns=>.cons (.int n) (ak.ints ns)
theorem ak.iP:∀{vs:List V}{ns:List Int},ak H vs (ns.map D.int)->vs=ns.map V.int
 | [],[],.nil=>rfl
 |v::vs,n::ns,.cons r t=>by
  cases r;rw[Oq,ak.iP t]
theorem D.b_:∀(ds es:List D),D.dN ds es=((Oy (min ds.length es.length)).all (λj=>D.eqv (ds.getD j .non) (es.getD j .non))&&ds.length==es.length)
 | [],[]=>rfl
 | [],e::es=>by simp[D.dN]
 |d::ds,[]=>by simp[D.dN]
 |d::ds,e::es=>by
  have ih:=D.b_ ds es;have q:min (d::ds).length (e::es).length=min ds.length es.length+1:=by simp only[OB];omega
  rw[q,UP,QG,VN];have z:((d::ds).length==(e::es).length)=(ds.length==es.length):=by
   rw[Ph];simp
  rw[z,D.dN,ih,Bool.and_assoc];rfl
theorem D.iD:∀{ds:List D}{i:Nat}{d:D},ds[i]?=some d->D.depth d<=D.cU ds
 | [],_,_,e=>by simp at e
 |x::xs,0,d,e=>by
  simp at e;subst e;exact Nat.le_max_left _ _
 |x::xs,i+1,d,e=>PC (D.iD (ds:=xs) (i:=i) (by simpa using e)) (Nat.le_max_right _ _)
section
variable{X:Cx}
theorem BM(I:Inv X pins σ H s):∀(n:Nat)(A:Around)(x y:V)(u v:Value)(d e:D),A.units+n<cLine->D.depth d<=n->RelV x u->RelV y v->Rep H x d->Rep H y e ->
  SF A s u v (D.eqv d e):=by
 intro n
 induction n with
 |zero=>
  intro A x y u v d e hu hd ru rv rx ry;have hu':A.units<cLine:=by omega
  cases rx with
  |tup h r=>simp[D.depth]at hd
  |lst h r=>simp[D.depth]at hd
  |non=>
   cases ry with
   |tup h r=>
    cases ru;cases rv;obtain⟨its,rv,p,hz⟩:=I.tuple (SqT.of h);exact Yl p hu'
   |lst h r=>
    cases ru;cases rv;obtain⟨its,rv,p,hz⟩:=I.list (SqL.of h);exact Yv p.isList hu'
   |_=>simp only[D.eqv];exact nA ru rv rfl rfl
  |bl a=>
   cases ry with
   |tup h r=>
    cases ru;cases rv;obtain⟨its,rv,p,hz⟩:=I.tuple (SqT.of h);exact Ym a p hu'
   |lst h r=>
    cases ru;cases rv;obtain⟨its,rv,p,hz⟩:=I.list (SqL.of h);exact Yw a p.isList hu'
   |_=>simp only[D.eqv];exact nA ru rv rfl rfl
  |int a=>
   cases ry with
   |tup h r=>
    obtain⟨t,rfl⟩:=ru;cases rv;obtain⟨its,rv,p,hz⟩:=I.tuple (SqT.of h);exact Yx a t p hu'
   |lst h r=>
    obtain⟨t,rfl⟩:=ru;cases rv;obtain⟨its,rv,p,hz⟩:=I.list (SqL.of h);exact YN a t p.isList hu'
   |_=>simp only[D.eqv];exact nA ru rv rfl rfl
  |str a=>
   cases ry with
   |tup h r=>
    obtain⟨t,rfl⟩:=ru;cases rv;obtain⟨its,rv,p,hz⟩:=I.tuple (SqT.of h);exact Yy a t p hu'
   |lst h r=>
    obtain⟨t,rfl⟩:=ru;cases rv;obtain⟨its,rv,p,hz⟩:=I.list (SqL.of h);exact YO a t p.isList hu'
   |_=>simp only[D.eqv];exact nA ru rv rfl rfl
 |succ n ih=>
  intro A x y u v d e hu hd ru rv rx ry;have hu':A.units<cLine:=by omega
  have items:∀{vs us:List V}{ds es:List D}{its its2:List Value},D.cU ds<=n->Vals vs its->Vals us its2->ak H vs ds->ak H us es ->
    ∀j(h1:j<its.toArray.size)(h2:j<its2.toArray.size),SF A.in1 s its.toArray[j] its2.toArray[j] (D.eqv (ds.getD j .non) (es.getD j .non)):=by
   intro vs us ds es its its2 hdd r1 r2 q1 q2 j h1 h2;have h1':j<its.length:=by simpa using h1
   have h2':j<its2.length:=by simpa using h2
   have l1:=r1.length;have l2:=r2.length;have m1:=q1.length;have m2:=q2.length;have e1:vs[j]?=some (vs[j]'⋯):=gV _;have e2:us[j]?=some (us[j]'⋯):=gV _;obtain⟨a1,b1,c1⟩:=r1.get e1;obtain⟨a2,b2,c2⟩:=r2.get e2;obtain⟨f1,g1,k1⟩:=q1.get e1;obtain⟨f2,g2,k2⟩:=q2.get e2;have z1:its.toArray[j]=a1:=by
    have:its[j]?=some its[j]:=gV h1';rw[b1]at this;simpa using(OV this).symm
   have z2:its2.toArray[j]=a2:=by
    have:its2[j]?=some its2[j]:=gV h2';rw[b2]at this;simpa using(OV this).symm
   rw[z1,z2,Oc,Oc,g1,g2];refine ih A.in1 _ _ _ _ _ _ ?_ (PC (D.iD g1) hdd) c1 c2 k1 k2;show A.units+1+n<cLine;omega
  cases rx with
  | @tup a vs ds h r=>
   obtain⟨its,rv1,p,hz⟩:=I.tuple (SqT.of h);cases ry with
   | @tup b us es h' r'=>
    cases ru;cases rv;obtain⟨its2,rv2,p2,hz2⟩:=I.tuple (SqT.of h');by_cases hab:a=b
    ·subst hab;rw[h]at h';cases h';rw[ak.inj r' r,D.eqv_refl];exact UD _
    ·have hdd:D.cU ds<=n:=by simp only[D.depth]at hd;omega
     have q:=TM hab (YW (e:=λj=>D.eqv (ds.getD j .non) (es.getD j .non)) p p2 hu' (items hdd rv1 rv2 r r'));rw[Ov,Ov,<-rv1.length,<-rv2.length,r.length,r'.length,<-D.b_]at q;simp only[D.eqv];exact q
   | @lst b us es h' r'=>
    cases ru;cases rv;obtain⟨its2,rv2,p2,hz2⟩:=I.list (SqL.of h');simp only[D.eqv];exact Yn p p2.isList hu'
   |non=>cases ru;cases rv;simp only[D.eqv];exact Yo p hu'
   |bl c=>cases ru;cases rv;simp only[D.eqv];exact Yp c p hu'
   |int c=>cases ru;obtain⟨t,rfl⟩:=rv;simp only[D.eqv];exact Yz c t p hu'
   |str c=>cases ru;obtain⟨t,rfl⟩:=rv;simp only[D.eqv];exact YA c t p hu'
  | @lst a vs ds h r=>
   obtain⟨its,rv1,p,hz⟩:=I.list (SqL.of h);cases ry with
   | @lst b us es h' r'=>
    cases ru;cases rv;obtain⟨its2,rv2,p2,hz2⟩:=I.list (SqL.of h');by_cases hab:a=b
    ·subst hab;rw[h]at h';cases h';rw[ak.inj r' r,D.eqv_refl];exact UD _
    ·have hdd:D.cU ds<=n:=by simp only[D.depth]at hd;omega
     have l1:=rv1.length;have l2:=rv2.length;have m1:=r.length;have m2:=r'.length;by_cases hl:ds.length=es.length
     ·have q:=TM hab (Y2 (e:=λj=>D.eqv (ds.getD j .non) (es.getD j .non)) p.isList p2.isList (by simp;omega) hu' (items hdd rv1 rv2 r r'));have z:D.dN ds es=(Oy its.toArray.size).all λj=>D.eqv (ds.getD j .non) (es.getD j .non):=by
       rw[D.b_,<-hl,QV,Ov,<-l1,m1];simp
      simp only[D.eqv];rw[z];exact q
     ·have q:=TM hab (X5 p.isList p2.isList (by simp;omega) hu');have z:D.dN ds es=false:=by
       rw[D.b_];simp[hl]
      simp only[D.eqv];rw[z];exact q
   | @tup b us es h' r'=>
    cases ru;cases rv;obtain⟨its2,rv2,p2,hz2⟩:=I.tuple (SqT.of h');simp only[D.eqv];exact Yq p.isList p2 hu'
   |non=>cases ru;cases rv;simp only[D.eqv];exact YB p.isList hu'
   |bl c=>cases ru;cases rv;simp only[D.eqv];exact YC c p.isList hu'
   |int c=>cases ru;obtain⟨t,rfl⟩:=rv;simp only[D.eqv];exact YQ c t p.isList hu'
   |str c=>cases ru;obtain⟨t,rfl⟩:=rv;simp only[D.eqv];exact YR c t p.isList hu'
  |non=>exact SO (ih A.in1 _ y u v _ e (by show A.units+1+n<cLine;omega) (by simp[D.depth]) ru rv .non ry)
  |bl c=>exact SO (ih A.in1 _ y u v _ e (by show A.units+1+n<cLine;omega) (by simp[D.depth]) ru rv (.bl c) ry)
  |int c=>exact SO (ih A.in1 _ y u v _ e (by show A.units+1+n<cLine;omega) (by simp[D.depth]) ru rv (.int c) ry)
  |str c=>exact SO (ih A.in1 _ y u v _ e (by show A.units+1+n<cLine;omega) (by simp[D.depth]) ru rv (.str c) ry)
end
section
variable{X:Cx}
noncomputable def Dv:R2:=λx y H Q=>∃a b,x=.bl a/\y=.bl b/\Q (.bl (a==b)) H
noncomputable def vp:R2:=λx y H Q=>∃a b,x=.bl a/\y=.bl b/\Q (.bl (a != b)) H
theorem C7:OpR X (compareOp .Is) Dv:=by
 intro pins s σ H x y v u Q I rx ry h;obtain⟨a,b,rfl,rfl,q⟩:=h;cases rx;cases ry;exact is_bool ⟨.bl _,H,I,rfl,q⟩
theorem yS:OpR X (compareOp .IsNot) vp:=by
 intro pins s σ H x y v u Q I rx ry h;obtain⟨a,b,rfl,rfl,q⟩:=h;cases rx;cases ry;exact isnot_bool ⟨.bl _,H,I,rfl,q⟩
noncomputable def isT(T:String):D->Bool
 | .non=>false
 | .bl _=>T== "bool" || T== "int"
 | .int _=>T== "int"
 | .str _=>T== "str"
 | .tup _=>T== "tuple"
 | .lst _=>T== "list"
noncomputable def okT(T:String):Bool:=T== "bool" || T== "int" || T== "str" || T== "tuple" || T== "list"
theorem M0{K:Oh}{H:Hp}{x:V}{d:D}{T:String}(r:Rep H x d)(h:okT T=true):∃t,gB K H x t/\WZ K t (.type T)=some (isT T d):=by
  have h5:T="bool"\/T="int"\/T="str"\/T="tuple"\/T="list":=by simpa[okT,or_assoc]using h
  cases r with
  |non=>exact⟨_,.non,by rcases h5 with e |e |e |e |e<;>subst e<;>first |rfl |kernel_rfl⟩
  |bl b=>exact⟨_,.bl b,by rcases h5 with e |e |e |e |e<;>subst e<;>first |rfl |kernel_rfl⟩
  |int i=>exact⟨_,.int i,by rcases h5 with e |e |e |e |e<;>subst e<;>first |rfl |kernel_rfl⟩
  |str x=>exact⟨_,.str x,by rcases h5 with e |e |e |e |e<;>subst e<;>first |rfl |kernel_rfl⟩
  |tup h r=>exact⟨_,.tup h,by rcases h5 with e |e |e |e |e<;>subst e<;>first |rfl |kernel_rfl⟩
  |lst h r=>exact⟨_,.lst h,by rcases h5 with e |e |e |e |e<;>subst e<;>first |rfl |kernel_rfl⟩
noncomputable def Nn(T:String)(te:TE):TE:=λσ H Q=>te σ H λx H1=>∃d,Rep H1 x d/\Q (.bl (isT T d)) H1
theorem Ar{e:Expr}{te:TE}{nm:Str}{T:String}{p p2 pos:Pos}(hg:Gl X "isinstance")(hm:X.mg "isinstance"=none)(hg2:Gl X nm)(hm2:X.mg nm=none)(hv:bootBuiltins nm=some (.type T))(ho:okT T=true)(ha:PE X e te)
  (hn:nm≠"__name__":=by decide) (hd:(nm==("__debug__":Str))=false:=by decide) (hb:bootBuiltins "isinstance"=some (.builtin "isinstance"):=by decide+kernel)
  (he:starEach [e,.Name nm p2] X.env=(false,eval e X.env)::starEach [.Name nm p2] X.env:=by rfl) (hs2:starEach [.Name nm p2] X.env=(false,eval (.Name nm p2) X.env)::starEach [] X.env:=by rfl) (hpl:(backTo pos (starEach [.Name nm p2] X.env)).any (·.1)=false:=by rfl) :
  PE X (.Call (.Name "isinstance" p) [e,.Name nm p2] [] pos) (Nn T te):=by
 intro pins s σ H Q I h;have hT:PE X (.Name nm p2) (tC (.ty T)):=Hm hg2 hm2 hv rfl hn hd;refine Qt (cv I hg hm hb ?_ (by decide) (by decide));refine Ta (thn ((eC ha (eC hT h8 hs2) he) pos pins s σ H (λvs H1=>∃x d,vs=[x,.ty T]/\Rep H1 x d/\Q (.bl (isT T d)) H1) I ?_) λus s1 ⟨vs,H1,I1,r1,q1⟩=>?_) he hpl
 ·refine(show te σ H λx H1=>_ from ?_);refine cast (Pq (te σ H) ?_) h;funext x H1;refine propext ⟨λ⟨d,r,q⟩=>⟨x,d,rfl,r,q⟩,λ⟨x',d,e,r,q⟩=>?_⟩;cases e;exact⟨d,r,q⟩
 ·obtain⟨x,d,e,r,q⟩:=q1;subst e;obtain⟨u,w',rfl,ru,rw'⟩:=r1.two;obtain⟨t,ty,k⟩:=M0 (K:=X.K) r ho;cases(show w'=Value.type T from rw');exact Cs I1 ru ty k λtk=>⟨.bl _,H1,I1.tok tk,rfl,q⟩
end
section
variable{X:Cx}{pins:List (Addr×Obj)}{σ:St}{H:Hp}{s:Shared}{h':Heap}{fp:List Addr}
theorem Inv.vy(I:Inv X pins σ H s)(ha:s.heap.objs.size<=a)(hk:∀b u,b∉fp->s.heap.get? b=some u->h'.get? b=some u)(hf:∀b∈fp,fj X pins H b)(new:aV X.prog X.w (upd H a o) h' a o) :
  Inv X pins σ (upd H a o) { s with heap:=h',toks:=t' }:=by
 have hn:H a=none:=I.hok.fresh ha;have nfp:∀b u,H b=some u->b∉fp:=λb u e z=>by
  have q:=(hf b z).1;rw[e]at q;cases q
 have hne:∀b(u:Obj),s.heap.get? b=some u->b≠a:=λb u e=>OE (ON (Ou e) ha);refine I.step (g':=s.gens) (d':=s.drawn) (ch:=fp) (λb hb=>?_) (λb u _ _ hc e _=>hk b u hc e) (λb u _ _ hc e _=>⟨u.slots,hk b u hc e⟩) (λb u _ e n=>?_)
  (λb u hc e=>⟨u,hk b u hc e⟩) (λb xs e=>?_) (λb u xs e=>?_) (λb ps e=>⟨#[],?_⟩) (λm hm=>?_) (λb u e=>?_) I.bare
 ·obtain⟨f0,f1,f2,f3,f4,f5⟩:=hf b hb;exact⟨f3,f1,f4,f5⟩
 ·rw[aw (hne b u e)];exact n
 ·rw[aw (aT e hn)];exact e
 ·rw[aw (aT e hn)];exact e
 ·rw[aw (aT e hn),e];simp
 ·obtain⟨u,es,ep,ho,r⟩:=hm;exact⟨u,es,ep,hk _ u (λz=>(hf _ z).2.1 rfl) ho,r⟩
 ·by_cases hb:b=a
  ·subst hb;rw[ba]at e;cases e;exact new
  ·rw[aw hb]at e;refine(I.hok b u e).gD (λc v hc q=>hk c v ?_ q) (λc q=>by rw[aw (aT q hn)];exact q) λc xs q=>by rw[aw (aT q hn)];exact q
   rcases hc with z |z
   ·rw[z];exact nfp b u e
   ·exact nfp c _ z
end
noncomputable def Ite(K:Oh)(l:Addr):It:=
 ⟨λi H=>∃xs x,SqL K H l xs/\xs[i]?=some x,λi H x H'=>∃p y,H p=none/\x=.ref p/\H'=upd H p (.tup [.int i,y])/\∀xs,SqL K H l xs->xs[i]?=some y,λi H=>∃xs,SqL K H l xs/\xs.length<=i⟩
theorem Bp{P:Program}{w:World}{K:Oh}{es:List Expr}{kk:Nat}{tp:Pos}(l e it:Addr)(hne:e≠it) :
  Turn P w K (.Tuple es kk tp) (Ite K l) [e,it] e (λi h=>(∃old,IsEnum h e it ((i:Nat):Int) old)/\h.IsListIter it l i)where
 mem:=by simp
 obj:=λi h st b hb=>by
  obtain⟨⟨old,he⟩,hit⟩:=st;rcases Ow.mp hb with z |z
  ·subst z;exact⟨_,he,λv z=>by
    have z':Data.fields _=Data.cell v:=z;cases z'⟩
  ·have z:b=it:=Og.mp z;subst z;obtain⟨o,q,_,d⟩:=hit;exact⟨o,q,λv z=>by rw[d]at z;cases z⟩
 keep:=λi h h' st k=>by
  obtain⟨⟨old,he⟩,hit⟩:=st;exact⟨⟨old,k e (by simp) _ he⟩,hit.at λo q=>k it (by simp) o q⟩
 item:=by
  intro X hP hw hK hc i pins s σ H E I hf st hg;subst hP hw hK;obtain⟨⟨old,he⟩,hit⟩:=st;obtain⟨xs,x,hq,hx⟩:=hg;obtain⟨its,rv,p,hz⟩:=I.list hq;obtain⟨u,hu,ru⟩:=rv.get hx;refine wpAny_pyNext_enum_item he hit p.isList (x:=u) (by simpa using hu) hne λh1 ho1 hit1 ht1 hz1 hk1=>?_;refine⟨_,rfl,TV (s:={ s with heap:=h1,toks:=s.toks+1 }) ho1 λh2 he2 hs2=>?_⟩;have helt:e<s.heap.objs.size:=Ou he;have ht2:h2.get? s.heap.objs.size=some { cls:=.type "tuple",data:=.seq #[.int i s.toks,u] }:=hs2.extBut _ _ (Qc helt) ht1;have k2:∀b o,b∉[e,it]->s.heap.get? b=some o->h2.get? b=some o:=λb o hb q=>by
   have hb1:b≠e:=λz=>hb (by simp[z]);have hb2:b≠it:=λz=>hb (by simp[z]);exact hs2.extBut b o hb1 (hk1 b o hb1 hb2 q)
  have I2:Inv X pins σ (upd H s.heap.objs.size (.tup [.int i,x])) { s with heap:=h2,toks:=s.toks+1 }:=by
   refine I.vy (fp:=[e,it]) (Oj _) k2 hf ?_;exact⟨by show 2<=sizeLine;decide,[.int i s.toks,u],.cons ⟨_,rfl⟩ (.cons ru .nil),⟨_,ht2,rfl,_,rfl⟩⟩
  refine⟨.ref s.heap.objs.size,_,I2,rfl,⟨s.heap.objs.size,x,I.hok.fresh (Oj _),rfl,rfl,λys hy=>by rw[I.vb hy hq];exact hx⟩,⟨⟨_,by simpa using he2⟩,?_⟩,λb hb=>?_⟩
  ·exact hit1.extBut hs2.extBut (Qg hne)
  ·have hlt:b<s.heap.objs.size:=by
    rcases Ow.mp hb with z |z
    ·rw[z];exact helt
    ·have z:b=it:=Og.mp z;subst z;obtain⟨o,q,_⟩:=hit;exact Ou q
   rw[aw (OE hlt)];exact(hf b hb).1
 done:=by
  intro X hP hw hK hc i pins s σ H E I hf st hg;subst hP hw hK;obtain⟨⟨old,he⟩,hit⟩:=st;obtain⟨xs,hq,hx⟩:=hg;obtain⟨its,rv,p,hz⟩:=I.list hq;have hl:=rv.length;obtain⟨f0,f1,f2,f3,f4,f5⟩:=hf it (by simp);exact wpAny_pyNext_enum_end (I.ok.hd hc) he hit p.isList (by simp;omega) λh' eb=>⟨rfl,I.turned (t':=s.toks) (λb o hb e=>eb b o hb e) f0 f1 f3 f4 f5⟩
 self:=λ_ _ _ _ _ st h=>by
  obtain⟨⟨old,he⟩,_⟩:=st;exact SQ he h
section
variable{prog:Program}{w:World}{A:Around}{E:Value->Shared->Prop}{s:Shared}
theorem yD(hit:s.heap.IsTupleIter it t i)(ht:s.heap.IsTuple t items)(hx:items[i]?=some x)
  (hQ:∀h',h'.IsTupleIter it t (i+1)->OR it s.heap h'->Q x { s with heap:=h' }):wpAny (model prog w) A (OL (.ref it)) Q E s:=by
 obtain⟨o,ho,hc,hd⟩:=id hit;obtain⟨ot,hot,_,nt,hdt⟩:=ht;unfold OL;refine ar (Pc (name:=OS "__next__") hit.typeIs Rm (Pe Rm hit.typeIs TN ?_ (Tx _)));refine(show wpAny _ _ (field (.ref it) 0>>=_) _ _ s from ar (O9 ho hd (x:=.ref t) rfl ?_));show wpAny _ _ (if(Value.ref t==Value.none)=true then _ else _) _ _ s;rw[Ot (by intro z;exact OF z)];refine(show wpAny _ _ (field (.ref it) 1>>=_) _ _ s from ar (O9 ho hd (x:=.int i 0) rfl ?_));refine(show wpAny _ _ (seqItems? (.ref t)>>=_) _ _ s from ar (PU hot hdt ?_));simp only[O0,hx];refine ar (U2 ho hd (by simp) (C0 ⟨x,rfl,C0 (hQ _ ⟨_,QM _ ho (Obj.isFreed_of_fields (VO hd _)),(Obj.cls_mapFields ..).trans hc,?_⟩ (P7 ..))⟩));rw[VO hd];simp[rawInt]
theorem Aj(hh:A.handled=none)(hit:s.heap.IsTupleIter it t i)(ht:s.heap.IsTuple t items)(hx:items[i]?=none)
  (hE:∀h' e,RU it s.heap h'->(∃o,h'.get? e=some o/\o.cls=.type "StopIteration")->E (.ref e) { s with heap:=h' }):wpAny (model prog w) A (OL (.ref it)) Q E s:=by
 obtain⟨o,ho,hc,hd⟩:=id hit;obtain⟨ot,hot,_,nt,hdt⟩:=ht;unfold OL;refine ar (Pc (name:=OS "__next__") hit.typeIs Rm (Pe Rm hit.typeIs TN ?_ (Tx _)));refine(show wpAny _ _ (field (.ref it) 0>>=_) _ _ s from ar (O9 ho hd (x:=.ref t) rfl ?_));show wpAny _ _ (if(Value.ref t==Value.none)=true then _ else _) _ _ s;rw[Ot (by intro z;exact OF z)];refine(show wpAny _ _ (field (.ref it) 1>>=_) _ _ s from ar (O9 ho hd (x:=.int i 0) rfl ?_));refine(show wpAny _ _ (seqItems? (.ref t)>>=_) _ _ s from ar (PU hot hdt ?_));simp only[O0,hx];refine ar (Tc (ar (U2 ho hd (by simp) ?_)));refine(show wpAny _ _ (newExc (.type "StopIteration") []>>=_) _ _ _ from ar ?_);simp only[newExc,newTuple];refine ar (Pp (ar (m:=firstArgMember _ _) (RV (a:=Value.none) (by first |rfl |(simp only[firstArgMember];rfl)) (Pp ?_ (by size_fits)))) (by size_fits));simp only[raiseNew];refine ar (Xi ?_)
 first |rw[show A.in1.handled=none from hh] |rw[hh]
 exact ar (C0 (wpAny_throw (hE _ _ (((P7 ..).extBut.push _).push _) ⟨_,OA _ rfl,rfl⟩)))
end
theorem kK(hh:A.handled=none)(it t:Addr)(hne:t≠it)(items:Array Value) :
  Draws prog w A it [it,t] items.size (λi v=>items[i]?=some v) (λi h=>h.IsTupleIter it t i/\h.IsTuple t items)where
 live:=λ_ _ st=>let⟨o,ho,_⟩:=st.1;⟨o,ho⟩
 frame:=λ_ _ _ st hk=>⟨st.1.at λo e=>hk it (by simp) o e,st.2.at λo e=>hk t (by simp) o e⟩
 item:=λi s Q E hi st hQ=>yD st.1 st.2 (x:=items[i]) (by simp[hi]) λh' a b=>hQ _ h' s.toks (by simp[hi]) ⟨a,st.2.extBut b.extBut hne⟩ b
 done:=λs Q E st hE=>Aj hh st.1 st.2 (by simp) hE
structure cq(z TI TO i1 i2:Addr)(fp1 fp2:List Addr):Prop where
 TIz:TI≠z
 TOz:TO≠z
 TITO:TI≠TO
 z1:z∉fp1
 z2:z∉fp2
 TO1:TO∉fp1
 TO2:TO∉fp2
 i12:i1∉fp2
 i21:i2∉fp1
 m1:i1∈fp1
 m2:i2∈fp2
 TI1:TI≠i1
 TI2:TI≠i2
section
variable{prog:Program}{w:World}{A:Around}{E:Value->Shared->Prop}{s:Shared}{z TI TO i1 i2:Addr}{fp1 fp2:List Addr}{n1 n2 k:Nat}{P1 P2:Nat->Value->Prop}{S1 S2:Nat->Heap->Prop}{a b:Value}
theorem cq.i1z(D:cq z TI TO i1 i2 fp1 fp2):i1≠z:=λe=>D.z1 (e▸D.m1)
theorem cq.i2z(D:cq z TI TO i1 i2 fp1 fp2):i2≠z:=λe=>D.z2 (e▸D.m2)
theorem cq.TOi1(D:cq z TI TO i1 i2 fp1 fp2):TO≠i1:=λe=>D.TO1 (e▸D.m1)
theorem cq.TOi2(D:cq z TI TO i1 i2 fp1 fp2):TO≠i2:=λe=>D.TO2 (e▸D.m2)
theorem eL{a:Addr}{Q:Option Obj->Shared->Prop}(h:Q (s.heap.get? a) s):wpAny (model prog w) A (loadIfAlive a) Q E s:=
 λ_ _ _=>h
abbrev dC(h:Heap)(z TI TO:Addr)(own:Value)(fl:Bool):Prop:=h.get? z=some { cls:=.type "zip",dict:=none,data:=.fields #[own,.bool fl,.bool false,.ref TI,.ref TO],slots:=#[] }
def pY(h:Heap)(own:Value):Prop:=own=.none\/∃T:Addr,own=rawInt T/\h.get? T=none
theorem x_(hz:dC s.heap z TI TO own fl)(hf:pY s.heap own)(h:Q true s):wpAny (model prog w) A (Pa (.ref z)) Q E s:=by
 unfold Pa;rcases hf with rfl |⟨T,rfl,hT⟩
 ·exact ar (O9 hz rfl (x:=.none) rfl (C0 h))
 ·refine ar (O9 hz rfl (x:=rawInt T) rfl ?_);refine(show wpAny _ _ (loadIfAlive ((T:Int)).toNat>>=_) _ _ _ from ar (eL ?_));rw[O0,hT];exact PH rfl (C0 h)
theorem A4{Q:Value->Shared->Prop}(D:cq z TI TO i1 i2 fp1 fp2)(D1:Draws prog w A i1 fp1 n1 P1 S1)(D2:Draws prog w A i2 fp2 n2 P2 S2){own:Value}{fl:Bool}(hz:dC s.heap z TI TO own fl)(hfr:pY s.heap own)(hTI:IsPair s.heap TI (.ref i1) (.ref i2))(hTO:IsPair s.heap TO a b)
  (h1:S1 k s.heap) (h2:S2 k s.heap) (l1:k<n1) (l2:k<n2)
  (hQ:∀x y h' tk,P1 k x->P2 k y->IsZip h' z TI TO (rawInt s.heap.objs.size)->IsPair h' TI (.ref i1) (.ref i2)->IsPair h' TO x y->S1 (k+1) h'->S2 (k+1) h'->IsPair h' s.heap.objs.size x y->h'.objs.size=s.heap.objs.size+1 ->
   (∀c o,c≠z->c≠TO->c≠i1->c≠i2->s.heap.get? c=some o->h'.get? c=some o)->Q (.ref s.heap.objs.size) { s with heap:=h',toks:=tk }) :
  wpAny (model prog w) A (Builtin.«zip.__next__» ⟨[.ref z],[]⟩) (λfin s'=>∃v,fin=.done (.ret v)/\Q v s') E s:=by
 refine(show wpAny _ _ (field (.ref z) 2>>=_) _ _ _ from ar (O9 hz rfl (x:=.bool false) rfl ?_));refine(show wpAny _ _ (field (.ref z) 3>>=_) _ _ _ from ar (O9 hz rfl (x:=.ref TI) rfl ?_));refine ar (PU hTI rfl ?_);refine(show wpAny _ _ (Pa (.ref z)>>=_) _ _ _ from ar (x_ hz hfr ?_));simp only[QL];refine ar (Tc (ar (O9 hz rfl (x:=.ref TO) rfl ?_)));refine ar (PX hz (by simp) λg1 hz1 e1=>?_)
 replace hz1:dC g1 z TI TO .ellipsis fl:=hz1
 replace e1:OR z s.heap g1:=e1
 refine ar ?_;simp only[Ws,WJ,Rf,R7];refine ar (ar (TX ?_));have q1:S1 k g1:=D1.frame _ _ _ h1 λc hc o q=>e1.extBut c o (λy=>D.z1 (y▸hc)) q;have q2:S2 k g1:=D2.frame _ _ _ h2 λc hc o q=>e1.extBut c o (λy=>D.z2 (y▸hc)) q;refine(show wpAny _ _ (OL (.ref i1)>>=_) _ _ _ from ar (D1.item k _ _ _ l1 q1 λx g2 t2 p1 q1' e2=>C0 ?_))
 replace e2:OR i1 g1 g2:=e2
 have hTO2:IsPair g2 TO a b:=e2.extBut _ _ D.TOi1 (e1.extBut _ _ D.TOz hTO);refine ar (PU hTO2 rfl (ar (Td hTO2 λg3 hTO3 e3=>?_)))
 replace hTO3:IsPair g3 TO x b:=hTO3
 replace e3:OR TO g2 g3:=e3
 refine ar (Wh (C0 ?_));refine ar (ar (TX ?_));have r1:S1 (k+1) g3:=D1.frame _ _ _ q1' λc hc o q=>e3.extBut c o (λy=>D.TO1 (y▸hc)) q;have r2:S2 k g3:=D2.frame _ _ _ q2 λc hc o q=>e3.extBut c o (λy=>D.TO2 (y▸hc)) (e2.extBut c o (λy=>D.i12 (y▸hc)) q);refine(show wpAny _ _ (OL (.ref i2)>>=_) _ _ _ from ar (D2.item k _ _ _ l2 r2 λy g4 t4 p2 r2' e4=>C0 ?_))
 replace e4:OR i2 g3 g4:=e4
 have hTO4:IsPair g4 TO x b:=e4.extBut _ _ D.TOi2 hTO3;refine ar (PU hTO4 rfl (ar (Td hTO4 λg5 hTO5 e5=>?_)))
 replace hTO5:IsPair g5 TO x y:=hTO5
 replace e5:OR TO g4 g5:=e5
 refine ar (Wh (C0 (C0 ?_)));refine ar (PU hTO5 rfl (ar (U3 ?_)));have hsz:g5.objs.size=s.heap.objs.size:=by rw[e5.1,e4.1,e3.1,e2.1,e1.1]
 have hz5:dC g5 z TI TO .ellipsis fl:=e5.extBut _ _ D.TOz.symm (e4.extBut _ _ D.i2z.symm (e3.extBut _ _ D.TOz.symm (e2.extBut _ _ D.i1z.symm hz1)));have k5:∀c o,c≠z->c≠TO->c≠i1->c≠i2->s.heap.get? c=some o->g5.get? c=some o:=λc o c1 c2 c3 c4 q=>
  e5.extBut _ _ c2 (e4.extBut _ _ c4 (e3.extBut _ _ c2 (e2.extBut _ _ c3 (e1.extBut _ _ c1 q))))
 have u1:S1 (k+1) g5:=D1.frame _ _ _ r1 λc hc o q=>e5.extBut c o (λy=>D.TO1 (y▸hc)) (e4.extBut c o (λy=>D.i21 (y▸hc)) q);have u2:S2 (k+1) g5:=D2.frame _ _ _ r2' λc hc o q=>e5.extBut c o (λy=>D.TO2 (y▸hc)) q;have hzl:z<g5.objs.size:=Ou hz5;refine(show wpAny _ _ (Sz (.ref z) (.ref g5.objs.size)>>=_) _ _ _ from ar ?_);unfold Sz;have hz6:dC (g5.push { cls:=.type "tuple",data:=.seq #[x,y] }) z TI TO .ellipsis fl:=Od _ hz5;refine ar (PX hz6 (by simp) λg7 hz7 e7=>?_)
 replace hz7:dC g7 z TI TO (rawInt g5.objs.size) fl:=hz7
 refine PX hz7 (by simp) λg8 hz8 e8=>?_
 replace hz8:IsZip g8 z TI TO (rawInt g5.objs.size):=hz8
 replace e7:OR z (g5.push { cls:=.type "tuple",data:=.seq #[x,y] }) g7:=e7
 replace e8:OR z g7 g8:=e8
 have up:∀c o,c≠z->g5.get? c=some o->g8.get? c=some o:=λc o c1 q=>e8.extBut _ _ c1 (e7.extBut _ _ c1 (Od _ q));have hT8:IsPair g8 g5.objs.size x y:=e8.extBut _ _ (Qc hzl) (e7.extBut _ _ (Qc hzl) (OA _ rfl));have z8:g8.objs.size=g5.objs.size+1:=by rw[e8.1,e7.1,Qz]
 rw[hsz]at hz8 hT8 z8;refine C0 ⟨_,rfl,?_⟩;show Q (.ref g5.objs.size) _;rw[hsz];exact hQ x y g8 _ p1 p2 hz8 (up _ _ D.TIz (k5 _ _ D.TIz D.TITO D.TI1 D.TI2 hTI)) (up _ _ D.TOz hTO5) (D1.frame _ _ _ u1 λc hc o q=>up c o (λy=>D.z1 (y▸hc)) q) (D2.frame _ _ _ u2 λc hc o q=>up c o (λy=>D.z2 (y▸hc)) q) hT8 z8
  λc o c1 c2 c3 c4 q=>up c o c1 (k5 c o c1 c2 c3 c4 q)
theorem Em(D:cq z TI TO i1 i2 fp1 fp2)(D1:Draws prog w A i1 fp1 n1 P1 S1)(D2:Draws prog w A i2 fp2 n2 P2 S2)(hz:dC s.heap z TI TO own fl)(hfr:pY s.heap own)(hTI:IsPair s.heap TI (.ref i1) (.ref i2))(hTO:IsPair s.heap TO a b)
  (h1:S1 k s.heap) (h2:S2 k s.heap) (hend:k=n1\/(k<n1/\k=n2))
  (hE:∀h' e tk,(∀c o,c≠z->c≠TO->c≠i1->c≠i2->s.heap.get? c=some o->h'.get? c=some o)->(∃o,h'.get? e=some o/\o.cls=.type "StopIteration")->E (.ref e) { s with heap:=h',toks:=tk }) :
  wpAny (model prog w) A (Builtin.«zip.__next__» ⟨[.ref z],[]⟩) Q E s:=by
 refine(show wpAny _ _ (field (.ref z) 2>>=_) _ _ _ from ar (O9 hz rfl (x:=.bool false) rfl ?_));refine(show wpAny _ _ (field (.ref z) 3>>=_) _ _ _ from ar (O9 hz rfl (x:=.ref TI) rfl ?_));refine ar (PU hTI rfl ?_);refine(show wpAny _ _ (Pa (.ref z)>>=_) _ _ _ from ar (x_ hz hfr ?_));simp only[QL];refine ar (Tc (ar (O9 hz rfl (x:=.ref TO) rfl ?_)));refine ar (PX hz (by simp) λg1 hz1 e1=>?_)
 replace hz1:dC g1 z TI TO .ellipsis fl:=hz1
 replace e1:OR z s.heap g1:=e1
 refine ar ?_;simp only[Ws,WJ,Rf,R7];refine ar (ar (TX ?_));have q1:S1 k g1:=D1.frame _ _ _ h1 λc hc o q=>e1.extBut c o (λy=>D.z1 (y▸hc)) q;have q2:S2 k g1:=D2.frame _ _ _ h2 λc hc o q=>e1.extBut c o (λy=>D.z2 (y▸hc)) q;rcases hend with hk |⟨hk,hk2⟩
 ·subst hk;refine(show wpAny _ _ (OL (.ref i1)>>=_) _ _ _ from ar (D1.done _ _ _ q1 λg2 e e2 he=>?_));obtain⟨oe,hoe,hce⟩:=he
  replace e2:RU i1 g1 g2:=e2
  have hz2:dC g2 z TI TO .ellipsis fl:=e2 _ _ D.i1z.symm hz1;have hez:e≠z:=λx=>by subst x;rw[hz2]at hoe;cases hoe;simp at hce
  refine PX hz2 (by simp) λg3 _ e3=>hE g3 e _ (λc o c1 _ c3 _ q=>e3.extBut _ _ c1 (e2 _ _ c3 (e1.extBut _ _ c1 q))) ⟨oe,e3.extBut _ _ hez hoe,hce⟩
 ·subst hk2;refine(show wpAny _ _ (OL (.ref i1)>>=_) _ _ _ from ar (D1.item k _ _ _ hk q1 λx g2 t2 p1 q1' e2=>C0 ?_))
  replace e2:OR i1 g1 g2:=e2
  have hTO2:IsPair g2 TO a b:=e2.extBut _ _ D.TOi1 (e1.extBut _ _ D.TOz hTO);refine ar (PU hTO2 rfl (ar (Td hTO2 λg3 hTO3 e3=>?_)))
  replace e3:OR TO g2 g3:=e3
  refine ar (Wh (C0 ?_));refine ar (ar (TX ?_));have r2:S2 k g3:=D2.frame _ _ _ q2 λc hc o q=>e3.extBut c o (λy=>D.TO2 (y▸hc)) (e2.extBut c o (λy=>D.i12 (y▸hc)) q);refine(show wpAny _ _ (OL (.ref i2)>>=_) _ _ _ from ar (D2.done _ _ _ r2 λg4 e e4 he=>?_));obtain⟨oe,hoe,hce⟩:=he
  replace e4:RU i2 g3 g4:=e4
  have hz4:dC g4 z TI TO .ellipsis fl:=e4 _ _ D.i2z.symm (e3.extBut _ _ D.TOz.symm (e2.extBut _ _ D.i1z.symm hz1));have hez:e≠z:=λx=>by subst x;rw[hz4]at hoe;cases hoe;simp at hce
  refine PX hz4 (by simp) λg5 _ e5=>hE g5 e _ (λc o c1 c2 c3 c4 q=>e5.extBut _ _ c1 (e4 _ _ c4 (e3.extBut _ _ c2 (e2.extBut _ _ c3 (e1.extBut _ _ c1 q))))) ⟨oe,e5.extBut _ _ hez hoe,hce⟩
end
section
variable{prog:Program}{w:World}{A:Around}{E:Value->Shared->Prop}{s:Shared}{z TI TO i1 i2:Addr}{fp1 fp2:List Addr}{n1 n2 k:Nat}{P1 P2:Nat->Value->Prop}{S1 S2:Nat->Heap->Prop}{a b:Value}
theorem A_(D:cq z TI TO i1 i2 fp1 fp2)(D1:Draws prog w A.in1 i1 fp1 n1 P1 S1)(D2:Draws prog w A.in1 i2 fp2 n2 P2 S2)(hz:dC s.heap z TI TO own fl)(hfr:pY s.heap own)(hTI:IsPair s.heap TI (.ref i1) (.ref i2))(hTO:IsPair s.heap TO a b)
  (h1:S1 k s.heap) (h2:S2 k s.heap) (l1:k<n1) (l2:k<n2)
  (hQ:∀x y h' tk,P1 k x->P2 k y->IsZip h' z TI TO (rawInt s.heap.objs.size)->IsPair h' TI (.ref i1) (.ref i2)->IsPair h' TO x y->S1 (k+1) h'->S2 (k+1) h'->IsPair h' s.heap.objs.size x y->h'.objs.size=s.heap.objs.size+1 ->
   (∀c o,c≠z->c≠TO->c≠i1->c≠i2->s.heap.get? c=some o->h'.get? c=some o)->Q (some (.ref s.heap.objs.size)) { s with heap:=h',toks:=tk }) :
  wpAny (model prog w) A (pyNext (.ref z)) Q E s:=by
 have hT:s.TypeIs (.ref z) "zip":=⟨_,hz,rfl⟩;unfold pyNext;exact ar (Sm (Pc (name:=OS "__next__") hT QW (Pe QW hT SX
  (A4 D D1 D2 hz hfr hTI hTO h1 h2 l1 l2 λx y h' tk a1 a2 a3 a4 a5 a6 a7 a8 a9 a10=>C0 (hQ x y h' tk a1 a2 a3 a4 a5 a6 a7 a8 a9 a10)) (SR _))))
theorem DI(D:cq z TI TO i1 i2 fp1 fp2)(D1:Draws prog w A.in1 i1 fp1 n1 P1 S1)(D2:Draws prog w A.in1 i2 fp2 n2 P2 S2)(hz:dC s.heap z TI TO own fl)(hfr:pY s.heap own)(hTI:IsPair s.heap TI (.ref i1) (.ref i2))(hTO:IsPair s.heap TO a b)
  (h1:S1 k s.heap) (h2:S2 k s.heap) (hend:k=n1\/(k<n1/\k=n2))
  (hQ:∀h' tk,(∀c o,c≠z->c≠TO->c≠i1->c≠i2->s.heap.get? c=some o->h'.get? c=some o)->Q none { s with heap:=h',toks:=tk }):wpAny (model prog w) A (pyNext (.ref z)) Q E s:=by
 have hT:s.TypeIs (.ref z) "zip":=⟨_,hz,rfl⟩;unfold pyNext;refine ar (Sm (Pc (name:=OS "__next__") hT QW (Pe QW hT SX
  (Em D D1 D2 hz hfr hTI hTO h1 h2 hend λh' e tk hk he=>?_) (SR _))))
 obtain⟨o,ho,hc⟩:=he;exact ar (Qu (T:="StopIteration") (b:=true) ⟨o,ho,hc⟩ U4 (C0 (hQ _ tk hk)))
noncomputable abbrev zT(h:Heap)(t:Addr):Heap:=h.push { cls:=.type "tuple_iterator",data:=.fields #[.ref t,.int 0 0] }
noncomputable abbrev zTT(h:Heap)(t u:Addr):Heap:=zT (zT h t) u
noncomputable abbrev zPI(h:Heap)(t u:Addr):Heap:=(zTT h t u).push { cls:=.type "tuple",data:=.seq #[.ref h.objs.size,.ref (zT h t).objs.size] }
noncomputable abbrev zPO(h:Heap)(t u:Addr):Heap:=(zPI h t u).push { cls:=.type "tuple",data:=.seq #[.none,.none] }
noncomputable abbrev rP(h:Heap)(t u:Addr):Heap:=(zPO h t u).push { cls:=.type "zip",data:=.fields #[.none,.bool false,.bool false,.ref (zTT h t u).objs.size,.ref (zPI h t u).objs.size] }
theorem Ew(t u:Addr)(xs ys:Array Value):Meets (Builtin.«zip.__new__» ⟨[.type "zip",.ref t,.ref u],[]⟩) (λ_ R s=>s.heap.IsTuple t xs/\s.heap.IsTuple u ys/\R (.ok (.ret (.ref (zPO s.heap t u).objs.size))) { s with heap:=rP s.heap t u }):=
 .of_wp λprog w A R s h=>by
  obtain⟨hp,g,d,tk,os⟩:=s;obtain⟨ht,hu,h⟩:=h;have hsub:=sub_zip;have h1:Ul (Wj ⟨hp,g,d,tk,os⟩) t xs:=ht;have h2:Ul (Wj ⟨hp.push { cls:=.type "tuple_iterator",data:=.fields #[.ref t,.int 0 0] },g,d,tk,os⟩) u ys:=by
   obtain⟨o,e,r⟩:=hu;exact⟨o,Od _ e,r⟩
  wp_walk using QN h1,QN h2
  exact⟨_,rfl,h⟩
theorem AE(ht:s.heap.IsTuple t xs)(hu:s.heap.IsTuple u ys)
  (h:∀h',IsZip h' (s.heap.objs.size+4) (s.heap.objs.size+2) (s.heap.objs.size+3) .none->IsPair h' (s.heap.objs.size+2) (.ref s.heap.objs.size) (.ref (s.heap.objs.size+1))->IsPair h' (s.heap.objs.size+3) .none .none ->
   h'.IsTupleIter s.heap.objs.size t 0->h'.IsTupleIter (s.heap.objs.size+1) u 0->(∀c o,s.heap.get? c=some o->h'.get? c=some o)->Q (.ref (s.heap.objs.size+4)) { s with heap:=h' }) :
  wpAny (model prog w) A (call (.type "zip") [.ref t,.ref u]) Q E s:=by
 refine callType_new F.called_zip (by decide) (F.typeCall_zip_2 _ _) (F.newCall_zip_2 _ _) (λobj=>F.args_object_init_3 obj _ _) F.entry_zip_new (Ew t u xs ys) ⟨ht,hu,?_⟩;have s1:(zT s.heap t).objs.size=s.heap.objs.size+1:=Qz ..;have s2:(zTT s.heap t u).objs.size=s.heap.objs.size+2:=by rw[Qz,s1]
 have s3:(zPI s.heap t u).objs.size=s.heap.objs.size+3:=by rw[Qz,s2]
 have s4:(zPO s.heap t u).objs.size=s.heap.objs.size+4:=by rw[Qz,s3]
 have g5:(rP s.heap t u).get? (zPO s.heap t u).objs.size=some _:=OA _ rfl;have g4:(rP s.heap t u).get? (zPI s.heap t u).objs.size=some _:=Od _ (OA _ rfl);have g3:(rP s.heap t u).get? (zTT s.heap t u).objs.size=some _:=Od _ (Od _ (OA _ rfl));have g2:(rP s.heap t u).get? (zT s.heap t).objs.size=some _:=Od _ (Od _ (Od _ (OA _ rfl)));have g1:(rP s.heap t u).get? s.heap.objs.size=some _:=Od _ (Od _ (Od _ (Od _ (OA _ rfl))));show _/\_;rw[s2,s3,s4]at g5;rw[s1,s2]at g3;rw[s3]at g4;rw[s1]at g2;rw[s4];exact⟨⟨_,g5,rfl⟩,h _ g5 g3 g4 ⟨_,g1,rfl,rfl⟩ ⟨_,g2,rfl,rfl⟩ λc o q=>Od _ (Od _ (Od _ (Od _ (Od _ q))))⟩
end
theorem HG(ht:∀c∈[N+4,N+2,N+3,N,N+1],t≠c)(hu:∀c∈[N+4,N+2,N+3,N,N+1],u≠c):cq (N+4) (N+2) (N+3) N (N+1) [N,t] [N+1,u]:=by
 have d:∀i j:Nat,i≠j->(N+i:Nat)≠N+j:=λi j h e=>h (Nat.add_left_cancel e);have t4:=ht (N+4) (by simp);have t3:=ht (N+3) (by simp);have t1:=ht (N+1) (by simp);have u4:=hu (N+4) (by simp);have u3:=hu (N+3) (by simp);have u0:=hu N (by simp);refine⟨d 2 4 (by decide),d 3 4 (by decide),d 2 3 (by decide),λh=>?_,λh=>?_,λh=>?_,λh=>?_,λh=>?_,λh=>?_,by simp,by simp,d 2 0 (by decide),d 2 1 (by decide)⟩
 ·rcases Ow.mp h with z |z
  ·exact d 4 0 (by decide) z
  ·exact t4 (Og.mp z).symm
 ·rcases Ow.mp h with z |z
  ·exact d 4 1 (by decide) z
  ·exact u4 (Og.mp z).symm
 ·rcases Ow.mp h with z |z
  ·exact d 3 0 (by decide) z
  ·exact t3 (Og.mp z).symm
 ·rcases Ow.mp h with z |z
  ·exact d 3 1 (by decide) z
  ·exact u3 (Og.mp z).symm
 ·rcases Ow.mp h with z |z
  ·exact d 0 1 (by decide) z
  ·exact u0 (Og.mp z).symm
 ·rcases Ow.mp h with z |z
  ·exact d 1 0 (by decide) z
  ·exact t1 (Og.mp z).symm
section
variable{prog:Program}{w:World}{A:Around}{E:Value->Shared->Prop}{s:Shared}
theorem CB{t sl:Addr}{items:Array Value}{vl vu:Value}{lo hi:Option Int}{Q:Value->Shared->Prop}(ht:IsTup s.heap t items)(hs:s.heap.IsSliceOf sl vl vu .none)(pl:IsPart vl lo)(pu:IsPart vu hi)
    (hw:HT.sIx items.size 0 lo=0/\HT.sIx items.size items.size hi=items.size) (h:Q (.ref t) s):wpAny (model prog w) A (getItem (.ref t) (.ref sl)) Q E s:=by
  obtain⟨os,hos,hcs,hds⟩:=id hs;have hTs:s.TypeIs (.ref sl) "slice":=⟨os,hos,hcs⟩;unfold getItem
  try with_reducible refine OO ?_
  first |refine ar (C0 ?_) |skip
  refine ar (T7 ht.typeIs (by decide) ?_);refine ar (Pc (name:=OS "__getitem__") ht.typeIs Pb (Pe Pb ht.typeIs Tu ?_ (TK _ _)));refine(show wpAny _ _ (Sl (.ref t)>>=_) _ _ s from ar (Vk ht (ar (Qd hTs ?_))));rw[Oe (by decide)];refine ar (HT.i6 hs pl pu ?_);have yes:(((HT.sIx items.size 0 lo:Nat):Int)==0&&(1:Int)==1&&(HT.sIx items.size items.size hi-HT.sIx items.size 0 lo)==items.size)=true:=by
    rw[hw.1,hw.2];simp
  show wpAny _ _ (if(((HT.sIx items.size 0 lo:Nat):Int)==0&&(1:Int)==1&&(HT.sIx items.size items.size hi-HT.sIx items.size 0 lo)==items.size)=true then _ else _) _ _ s;rw[Oe yes];obtain⟨o,ho,hcl,n,hd⟩:=id ht;have hT:s.TypeIs (.ref t) "tuple":=⟨o,ho,hcl⟩;have hx:wpAny (model prog w) A.in1 (TY (.ref t)) (λb s'=>b=true/\s'=s) E s:=by
    unfold TY
    first
      |exact ar (Qd hT (C0 ⟨by decide,rfl⟩))
      |(refine ar (Qd hT ?_);exact C0 ⟨by simp,rfl⟩)
  refine ar (P9 hx (λb s' hb=>?_) λ_ _ x=>x);obtain⟨rfl,rfl⟩:=hb;rw[Oe rfl];exact ar (Tc (C0 ⟨_,rfl,C0 h⟩))
theorem zq{sl:Addr}{tk:Tok}{n:Nat}{Q:Int×Int×Nat->Shared->Prop}(hs:s.heap.IsSliceOf sl .none .none (.int (-1) tk))(h:Q ((n:Int)-1,-1,n) s):wpAny (model prog w) A (Rk (.ref sl) (pure (n:Int))) Q E s:=by
 obtain⟨os,hos,hcs,hds⟩:=id hs;unfold Rk T_;refine ar (ar (O9 hos hds (x:=.none) rfl (ar (O9 hos hds (x:=.none) rfl (ar (O9 hos hds (x:=.int (-1) tk) rfl (C0 ?_)))))));refine ar (Xe ?_);show wpAny _ _ (if((-1:Int)==0)=true then _ else _) _ _ s;rw[Ot (by decide)];refine ar (Tw (ar (Tw (ar (C0 ?_)))));show wpAny _ _ (pure ((n:Int)-1,(-1:Int),P6 ((n:Int)-1) (-1) (-1))) _ _ s;have e:P6 ((n:Int)-1) (-1) (-1)=n:=by
  unfold P6;have h1:¬((-1:Int)>0):=by decide
  simp only[h1,QI];have h2:(-(-1:Int))=1:=by decide
  rw[h2,X4];split<;>omega
 rw[e];exact C0 h
theorem G9(xs:List Value):((Oy xs.length).filterMap λ(m:Nat)=>xs.toArray[(((xs.length:Nat):Int)-1+(m:Int)*(-1)).toNat]?)=xs.reverse:=by
 apply Qo;intro i;have key:∀(k:Nat),k<=xs.length->((Oy k).filterMap λ(m:Nat)=>xs.toArray[(((xs.length:Nat):Int)-1+(m:Int)*(-1)).toNat]?)=xs.reverse.take k:=by
  intro k
  induction k with
  |zero=>intro _;simp
  |succ k ih=>
   intro hk;have e:(((xs.length:Nat):Int)-1+(k:Int)*(-1)).toNat=xs.length-1-k:=by omega
   rw[Te,S8,ih ⋯,R1];congr 1;simp only[Pl,List.filterMap_nil,e];rw[List.getElem?_reverse ⋯];have h2:xs.length-1-k<xs.length:=by omega
   simp[h2]
 rw[key xs.length (Oj _),P0 (by simp)]
theorem Dz{its:List Value}(ht:IsTup s.heap t its.toArray)(hs:s.heap.IsSliceOf sl .none .none (.int (-1) tk))(hsz:its.length<=sizeLine)
    (h:Q (.ref s.heap.objs.size) { s with heap:=s.heap.push { cls:=.type "tuple",data:=.seq its.reverse.toArray } }):wpAny (model prog w) A (getItem (.ref t) (.ref sl)) Q E s:=by
  obtain⟨os,hos,hcs,hds⟩:=id hs;have hTs:s.TypeIs (.ref sl) "slice":=⟨os,hos,hcs⟩;unfold getItem
  try with_reducible refine OO ?_
  first |refine ar (C0 ?_) |skip
  refine ar (T7 ht.typeIs (by decide) ?_);refine ar (Pc (name:=OS "__getitem__") ht.typeIs Pb (Pe Pb ht.typeIs Tu ?_ (TK _ _)));refine(show wpAny _ _ (Sl (.ref t)>>=_) _ _ s from ar (Vk ht (ar (Qd hTs ?_))));rw[Oe (by decide)];refine ar (zq hs ?_);have no:¬(((((its.toArray.size:Nat):Int)-1==0)&&((-1:Int)==1)&&(its.toArray.size==its.toArray.size))=true):=by
    intro q;rw[OQ,OQ]at q;exact absurd q.1.2 (by decide)
  show wpAny _ _ (if((((its.toArray.size:Nat):Int)-1==0)&&((-1:Int)==1)&&(its.toArray.size==its.toArray.size))=true then _ else _) _ _ s;rw[Ot no];have z:its.toArray.size=its.length:=Ov ..;rw[z];rw[G9];have htake:sizeOk (.seq its.reverse.toArray):=by
    show its.reverse.toArray.size<=sizeLine;rw[Ov,Sr];exact hsz
  first
    |exact ar (m:=PL _) (Pp (C0 ⟨_,rfl,C0 h⟩) htake)
    |exact ar (m:=PL _) (Pp (ar (C0 (C0 ⟨_,rfl,C0 h⟩))) htake)
    |exact ar (ar (m:=PL _) (Pp (C0 (C0 ⟨_,rfl,C0 h⟩)) htake))
    |exact ar (ar (m:=PL _) (Pp (C0 ⟨_,rfl,C0 h⟩) htake))
theorem Ku{ws:List Value}(ht:IsTup s.heap t ([]:List Value).toArray)(hb:IsTup s.heap b ws.toArray)(h:Q (.ref b) s):wpAny (model prog w) A (binaryOp .Add (.ref t) (.ref b)) Q E s:=by
 obtain⟨⟨cls,dd,data,sl⟩,ho,hc,n,hd⟩:=id ht;obtain⟨⟨cls2,dd2,data2,sl2⟩,ho2,hc2,n2,hd2⟩:=id hb;simp only at hc hd hc2 hd2;subst hc hd hc2 hd2;exact VD ⟨_,ho,rfl⟩ ⟨_,ho2,rfl⟩ Ue Vj SU SH (Sy _ _) (tuple_addW0 t b _ _ n n2 dd dd2 sl sl2 (by simp)) ⟨ho,ho2,h⟩
end
section
variable{X:Cx}
def js(n:Nat)(lo hi:Option Int):Prop:=HT.sIx n 0 lo=0/\HT.sIx n n hi=n
noncomputable instance(n:Nat)(lo hi:Option Int):Decidable (js n lo hi):=inferInstanceAs (Decidable (_/\_))
def Mv(K:Oh):V->Option Int->Option Int->Hp->VK->Prop:=λx lo hi H Q=>∃a xs,x=.ref a/\SqT K H a xs/\(js xs.length lo hi->Q (.ref a) H)/\(¬js xs.length lo hi->∀p,H p=none->Q (.ref p) (upd H p (.tup (jg xs lo hi))))
theorem Gr:SlR X (Mv X.K):=by
 intro pins s σ H x v vl vu lo hi sl Q I rx hs pl pu h;obtain⟨a,xs,rfl,hx,q1,q2⟩:=h;by_cases hw:js xs.length lo hi
 ·cases rx;obtain⟨its,r,ht,hz⟩:=I.tuple hx;have hlen:its.toArray.size=xs.length:=by rw[Ov];exact r.length.symm
  refine⟨"tuple",_,Pb.lookup,ht.typeIs,?_⟩;exact CB ht hs pl pu (by rw[hlen];exact hw) ⟨.ref a,H,I,rfl,q1 hw⟩
 ·exact Kq pins s σ H (.ref a) v vl vu lo hi sl Q I rx hs pl pu ⟨a,xs,rfl,hx,hw,q2 hw⟩
noncomputable def JX(K:Oh):R2:=λx y H Q=>∃a b xs ys,x=.ref a/\y=.ref b/\SqT K H a xs/\SqT K H b ys/\xs.length+ys.length<=sizeLine /\
 (xs=[]->Q (.ref b) H)/\(xs≠[]->ys=[]->Q (.ref a) H)/\(xs≠[]->ys≠[]->∀p,H p=none->Q (.ref p) (upd H p (.tup (xs++ys))))
theorem Ex:OpR X (binaryOp .Add) (JX X.K):=by
 intro pins s σ H x y v u Q I rx ry h;obtain⟨a,b,xs,ys,rfl,rfl,ha,hb,hz,q1,q2,q3⟩:=h;by_cases hx:xs=[]
 ·cases rx;cases ry;obtain⟨its,r1,p1,_⟩:=I.tuple ha;obtain⟨its2,r2,p2,_⟩:=I.tuple hb;obtain rfl:its=[]:=r1.oo.mpr hx;exact Ku p1 p2 ⟨.ref b,H,I,rfl,q1 hx⟩
 ·exact G8 pins s σ H (.ref a) (.ref b) v u Q I rx ry ⟨a,b,xs,ys,rfl,rfl,ha,hb,hx,hz,q2 hx,q3 hx⟩
noncomputable def CH:R2:=λx y H Q=>∃d e,Rep H x d/\Rep H y e/\D.depth d<=50/\((∃ds es,d=.tup ds/\e=.tup es)\/∃ds es,d=.lst ds/\e=.lst es)/\Q (.bl (D.eqv d e)) H
noncomputable def C8:R2:=λx y H Q=>∃d e,Rep H x d/\Rep H y e/\D.depth d<=50/\((∃ds es,d=.tup ds/\e=.tup es)\/∃ds es,d=.lst ds/\e=.lst es)/\Q (.bl (!D.eqv d e)) H
theorem kY{A:Around}{ds es:List D}{its its2:List Value}(I:Inv X pins σ H s)(hu:A.units+64<cLine)(hd:D.cU ds<=50)(r1:Vals vs its)(r2:Vals us its2)(q1:ak H vs ds)(q2:ak H us es) :
  ∀j(h1:j<its.toArray.size)(h2:j<its2.toArray.size),SF A.in1 s its.toArray[j] its2.toArray[j] (D.eqv (ds.getD j .non) (es.getD j .non)):=by
 intro j h1 h2;have h1':j<its.length:=by simpa using h1
 have h2':j<its2.length:=by simpa using h2
 have l1:=r1.length;have l2:=r2.length;have e1:vs[j]?=some (vs[j]'⋯):=gV _;have e2:us[j]?=some (us[j]'⋯):=gV _;obtain⟨a1,b1,c1⟩:=r1.get e1;obtain⟨a2,b2,c2⟩:=r2.get e2;obtain⟨f1,g1,k1⟩:=q1.get e1;obtain⟨f2,g2,k2⟩:=q2.get e2;have z1:its.toArray[j]=a1:=by
  have:its[j]?=some its[j]:=gV h1';rw[b1]at this;simpa using(OV this).symm
 have z2:its2.toArray[j]=a2:=by
  have:its2[j]?=some its2[j]:=gV h2';rw[b2]at this;simpa using(OV this).symm
 rw[z1,z2,Oc,Oc,g1,g2];exact BM I 60 A.in1 _ _ _ _ _ _ (by show A.units+1+60<cLine;omega) (PC (D.iD g1) ⋯) c1 c2 k1 k2
theorem Jz(hu:X.A.units+64<cLine):OpR X (compareOp .Eq) CH:=by
 intro pins s σ H x y v u Q I rx ry h;obtain⟨d,e,r1,r2,hd,hk,q⟩:=h;rcases hk with⟨ds,es,rfl,rfl⟩ |⟨ds,es,rfl,rfl⟩
 ·cases r1 with
  |tup h1 q1=>
   cases r2 with
   |tup h2 q2=>
    cases rx;cases ry;obtain⟨its,rv1,p1,_⟩:=I.tuple (SqT.of h1);obtain⟨its2,rv2,p2,_⟩:=I.tuple (SqT.of h2);refine SeqAt.eq_tupleAt (e:=λj=>D.eqv (ds.getD j .non) (es.getD j .non)) p1 p2 ⋯ (kY I hu (by simp only[D.depth]at hd;omega) rv1 rv2 q1 q2) ⟨.bl _,H,I,rfl,?_⟩;rw[Ov,Ov,<-rv1.length,<-rv2.length,q1.length,q2.length,<-D.b_];simpa only[D.eqv]using q
 ·cases r1 with
  |lst h1 q1=>
   cases r2 with
   |lst h2 q2=>
    cases rx;cases ry;obtain⟨its,rv1,p1,_⟩:=I.list (SqL.of h1);obtain⟨its2,rv2,p2,_⟩:=I.list (SqL.of h2);have l1:=rv1.length;have l2:=rv2.length;have m1:=q1.length;have m2:=q2.length;by_cases hl:ds.length=es.length
    ·refine SeqAt.eq_listAt (e:=λj=>D.eqv (ds.getD j .non) (es.getD j .non)) p1.isList p2.isList (by simp;omega) ⋯ (kY I hu (by simp only[D.depth]at hd;omega) rv1 rv2 q1 q2) ⟨.bl _,H,I,rfl,?_⟩;have z:D.dN ds es=(Oy its.toArray.size).all λj=>D.eqv (ds.getD j .non) (es.getD j .non):=by
      rw[D.b_,<-hl,QV,Ov,<-l1,m1];simp
     rw[<-z];simpa only[D.eqv]using q
    ·refine SeqAt.eq_list_lengthsAt p1.isList p2.isList (by simp;omega) ⋯ ⟨.bl _,H,I,rfl,?_⟩;have z:D.dN ds es=false:=by rw[D.b_];simp[hl]
     simpa only[D.eqv,z]using q
theorem ID(hu:X.A.units+64<cLine):OpR X (compareOp .NotEq) C8:=by
 intro pins s σ H x y v u Q I rx ry h;obtain⟨d,e,r1,r2,hd,hk,q⟩:=h;rcases hk with⟨ds,es,rfl,rfl⟩ |⟨ds,es,rfl,rfl⟩
 ·cases r1 with
  |tup h1 q1=>
   cases r2 with
   |tup h2 q2=>
    cases rx;cases ry;obtain⟨its,rv1,p1,_⟩:=I.tuple (SqT.of h1);obtain⟨its2,rv2,p2,_⟩:=I.tuple (SqT.of h2);refine YS (e:=λj=>D.eqv (ds.getD j .non) (es.getD j .non)) p1 p2 ⋯ (kY I hu (by simp only[D.depth]at hd;omega) rv1 rv2 q1 q2) _ _ _ _ ⟨.bl _,H,I,rfl,?_⟩;rw[Ov,Ov,<-rv1.length,<-rv2.length,q1.length,q2.length,<-D.b_];simpa only[D.eqv]using q
 ·cases r1 with
  |lst h1 q1=>
   cases r2 with
   |lst h2 q2=>
    cases rx;cases ry;obtain⟨its,rv1,p1,_⟩:=I.list (SqL.of h1);obtain⟨its2,rv2,p2,_⟩:=I.list (SqL.of h2);have l1:=rv1.length;have l2:=rv2.length;have m1:=q1.length;have m2:=q2.length;by_cases hl:ds.length=es.length
    ·refine YV (e:=λj=>D.eqv (ds.getD j .non) (es.getD j .non)) p1.isList p2.isList (by simp;omega) ⋯ (kY I hu (by simp only[D.depth]at hd;omega) rv1 rv2 q1 q2) _ _ _ _ ⟨.bl _,H,I,rfl,?_⟩;have z:D.dN ds es=(Oy its.toArray.size).all λj=>D.eqv (ds.getD j .non) (es.getD j .non):=by
      rw[D.b_,<-hl,QV,Ov,<-l1,m1];simp
     rw[<-z];simpa only[D.eqv]using q
    ·refine Xj p1.isList p2.isList (by simp;omega) ⋯ _ _ _ _ ⟨.bl _,H,I,rfl,?_⟩;have z:D.dN ds es=false:=by rw[D.b_];simp[hl]
     simpa only[D.eqv,z,Pz]using q
theorem Kb(hu:X.A.units+64<cLine):OpR X (compareOp .Eq) (λx y H Q=>rEq x y H Q\/CH x y H Q):=Ll.or (Jz hu)
theorem J4(hu:X.A.units+64<cLine):OpR X (compareOp .NotEq) (λx y H Q=>rNe x y H Q\/C8 x y H Q):=Lz.or (ID hu)
theorem KR:OpR X (compareOp .Is) (λx y H Q=>Dv x y H Q\/(y=.non/\Q (.bl (decide (x=.non))) H)):=C7.or Ik
theorem DE:OpR X (compareOp .IsNot) (λx y H Q=>vp x y H Q\/(y=.non/\Q (.bl (!decide (x=.non))) H)):=yS.or F4
theorem sE:∀{bs:List Bool}{us:List Value},Vals (bs.map V.bl) us->us=bs.map Value.bool
 | [],_,h=>by cases h;rfl
 |b::bs,_,h=>by
  cases h with
  |cons r t=>cases r;rw[sE t];rfl
theorem Bq(hc:X.calm=true):aX X (.builtin "all") (λxs H Q=>∃(p:Addr)(bs:List Bool),xs=[.ref p]/\SqL X.K H p (bs.map V.bl)/\Q (.bl (bs.all id)) H):=by
 intro pins s σ H xs us Q I r h;obtain⟨p,bs,rfl,hq,q⟩:=h;obtain⟨u,rfl,rx⟩:=vals1 r;cases rx;obtain⟨its,rv,pl,hz⟩:=I.list hq;have hits:=sE rv;subst hits;have hA:X.A.in1.handled=none:=I.ok.hd hc;obtain⟨o,ho,hcl,n,hd⟩:=pl.isList;have hne:p≠s.heap.objs.size:=OE (Ou ho);refine call_all_walk (Ro pl.isList ?_);refine⟨s.heap.objs.size,_,_,_,_,_,λi=>bs.getD i true,rfl,Vh (prog:=X.prog) (w:=X.w) hA s.heap.objs.size p hne (bs.map Value.bool).toArray,⟨⟨_,OA _ rfl,rfl,rfl⟩,⟨o,Od _ ho,hcl,n,hd⟩⟩,?_,λh' tk hk=>?_⟩
 ·intro i v s' Q' E' hP hQ;have hP':(bs.map Value.bool).toArray[i]?=some v:=hP;rw[Qs,Ox]at hP';cases e:bs[i]? with
  |none=>rw[e]at hP';cases hP'
  |some b=>
   rw[e]at hP';cases hP';have hQ:Q' (bs.getD i true) s':=hQ;rw[Oc,e]at hQ;exact P_ hQ
 ·have z:(Oy (bs.map Value.bool).toArray.size).all (λi=>bs.getD i true)=bs.all id:=by
   rw[Ov,Oa,Ph,Pf,Pf];constructor
   ·intro h b hb;obtain⟨i,hi,e⟩:=O1.mp hb;have:=h i (O3.mpr hi);rw[Oc,gV hi]at this;simpa[e]using this
   ·intro h i hi;have hi':=O3.mp hi;rw[Oc,gV hi'];exact h _ (O5 hi')
  rw[z];have I1:Inv X pins σ H { s with heap:=s.heap.push { cls:=.type "list_iterator",data:=.fields #[.ref p,.int 0 0] } }:=I.kept (t':=s.toks) λb o e=>Od _ e;have fk:fj X pins H s.heap.objs.size:=I.lQ (Oj _) (I.hok.fresh (Oj _));obtain⟨f0,f1,f2,f3,f4,f5⟩:=fk;exact⟨.bl _,H,I1.turned (t':=tk) (it:=s.heap.objs.size) (λb o hb e=>hk b o (λz=>hb (Og.mp z)) e) f0 f1 f3 f4 f5,rfl,q⟩
theorem vn:aX X (.builtin "sorted") (λxs H Q=>∃(p:Addr)(ns:List Int),xs=[.ref p]/\SqL X.K H p (ns.map V.int)/\ns.length<64/\∀(l:Addr)(ms:List Int),H l=none->List.Perm ms ns->ms.Pairwise (·<=·)->Q (.ref l) (upd H l (.lst (ms.map V.int)))):=by
 intro pins s σ H xs us Q I r h;obtain⟨p,ns,rfl,hq,hl,q⟩:=h;obtain⟨u,rfl,rx⟩:=vals1 r;cases rx;obtain⟨its,rv,pl,hz⟩:=I.list hq;have hI:IntsAre its ns:=intsAre_of rv;have h64:its.length<64:=by rw[<-rv.length,Oa];exact hl
 refine sorted_ints pl.isList hI h64 λout ms hout hperm hpair=>?_;obtain⟨e,he⟩:=sortedAll_at s.heap its out;refine⟨.ref (s.heap.objs.size+1),_,I.laid (t':=s.toks) (o:=.lst (ms.map V.int)) (λb ob q=>Xk q) (So _) ?_,rfl,q _ ms (I.hok.fresh (So _)) hperm hpair⟩;have hlm:ms.length=ns.length:=hperm.length_eq;exact⟨by rw[Oa];have:(64:Nat)<=sizeLine:=(by decide);omega,out.toList,e,fq hout,by simpa using he⟩
end
noncomputable def jb(H:Hp)(p:Addr):Option (List V):=match H p with
 |some (.lst xs)=>some xs
 |some (.tup xs)=>some xs
 |_=>none
theorem wL(h:H p=some (.tup xs)):jb H p=some xs:=by unfold jb;rw[h]
theorem Kt(h:H p=some (.lst xs)):jb H p=some xs:=by unfold jb;rw[h]
theorem kr(h:jb H p=some xs):H p=some (.lst xs)\/H p=some (.tup xs):=by
 unfold jb at h;split at h
 ·cases h;exact .inl ‹_›
 ·cases h;exact .inr ‹_›
 ·cases h
section
variable{X:Cx}
noncomputable def CU:R2:=λx y H Q=>∃p i xs v,x=.ref p/\y=.int i/\jb H p=some xs/\atI xs i=some v/\Q v H
theorem K2:IxR X CU:=by
 intro value slice pins s σ H x y v u Q I rx ry q hs;obtain⟨p,i,xs,w',rfl,rfl,h,e,q⟩:=q;rcases kr h with h |h
 ·exact Gy value slice pins s σ H _ _ v u Q I rx ry ⟨p,xs,i,w',rfl,rfl,SqL.of h,e,q⟩ hs
 ·exact Jy value slice pins s σ H _ _ v u Q I rx ry ⟨p,xs,i,w',rfl,rfl,SqT.of h,e,q⟩ hs
def E8:List V->Hp->VK->Prop:=λvs H Q=>∃p xs,vs=[.ref p]/\jb H p=some xs/\Q (.int xs.length) H
theorem hV:aX X (.builtin "len") E8:=by
 intro pins s σ H vs us Q I r h;obtain⟨p,xs,rfl,h,q⟩:=h;rcases kr h with h |h
 ·exact vz pins s σ H _ us Q I r ⟨_,_,rfl,.inl ⟨xs,SqL.of h,rfl⟩,q⟩
 ·exact vz pins s σ H _ us Q I r ⟨_,_,rfl,.inr ⟨xs,SqT.of h,rfl⟩,q⟩
def BD:List V->Hp->VK->Prop:=λvs H Q=>∃p xs,vs=[.ref p]/\jb H p=some xs/\∀l,H l=none->Q (.ref l) (upd H l (.lst xs))
theorem zl:aX X (.type "list") BD:=by
 intro pins s σ H vs us Q I r h;obtain⟨p,xs,rfl,h,q⟩:=h;rcases kr h with h |h
 ·exact nc pins s σ H _ us Q I r ⟨p,xs,rfl,.inl (SqL.of h),q⟩
 ·exact nc pins s σ H _ us Q I r ⟨p,xs,rfl,.inr (SqT.of h),q⟩
def xY:List V->Hp->VK->Prop:=λvs H Q=>∃p,vs=[.ref p]/\((∃xs,H p=some (.lst xs)/\∀l,H l=none->Q (.ref l) (upd H l (.tup xs)))\/∃xs,H p=some (.tup xs)/\Q (.ref p) H)
theorem gL:aX X (.type "tuple") xY:=by
 intro pins s σ H vs us Q I r h;obtain⟨p,rfl,⟨xs,h,q⟩ |⟨xs,h,q⟩⟩:=h
 ·exact mz pins s σ H _ us Q I r ⟨p,xs,rfl,.inl ⟨SqL.of h,q⟩⟩
 ·exact mz pins s σ H _ us Q I r ⟨p,xs,rfl,.inr ⟨SqT.of h,q⟩⟩
def NO:V->Option Int->Option Int->Hp->VK->Prop:=λx lo hi H Q=>∃p,x=.ref p/\((∃xs,H p=some (.tup xs)/\(js xs.length lo hi->Q (.ref p) H)/\(¬js xs.length lo hi->∀l,H l=none->Q (.ref l) (upd H l (.tup (jg xs lo hi))))) \/
 ∃xs,H p=some (.lst xs)/\∀l,H l=none->Q (.ref l) (upd H l (.lst (jg xs lo hi))))
theorem Ni:SlR X NO:=by
 intro pins s σ H x v vl vu lo hi sl Q I rx hs pl pu h;obtain⟨p,rfl,⟨xs,h,q1,q2⟩ |⟨xs,h,q⟩⟩:=h
 ·exact Gr pins s σ H _ v vl vu lo hi sl Q I rx hs pl pu ⟨p,xs,rfl,SqT.of h,q1,q2⟩
 ·exact yi pins s σ H _ v vl vu lo hi sl Q I rx hs pl pu ⟨p,xs,rfl,SqL.of h,q⟩
noncomputable def Du(neg:Bool):R2:=λx y H Q=>∃p xs,y=.ref p/\jb H p=some xs/\eX x=true/\xs.all eX=true/\Q (.bl (if neg then !inV x xs else inV x xs)) H
theorem Kx:OpR X (compareOp .In) (Du false):=by
 intro pins s σ H x y v u Q I rx ry h;obtain⟨p,xs,rfl,h,f1,f2,q⟩:=h;rcases kr h with h |h
 ·exact tD pins s σ H _ _ v u Q I rx ry ⟨p,xs,rfl,.inl (SqL.of h),f1,f2,q⟩
 ·exact tD pins s σ H _ _ v u Q I rx ry ⟨p,xs,rfl,.inr (SqT.of h),f1,f2,q⟩
theorem Ap:OpR X (compareOp .NotIn) (Du true):=by
 intro pins s σ H x y v u Q I rx ry h;obtain⟨p,xs,rfl,h,f1,f2,q⟩:=h;rcases kr h with h |h
 ·exact nY pins s σ H _ _ v u Q I rx ry ⟨p,xs,rfl,.inl (SqL.of h),f1,f2,q⟩
 ·exact nY pins s σ H _ _ v u Q I rx ry ⟨p,xs,rfl,.inr (SqT.of h),f1,f2,q⟩
noncomputable def E7:R2:=λx y H Q=>(∃i j,x=.int i/\y=.int j/\Q (.int (i+j)) H)\/∃a b,x=.ref a/\y=.ref b /\
  ((∃xs ys,H a=some (.tup xs)/\H b=some (.tup ys)/\xs.length+ys.length<=sizeLine/\(xs=[]->Q (.ref b) H)/\(xs≠[]->ys=[]->Q (.ref a) H)/\(xs≠[]->ys≠[]->∀p,H p=none->Q (.ref p) (upd H p (.tup (xs++ys))))) \/
   ∃xs ys,H a=some (.lst xs)/\H b=some (.lst ys)/\xs.length+ys.length<=sizeLine/\∀p,H p=none->Q (.ref p) (upd H p (.lst (xs++ys))))
theorem GA:OpR X (binaryOp .Add) E7:=by
 intro pins s σ H x y v u Q I rx ry h;rcases h with⟨i,j,rfl,rfl,q⟩ |⟨a,b,rfl,rfl,⟨xs,ys,h1,h2,hz,q1,q2,q3⟩ |⟨xs,ys,h1,h2,hz,q⟩⟩
 ·exact Kd pins s σ H _ _ v u Q I rx ry ⟨i,j,rfl,rfl,q⟩
 ·exact Ex pins s σ H _ _ v u Q I rx ry ⟨a,b,xs,ys,rfl,rfl,SqT.of h1,SqT.of h2,hz,q1,q2,q3⟩
 ·exact KZ pins s σ H _ _ v u Q I rx ry ⟨a,b,xs,ys,rfl,rfl,h1,h2,hz,q⟩
noncomputable def K5:R2:=λx y H Q=>rEq x y H Q\/CH x y H Q
noncomputable def IU:R2:=λx y H Q=>rNe x y H Q\/C8 x y H Q
theorem wI(hu:X.A.units+64<cLine):OpR X (compareOp .Eq) K5:=Kb hu
theorem BF(hu:X.A.units+64<cLine):OpR X (compareOp .NotEq) IU:=J4 hu
noncomputable def IZ:R2:=λx y H Q=>Dv x y H Q\/(y=.non/\Q (.bl (decide (x=.non))) H)
noncomputable def BS:R2:=λx y H Q=>vp x y H Q\/(y=.non/\Q (.bl (!decide (x=.non))) H)
theorem HJ:OpR X (compareOp .Is) IZ:=KR
theorem Ed:OpR X (compareOp .IsNot) BS:=DE
def Fd:List V->Hp->VK->Prop:=λvs H Q=>∃(p:Addr)(bs:List Bool),vs=[.ref p]/\H p=some (.lst (bs.map V.bl))/\Q (.bl (bs.all id)) H
theorem jQ(hc:X.calm=true):aX X (.builtin "all") Fd:=by
 intro pins s σ H vs us Q I r h;obtain⟨p,bs,rfl,h,q⟩:=h;exact Bq hc pins s σ H _ us Q I r ⟨p,bs,rfl,SqL.of h,q⟩
def wt:List V->Hp->VK->Prop:=λvs H Q=>∃(p:Addr)(ns:List Int),vs=[.ref p]/\H p=some (.lst (ns.map V.int))/\ns.length<64/\∀(l:Addr)(ms:List Int),H l=none->List.Perm ms ns->ms.Pairwise (·<=·)->Q (.ref l) (upd H l (.lst (ms.map V.int)))
theorem uU:aX X (.builtin "sorted") wt:=by
 intro pins s σ H vs us Q I r h;obtain⟨p,ns,rfl,h,hl,q⟩:=h;exact vn pins s σ H _ us Q I r ⟨p,ns,rfl,SqL.of h,hl,q⟩
def IQ:List V->Hp->VK->Prop:=λvs H Q=>∃i j,vs=[.int i,.int j]/\Q (.int (if j>i then j else i)) H
def Kn:List V->Hp->VK->Prop:=λvs H Q=>∃i j,vs=[.int i,.int j]/\Q (.int (if j<i then j else i)) H
theorem Ca(hc:X.calm=true):aX X (.builtin "max") IQ:=Co hc
theorem Cf(hc:X.calm=true):aX X (.builtin "min") Kn:=B0 hc
noncomputable def N0(to te:TE):TE:=λσ H Q=>to σ H λx H1=>∃l xs0,x=.ref l/\H1 l=some (.lst xs0)/\te σ H1 λy H2=>∃xs,H2 l=some (.lst xs)/\xs.length<sizeLine/\Q .non (upd H2 l (.lst (xs++[y])))
theorem K8(ho:PE X o to)(he:PE X e te)
  (hbase:attributeBase o "append" X.env (eval o X.env)=eval o X.env:=by rfl)
  (hfew:((backTo cpos (starEach [e] X.env)).all (λx=>!x.1)&&(backToKw cpos (keywordEach [] X.env)).all (λx=>x.1.isSome)&&decide ([e].length+([]:List Keyword).length+(if([]:List Keyword).isEmpty then 0 else 1)<30))=true:=by rfl)
  (hline:(apos.endLine==cpos.line)=true:=by rfl) (hs:starEach [e] X.env=(false,eval e X.env)::starEach [] X.env:=by rfl):PE X (.Call (.Attribute o "append" apos) [e] [] cpos) (N0 to te):=by
 intro pins s σ H Q I h;refine UQ hbase hfew hline rfl (thn (ho pins s σ H _ I h) λv s1 ⟨x,H1,I1,r1,l,xs0,e0,hl,q1⟩=>?_);subst e0;have ty:tyV X.K "list" (.ref l) H1:=.inl ⟨rfl,_,SqL.of hl⟩;obtain⟨h1,h2⟩:=Af I1 r1 ty;refine⟨"list",_,Uw,PySem.F.slot_list_append,PySem.F.type_list_append,h1,h2,?_⟩;have hA:=(eC he h8 hs) cpos pins s1 σ H1 (λvs H2=>∃y,vs=[y]/\∃xs,H2 l=some (.lst xs)/\xs.length<sizeLine/\Q .non (upd H2 l (.lst (xs++[y])))) I1 (by
  refine cast (Pq (te σ H1) ?_) q1;funext y H2;refine propext ⟨λq=>⟨y,rfl,q⟩,λ⟨y',e',q⟩=>?_⟩;cases e';exact q)
 rw[hs]at hA ⊢;refine Q8 (by show(false||(backTo cpos (starEach ([]:List Expr) X.env)).any (·.1))=false;rfl) (Ru ?_);exact thn hA λus s2 ⟨vs,H2,I2,r2,y,e2,xs,h3,hz,q2⟩=>tN pins s2 σ H2 (.ref l) vs v us Q I2 r1 r2 ⟨l,xs,y,rfl,e2,h3,hz,q2⟩
noncomputable def Mm(te ts:TE):TE:=λσ H Q=>te σ H λx H1=>ts σ H1 λy H2=>∃a xs,x=.ref a/\y=.int (-1)/\H2 a=some (.tup xs)/\∀p,H2 p=none->Q (.ref p) (upd H2 p (.tup xs.reverse))
end
theorem F2{X:Cx}{e st:Expr}{te ts:TE}{p2 pos:Pos}(he:PE X e te)(hs:PE X st ts):PE X (.Subscript e (.Slice none none (some st) p2) pos) (Mm te ts):=by
 intro pins s σ H Q I h;refine Vf (thn (he pins s σ H _ I h) λv s1 ⟨x,H1,I1,r1,q1⟩=>?_);refine wpAny_Slice ?_;rw[Vm];refine C0 (C0 ?_);rw[Xf];refine thn (hs pins s1 σ H1 _ I1 q1) λu s2 ⟨y,H2,I2,r2,q2⟩=>?_;obtain⟨a,xs,rfl,rfl,hx,q⟩:=q2;cases r1;obtain⟨tk,rfl⟩:=r2;have I3:Inv X pins σ H2 { s2 with heap:=s2.heap.push { cls:=.type "slice",data:=.fields #[.none,.none,.int (-1) tk] } }:=I2.kept (t':=s2.toks) λb ob q=>Od _ q;obtain⟨its,r,ht,hz⟩:=I3.tuple (SqT.of hx);show wpAny (model X.prog X.w) X.A (subscriptTail e (.Slice none none (some st) p2) (.ref a) (.ref s2.heap.objs.size)) (EP X pins σ Q) X.xe { s2 with heap:=s2.heap.push { cls:=.type "slice",data:=.fields #[.none,.none,.int (-1) tk] } };refine tail_any (ops:=[.ref a,.ref s2.heap.objs.size]) ht.typeIs Pb.lookup (Dz ht (VF ..) (by rw[<-r.length];exact hz) ?_) (by with_unfolding_all rfl);refine⟨.ref _,_,I3.laid (t':=s2.toks) (o:=.tup xs.reverse) (λb ob q=>Od _ q) (Oj _) ?_,rfl,q _ (I3.hok.fresh (Oj _))⟩;exact⟨by rw[Sr];exact hz,_,r.reverse,VG _ _⟩
theorem zW{n:Nat}{k:Int}(h0:0<=k)(h:k<(n:Int)):ixN n k=some k.toNat:=by
 unfold ixN;rw[Oe h0,Oe h]
class NS (e:Expr):Prop where
 eq:∀(es:List Expr)(env:Env),starEach (e::es) env=(false,eval e env)::starEach es env
noncomputable instance{c:Const}{k:Nat}{p:Pos}:NS (.Constant c k p):=⟨λ_ _=>rfl⟩
noncomputable instance{x:Str}{p:Pos}:NS (.Name x p):=⟨λ_ _=>rfl⟩
noncomputable instance{es:List Expr}{k:Nat}{p:Pos}:NS (.Tuple es k p):=⟨λ_ _=>rfl⟩
noncomputable instance{es:List Expr}{p:Pos}:NS (.List es p):=⟨λ_ _=>rfl⟩
noncomputable instance{a:Expr}{o:Operator}{b:Expr}{p:Pos}:NS (.BinOp a o b p):=⟨λ_ _=>rfl⟩
noncomputable instance{o:UnaryOp}{a:Expr}{p:Pos}:NS (.UnaryOp o a p):=⟨λ_ _=>rfl⟩
noncomputable instance{f:Expr}{es:List Expr}{ks:List Keyword}{p:Pos}:NS (.Call f es ks p):=⟨λ_ _=>rfl⟩
noncomputable instance{a b:Expr}{p:Pos}:NS (.Subscript a b p):=⟨λ_ _=>rfl⟩
noncomputable instance{a:Expr}{os:List CmpOp}{bs:List Expr}{p:Pos}:NS (.Compare a os bs p):=⟨λ_ _=>rfl⟩
noncomputable instance{o:BoolOp}{es:List Expr}{p:Pos}:NS (.BoolOp o es p):=⟨λ_ _=>rfl⟩
noncomputable instance{a b c:Expr}{p:Pos}:NS (.IfExp a b c p):=⟨λ_ _=>rfl⟩
noncomputable instance{e:Expr}{gs:List Comprehension}{sc:Scope}{p:Pos}:NS (.ListComp e gs sc p):=⟨λ_ _=>rfl⟩
section
variable{X:Cx}
noncomputable def tLm(r:V->List V->Hp->VK->Prop)(to te:TE):TE:=λσ H Q=>to σ H λx H1=>∃l xs0,x=.ref l/\H1 l=some (.lst xs0)/\te σ H1 λy H2=>r (.ref l) [y] H2 Q
theorem E1{r:V->List V->Hp->VK->Prop}{name:Str}{id:String}{o e:Expr}{to te:TE}{apos cpos:Pos}(slot:Slot "list" name id)(hty:typeOf (.builtin id)=pure (.type "method_descriptor"))(hm:MtM X id r)(ho:PE X o to)(he:PE X e te)
  (hbase:attributeBase o name X.env (eval o X.env)=eval o X.env:=by rfl)
  (hfew:((backTo cpos (starEach [e] X.env)).all (λx=>!x.1)&&(backToKw cpos (keywordEach [] X.env)).all (λx=>x.1.isSome)&&decide ([e].length+([]:List Keyword).length+(if([]:List Keyword).isEmpty then 0 else 1)<30))=true:=by rfl)
  (hline:(apos.endLine==cpos.line)=true:=by rfl) (hs:starEach [e] X.env=(false,eval e X.env)::starEach [] X.env:=by rfl):PE X (.Call (.Attribute o name apos) [e] [] cpos) (tLm r to te):=by
 intro pins s σ H Q I h;refine UQ hbase hfew hline rfl (thn (ho pins s σ H _ I h) λv s1 ⟨x,H1,I1,r1,l,xs0,e0,hl,q1⟩=>?_);subst e0;have ty:tyV X.K "list" (.ref l) H1:=.inl ⟨rfl,_,SqL.of hl⟩;obtain⟨h1,h2⟩:=Af I1 r1 ty;refine⟨"list",_,Uw,slot,hty,h1,h2,?_⟩;have hA:=(eC he h8 hs) cpos pins s1 σ H1 (λvs H2=>∃y,vs=[y]/\r (.ref l) [y] H2 Q) I1 (by
  refine cast (Pq (te σ H1) ?_) q1;funext y H2;refine propext ⟨λq=>⟨y,rfl,q⟩,λ⟨y',e',q⟩=>?_⟩;cases e';exact q)
 rw[hs]at hA ⊢;refine Q8 (by show(false||(backTo cpos (starEach ([]:List Expr) X.env)).any (·.1))=false;rfl) (Ru ?_);exact thn hA λus s2 ⟨vs,H2,I2,r2,y,e2,q2⟩=>hm pins s2 σ H2 (.ref l) vs v us Q I2 r1 r2 (by rw[e2];exact q2)
def xJ:V->List V->Hp->VK->Prop:=λx vs H Q=>∃(l:Addr)(ns:List Int)(k:Int),x=.ref l/\vs=[.int k]/\H l=some (.lst (ns.map V.int))/\Q (.int (ns.count k:Nat)) H
theorem z_:MtM X "list.count" xJ:=by
 intro pins s σ H x vs v us Q I rx rv h;obtain⟨l,ns,k,rfl,rfl,hH,q⟩:=h;cases rx;obtain⟨u,rfl,ru⟩:=rv.one;obtain⟨t,rfl⟩:=ru;obtain⟨its,r,pl,hz⟩:=I.list (SqL.of hH);exact count_list_ints pl.isList (intsAre_of r) ⟨.int _,H,I.kept (t':=s.toks+1) λb o e=>e,⟨_,rfl⟩,q⟩
def FC:List V->Hp->VK->Prop:=λvs H Q=>∃(p:Addr)(bs:List Bool),vs=[.ref p]/\H p=some (.lst (bs.map V.bl))/\Q (.bl (bs.any id)) H
theorem sU(hc:X.calm=true):aX X (.builtin "any") FC:=by
 intro pins s σ H xs us Q I r h;obtain⟨p,bs,rfl,hq,q⟩:=h;obtain⟨u,rfl,rx⟩:=vals1 r;cases rx;obtain⟨its,rv,pl,hz⟩:=I.list (SqL.of hq);have hits:=sE rv;subst hits;have hA:X.A.in1.handled=none:=I.ok.hd hc;obtain⟨o,ho,hcl,n,hd⟩:=pl.isList;have hne:p≠s.heap.objs.size:=OE (Ou ho);refine call_any_walk (Ro pl.isList ?_);refine⟨s.heap.objs.size,_,_,_,_,_,λi=>bs.getD i false,rfl,Vh (prog:=X.prog) (w:=X.w) hA s.heap.objs.size p hne (bs.map Value.bool).toArray,⟨⟨_,OA _ rfl,rfl,rfl⟩,⟨o,Od _ ho,hcl,n,hd⟩⟩,?_,λh' tk hk=>?_⟩
 ·intro i v s' Q' E' hP hQ;have hP':(bs.map Value.bool).toArray[i]?=some v:=hP;rw[Qs,Ox]at hP';cases e:bs[i]? with
  |none=>rw[e]at hP';cases hP'
  |some b=>
   rw[e]at hP';cases hP';have hQ:Q' (bs.getD i false) s':=hQ;rw[Oc,e]at hQ;exact P_ hQ
 ·have z:(Oy (bs.map Value.bool).toArray.size).any (λi=>bs.getD i false)=bs.any id:=by
   rw[Ov,Oa,Ph,O8,O8];constructor
   ·rintro⟨i,hi,hb⟩;have hi':=O3.mp hi;rw[Oc,gV hi']at hb;exact⟨_,O5 hi',hb⟩
   ·rintro⟨b,hb,e⟩;obtain⟨i,hi,e'⟩:=O1.mp hb;refine⟨i,O3.mpr hi,?_⟩;rw[Oc,gV hi];simpa[e']using e
  rw[z];have I1:Inv X pins σ H { s with heap:=s.heap.push { cls:=.type "list_iterator",data:=.fields #[.ref p,.int 0 0] } }:=I.kept (t':=s.toks) λb o e=>Od _ e;have fk:fj X pins H s.heap.objs.size:=I.lQ (Oj _) (I.hok.fresh (Oj _));obtain⟨f0,f1,f2,f3,f4,f5⟩:=fk;exact⟨.bl _,H,I1.turned (t':=tk) (it:=s.heap.objs.size) (λb o hb e=>hk b o (λz=>hb (Og.mp z)) e) f0 f1 f3 f4 f5,rfl,q⟩
theorem j_(ns:List Int):∀k,k<=ns.length->preSum (λi=>ns.getD i 0) k=(ns.take k).sum
 |0,_=>by rw[List.take_zero];rfl
 |k+1,h=>by
  rw[preSum.eq_2,j_ ns k ⋯,R1,List.sum_append,Oc,gV (show k<ns.length by omega)];simp
theorem sum_bound:∀(ns:List Int),(∀n∈ns,-1000000<=n/\n<=1000000)->-(1000000*(ns.length:Int))<=ns.sum/\ns.sum<=1000000*(ns.length:Int)
 | [],_=>by simp
 |n::ns,h=>by
  have h1:=sum_bound ns λm hm=>h m (OJ _ hm);have h2:=h n (by simp);rw[Qw,OB]
  push_cast
  omega
def ER:List V->Hp->VK->Prop:=λvs H Q=>∃(p:Addr)(ns:List Int),vs=[.ref p]/\H p=some (.lst (ns.map V.int))/\ns.length<=1000/\(∀n∈ns,-1000000<=n/\n<=1000000)/\Q (.int ns.sum) H
theorem Bk(hc:X.calm=true):aX X (.builtin "sum") ER:=by
 intro pins s σ H xs us Q I r h;obtain⟨p,ns,rfl,hq,hl,hb,q⟩:=h;obtain⟨u,rfl,rx⟩:=vals1 r;cases rx;obtain⟨its,rv,pl,hz⟩:=I.list (SqL.of hq);have hI:=intsAre_of rv;have hlen:its.length=ns.length:=by rw[<-rv.length,Oa]
 have hA:X.A.in1.handled=none:=I.ok.hd hc;obtain⟨o,ho,hcl,n,hd⟩:=pl.isList;have hne:p≠s.heap.objs.size:=OE (Ou ho);refine call_sum_walk (Ro pl.isList ?_);refine⟨s.heap.objs.size,_,_,_,_,_,λi=>ns.getD i 0,rfl,Vh (prog:=X.prog) (w:=X.w) hA s.heap.objs.size p hne its.toArray,⟨⟨_,OA _ rfl,rfl,rfl⟩,⟨o,Od _ ho,hcl,n,hd⟩⟩,?_,?_,?_,λh' tk t' hk=>?_⟩
 ·intro b hb';show b<(s.heap.push _).objs.size;rw[Qz];simp only[Ow,P4,Rz]at hb';rcases hb' with e |e
  ·rw[e];exact Uj _
  ·rw[e];exact Rn (Ou ho)
 ·intro i v hv;have hv':its.toArray[i]?=some v:=hv;rw[Qs]at hv';have hi:i<its.length:=(Ol.mp hv').1;have e1:(ns.map V.int)[i]?=some (.int (ns[i]'⋯)):=by rw[Ox,gV ⋯];rfl
  obtain⟨a1,b1,c1⟩:=rv.get e1;rw[hv']at b1;cases b1;obtain⟨t,rfl⟩:=c1;refine⟨t,?_⟩;show Value.int _ t=Value.int (ns.getD i 0) t;rw[Oc,gV (show i<ns.length by omega)];rfl
 ·intro j hj;have hj':j<ns.length:=by have:its.toArray.size=its.length:=Ov ..;omega
  have h1:ns.getD j 0∈ns:=by rw[Oc,gV hj'];exact O5 hj'
  have h2:=hb _ h1;have h3:=sum_bound (ns.take (j+1)) λm hm=>hb m (Rv hm);have h4:(ns.take (j+1)).length<=1000:=by rw[Pd];omega
  refine⟨⟨?_,?_⟩,?_⟩
  ·show -2 ^ 63<=ns.getD j 0;omega
  ·show ns.getD j 0<2 ^ 63;omega
  ·rw[j_ ns _ ⋯];exact⟨by omega,by omega⟩
 ·have I1:Inv X pins σ H { s with heap:=s.heap.push { cls:=.type "list_iterator",data:=.fields #[.ref p,.int 0 0] } }:=I.kept (t':=s.toks) λb o e=>Od _ e;have fk:fj X pins H s.heap.objs.size:=I.lQ (Oj _) (I.hok.fresh (Oj _));obtain⟨f0,f1,f2,f3,f4,f5⟩:=fk;have z:preSum (λi=>ns.getD i 0) its.toArray.size=ns.sum:=by
   rw[Ov,hlen,j_ ns _ (Oj _),OD]
  rw[z];exact⟨.int _,H,I1.turned (t':=tk) (it:=s.heap.objs.size) (λb o hb e=>hk b o (λz=>hb (Og.mp z)) e) f0 f1 f3 f4 f5,⟨_,rfl⟩,q⟩
theorem yt:∀(us:List Value)(k:Nat),(∀j v,us[j]?=some v->RelV (f (k+j)) v)->Vals ((List.range' k us.length).map f) us
 | [],_,_=>.nil
 |u::us,k,h=>by
  rw[OB,List.range'_succ,Oq];refine .cons (h 0 u rfl) (yt us (k+1) λj v e=>?_);have:=h (j+1) v (by simpa using e);rw[show k+1+j=k+(j+1) by omega];exact this
noncomputable def tLR(ta:TA):TE:=λσ H Q=>ta σ H λvs H1=>∃j:Int,vs=[.int j]/\0<=j/\j<=1000/\∀l,H1 l=none->Q (.ref l) (upd H1 l (.lst ((Oy j.toNat).map λi=>V.int (i:Nat))))
theorem vI(hc:X.calm=true)(hgl:Gl X "list")(hml:X.mg "list"=none)(hgr:Gl X "range")(hmr:X.mg "range"=none)(hbl:bootBuiltins "list"=some (.type "list"))(ha:PA X [a] ta)
  (hs:starEach [a] X.env=[(false,eval a X.env)]:=by rfl)
  (hs2:starEach [Expr.Call (.Name "range" p2) [a] [] pos2] X.env=(false,eval (Expr.Call (.Name "range" p2) [a] [] pos2) X.env)::starEach [] X.env:=by rfl) :
  PE X (.Call (.Name "list" p1) [.Call (.Name "range" p2) [a] [] pos2] [] pos1) (tLR ta):=by
 intro pins s σ H Q I h;refine Qt (cv I hgl hml hbl ?_);refine O6 ?_ hs2 rfl;rw[hs2];show wpAny _ _ (spliced ((false,eval (Expr.Call (.Name "range" p2) [a] [] pos2) X.env)::backTo pos1 (starEach [] X.env))) _ _ s;refine QK ?_;refine UB (cv I hgr hmr WG (O6 (thn (ha pos2 pins s σ H _ I h) λus s1 ⟨vs,H1,I1,r1,q1⟩=>?_) hs rfl));obtain⟨j,e,j0,j1,q⟩:=q1;subst e;cases r1 with
 |cons r rr=>
  cases rr;obtain⟨t,rfl⟩:=r;refine call_range_1 ?_;have hA:X.A.handled=none:=I.ok.hd hc;have I2:Inv X pins σ H1 { s1 with heap:=s1.heap.push { cls:=.type "range",data:=.fields #[.int 0 s1.toks,.int j t,.int 1 (s1.toks+1)] },toks:=s1.toks+1+1 }:=I1.kept λb o e=>Od _ e;refine C0 ?_;have hsz:Uv 0 j 1=((j.toNat:Nat):Int):=by rw[Xc];split<;>omega
  refine call_list_range hA (Yi ..) (small_one ⋯ ⋯ ⋯ ⋯) hsz ⋯ λh' tk acc c' hk hnew hit=>?_;have hvals:Vals ((Oy j.toNat).map λi=>V.int (i:Nat)) acc.toList:=by
   have hl:acc.toList.length=j.toNat:=by rw[OM];exact hit.1
   rw[<-hl,List.range_eq_range'];refine yt acc.toList 0 λi v e=>?_;obtain⟨t2,rfl⟩:=hit.2 i v (by simpa using e);exact⟨t2,by congr 1;omega⟩
  refine⟨.ref _,_,I2.laid (t':=tk) (o:=.lst ((Oy j.toNat).map λi=>V.int (i:Nat))) hk (Oj _) ⟨?_,acc.toList,c',hvals,?_⟩,rfl,q _ (I2.hok.fresh (Oj _))⟩
  ·rw[Oa,QY];exact Qb (dg ⋯)
  ·simpa using hnew
end
section
variable{X:Cx}
theorem Ej:∀{x y:V}{u:Value},RelV x u->RelV y u->x=y:=by
  intro x y u h1 h2;cases x<;>cases y<;>simp only[RelV]at h1 h2<;>first
    |rfl
    |(subst h1;cases h2;done)
    |(subst h1;cases h2;rfl)
    |(obtain⟨t,rfl⟩:=h1;cases h2;done)
    |(obtain⟨t,rfl⟩:=h1;obtain⟨t2,e⟩:=h2;cases e;rfl)
    |(obtain⟨t,rfl⟩:=h1;obtain⟨t2,e⟩:=h2;cases e;done)
    |(obtain⟨t,rfl⟩:=h2;cases h1;done)
noncomputable def DR(neg:Bool):R2:=λx y H Q=>∃(p:Addr)(vs:List V)(d:D)(ds:List D),y=.ref p/\H p=some (.lst vs)/\ak H vs ds/\Rep H x d/\D.cU ds<=50/\Q (.bl (if neg then !ds.any (λe=>D.eqv e d)else ds.any λe=>D.eqv e d)) H
theorem xF(hu:X.A.units+64<cLine)(I:Inv X pins σ H s)(rx:RelV x v)(hq:H p=some (.lst vs))(rs:ak H vs ds)(rd:Rep H x d)(hd:D.cU ds<=50) :
  ∃(its:List Value)(e:Value->Bool),s.heap.IsList p its.toArray/\(∀y∈its.toArray,SF X.A.in1 s y v (e y))/\its.toArray.any e=ds.any λe=>D.eqv e d:=by
 classical
 obtain⟨its,r,pl,hz⟩:=I.list (SqL.of hq);have l1:=r.length;have l2:=rs.length;have key:∀(j:Nat)(u:Value),its[j]?=some u->∃(y:V)(e:D),vs[j]?=some y/\ds[j]?=some e/\RelV y u/\Rep H y e:=by
  intro j u hj;have hlt:=(Ol.mp hj).1;have e1:vs[j]?=some (vs[j]'⋯):=gV _;obtain⟨a1,b1,c1⟩:=r.get e1;obtain⟨f1,g1,k1⟩:=rs.get e1;rw[hj]at b1;cases b1;exact⟨_,f1,e1,g1,c1,k1⟩
 refine⟨its,λu=>decide (∃(j:Nat)(y:V)(e:D),its[j]?=some u/\vs[j]?=some y/\ds[j]?=some e/\D.eqv e d=true),pl.isList,?_,?_⟩
 ·intro u hm;have hm':u∈its:=by simpa using hm
  obtain⟨j,hj⟩:=R6.mp hm';obtain⟨y,e,h1,h2,h3,h4⟩:=key j u hj;have q:=BM I 60 X.A.in1 y x u v e d (by show X.A.units+1+60<cLine;omega) (PC (D.iD h2) ⋯) h3 rx h4 rd;have z:decide (∃(j:Nat)(y:V)(e:D),its[j]?=some u/\vs[j]?=some y/\ds[j]?=some e/\D.eqv e d=true)=D.eqv e d:=by
   rw[Ph,O7];refine⟨λ⟨j',y',e',g1,g2,g3,g4⟩=>?_,λh=>⟨j,y,e,hj,h1,h2,h⟩⟩;obtain⟨y2,e2,k1,k2,k3,k4⟩:=key j' u g1;rw[g2]at k1;cases k1;rw[g3]at k2;cases k2;have:=Ej h3 k3;subst this;rw[Rep.inj h4 k4];exact g4
  show SF X.A.in1 s u v (decide _);rw[z];exact q
 ·rw[List.any_toArray,Ph,O8,O8];constructor
  ·rintro⟨u,hu',h⟩;obtain⟨j,y,e,g1,g2,g3,g4⟩:=QX h;exact⟨e,OG g3,g4⟩
  ·rintro⟨e,he,h⟩;obtain⟨j,hj⟩:=R6.mp he;have hlt:=(Ol.mp hj).1;have e1:its[j]?=some (its[j]'⋯):=gV _;obtain⟨y,e',h1,h2,h3,h4⟩:=key j _ e1;exact⟨_,OG e1,Oi ⟨j,y,e,e1,h1,hj,h⟩⟩
theorem KA(hu:X.A.units+64<cLine):OpR X (compareOp .In) (DR false):=by
 intro pins s σ H x y v u Q I rx ry h;obtain⟨p,vs,d,ds,rfl,hq,rs,rd,hd,q⟩:=h;cases ry;obtain⟨its,e,h1,h2,h3⟩:=xF hu I rx hq rs rd hd;refine WH e h1 h2 ⟨.bl _,H,I,rfl,?_⟩;rw[h3];exact q
theorem BN(hu:X.A.units+64<cLine):OpR X (compareOp .NotIn) (DR true):=by
 intro pins s σ H x y v u Q I rx ry h;obtain⟨p,vs,d,ds,rfl,hq,rs,rd,hd,q⟩:=h;cases ry;obtain⟨its,e,h1,h2,h3⟩:=xF hu I rx hq rs rd hd;refine VI e h1 h2 ⟨.bl _,H,I,rfl,?_⟩;rw[h3];exact q
end
noncomputable def Sq(b:Bool)(xs:List V):HO:=match b with
 |true=>.lst xs
 |false=>.tup xs
def Np(b:Bool)(h:Heap)(t:Addr)(xs:Array Value):Prop:=match b with
 |true=>h.IsList t xs
 |false=>h.IsTuple t xs
theorem Inv.sq(I:Inv X pins σ H s)(h:H t=some (Sq b xs)):∃its:List Value,Vals xs its/\Np b s.heap t its.toArray/\xs.length<=sizeLine:=by
 cases b with
 |true=>obtain⟨its,rv,p,hz⟩:=I.list (SqL.of h);exact⟨its,rv,p.isList,hz⟩
 |false=>obtain⟨its,rv,p,hz⟩:=I.tuple (SqT.of h);exact⟨its,rv,p,hz⟩
end L2
namespace ZS
open PySem
def Ri(l:List Nat):Prop:=l.Pairwise (· <·)
theorem zu(xs:Array Nat)(j p:Nat)(h1:∀i,i<p->xs.getD i j<j)(h2:∀i,p<=i->i<xs.size->¬xs.getD i j<j):∀(fuel lo hi:Nat),lo<=p->p<=hi->hi<=xs.size->hi-lo<=fuel->T8 xs j fuel lo hi=p
 |0,lo,hi,a,b,c,d=>by rw[T8];omega
 |fuel+1,lo,hi,a,b,c,d=>by
  rw[T8];by_cases hl:lo<hi
  ·rw[Oe hl];dsimp only;have m1:lo<=(lo+hi) / 2:=by omega
   have m2:(lo+hi) / 2<hi:=by omega
   by_cases hm:xs.getD ((lo+hi) / 2) j<j
   ·rw[Oe hm];have:(lo+hi) / 2<p:=by
     refine Um λz=>?_;exact h2 _ z ⋯ hm
    exact zu xs j p h1 h2 fuel _ _ ⋯ b c ⋯
   ·rw[Ot hm];have:p<=(lo+hi) / 2:=by
     refine Uh λz=>?_;exact hm (h1 _ z)
    exact zu xs j p h1 h2 fuel _ _ a this ⋯ ⋯
  ·rw[Ot hl];omega
theorem getD_list{l:List Nat}(h:i<l.length):l.toArray.getD i j=l[i]:=by simp[RK,h]
theorem below_at{l:List Nat}(hp:p<=l.length)(h1:∀i(h:i<l.length),i<p->l[i]<j)(h2:∀i(h:i<l.length),p<=i->j<=l[i]):Qn l.toArray j=p:=by
 unfold Qn;refine zu l.toArray j p (λi hi=>?_) (λi hi hs=>?_) _ _ _ (QF _) (by simpa using hp) (Oj _) ⋯
 ·rw[getD_list ⋯];exact h1 i ⋯ hi
 ·rw[getD_list (by simpa using hs)];have:=h2 i (by simpa using hs) hi;omega
theorem uK(h:Ri l)(hk:k<l.length)(hi:i<k):l[i]<l[k]:=QQ.mp h i k ⋯ hk hi
theorem tB{l:List Nat}(h:Ri l)(j:Nat):∃p,p<=l.length/\Qn l.toArray j=p/\(∀x∈l.take p,x<j)/\(∀x∈l.drop p,j<=x):=by
 induction l with
 |nil=>exact⟨0,Oj _,below_at (Oj _) (λi h=>by simp at h) (λi h=>by simp at h),by simp,by simp⟩
 |cons a l ih=>
  obtain⟨h1,h2⟩:=PD.mp h;obtain⟨p,hp,_,ha,hb⟩:=ih h2;by_cases hj:a<j
  ·have q1:∀x∈(a::l).take (p+1),x<j:=by
    intro x hx;rw[List.take_succ_cons]at hx;rcases Ow.mp hx with e |e
    ·omega
    ·exact ha x e
   have q2:∀x∈(a::l).drop (p+1),j<=x:=by
    intro x hx;rw[List.drop_succ_cons]at hx;exact hb x hx
   refine⟨p+1,by simp;omega,below_at (by simp;omega) (λi hi hip=>?_) (λi hi hip=>?_),q1,q2⟩
   ·refine q1 _ ?_;rw[O1];exact⟨i,by rw[Pd];simp at hi ⊢;omega,by rw[V8]⟩
   ·refine q2 _ ?_;rw[O1];exact⟨i-(p+1),by simp at hi ⊢;omega,by rw[List.getElem_drop];congr 1;omega⟩
  ·have q2:∀x∈a::l,j<=x:=by
    intro x hx;rcases Ow.mp hx with e |e
    ·omega
    ·have:=h1 x e;omega
   refine⟨0,QF _,below_at (QF _) (λi hi hip=>by omega) (λi hi _=>q2 _ (O5 hi)),by simp,by simpa using q2⟩
theorem nH{l:List Nat}(h:Ri l)(hi:i<l.length):Qn l.toArray (l[i]+1)=i+1/\Qn l.toArray l[i]=i:=by
 constructor
 ·refine below_at ⋯ (λk hk hki=>?_) (λk hk hki=>?_)
  ·by_cases e:k=i
   ·subst e;omega
   ·have:=uK h hi (show k<i by omega);omega
  ·have:=uK h hk (show i<k by omega);omega
 ·refine below_at ⋯ (λk hk hki=>uK h hi hki) (λk hk hki=>?_);by_cases e:k=i
  ·subst e;omega
  ·have:=uK h hk (show i<k by omega);omega
theorem zG{l:List Nat}:Qn l.toArray 0=0:=below_at (QF _) (λi hi h=>by omega) (λi hi _=>QF _)
theorem tR(h:Ri l)(hj:j∉l)(ha:∀x∈l.take p,x<j)(hb:∀x∈l.drop p,j<=x):Ri (l.take p++j::l.drop p):=by
 have hs:Ri (l.take p++l.drop p):=by rw[R8];exact h
 obtain⟨s1,s2,s3⟩:=Tf.mp hs;refine Tf.mpr ⟨s1,PD.mpr ⟨λx hx=>?_,s2⟩,λx hx y hy=>?_⟩
 ·have:=hb x hx;have:x≠j:=λe=>hj (by rw[<-e];exact Sg hx);omega
 ·rcases Ow.mp hy with e |e
  ·rw[e];exact ha x hx
  ·exact s3 x hx y e
theorem slot_of{t:SetTable}{l:List Nat}(hp:t.place=l.toArray)(hr:Ri l)(hd:t.dummies=#[])(j:Nat):(j∉l->t.slot j=.empty)/\(j∈l->∃i,t.slot j=.live i):=by
 have hh:X6 #[] j=false:=by simp[X6]
 constructor
 ·intro hj;unfold Vn;dsimp only;rw[hp,hd,hh];have:(l.toArray[Qn l.toArray j]?==some j)=false:=by
   rw[QE];intro e;rw[Qs]at e;exact hj (OG e)
  rw[this];rfl
 ·intro hj;obtain⟨i,hi,rfl⟩:=O1.mp hj;refine⟨i,?_⟩;unfold Vn;dsimp only;rw[hp,(nH hr hi).2,Qs,gV hi];simp
noncomputable def nxt(m i:Nat):Nat:=(i*5+1) % (m+1)
noncomputable def orb(m:Nat):Nat->Nat->Nat
 |0,i=>i
 |n+1,i=>orb m n (nxt m i)
noncomputable def marks(m:Nat):Nat->Nat->Nat->Nat
 |0,_,acc=>acc
 |n+1,i,acc=>marks m n (nxt m i) (acc|||(1 <<< i))
noncomputable def full(m:Nat):Bool:=marks m (m+1) 0 0==2 ^ (m+1)-1&&orb m (m+1) 0==0
theorem Lq:full 7=true:=by decide+kernel
theorem HD:full 31=true:=by decide+kernel
theorem Gi:full 127=true:=by decide+kernel
theorem Hf:full 511=true:=by decide+kernel
theorem tY:∀(n i acc e:Nat),(marks m n i acc).testBit e=true->acc.testBit e=true\/∃k,k<n/\orb m k i=e
 |0,i,acc,e,h=>.inl h
 |n+1,i,acc,e,h=>by
  rw[marks]at h;rcases tY n _ _ e h with q |⟨k,hk,q⟩
  ·rw[Nat.testBit_or,PV]at q;rcases q with q |q
   ·exact .inl q
   ·refine .inr ⟨0,by omega,?_⟩;rw[Nat.one_shiftLeft,Nat.testBit_two_pow]at q;simpa[orb]using q
  ·exact .inr ⟨k+1,by omega,q⟩
theorem n_:∀(a b i:Nat),orb m (a+b) i=orb m b (orb m a i)
 |0,b,i=>by simp[orb]
 |a+1,b,i=>by
  rw[show a+1+b=(a+b)+1 by omega,orb,n_ a b,orb]
theorem Fn(hf:full m=true)(he:e<=m):∃k,k<=m/\orb m k 0=e:=by
 unfold full at hf;rw[OQ,PY,PY]at hf;have q:(marks m (m+1) 0 0).testBit e=true:=by
  rw[hf.1,Nat.testBit_two_pow_sub_one];simp;omega
 rcases tY _ _ _ _ q with z |⟨k,hk,z⟩
 ·simp at z
 ·exact⟨k,by omega,z⟩
theorem reach(hf:full m=true)(he:e<=m)(hi:i<=m):∃k,k<=m/\orb m k i=e:=by
 obtain⟨a,ha,ea⟩:=Fn hf hi;obtain⟨b,hb,eb⟩:=Fn hf he;have h0:orb m (m+1) 0=0:=by
  unfold full at hf;rw[OQ,PY,PY]at hf;exact hf.2
 by_cases hab:a<=b
 ·refine⟨b-a,by omega,?_⟩;rw[<-ea,<-n_,show a+(b-a)=b by omega,eb]
 ·refine⟨m+1-a+b,by omega,?_⟩;rw[<-ea,<-n_,show a+(m+1-a+b)=(m+1)+b by omega,n_,h0,eb]
noncomputable def lp(m:Nat):Nat->Nat×Nat->Nat×Nat
 |0,x=>x
 |n+1,x=>lp m n (Po m x.1 x.2)
theorem Be:∀(a b:Nat)(x:Nat×Nat),lp m (a+b) x=lp m b (lp m a x)
 |0,b,x=>by simp[lp]
 |a+1,b,x=>by
  rw[show a+1+b=(a+b)+1 by omega,lp,Be a b,lp]
theorem yb:∀(n:Nat)(x:Nat×Nat),(lp m n x).2=x.2 / 32 ^ n
 |0,x=>by simp[lp]
 |n+1,x=>by
  rw[lp,yb n];show x.2 / 32 / 32 ^ n=_;rw[Nat.div_div_eq_div_mul,X7,Nat.mul_comm]
theorem Bi:∀(n i:Nat),lp m n (i,0)=(orb m n i,0)
 |0,i=>rfl
 |n+1,i=>by
  rw[lp,orb];have:Po m i 0=(nxt m i,0):=by simp[Po,nxt]
  rw[this,Bi n]
theorem Ma(x:Nat×Nat)(h:x.1<=m):∀n,(lp m n x).1<=m:=by
 intro n
 induction n generalizing x with
 |zero=>exact h
 |succ n ih=>
  rw[lp];exact ih _ (by show _ % (m+1)<=m;have:=SG (x.1*5+1+x.2 / 32) (show m+1>0 by omega);omega)
theorem su(hf:full m=true)(he:e<=m)(hi:i<=m)(hp:p<2 ^ 64):∃k,k<O4 m/\(lp m k (i,p)).1=e:=by
 have h13:(lp m 13 (i,p)).2=0:=by
  rw[yb];exact Nat.div_eq_of_lt (ON hp (by decide))
 obtain⟨k,hk,ek⟩:=reach hf he (Ma (i,p) hi 13);refine⟨13+k,by unfold O4;omega,?_⟩;rw[Be];have z:lp m 13 (i,p)=((lp m 13 (i,p)).1,0):=by rw[<-h13]
 rw[z,Bi];exact ek
theorem rR(h:Int):OK h<2 ^ 64:=by
 unfold OK;have:=QO h (show(0:Int)<2 ^ 64 by decide);omega
theorem room{l:List Nat}(hn:l.length<=m):∃e,e<=m/\e∉l:=by
 refine QR λh=>?_;have hall:∀e∈Oy (m+1),e∈l:=λe he=>QR λz=>h ⟨e,by have:=O3.mp he;omega,z⟩;have:=WK (SY (n:=m+1)) hall;rw[QY]at this;omega
theorem C1{t:SetTable}{l:List Nat}(hp:t.place=l.toArray)(hr:Ri l)(hd:t.dummies=#[])(h:Int) :
  ∀(k:Nat)(fuel:Nat)(q:SetTable.Probe),q.dummy=none->q.more<=9->10*k+q.more+1<=fuel->(lp t.mask k (q.i,q.perturb)).1∉l->(k=0->q.j=q.i\/q.j∉l)->(q.more<=9) ->
   (k=0->q.j∉l)->∃j,Pg t (λ_=>h+1) h fuel q=some (.empty j none)/\j∉l:=by
 intro k
 induction k with
 |zero=>
  intro fuel q h1 h2 h3 h4 h5 h6 h7;obtain⟨f,rfl⟩:∃f,fuel=f+1:=⟨fuel-1,by omega⟩;refine⟨q.j,?_,h7 rfl⟩;rw[Pg,(slot_of hp hr hd q.j).1 (h7 rfl)];dsimp only;rw[h1]
 |succ k ih=>
  intro fuel q h1 h2 h3 h4 h5 h6 h7;have run:∀(r fuel:Nat)(q:SetTable.Probe),q.more=r->q.dummy=none->10*(k+1)+r+1<=fuel->(lp t.mask (k+1) (q.i,q.perturb)).1∉l->∃j,Pg t (λ_=>h+1) h fuel q=some (.empty j none)/\j∉l:=by
   intro r
   induction r with
   |zero=>
    intro fuel q hm hdm hfu hl;obtain⟨f,rfl⟩:∃f,fuel=f+1:=⟨fuel-1,by omega⟩;by_cases hj:q.j∈l
    ·obtain⟨i,ei⟩:=(slot_of hp hr hd q.j).2 hj;rw[Pg,ei];dsimp only;have hne:(h+1==h)=false:=by rw[QE];omega
     rw[hne];have ha:t.advance q={ q with j:=(Po t.mask q.i q.perturb).1,more:=Pk t.mask (Po t.mask q.i q.perturb).1-(Po t.mask q.i q.perturb).1,i:=(Po t.mask q.i q.perturb).1,perturb:=(Po t.mask q.i q.perturb).2 }:=by
      unfold Sh;rw[Ot ⋯]
     have hmore:(t.advance q).more<=9:=by
      rw[ha];dsimp only;unfold Pk;split<;>omega
     have hl':(lp t.mask k ((t.advance q).i,(t.advance q).perturb)).1∉l:=by rw[ha];exact hl
     refine ih f (t.advance q) (by rw[ha];exact hdm) hmore ⋯ hl' (λ_=>.inl (by rw[ha])) hmore λhk=>?_;rw[ha];dsimp only;subst hk;exact hl
    ·refine⟨q.j,?_,hj⟩;rw[Pg,(slot_of hp hr hd q.j).1 hj];dsimp only;rw[hdm]
   |succ r ihr=>
    intro fuel q hm hdm hfu hl;obtain⟨f,rfl⟩:∃f,fuel=f+1:=⟨fuel-1,by omega⟩;by_cases hj:q.j∈l
    ·obtain⟨i,ei⟩:=(slot_of hp hr hd q.j).2 hj;rw[Pg,ei];dsimp only;have hne:(h+1==h)=false:=by rw[QE];omega
     rw[hne];have ha:t.advance q={ q with j:=q.j+1,more:=q.more-1 }:=by
      unfold Sh;rw[Oe ⋯]
     refine ihr f (t.advance q) (by rw[ha];dsimp only;omega) (by rw[ha];exact hdm) ⋯ (by rw[ha];exact hl)
    ·refine⟨q.j,?_,hj⟩;rw[Pg,(slot_of hp hr hd q.j).1 hj];dsimp only;rw[hdm]
  exact run q.more fuel q rfl h1 h3 h4
theorem AH{t:SetTable}{l:List Nat}(hp:t.place=l.toArray)(hr:Ri l)(hd:t.dummies=#[])(hf:full t.mask=true)(hn:l.length<=t.mask)(h:Int):∃j,t.freeSlot h=some (j,false)/\j∉l:=by
 obtain⟨e,he,hel⟩:=room hn;have hi:OK h % (t.mask+1)<=t.mask:=by have:=SG (OK h) (show t.mask+1>0 by omega);omega
 obtain⟨k,hk,ek⟩:=su hf he hi (rR h);have hmore:(t.probeStart h).more<=9:=by
  unfold Vt Pk;dsimp only;split<;>omega
 have q:=C1 hp hr hd h k (10*O4 t.mask) (t.probeStart h) rfl hmore ⋯ (by
  show(lp t.mask k (OK h % (t.mask+1),OK h)).1∉l;rw[ek];exact hel) (λ_=>.inl rfl) hmore (λhk0=>by
   subst hk0;show OK h % (t.mask+1)∉l;rw[show OK h % (t.mask+1)=e from ek];exact hel)
 obtain⟨j,ej,hj⟩:=q;refine⟨j,?_,hj⟩;unfold SetTable.freeSlot SetTable.probe;rw[ej];rfl
end ZS
namespace ZS
open PySem
theorem ya{m e:Nat}{owner:Array (Option Nat)}(he:owner.getD e (some 0)=none):∀(k fuel i p:Nat),(lp m k (i,p)).1=e->k<fuel->∃j,Pn m owner fuel i p=some j/\owner.getD j (some 0)=none
 |k,0,i,p,_,h=>by omega
 |k,fuel+1,i,p,hk,h=>by
  rw[Pn];cases hf:(Oy (Pk m i+1-i)).find? λk=>(owner.getD (i+k) (some 0)).isNone with
  |some x=>
   refine⟨i+x,rfl,?_⟩;have:=Th hf;simpa using this
  |none=>
   have hno:=RL.mp hf;cases k with
   |zero=>
    have hi:i=e:=hk;have:=hno 0 (O3.mpr (by unfold Pk;split<;>omega));rw[Nat.add_zero,hi,he]at this;simp at this
   |succ k=>
    dsimp only;exact ya he k fuel _ _ hk ⋯
theorem uQ{α y:Type}{f g:α->Option y}:∀{l:List α},(∀x∈l,f x=g x)->l.filterMap f=l.filterMap g
 | [],_=>rfl
 |a::l,h=>by
  rw[Pl,Pl,h a (OY ..),uQ λx hx=>h x (OJ _ hx)]
noncomputable def vals(m:Nat)(owner:Array (Option Nat)):List Nat:=(Oy (m+1)).filterMap λj=>owner.getD j none
theorem CG(m:Nat):vals m (UE (m+1) none)=[]:=by
 unfold vals;rw[List.filterMap_eq_nil_iff];intro j hj;simp[RK]
theorem EA{m j k:Nat}{owner:Array (Option Nat)}(hs:owner.size=m+1)(hj:owner.getD j (some 0)=none):(vals m (owner.setIfInBounds j (some k))).Perm (k::vals m owner):=by
 have hjs:j<owner.size:=by
  refine Um λz=>?_;simp[RK,Nat.not_lt.mpr z]at hj
 have hjv:owner.getD j none=none:=by
  simp[RK,hjs]at hj ⊢;exact hj
 have hmem:j∈Oy (m+1):=O3.mpr ⋯;have pe:=Si hmem;have nd:(Oy (m+1)).Nodup:=SY;unfold vals;refine(pe.filterMap _).trans ?_;refine List.Perm.trans ?_ ((pe.filterMap (λj=>owner.getD j none)).cons k).symm;rw[Pl,Pl];have e1:(owner.setIfInBounds j (some k)).getD j none=some k:=by simp[RK,hjs]
 rw[e1,hjv];dsimp only;refine List.Perm.cons k (WL ?_);refine uQ λx hx=>?_;have hne:x≠j:=λe=>by
  rw[e]at hx;exact(X8 nd).mp hx |>.1 rfl
 simp only[RK,SA];split
 ·rw[Tz,Tz,Array.getElem_setIfInBounds_ne (by assumption) (λe=>hne e.symm)]
 ·rfl
theorem Dy{m:Nat}{owner:Array (Option Nat)}(hs:owner.size=m+1)(h:(vals m owner).length<=m):∃e,e<=m/\owner.getD e (some 0)=none:=by
 refine QR λhno=>?_;have all:∀j∈Oy (m+1),(owner.getD j none).isSome=true:=λj hj=>by
  have hj':=O3.mp hj;cases e:owner.getD j none with
  |some x=>rfl
  |none=>
   refine absurd ⟨j,by omega,?_⟩ hno;simp[RK,show j<owner.size by omega]at e ⊢;exact e
 have len:∀l:List Nat,(∀j∈l,(owner.getD j none).isSome=true)->(l.filterMap λj=>owner.getD j none).length=l.length:=by
  intro l
  induction l with
  |nil=>intro _;rfl
  |cons a l ih=>
   intro hl;obtain⟨x,hx⟩:=Rw.mp (hl a (OY ..));rw[Pl,hx];dsimp only;rw[OB,OB,ih λj hj=>hl j (OJ _ hj)]
 have:=len _ all;rw[QY]at this;unfold vals at h;omega
noncomputable def c6(m:Nat)(acc:Option (Array (Option Nat)×Nat))(h:Int):Option (Array (Option Nat)×Nat):=do
  let(owner,k)<-acc
  let j<-Pn m owner (O4 m) (OK h % (m+1)) (OK h)
  pure (owner.setIfInBounds j (some k),k+1)
theorem u7{m:Nat}(hf:full m=true):∀(hs:List Int)(owner:Array (Option Nat))(k:Nat),owner.size=m+1->(vals m owner).Perm (Oy k)->k+hs.length<=m ->
  ∃owner',hs.foldl (c6 m) (some (owner,k))=some (owner',k+hs.length)/\owner'.size=m+1/\(vals m owner').Perm (Oy (k+hs.length))
 | [],owner,k,h1,h2,h3=>⟨owner,rfl,h1,by simpa using h2⟩
 |h::hs,owner,k,h1,h2,h3=>by
  have hlen:(vals m owner).length=k:=by rw[h2.length_eq,QY]
  obtain⟨e,he,hen⟩:=Dy h1 (by simp at h3;omega);have hi:OK h % (m+1)<=m:=by have:=SG (OK h) (show m+1>0 by omega);omega
  obtain⟨q,hq,eq⟩:=su hf he hi (rR h);obtain⟨j,ej,hj⟩:=ya (m:=m) hen q (O4 m) _ _ eq hq;have st:c6 m (some (owner,k)) h=some (owner.setIfInBounds j (some k),k+1):=by
   unfold c6;show(Pn m owner (O4 m) (OK h % (m+1)) (OK h)).bind _=_;rw[ej];rfl
  have p2:(vals m (owner.setIfInBounds j (some k))).Perm (Oy (k+1)):=by
   refine(EA h1 hj).trans ((h2.cons k).trans ?_);rw[Te];exact(List.perm_append_singleton k _).symm
  obtain⟨o',a1,a2,a3⟩:=u7 hf hs _ (k+1) (by rw[SA];exact h1) p2 (by simp at h3;omega);refine⟨o',?_,a2,by simp only[OB];rw[show k+(hs.length+1)=k+1+hs.length by omega];exact a3⟩;rw[UG,st,a1];simp only[OB];rw[show k+(hs.length+1)=k+1+hs.length by omega]
theorem pb{m:Nat}(hf:full m=true)(hs:Array Int)(hn:hs.size<=m):∃owner,SS m hs=some owner/\owner.size=m+1/\(vals m owner).Perm (Oy hs.size):=by
 obtain⟨o,a1,a2,a3⟩:=u7 hf hs.toList (UE (m+1) none) 0 (by simp) (by rw[CG];simp) (by simpa using hn);refine⟨o,?_,a2,by simpa using a3⟩;unfold SS;rw[<-VP];have:(λ(acc:Option (Array (Option Nat)×Nat))(h:Int)=>(do
  let(owner,k)<-acc
  let j<-Pn m owner (O4 m) (OK h % (m+1)) (OK h)
  pure (owner.setIfInBounds j (some k),k+1):Option (Array (Option Nat)×Nat)))=c6 m:=rfl
 rw[this,a1];rfl
theorem gy(f:Nat->Option Nat):∀l:List Nat,((l.filterMap λj=>(f j).map (j,·)).map (·.1))=l.filter λj=>(f j).isSome
 | []=>rfl
 |a::l=>by
  rw[Pl,P5];cases f a with
  |none=>simpa using gy f l
  |some x=>simp[gy f l]
theorem gC(f:Nat->Option Nat):∀l:List Nat,((l.filterMap λj=>(f j).map (j,·)).map (·.2))=l.filterMap f
 | []=>rfl
 |a::l=>by
  rw[Pl,Pl];cases f a with
  |none=>simpa using gC f l
  |some x=>simp[gC f l]
theorem yu{α:Type}:∀(xs:List α),(Oy xs.length).filterMap (λi=>xs[i]?)=xs
 | []=>rfl
 |x::xs=>by
  rw[OB,UP,Pl];simp only[SI];rw[VE];have:((λi=>(x::xs)[i]?)∘Nat.succ)=λi=>xs[i]?:=by funext i;simp
  rw[this,yu xs]
theorem wo{t:SetTable}{es:Array (Int×Value)}{wanted:Nat}(hf:full (Px wanted-1)=true)(hn:es.size<=Px wanted-1) :
  ∃es' t' l,relayAll t es wanted=(es',t',false)/\es'.toList.Perm es.toList/\t'.place=l.toArray/\Ri l/\l.length=es.size/\t'.dummies=#[]/\t'.mask=Px wanted-1/\t'.plain=t.plain/\t'.led=t.led:=by
 obtain⟨owner,e1,e2,e3⟩:=pb hf (es.map (·.1)) (by simpa using hn);rw[W3]at e3;generalize hm:Px wanted-1=m at *
 let f:Nat->Option Nat:=λj=>owner.getD j none
 have r1:t.relaid (es.map (·.1)) wanted=some ({ mask:=m,place:=((Oy (m+1)).filter λj=>(f j).isSome).toArray,dummies:=#[],finger:=t.finger,led:=t.led,moves:=t.movedTo m,plain:=t.plain },(vals m owner).toArray):=by
  unfold WM Xl;rw[hm,e1];show some _=some _;rw[<-gy f,show vals m owner=(Oy (m+1)).filterMap f from rfl,<-gC f]
 have po:((vals m owner).toArray.filterMap λ(i:Nat)=>es[i]?).toList.Perm es.toList:=by
  rw[UR];refine(e3.filterMap _).trans (WL ?_);have:(λ(i:Nat)=>es[i]?)=λ(i:Nat)=>es.toList[i]?:=by funext i;rw[PF]
  rw[this,<-OM,yu]
 have lpl:((Oy (m+1)).filter λj=>(f j).isSome).length=es.size:=by
  rw[<-gy f,Oa,<-Oa (f:=(·.2)),gC f];show(vals m owner).length=es.size;rw[e3.length_eq,QY]
 have so:((vals m owner).toArray.filterMap λ(i:Nat)=>es[i]?).size=es.size:=by
  rw[<-OM,po.length_eq,OM]
 refine⟨_,{ mask:=m,place:=((Oy (m+1)).filter λj=>(f j).isSome).toArray,dummies:=#[],finger:=t.finger,led:=t.led,moves:=t.movedTo m,plain:=t.plain },(Oy (m+1)).filter λj=>(f j).isSome,?_,po,rfl,?_,lpl,rfl,rfl,rfl,rfl⟩
 ·unfold relayAll;rw[r1];dsimp only;have c1:coversAll (vals m owner).toArray es.size=true:=by
   unfold coversAll;rw[List.isPerm_iff];exact e3
  have c2:Vo { mask:=m,place:=((Oy (m+1)).filter λj=>(f j).isSome).toArray,dummies:=#[],finger:=t.finger,led:=t.led,moves:=t.movedTo m,plain:=t.plain } ((vals m owner).toArray.filterMap λ(i:Nat)=>es[i]?).size=true:=by
   unfold Vo TZ;rw[so];simp only[Ov,lpl];simpa using hn
  rw[c1,c2];rfl
 ·exact YD _ List.pairwise_lt_range
end ZS
namespace ZS
open PySem
theorem Bj{t:SetTable}{es:Array (Int×Value)}(hf:full (Px wanted-1)=true)(hn:es.size<=Px wanted-1) :
  ∃t' order l,t.relaid (es.map (·.1)) wanted=some (t',order)/\(order.filterMap (es[·]?)).toList.Perm es.toList/\t'.place=l.toArray/\Ri l/\l.length=es.size/\t'.dummies=#[]/\t'.mask=Px wanted-1/\t'.plain=t.plain/\t'.led=t.led:=by
 obtain⟨es',t',l,e,r⟩:=wo (t:=t) hf hn;unfold relayAll at e;split at e
 ·rename_i t2 order eo;dsimp only at e;split at e
  ·have e':=RX e;obtain⟨rfl,e'⟩:=e';obtain⟨rfl,_⟩:=RX e';exact⟨t2,order,l,eo,r⟩
  ·have:=(RX (RX e).2).2;cases this
 ·have:=(RX (RX e).2).2;cases this
end ZS
namespace ZS
open PySem
def Rch(t:SetTable)(l:List Nat)(n:Nat)(q:SetTable.Probe):Prop:=q.dummy=none/\q.more<=9/\∃k,10*k+q.more+1<=n/\(lp t.mask k (q.i,q.perturb)).1∉l/\(k=0->q.j∉l)
theorem we(h:Rch t l (n+1) q)(hj:q.j∈l):Rch t l n (t.advance q):=by
 obtain⟨h1,h2,k,h3,h4,h5⟩:=h;cases k with
 |zero=>exact absurd hj (h5 rfl)
 |succ k=>
  by_cases hm:q.more>0
  ·have ha:t.advance q={ q with j:=q.j+1,more:=q.more-1 }:=by
    unfold Sh;rw[Oe hm]
   rw[ha];exact⟨h1,by dsimp only;omega,k+1,by dsimp only;omega,h4,λz=>by omega⟩
  ·have ha:t.advance q={ q with j:=(Po t.mask q.i q.perturb).1,more:=Pk t.mask (Po t.mask q.i q.perturb).1-(Po t.mask q.i q.perturb).1,i:=(Po t.mask q.i q.perturb).1,perturb:=(Po t.mask q.i q.perturb).2 }:=by
    unfold Sh;rw[Ot hm]
   have hmore:(t.advance q).more<=9:=by
    rw[ha];dsimp only;unfold Pk;split<;>omega
   refine⟨by rw[ha];exact h1,hmore,k,by omega,by rw[ha];exact h4,λhk=>?_⟩;rw[ha];dsimp only;subst hk;exact h4
theorem sV(hf:full t.mask=true)(hn:l.length<=t.mask)(h:Int):Rch t l (10*O4 t.mask) (t.probeStart h):=by
 obtain⟨e,he,hel⟩:=room hn;have hi:OK h % (t.mask+1)<=t.mask:=by have:=SG (OK h) (show t.mask+1>0 by omega);omega
 obtain⟨k,hk,ek⟩:=su hf he hi (rR h);have hmore:(t.probeStart h).more<=9:=by
  unfold Vt Pk;dsimp only;split<;>omega
 refine⟨rfl,hmore,k,by omega,?_,λhk0=>?_⟩
 ·show(lp t.mask k (OK h % (t.mask+1),OK h)).1∉l;rw[ek];exact hel
 ·subst hk0;show OK h % (t.mask+1)∉l;rw[show OK h % (t.mask+1)=e from ek];exact hel
end ZS
namespace ZS
open PySem
noncomputable def adv(m:Nat)(q:SetTable.Probe):SetTable.Probe:=
 if q.more>0 then{ q with j:=q.j+1,more:=q.more-1 }else
 { q with j:=(Po m q.i q.perturb).1,more:=Pk m (Po m q.i q.perturb).1-(Po m q.i q.perturb).1,i:=(Po m q.i q.perturb).1,perturb:=(Po m q.i q.perturb).2 }
theorem Ad(t:SetTable)(q:SetTable.Probe):t.advance q=adv t.mask q:=by
 unfold Sh adv;split<;>rfl
inductive Path(m:Nat)(l:List Nat):SetTable.Probe->SetTable.Probe->Prop
 |refl (q:SetTable.Probe):Path m l q q
 |step {q q':SetTable.Probe}:q.j∈l->Path m l (adv m q) q'->Path m l q q'
theorem Path.mono(hl:∀x∈l,x∈l')(h:Path m l q q'):Path m l' q q':=by
 induction h with
 |refl q=>exact .refl q
 |step h _ ih=>exact .step (hl _ h) ih
theorem Path.trans(h:Path m l q q')(h2:Path m l q' q2):Path m l q q2:=by
 induction h with
 |refl q=>exact h2
 |step h _ ih=>exact .step h (ih h2)
noncomputable def start(m:Nat)(h:Int):SetTable.Probe:={ j:=OK h % (m+1),more:=Pk m (OK h % (m+1))-OK h % (m+1),i:=OK h % (m+1),perturb:=OK h,dummy:=none }
def Rea(m:Nat)(l:List Nat)(h:Int)(j:Nat):Prop:=∃q,Path m l (start m h) q/\q.j=j
theorem Rea.mono(hl:∀x∈l,x∈l')(r:Rea m l h j):Rea m l' h j:=let⟨q,p,e⟩:=r;⟨q,p.mono hl,e⟩
theorem yp{t:SetTable}{l:List Nat}(hp:t.place=l.toArray)(hr:Ri l)(j:Nat)(hj:j∈l):∃i,l[i]?=some j/\t.slot j=.live i:=by
 obtain⟨i,hi,rfl⟩:=O1.mp hj;refine⟨i,gV hi,?_⟩;unfold Vn;dsimp only;rw[hp,(nH hr hi).2,Qs,gV hi];simp
theorem Iy{l:List Nat}(hr:Ri l){i i' j:Nat}(h:l[i]?=some j)(h':l[i']?=some j):i=i':=by
 obtain⟨a,ea⟩:=Ol.mp h;obtain⟨b,eb⟩:=Ol.mp h';rcases V9 i i' with z |z |z
 ·have:=QQ.mp hr i i' a b z;omega
 ·exact z
 ·have:=QQ.mp hr i' i b a z;omega
theorem F6(hp:t.place=l.toArray)(hr:Ri l)(hd:t.dummies=#[])(h:Int)(f:Nat->Int):∀(n fuel:Nat)(q:SetTable.Probe),Rch t l n q->n<=fuel ->
  (∃j q',Pg t f h fuel q=some (.empty j none)/\j∉l/\Path t.mask l q q'/\q'.j=j)\/∃j i next m,Pg t f h fuel q=some (.candidate j i next)/\l[i]?=some j/\f i=h/\t.slot j=.live i/\m<n/\Rch t l m next/\Path t.mask l q next:=by
 intro n
 induction n with
 |zero=>
  intro fuel q hq _;obtain⟨_,_,k,h3,_⟩:=hq;omega
 |succ n ih=>
  intro fuel q hq hf;obtain⟨fu,rfl⟩:∃f,fuel=f+1:=⟨fuel-1,by omega⟩;by_cases hj:q.j∈l
  ·obtain⟨i,hi,ei⟩:=yp hp hr q.j hj;have hs:=we hq hj;have ps:∀q',Path t.mask l (t.advance q) q'->Path t.mask l q q':=λq' p=>.step hj (by rw[<-Ad];exact p);by_cases hh:f i=h
   ·refine .inr ⟨q.j,i,t.advance q,n,?_,hi,hh,ei,by omega,hs,ps _ (.refl _)⟩;rw[Pg,ei];dsimp only;rw[Oe (by rw[hh];simp)]
   ·rcases ih fu (t.advance q) hs ⋯with⟨j,q',e,hjl,pa,ej⟩ |⟨j,i',next,m,e,r1,r2,r3,r4,r5,r6⟩
    ·refine .inl ⟨j,q',?_,hjl,ps _ pa,ej⟩;rw[Pg,ei];dsimp only;rw[Ot (by simpa using hh)];exact e
    ·refine .inr ⟨j,i',next,m,?_,r1,r2,r3,by omega,r5,ps _ r6⟩;rw[Pg,ei];dsimp only;rw[Ot (by simpa using hh)];exact e
  ·refine .inl ⟨q.j,q,?_,hj,.refl _,rfl⟩;rw[Pg,(slot_of hp hr hd q.j).1 hj];dsimp only;rw[hq.1]
theorem GD{t:SetTable}{l:List Nat}(hp:t.place=l.toArray)(hr:Ri l)(h:Int)(f:Nat->Int){q':SetTable.Probe}(h0:l[i0]?=some q'.j)(hf0:f i0=h):∀(n fuel:Nat)(q:SetTable.Probe),Rch t l n q->n<=fuel->Path t.mask l q q' ->
  ∃j i next m,Pg t f h fuel q=some (.candidate j i next)/\l[i]?=some j/\f i=h/\t.slot j=.live i/\m<n/\Rch t l m next/\(i=i0\/Path t.mask l next q'):=by
 intro n
 induction n with
 |zero=>
  intro fuel q hq _;obtain⟨_,_,k,h3,_⟩:=hq;omega
 |succ n ih=>
  intro fuel q hq hf pa;obtain⟨fu,rfl⟩:∃f,fuel=f+1:=⟨fuel-1,by omega⟩;have hj:q.j∈l:=by
   cases pa with
   |refl=>exact OG h0
   |step h _=>exact h
  obtain⟨i,hi,ei⟩:=yp hp hr q.j hj;have hs:=we hq hj;have nx:i=i0\/Path t.mask l (t.advance q) q':=by
   cases pa with
   |refl=>exact .inl (Iy hr hi h0)
   |step _ p=>exact .inr (by rw[Ad];exact p)
  by_cases hh:f i=h
  ·refine⟨q.j,i,t.advance q,n,?_,hi,hh,ei,by omega,hs,nx⟩;rw[Pg,ei];dsimp only;rw[Oe (by rw[hh];simp)]
  ·rcases nx with z |nx
   ·rw[z]at hh;exact absurd hf0 hh
   ·obtain⟨j,i',next,m,e,r1,r2,r3,r4,r5,r6⟩:=ih fu (t.advance q) hs ⋯ nx;refine⟨j,i',next,m,?_,r1,r2,r3,by omega,r5,r6⟩;rw[Pg,ei];dsimp only;rw[Ot (by simpa using hh)];exact e
noncomputable def occ(m:Nat)(owner:Array (Option Nat)):List Nat:=(Oy (m+1)).filter λj=>(owner.getD j none).isSome
theorem pw:∀(r:Nat),r<=M->(∀r',r'<r->i+r'∈l)->Path m l { j:=i,more:=M,i:=i,perturb:=p,dummy:=none } { j:=i+r,more:=M-r,i:=i,perturb:=p,dummy:=none }
 |0,_,_=>.refl _
 |r+1,h,hl=>(pw r ⋯ λr' h'=>hl r' ⋯).trans (.step (hl r ⋯) (by
   unfold adv;rw[Oe (by dsimp only;omega)];dsimp only;rw[show M-r-1=M-(r+1) by omega];exact .refl _))
theorem Ah(hs:owner.size=m+1)(hj:j<=m)(h:(owner.getD j (some 0)).isNone=false):j∈occ m owner:=by
 unfold occ;rw[OH];refine⟨O3.mpr ⋯,?_⟩;have e:owner.getD j none=owner.getD j (some 0):=by simp[RK,show j<owner.size by omega]
 rw[e];cases q:owner.getD j (some 0)with
 |none=>rw[q]at h;cases h
 |some x=>rfl
theorem Ci(h:i<=m):Pk m i<=m/\i<=Pk m i:=by
 unfold Pk;split<;>omega
theorem tH(hs:owner.size=m+1):∀(fuel i p j:Nat),i<=m->Pn m owner fuel i p=some j->∃q,Path m (occ m owner) { j:=i,more:=Pk m i-i,i:=i,perturb:=p,dummy:=none } q/\q.j=j
 |0,_,_,_,_,h=>by simp[Pn]at h
 |fuel+1,i,p,j,hi,h=>by
  obtain⟨re,ri⟩:=Ci hi;rw[Pn]at h;split at h
  ·rename_i k hk;cases h;obtain⟨h1,as,bs,e,h2⟩:=List.find?_eq_some_iff_append.mp hk;have lk:as.length=k:=by
    have:=Pq (λl=>l[as.length]?) e;simp only[OP (Oj _),Ti,SI]at this;obtain⟨a,b⟩:=Ol.mp this;simpa using b
   have kl:k<Pk m i+1-i:=by
    have:=QS hk;exact O3.mp this
   refine⟨_,pw k ⋯ (λr hr=>Ah hs ⋯ ?_),rfl⟩;have hm:r∈as:=by
    have e2:(Oy (Pk m i+1-i))[r]?=some r:=by rw[PN ⋯]
    rw[e,OC ⋯]at e2;exact OG e2
   have:=h2 r hm;simpa using this
  ·rename_i hk;have all:=RL.mp hk;have occA:∀r,r<=Pk m i-i->i+r∈occ m owner:=λr hr=>Ah hs ⋯ (by
    have:=all r (O3.mpr ⋯);exact(Qv _).mp this)
   have hi2:(Po m i p).1<=m:=by
    unfold Po;have:=SG (i*5+1+p / 32) (show m+1>0 by omega);dsimp only;omega
   obtain⟨q,pa,e⟩:=tH hs fuel _ _ j hi2 h;refine⟨q,(pw (Pk m i-i) (Oj _) λr hr=>occA r ⋯).trans (.step (occA _ (Oj _)) ?_),e⟩;unfold adv;rw[Ot (by dsimp only;omega)];exact pa
def Dm(m:Nat)(hs:List Int)(owner:Array (Option Nat)):Prop:=∀j k,owner.getD j none=some k->∃h,hs[k]?=some h/\Rea m (occ m owner) h j
theorem xS(h:x∈occ m owner):x∈occ m (owner.setIfInBounds j (some k)):=by
 unfold occ at h ⊢;rw[OH]at h ⊢;refine⟨h.1,?_⟩;simp only[Sd,TB]at h ⊢;split
 ·split
  ·rfl
  ·rename_i e hlt;have:=h.2;rw[Array.getElem?_eq_none ⋯]at this;cases this
 ·exact h.2
theorem tS(hf:full m=true)(all:List Int):∀(hs:List Int)(owner owner':Array (Option Nat))(k n:Nat),owner.size=m+1->Dm m all owner->(∀i,i<hs.length->all[k+i]?=hs[i]?)->hs.foldl (c6 m) (some (owner,k))=some (owner',n)->Dm m all owner'/\owner'.size=m+1
 | [],owner,owner',k,n,h1,h2,_,h3=>by
  cases h3;exact⟨h2,h1⟩
 |h::hs,owner,owner',k,n,h1,h2,ha,h3=>by
  rw[UG]at h3;have no:∀l:List Int,l.foldl (c6 m) none=none:=by
   intro l
   induction l with
   |nil=>rfl
   |cons a l ih=>exact ih
  cases e:Pn m owner (O4 m) (OK h % (m+1)) (OK h)with
  |none=>
   have st:c6 m (some (owner,k)) h=none:=by
    unfold c6;show(Pn m owner (O4 m) (OK h % (m+1)) (OK h)).bind _=_;rw[e];rfl
   rw[st,no]at h3;cases h3
  |some j=>
   have st:c6 m (some (owner,k)) h=some (owner.setIfInBounds j (some k),k+1):=by
    unfold c6;show(Pn m owner (O4 m) (OK h % (m+1)) (OK h)).bind _=_;rw[e];rfl
   rw[st]at h3;have hi:OK h % (m+1)<=m:=by have:=SG (OK h) (show m+1>0 by omega);omega
   obtain⟨q,pa,ej⟩:=tH h1 _ _ _ j hi e;refine tS hf all hs _ owner' (k+1) n (by rw[SA];exact h1) ?_ (λi hi=>?_) h3
   ·intro j' k' e';simp only[Sd,TB]at e';split at e'
    ·rename_i z;split at e'
     ·cases e';refine⟨h,by have:=ha 0 (by simp);simpa using this,q,pa.mono λx hx=>xS hx,by rw[ej];exact z⟩
     ·cases e'
    ·obtain⟨h',a1,a2⟩:=h2 j' k' (by rw[Sd];exact e');exact⟨h',a1,a2.mono λx hx=>xS hx⟩
   ·have:=ha (i+1) (by simp;omega);rw[show k+1+i=k+(i+1) by omega,this];rfl
theorem yK(hf:full m=true)(h:SS m hs=some owner):Dm m hs.toList owner:=by
 unfold SS at h;rw[<-VP]at h;have:(λ(acc:Option (Array (Option Nat)×Nat))(h:Int)=>(do
  let(owner,k)<-acc
  let j<-Pn m owner (O4 m) (OK h % (m+1)) (OK h)
  pure (owner.setIfInBounds j (some k),k+1):Option (Array (Option Nat)×Nat)))=c6 m:=rfl
 rw[this]at h;obtain⟨⟨o,n⟩,e,rfl⟩:=PB.mp h;refine(tS hf hs.toList hs.toList (UE (m+1) none) o 0 n (by simp) ?_ (λi _=>by simp) e).1;intro j k z;simp[RK]at z
theorem BP{α d:Type}{g:α->Option d}:∀{l:List α},(∀x∈l,∃y,g x=some y)->∀i:Nat,(l.filterMap g)[i]?=(l[i]?).bind g
 | [],_,i=>by simp
 |a::l,h,i=>by
  obtain⟨y,hy⟩:=h a (OY ..);rw[Pl,hy];dsimp only;cases i with
  |zero=>simp[hy]
  |succ i=>simpa using BP (λx hx=>h x (OJ _ hx)) i
theorem C5{t t':SetTable}{es:Array (Int×Value)}{order:Array Nat}{l:List Nat}(hf:full (Px wanted-1)=true)(hn:es.size<=Px wanted-1)(h:t.relaid (es.map (·.1)) wanted=some (t',order))(hl:t'.place=l.toArray) :
  ∀i j:Nat,l[i]?=some j->∃e,(order.filterMap (es[·]?))[i]?=some e/\Rea t'.mask l e.1 j:=by
 obtain⟨owner,e1,e2,e3⟩:=pb hf (es.map (·.1)) (by simpa using hn);have LI:=yK hf e1;rw[W3]at e3;generalize hm:Px wanted-1=m at *
 let f:Nat->Option Nat:=λj=>owner.getD j none
 have r1:t.relaid (es.map (·.1)) wanted=some ({ mask:=m,place:=((Oy (m+1)).filter λj=>(f j).isSome).toArray,dummies:=#[],finger:=t.finger,led:=t.led,moves:=t.movedTo m,plain:=t.plain },(vals m owner).toArray):=by
  unfold WM Xl;rw[hm,e1];show some _=some _;rw[<-gy f,show vals m owner=(Oy (m+1)).filterMap f from rfl,<-gC f]
 rw[r1]at h;cases h;have el:l=occ m owner:=by
  have:=Pq VB hl;have:l=(Oy (m+1)).filter λj=>(f j).isSome:=by simpa using this.symm
  exact this
 subst el;intro i j hij;have el1:occ m owner=((Oy (m+1)).filterMap λj=>(f j).map (j,·)).map (·.1):=(gy f _).symm;have el2:vals m owner=((Oy (m+1)).filterMap λj=>(f j).map (j,·)).map (·.2):=(gC f _).symm;have hij':=hij;rw[el1,Ox]at hij';obtain⟨⟨j',k⟩,g1,g2⟩:=PB.mp hij';cases g2;have g3:(vals m owner)[i]?=some k:=by rw[el2,Ox,g1];rfl
 have g4:owner.getD j' none=some k:=by
  have:=OG g1;obtain⟨x,_,hx⟩:=TJ.mp this;obtain⟨k2,hk2,e5⟩:=PB.mp hx;cases e5;exact hk2
 obtain⟨h,a1,a2⟩:=LI j' k g4;have hk:k<es.size:=by
  have:=e3.mem_iff.mp (OG g3);exact O3.mp this
 refine⟨es[k],?_,?_⟩
 ·rw[<-PF,UR];rw[BP (λx hx=>⟨es[x]'(O3.mp (e3.mem_iff.mp (by simpa using hx))),Qq _⟩),show(vals m owner).toArray.toList=vals m owner from rfl,g3];exact Qq hk
 ·rw[PF,Array.getElem?_map,Qq hk]at a1;cases a1;exact a2
end ZS
namespace L2
open PySem PySem.Spec PyProof.Rows ZS
noncomputable def cf(m:Nat):Bool:=m==7||m==31||m==127||m==511
theorem iR(h:cf m=true):full m=true:=by
 simp only[cf,PV,PY]at h;rcases h with((h |h) |h) |h<;>subst h
 ·exact Lq
 ·exact HD
 ·exact Gi
 ·exact Hf
def lP(w:World)(h:Heap)(a:Addr)(ks:List Int):Prop:=
 ∃(o:Obj)(es:Array (Int×Value))(ep:Nat)(t:SetTable)(pl:List Nat),h.get? a=some o/\o.ExactSet/\o.data=.set es ep t/\cf t.mask=true/\t.dummies=#[]/\t.plain=true/\t.led=!(w.params.followText "set-order") /\
  t.place=pl.toArray/\(Ri pl/\pl.length=ks.length/\ks.length*5<t.mask*3)/\IntsAre (es.toList.map Uo) ks/\(∀e∈es.toList,∃k,Ql k e.2=true/\e.1=hashInt k)/\ks.Nodup/\ks.length<=300
theorem dH:∀{vs:List Value}{ns:List Int},IntsAre vs ns->vs.length=ns.length
 |_,_,.nil=>rfl
 |_,_,.cons n t r=>by simp[dH r]
theorem fits_of{t:SetTable}(h2:t.dummies=#[])(h3:t.place.size=n)(hn:n<=t.mask):t.fits n=true:=by
 unfold Vo TZ;rw[h2,h3];simp;omega
theorem jL:Ql k (.int k t)=true:=by simp[Ql]
theorem isInt_iff:Ql k (.int j t)=true↔k=j:=by
 constructor
 ·intro h;obtain⟨t',e⟩:=RZ h;cases e;rfl
 ·rintro rfl;exact jL
theorem mR:∀{es:List (Int×Value)}{ks:List Int}{k:Int},IntsAre (es.map Uo) ks->(k∈ks↔(es.findIdx? λe=>Ql k e.2).isSome=true)
 | [],_,k,r=>by cases r;simp
 |e::es,_,k,r=>by
  obtain⟨h,v⟩:=e;cases r with
  |cons n t r=>
   have ih:=mR (k:=k) r;rw[List.findIdx?_cons];by_cases hk:k=n
   ·subst hk;simp[jL]
   ·have:Ql k (.int n t)=false:=by rw[<-Qv,isInt_iff];exact hk
    simp only[this,Ow,hk,false_or];rw[ih];simp
theorem e9(xs:Array α)(p:Nat)(x:α)(hp:p<=xs.size):(PR xs p x).toList=xs.toList.take p++x::xs.toList.drop p:=by
 unfold PR;simp;rw[P0 (by simp)]
section
variable{prog:Program}{w:World}{A:Around}{E:Value->Shared->Prop}{s:Shared}
theorem IntsAre.app:∀{vs us:List Value}{ns ms:List Int},IntsAre vs ns->IntsAre us ms->IntsAre (vs++us) (ns++ms)
 |_,_,_,_,.nil,r=>r
 |_,_,_,_,.cons n t q,r=>.cons n t (IntsAre.app q r)
theorem IntsAre.Fx:∀{vs:List Value}{ns:List Int}(p:Nat),IntsAre vs ns->IntsAre (vs.take p) (ns.take p)
 |_,_,0,_=>.nil
 |_,_,_+1,.nil=>.nil
 |_,_,p+1,.cons n t q=>.cons n t (IntsAre.Fx p q)
theorem IntsAre.Fw:∀{vs:List Value}{ns:List Int}(p:Nat),IntsAre vs ns->IntsAre (vs.drop p) (ns.drop p)
 |_,_,0,r=>r
 |_,_,_+1,.nil=>.nil
 |_,_,p+1,.cons _ _ q=>IntsAre.Fw p q
theorem uj:∀{vs us:List Value},List.Perm vs us->∀{ns:List Int},IntsAre us ns->∃ms,IntsAre vs ms/\List.Perm ms ns:=by
 intro vs us hp
 induction hp with
 |nil=>intro ns r;exact⟨ns,r,.refl _⟩
 |cons x _ ih=>
  intro ns r;cases r with
  |cons n t r=>
   obtain⟨ms,a,b⟩:=ih r;exact⟨n::ms,.cons n t a,b.cons n⟩
 |swap x y l=>
  intro ns r;cases r with
  |cons n t r=>cases r with
   |cons n' t' r=>exact⟨n'::n::_,.cons n' t' (.cons n t r),.swap ..⟩
 |trans _ _ ih1 ih2=>
  intro ns r;obtain⟨ms,a,b⟩:=ih2 r;obtain⟨ms',a',b'⟩:=ih1 a;exact⟨ms',a',b'.trans b⟩
theorem vM{t':SetTable}{es':Array (Int×Value)}(hm:cf t'.mask=true)(hn:es'.size=n)(h1:¬n*5<t'.mask*3)(h2:n*5<t'.mask*3+5)(h3:n<=300) :
  cf (Px (R9 n)-1)=true/\n*5<(Px (R9 n)-1)*3:=by
 simp only[cf,PV,PY]at hm;rcases hm with((hm |hm) |hm) |hm<;>rw[hm]at h1 h2
 ·have:n=5:=by omega
  subst this;decide+kernel
 ·have:n=19:=by omega
  subst this;decide+kernel
 ·have:n=77:=by omega
  subst this;decide+kernel
 ·omega
theorem CD{ks:List Int}(hS:lP w s.heap a ks)(hl:k∉ks->ks.length<300)
  (h:∀(h':Heap)(ks':List Int)(b:Bool),OR a s.heap h'->lP w h' a ks'->(∀x,x∈ks'↔x∈ks\/x=k)->(k∈ks->ks'.length=ks.length)->(k∉ks->ks'.length=ks.length+1)->Q b { s with heap:=h',toks:=s.toks+1 }) :
  wpAny (model prog w) A (setAdd a (.int k tk)) Q E s:=by
 obtain⟨o,es,ep,t,pl,g1,g2,g3,g4,g5,g6,g7,g8,g9,g10,g11,g12,g13⟩:=hS;obtain⟨g9,lpl,g14⟩:=g9;have hmask:=iR g4;have lks:es.size=ks.length:=by
  have:=dH g10;rw[Oa,OM]at this;exact this
 have hmk:7<=t.mask:=by
  have q:=g4;simp only[cf,PV,PY]at q;omega
 have hfit:t.fits es.size=true:=fits_of g5 (by rw[g8,lks];simpa using lpl) ⋯;have hel:ElemsOf (intKind prog w) es.toList:=λe he=>by
  obtain⟨k',e1,e2⟩:=g11 e he;refine⟨⟨k',e1,e2⟩,?_⟩;obtain⟨t',e'⟩:=RZ e1;rw[e'];rfl
 have hint:(intKind prog w).is k (.int k tk)=true:=jL (k:=k) (t:=tk);unfold setAdd;refine OO (ar ((intKind prog w).pyHash (k:=k) (v:=.int k tk) hint ?_));unfold setAddHashed;refine OO ?_;show wpAny _ _ (setAddHashedIn a (.int k tk) _ (99999+1)) _ _ _;rw[setAddHashedIn.eq_2];refine ar (OU g1 g3 hfit ?_);show wpAny _ _ (if byScan (.int k tk) es=true then _ else _) _ _ _;rw[Oe (byScan_of (knd:=intKind prog w) rfl (by unfold scanBound;omega) hel)];refine ar ?_;unfold setAddByScan;refine ar (Tc (ar (wpAny_setScan_of (knd:=intKind prog w) (k:=k) hint g1 g3 hfit hel ?_)));have hfi:=mR (k:=k) g10;by_cases hm:k∈ks
 ·have hs:=hfi.mp hm;cases hf:SV (λe=>(intKind prog w).is k e.snd) es.toList with
  |none=>
   have hf':SV (λe:Int×Value=>Ql k e.2) es.toList=none:=hf;rw[hf']at hs;cases hs
  |some j=>
   refine C0 (C0 ?_);exact h s.heap ks false (YX ..) ⟨o,es,ep,t,pl,g1,g2,g3,g4,g5,g6,g7,g8,⟨g9,lpl,g14⟩,g10,g11,g12,g13⟩ (λx=>⟨.inl,λz=>z.elim id λe=>e▸hm⟩) (λ_=>rfl) (λz=>absurd hm z)
 ·have hl3:=hl hm;have hnone:SV (λe=>(intKind prog w).is k e.snd) es.toList=none:=by
   have hf':SV (λe:Int×Value=>Ql k e.2) es.toList=none:=by
    cases hf:SV (λe:Int×Value=>Ql k e.2) es.toList with
    |none=>rfl
    |some j=>exact absurd (hfi.mpr (by rw[hf];rfl)) hm
   exact hf'
  rw[hnone];obtain⟨j,hfree,hjl⟩:=AH g8 g9 g5 hmask (show pl.length<=t.mask by omega) (hashInt k);obtain⟨p,hple,hpb,hpa,hpc⟩:=tB g9 j;have hp:Qn pl.toArray j=p:=hpb;have les0:es.size=pl.length:=by omega
  have riN:Ri (pl.take p++j::pl.drop p):=tR g9 hjl hpa hpc;have liN:(PR pl.toArray p j).toList=pl.take p++j::pl.drop p:=by
   have:=e9 pl.toArray p j (by simpa using hple);simpa using this
  refine show _ from ?_
  ·have hput:t.put j=({ mask:=t.mask,place:=PR t.place p j,dummies:=#[],finger:=t.finger,led:=t.led,moves:=t.moves,plain:=t.plain },p):=by
    unfold X9;rw[g8,hp,g5];rfl
   generalize ht':({ mask:=t.mask,place:=PR t.place p j,dummies:=#[],finger:=t.finger,led:=t.led,moves:=t.moves,plain:=t.plain }:SetTable)=t' at hput;have m1:t'.mask=t.mask:=by rw[<-ht']
   have m2:t'.dummies=#[]:=by rw[<-ht']
   have m3:t'.plain=true:=by rw[<-ht'];exact g6
   have m4:t'.led=!(w.params.followText "set-order"):=by rw[<-ht'];exact g7
   have m5:t'.place=(pl.take p++j::pl.drop p).toArray:=by rw[<-ht',g8,<-liN]
   have lpl':(pl.take p++j::pl.drop p).length=ks.length+1:=by simp;omega
   have les:(PR es p (hashInt k,Value.int k tk)).toList=es.toList.take p++(hashInt k,Value.int k tk)::es.toList.drop p:=e9 _ _ _ ⋯;generalize hes:PR es p (hashInt k,Value.int k tk)=es' at les;have lsz:es'.size=ks.length+1:=by
    rw[<-OM,les];simp;omega
   have hfit':t'.fits es'.size=true:=fits_of m2 (by rw[m5,lsz];simpa using lpl') ⋯;have hlay:layNew t es (hashInt k) (.int k tk)=(es',t',false,false):=by
    unfold layNew;rw[hfree];simp only[hput,hes];unfold SetTable.orStandIn;rw[Oe hfit',hfit'];rfl
   have hlay2:layNew t es ((intKind prog w).hash k) (.int k tk)=(es',t',false,false):=hlay;rw[hlay2];dsimp only;refine ar (C0 ?_);rw[Oe m3,U5 8 (x:=.int k tk) rfl];refine ar (C0 ?_);have hpk:plainKind (Value.int k tk)=true:=rfl;rw[Oe hpk];have h1000:(1000:Nat)<=sizeLine:=Qb (dg (Oj 1000));have hsz:¬es'.size>sizeLine:=by rw[lsz];omega
   have i1:IntsAre (es'.toList.map Uo) (ks.take p++k::ks.drop p):=by
    rw[les,OX,Oq,Xm,Vp];exact IntsAre.app (IntsAre.Fx p g10) (.cons k tk (IntsAre.Fw p g10))
   have i2:∀e∈es'.toList,∃k,Ql k e.2=true/\e.1=hashInt k:=by
    intro e he;rw[les]at he;rcases OI.mp he with z |z
    ·exact g11 e (Rv z)
    ·rcases Ow.mp z with z |z
     ·rw[z];exact⟨k,jL,rfl⟩
     ·exact g11 e (Sg z)
   have hperm:List.Perm (ks.take p++k::ks.drop p) (k::ks):=by
    have:=List.perm_middle (a:=k) (l₁:=ks.take p) (l₂:=ks.drop p);rw[R8]at this;exact this
   have kl:(ks.take p++k::ks.drop p).length=ks.length+1:=by rw[hperm.length_eq];rfl
   have i3:(ks.take p++k::ks.drop p).Nodup:=by
    rw[hperm.nodup_iff,OW];exact⟨hm,g12⟩
   have i4:∀x,x∈ks.take p++k::ks.drop p↔x∈ks\/x=k:=by
    intro x;rw[hperm.mem_iff,Ow];exact or_comm
   generalize hks:ks.take p++k::ks.drop p=ks' at i1 kl i3 i4;have hfill:t'.fill=ks.length+1:=by
    unfold TZ;rw[m2,m5];simp only[Ov,lpl'];rfl
   have bW:∀(e2:Array (Int×Value))(t2:SetTable)(o2:Obj)(e1:Array (Int×Value))(n1:Nat)(t1:SetTable),o2.data=.set e1 n1 t1->RM e2 t2 o2={ o2 with data:=.set e2 (n1+1) t2 }:=by
    intro e2 t2 o2 e1 n1 t1 hd;obtain⟨oc,od,oda,osl⟩:=o2;have hd':oda=.set e1 n1 t1:=hd;subst hd';rfl
   refine ar ?_;unfold storeSet;refine ar (wpAny_load' g1 ?_);rw[g3];dsimp only;rw[Ot hsz];refine Xn g1 ?_;have hupd:=bW es' t' o es ep t g3;have gN:(s.heap.update a (RM es' t')).get? a=some { o with data:=.set es' (ep+1) t' }:=by
    rw[<-hupd];exact QM _ g1 (by rw[hupd];rfl)
   have sbN:OR a s.heap (s.heap.update a (RM es' t')):=P7 ..;by_cases hfull:(ks.length+1)*5<t.mask*3
   ·have hf0:(!false&&t'.tooFull)=false:=by
     unfold S6;rw[hfill,m1];simp;omega
    rw[hf0];rw[Ot (by simp)];refine C0 (C0 ?_);exact h _ ks' true sbN ⟨_,es',ep+1,t',_,gN,g2,rfl,by rw[m1];exact g4,m2,m3,m4,m5,⟨riN,by rw[lpl',kl],by rw[kl,m1];exact hfull⟩,i1,i2,i3,by omega⟩ i4 (λz=>absurd z hm) (λ_=>kl)
   ·have hf1:(!false&&t'.tooFull)=true:=by
     unfold S6;rw[hfill,m1];simp;omega
    rw[hf1];rw[Oe rfl];obtain⟨w1,w2⟩:=vM (t':=t') (es':=es') (n:=ks.length+1) (by rw[m1];exact g4) lsz (by rw[m1];exact hfull) (by rw[m1];omega) ⋯;rw[lsz];obtain⟨e2,t2,l2,r1,r2,r3,r4,r5,r6,r7,r8,r9⟩:=wo (t:=t') (es:=es') (wanted:=R9 (ks.length+1)) (iR w1) (by rw[lsz];omega);rw[r1];dsimp only;have lsz2:e2.size=ks.length+1:=by rw[<-OM,r2.length_eq,OM,lsz]
    obtain⟨ks2,j1,j2⟩:=uj (r2.map Uo) i1;refine ar (C0 ?_);refine ar ?_;refine ar (wpAny_load' gN ?_);dsimp only;rw[Ot (by rw[lsz2];omega)];refine Xn gN ?_;refine C0 (C0 ?_);have gM:((s.heap.update a (RM es' t')).update a (RM e2 t2)).get? a=some { o with data:=.set e2 (ep+1+1) t2 }:=by
     have hq:=bW e2 t2 { o with data:=.set es' (ep+1) t' } es' (ep+1) t' rfl;rw[<-hq];exact QM _ gN (by rw[hq];rfl)
    refine h _ ks2 true (sbN.trans (P7 ..)) ⟨_,e2,ep+1+1,t2,l2,gM,g2,rfl,by rw[r7];exact w1,r6,by rw[r8];exact m3,by rw[r9];exact m4,r3,⟨r4,by rw[r5,lsz,j2.length_eq,kl],by rw[r7,j2.length_eq,kl];exact w2⟩,j1,λe he=>i2 e (r2.mem_iff.mp he),j2.nodup_iff.mpr i3,by rw[j2.length_eq,kl];omega⟩ (λx=>by rw[j2.mem_iff];exact i4 x) (λz=>absurd z hm) (λ_=>by rw[j2.length_eq,kl])
end
section
variable{prog:Program}{w:World}{A:Around}{E:Value->Shared->Prop}{s:Shared}
theorem lP.at(H:lP w h S ks)(k:∀o,h.get? S=some o->h'.get? S=some o):lP w h' S ks:=by
 obtain⟨o,es,ep,t,pl,g1,r⟩:=H;exact⟨o,es,ep,t,pl,k o g1,r⟩
theorem B6{R:Result->Shared->Prop}{I:Addr}{fp wr:List Addr}{n:Nat}{P:Nat->Value->Prop}{St:Nat->Heap->Prop}(W:Walks prog w A.in1 I fp wr n P St)(S:Addr)(hSf:S∉fp)(val:Nat->Int)(hval:∀i v,P i v->∃t,v=Value.int (val i) t)(hn:n<=300) :
  ∀(k i:Nat)(s:Shared)(ks:List Int),n-i=k->i<=n->St i s.heap->lP w s.heap S ks->(∀x,x∈ks↔∃j,j<i/\val j=x)->ks.length<=i ->
   (∀(h':Heap)(tk:Nat)(ks':List Int),(∀b o,b≠S->b∉wr->s.heap.get? b=some o->h'.get? b=some o)->lP w h' S ks'->(∀x,x∈ks'↔∃j,j<n/\val j=x)->R (.ok (.ret .none)) { s with heap:=h',toks:=tk }) ->
   codeAny (model prog w) A (Code.builtin "set.update.loop" ⟨[.ref S,.ref I],[]⟩) R s:=by
 have hSw:S∉wr:=λh=>hSf (W.sub S h);intro k
 induction k with
 |zero=>
  intro i s ks hk hi hst hS hks hlen hR;have hin:i=n:=by omega
  subst hin;refine Qr RJ ?_;rw[QA Qh];refine(show wpAny _ _ (pyNext (.ref I)>>=_) _ _ _ from ar (W.done s _ _ hst λh' tk hk'=>?_));exact C0 (hR h' tk ks (λb o _ hw e=>hk' b o hw e) (hS.at λo e=>hk' S o hSw e) hks)
 |succ k ih=>
  intro i s ks hk hi hst hS hks hlen hR;refine Qr RJ ?_;rw[QA Qh];refine(show wpAny _ _ (pyNext (.ref I)>>=_) _ _ _ from ar (W.item i s _ _ ⋯ hst λv h' tk hP hst' hk'=>?_));obtain⟨t,rfl⟩:=hval i v hP;refine(show wpAny _ _ (holding [Value.int (val i) t] (setAdd S (.int (val i) t))>>=_) _ _ _ from ar (OO ?_));refine CD (s:={ s with heap:=h',toks:=tk }) (hS.at λo e=>hk' S o hSw e) (λ_=>by omega) λh2 ks2 b sb hS2 hm l1 l2=>?_;refine C0 ⟨Sn Qh _,ih (i+1) _ ks2 ⋯ ⋯ ?_ hS2 ?_ ?_ λh3 tk3 ks3 q1 q2 q3=>?_⟩
  ·exact W.frame _ _ _ hst' λb hb' o e=>sb.extBut b o (λz=>hSf (z▸hb')) e
  ·intro x;rw[hm,hks];constructor
   ·rintro(⟨j,h1,h2⟩ |rfl)
    ·exact⟨j,by omega,h2⟩
    ·exact⟨i,by omega,rfl⟩
   ·rintro⟨j,h1,h2⟩;by_cases e:j=i
    ·subst e;exact .inr h2.symm
    ·exact .inl ⟨j,by omega,h2⟩
  ·by_cases hin:val i∈ks
   ·have:=l1 hin;omega
   ·have:=l2 hin;omega
  ·exact hR h3 tk3 ks3 (λb o hb1 hb2 e=>q1 b o hb1 hb2 (sb.extBut b o hb1 (hk' b o hb2 e))) q2 q3
theorem t_(a:Value)
  (h:Q₁ (.ref s.heap.objs.size) { s with heap:=s.heap.push { cls:=.type "set",data:=.set #[] 0 (U6 0 0 (!(w.params.followText "set-order"))) } }) :
  codeAny (model prog w) A (Code.call (.builtin "set.__new__") ⟨[.type "set",a],[]⟩) (wants Q₁ E) s:=by
 refine WN ?_;refine(show wpAny _ _ (checkBuiltinCall "set.__new__" ⟨[.type "set",a],[]⟩>>=_) _ _ _ from ar (RV (F.newCall_set_1 a) (C0 ⟨Sn WO _,Qr F.entry_set_new ?_⟩)));rw[QA WO];have hsub:=sub_set_self;refine(show wpAny _ _ (T1 "set" _>>=_) _ _ _ from ar ?_);unfold T1;refine ar (C0 ?_);refine Om rfl (ar (RV hsub (Om rfl (C0 ?_))));refine(show wpAny _ _ (newSet (.type "set")>>=_) _ _ _ from ar ?_);unfold newSet;refine ar ?_;unfold setsByText;refine ar (Sj (C0 ?_));exact(show wpAny _ _ (newObj (.type "set") (Data.set #[] 0 (U6 0 0 (!(w.params.followText "set-order"))))) _ _ _ from Pp (C0 h) (by first |size_fits |(intro _;decide)))
theorem o7:∀{vs:List Value}{ns:List Int}{i:Nat}{v:Value},IntsAre vs ns->vs[i]?=some v->∃t,v=Value.int (ns.getD i 0) t
 |_,_,_,_,.nil,e=>by simp at e
 |_,_,0,_,.cons n t _,e=>⟨t,by simpa using e.symm⟩
 |_,_,i+1,v,.cons n t r,e=>by
  obtain⟨t',e'⟩:=o7 (i:=i) (v:=v) r (by simpa using e);exact⟨t',by simpa using e'⟩
def nW(h:Heap)(l:Addr)(items:Array Value)(k:Bool):Prop:=if k=true then h.IsList l items else h.IsTuple l items
noncomputable abbrev sO(w:World):Obj:={ cls:=.type "set",data:=.set #[] 0 (U6 0 0 (!(w.params.followText "set-order"))) }
theorem tK(hh:A.handled=none)(k:Bool)(hl:nW s.heap l items k)
    (h:∀(hp:Heap)(o:Obj)(St:Nat->Heap->Prop)(R:Result->Shared->Prop),hp=s.heap.push (sO w)->Walks prog w A.in1.in1.in1 hp.objs.size [hp.objs.size,l] [hp.objs.size] items.size (λi v=>items[i]?=some v) St->St 0 (hp.push o)->s.heap.objs.size∉[hp.objs.size,l]->(∀h' tk',Q (.ref s.heap.objs.size) { s with heap:=h',toks:=tk' }->R (.ok (.ret .none)) { s with heap:=h',toks:=tk' })->codeAny (model prog w) A.in1.in1 (Code.builtin "set.update.loop" ⟨[.ref s.heap.objs.size,.ref hp.objs.size],[]⟩) R { s with heap:=hp.push o }):wpAny (model prog w) A (call (.type "set") [.ref l]) Q E s:=by
  obtain⟨c,tl,hmro⟩:=RC.mro;have hmade:=RC.made;have hsub:=RC.sub;have h1:=RC.notType;have h2:=RC.canCreate;have hct:=F.typeCall_set_1 (Value.ref l);refine Ve (WN ?_);refine(show wpAny _ _ (pure (Fin.again (Code.builtin "type.__call__" ⟨[.type "set",.ref l],[]⟩))) _ _ _ from C0 ⟨VQ _ (by decide+kernel),Qr F.entry_type_call ?_⟩);rw[Around.under_plain (weight_type_call_type "set" [Value.ref l] []) rfl];unfold Builtin.«type.__call__»;dsimp only;refine Om rfl (Om (by rw[h2];rfl) (ar (RV hct (ar (RV hmro (Om rfl (ar (RV hmade ?_))))))));dsimp only;refine ar (C0 (ar (OO (Ve (Ud (t_ (E:=λ_ _=>False) (Q₁:=λobj s1=>obj=.ref s.heap.objs.size/\s1={ s with heap:=s.heap.push (sO w) }) (.ref l) ⟨rfl,rfl⟩) λr s1 hr=>?_)))));generalize hs1:({ s with heap:=s.heap.push (sO w) }:Shared)=sN at hr;cases r with
  |error e=>exact QU hr
  |ok f=>
    cases f with
    |ret v=>
      obtain⟨e1,e2⟩:=hr;subst e1 e2;have hT:Vq s1 (.ref s.heap.objs.size) "set":=by
        rw[<-hs1];exact⟨_,OA _ rfl,rfl⟩
      show wpAny _ _ _ _ _ _;refine ar (Qu (T:="set") (b:=true) hT hsub ?_);refine Om rfl (ar (OO ?_));refine Pc (name:=OS "__init__") hT RC.init (Ve (codeAny_call_builtin RC.init.plain F.entry_set_init (check_set_init_1 hT ?_)));subst hs1;obtain⟨hp,g,d,tk,os⟩:=s;unfold Builtin.«set.__init__»;refine ar ?_;unfold noKeywords;refine PH rfl (C0 ?_);dsimp only;refine ar ?_;unfold typeNameOfCut;refine ar ?_;unfold shownTypeOf;refine ar (Qd hT ?_)
      first
      |refine Om rfl (C0 ?_)
      |refine C0 ?_
      refine(show wpAny _ _ (pure _) _ _ _ from C0 ?_);refine ar ?_;unfold checkCount;refine Om rfl (Om rfl (Om rfl (C0 ?_)));refine ar (C0 ?_);refine ar ?_;unfold setUsed;refine ar (OU (OA _ rfl) rfl (by rfl) (C0 ?_));refine Om rfl ?_;refine ar ?_;unfold W4;refine ar ?_;unfold Xo;have nS:∀{o:Obj},hp.get? l=some o->hp.objs.size∉[(hp.push (sO w)).objs.size,l]:=λe=>by
        simp only[Ow,P4,Rz,not_or];exact⟨OE (Ou (OA _ rfl)),Qc (Ou e)⟩
      cases k with
      |false=>
        obtain⟨o,e,r⟩:=(show Ul hp l items from hl);have e':=Od (sO w) e;have hTt:Vq ⟨hp.push (sO w),g,d,tk,os⟩ (.ref l) "tuple":=⟨o,e',r.1⟩;refine(show wpAny _ _ (isInstance (.ref l) (.type "set")>>=_) _ _ _ from ar (Qu hTt PySem.F.sub_tuple_set ?_));refine(show wpAny _ _ (isInstance (.ref l) (.type "frozenset")) _ _ _ from Qu hTt PySem.F.sub_tuple_frozenset ?_);refine Om rfl (ar (Qd hTt (Om rfl (ar (QN ⟨o,e',r⟩ ?_)))));exact ar (U7 (h _ _ _ _ rfl (Walks.tuple (prog:=prog) (w:=w) (A:=A.in1.in1.in1) hh _ l (OE (Ou e')) items) ⟨⟨_,OA _ rfl,rfl,rfl⟩,o,Od _ e',r⟩ (nS e) λ_ _ q=>C0 (C0 (Om rfl (C0 q)))))
      |true=>
        obtain⟨o,e,r⟩:=(show Heap.IsList hp l items from hl);have e':=Od (sO w) e;have hTt:Vq ⟨hp.push (sO w),g,d,tk,os⟩ (.ref l) "list":=⟨o,e',r.1⟩;refine(show wpAny _ _ (isInstance (.ref l) (.type "set")>>=_) _ _ _ from ar (Qu hTt PySem.F.sub_list_set ?_));refine(show wpAny _ _ (isInstance (.ref l) (.type "frozenset")) _ _ _ from Qu hTt PySem.F.sub_list_frozenset ?_);refine Om rfl (ar (Qd hTt (Om rfl (ar (Ro ⟨o,e',r⟩ ?_)))));exact ar (U7 (h _ _ _ _ rfl (Vh (prog:=prog) (w:=w) (A:=A.in1.in1.in1) hh _ l (OE (Ou e')) items) ⟨⟨_,OA _ rfl,rfl,rfl⟩,o,Od _ e',r⟩ (nS e) λ_ _ q=>C0 (C0 (Om rfl (C0 q)))))
    |_=>exact QU hr
theorem tV(hh:A.handled=none)(k:Bool)(hl:nW s.heap l items k)(hi:IntsAre items.toList ns)(hn:ns.length<=300)
  (h:∀(h':Heap)(tk:Nat)(ks:List Int),lP w h' s.heap.objs.size ks->(∀x,x∈ks↔x∈ns)->(∀b o,s.heap.get? b=some o->h'.get? b=some o)->Q (.ref s.heap.objs.size) { s with heap:=h',toks:=tk }):wpAny (model prog w) A (call (.type "set") [.ref l]) Q E s:=by
 refine tK hh k hl λhp o St R e W h0 hSf hR=>?_;have lit:items.size=ns.length:=by rw[<-OM];exact dH hi
 refine B6 W _ hSf (λi=>ns.getD i 0) (λi v hv=>o7 hi (by simpa using hv)) ⋯ items.size 0 _ [] ⋯ (QF _) h0 ⟨_,#[],0,_,[],Od _ (e▸OA _ rfl),⟨rfl,rfl,rfl⟩,rfl,(show cf 7=true by decide),rfl,rfl,rfl,rfl,⟨List.Pairwise.nil,rfl,(show 0*5<7*3 by decide)⟩,.nil,by simp,QB,by simp⟩ (λx=>by simp) (Oj 0) λh' tk' ks' q1 q2 q3=>hR h' tk' (h h' tk' ks' q2 (λx=>?_) λb o' e'=>?_)
 ·rw[q3];constructor
  ·rintro⟨j,hj,rfl⟩;show ns.getD j 0∈ns;rw[Oc,gV (show j<ns.length by omega)];exact O5 _
  ·intro hx;obtain⟨j,hj,e⟩:=O1.mp hx;refine⟨j,by omega,?_⟩;show ns.getD j 0=x;rw[Oc,gV hj];exact e
 ·have e2:hp.get? b=some o':=e▸Od _ e';exact q1 b o' (OE (Ou e')) (by simp only[Og];exact OE (Ou e2)) (Od _ e2)
end
theorem aY:Slot "set_iterator" (OS "__next__") "set_iterator.__next__":=
 Slot.of (owner:="set_iterator") (n:="__next__") (by rw[Sv,Rg];rfl) (by decide+kernel) (by decide+kernel) (by decide+kernel) (Or.inl (by decide+kernel)) (by rw[W5];rfl) (by decide+kernel)
theorem eJ:entryFor table "set_iterator.__next__"=some Builtin.«set_iterator.__next__»:=Wt (by rfl)
theorem rN:entryFor table "set.__iter__"=some Builtin.«frozenset.__iter__»:=U8 (id':="frozenset.__iter__") (by rfl) (by decide+kernel) (by decide+kernel) (by rfl)
theorem gW:Wk (Vr "set_iterator".toList) Manifest.owners=some Sw:=by rfl
theorem eQ(a:Value):argsOk "set_iterator.__next__" ⟨[a],[]⟩:=by
 have h:Vu "set_iterator.__next__"=Wk (Vr (['_','_','t','x','e','n','_','_']:List Char).reverse) Sw:=Xp (o:=['r','o','t','a','r','e','t','i','_','t','e','s']) (by decide+kernel) gW;unfold argsOk;rw[h];rfl
theorem Et(hT:s.TypeIs (.ref r) "set")(h:Q false s):wpAny (model prog w) A (TQ (.ref r)) Q E s:=by
 unfold TQ;refine ar (UH hT F.slot_set_len.lookup ?_);dsimp only;rw[show splitId "set.__len__"=some ("set","__len__") by decide+kernel];dsimp only;refine ar (Qu hT RC.sub (Om rfl ?_));refine PH rfl (ar (Qd hT ?_));exact C0 h
theorem l6:∀(l:List α)(k:Nat)(h:k<l.length),List.Perm (l[k]::l.eraseIdx k) l
 |x::l,0,_=>by simp
 |x::l,k+1,h=>by
  have hk:k<l.length:=by simpa using h
  have ih:=l6 l k hk;simp only[List.getElem_cons_succ,SJ];exact(List.Perm.swap ..).trans (List.Perm.cons x ih)
theorem yv(next:Nat->Nat):∀(fuel a:Nat)(l:List α)(acc:Array α),fuel=l.length->List.Perm (VR next fuel a l acc).toList (acc.toList++l)
 |0,a,l,acc,h=>by
  have:l=[]:=Q5 h.symm;subst this;rw[pickOrder.go.eq_1,Qp]
 |fuel+1,a,l,acc,h=>by
  rw[pickOrder.go.eq_2];have hlt:next a % l.length<l.length:=SG _ ⋯
  rw[gV hlt];refine(yv next fuel (a+1) (l.eraseIdx (next a % l.length)) (acc.push l[next a % l.length]) (by rw[T2 hlt];omega)).trans ?_;rw[Array.toList_push,QZ];refine U9 _ ?_;rw[List.singleton_append];exact l6 l _ hlt
theorem AU(next:Nat->Nat)(xs:Array α):List.Perm (pickOrder next xs).toList xs.toList:=by
 unfold pickOrder;have:=yv next xs.size 0 xs.toList #[] (by simp)
 simpa using this
section
variable{prog:Program}{w:World}{A:Around}{E:Value->Shared->Prop}{s:Shared}
noncomputable abbrev eT(w:World):Bool:=w.params.followText "set-order"
noncomputable def orderOf(w:World)(S:Addr)(ep:Nat)(es:Array (Int×Value)):Array (Int×Value):=if eT w=true then pickOrder (w.params.setOrder S ep) es else es
theorem qi(w:World)(S:Addr)(ep:Nat)(es:Array (Int×Value)):List.Perm (orderOf w S ep es).toList es.toList:=by
 unfold orderOf;split
 ·exact AU _ _
 ·exact List.Perm.refl _
noncomputable def slotAt(w:World)(pl:List Nat):Nat->Nat
 |0=>0
 |i+1=>if eT w=true then 0 else pl.getD i 0+1
structure iZ(w:World)(o:Obj)(es:Array (Int×Value))(ep:Nat)(t:SetTable)(pl:List Nat):Prop where
 dat:o.data=.set es ep t
 cls:o.cls=.type "set"
 dum:t.dummies=#[]
 plain:t.plain=true
 led:t.led=!eT w
 place:t.place=pl.toArray
 ri:ZS.Ri pl
 lpl:pl.length=es.size
 room:es.size<=t.mask
 few:es.size<=300
noncomputable def k8(w:World)(S:Addr)(es:Array (Int×Value))(ep:Nat)(pl:List Nat)(i:Nat):Obj:={ cls:=.type "set_iterator",data:=.fields #[rawInt (slotAt w pl i:Nat),rawInt (i:Nat),.ref S,rawInt (es.size:Nat),rawInt (ep:Nat)] }
theorem iZ.fits(H:iZ w o es ep t pl):t.fits es.size=true:=
 fits_of H.dum (by rw[H.place];simpa using H.lpl) H.room
theorem zt(h:ZS.Ri pl)(hi:i<=pl.length)(hw:eT w=false):Qn pl.toArray (slotAt w pl i)=i:=by
 cases i with
 |zero=>exact ZS.zG
 |succ i=>
  show Qn pl.toArray (if eT w=true then 0 else pl.getD i 0+1)=i+1;rw[hw,Ot (by simp),Oc,gV (show i<pl.length by omega)];exact(ZS.nH h ⋯).1
theorem vE(H:iZ w o es ep t pl)(hS:s.heap.get? S=some o)(hi:i<=es.size)
  (h:Q (((orderOf w S ep es)[i]?).map λe=>(e.2,slotAt w pl (i+1))) s):wpAny (model prog w) A (setNext S (slotAt w pl i) i ep) Q E s:=by
 unfold setNext;refine ar (OU hS H.dat H.fits ?_);dsimp only;unfold setsByText;refine ar (ar (Sj (C0 ?_)));show wpAny _ _ (if eT w=true then _ else _) _ _ _;by_cases hb:eT w=true
 ·rw[Oe hb];refine Om (by simp) ?_;refine ar ?_;unfold setWalk;refine ar (OU hS H.dat H.fits ?_);dsimp only;unfold setsByText;refine ar (ar (Sj (C0 ?_)));show wpAny _ _ (if eT w=true then _ else _) _ _ _;rw[Oe hb];refine ar (Sj (C0 (C0 ?_)));have e1:orderOf w S ep es=pickOrder (w.params.setOrder S ep) es:=by unfold orderOf;rw[Oe hb]
  rw[e1]at h;have e2:slotAt w pl (i+1)=slotAt w pl i:=by
   cases i with
   |zero=>simp[slotAt,hb]
   |succ j=>simp[slotAt,hb]
  rw[e2]at h;exact h
 ·rw[Ot hb];have hbf:eT w=false:=by simpa using hb
  refine Om (by
   show decide ((!t.plain&&decide (es.size>1))=true)=false;rw[H.plain];rfl) ?_
  refine ar ?_;refine Om (by
   rw[H.led,hbf];rfl) (C0 (C0 ?_))
  have e1:orderOf w S ep es=es:=by unfold orderOf;rw[Ot hb]
  rw[e1]at h;have lpl:=H.lpl;rw[H.place,zt H.ri ⋯ hbf];by_cases hlt:i<es.size
  ·have a1:es[i]?=some es[i]:=by simp[hlt]
   have a2:pl.toArray[i]?=some (pl.getD i 0):=by
    rw[Qs,Oc,gV (show i<pl.length by omega)];rfl
   rw[a1]at h;rw[a1,a2];have e3:slotAt w pl (i+1)=pl.getD i 0+1:=by simp[slotAt,hb]
   rw[e3]at h;exact h
  ·have a1:es[i]?=none:=by simp;omega
   rw[a1]at h;rw[a1];exact h
theorem iZ.typeIs(H:iZ w o es ep t pl)(hS:s.heap.get? S=some o):s.TypeIs (.ref S) "set":=⟨o,hS,H.cls⟩
theorem zI(H:iZ w o es ep t pl)(hS:s.heap.get? S=some o)
  (h:Q (.ref s.heap.objs.size) { s with heap:=s.heap.push (k8 w S es ep pl 0) }):wpAny (model prog w) A (pyIter (.ref S)) Q E s:=by
 refine V_ (H.typeIs hS) WQ (Pe WQ (H.typeIs hS) rN ?_ (F.args_set_iter_1 _));unfold Builtin.«frozenset.__iter__»;refine ar ?_;unfold Yh slotArgs;refine ar (Om rfl (Om rfl (C0 ?_)));refine C0 ?_;refine ar ?_;unfold X_ setEntries;refine ar (ar (OU hS H.dat H.fits (C0 (C0 ?_))));refine ar ?_;unfold setDrawn;refine ar (OU hS H.dat H.fits ?_);dsimp only;unfold setsByText;refine ar (ar (Sj (C0 (C0 ?_))));refine Om (by
  show decide ((!eT w&&(!t.plain&&decide (es.size>1)))=true)=false;rw[H.plain];simp) ?_
 refine ar (C0 ?_);refine ar ?_;unfold setEpoch;refine ar (OU hS H.dat H.fits (C0 ?_));refine ar ?_;unfold newFields;exact Pp (C0 ⟨_,rfl,"set_iterator",_,⟨_,OA _ rfl,rfl⟩,aY.lookup,h⟩) (by first |size_fits |(intro _;decide) |decide)
end
section
variable{prog:Program}{w:World}{A:Around}{E:Value->Shared->Prop}{s:Shared}
theorem Ac{S I:Addr}{o:Obj}{es:Array (Int×Value)}{ep:Nat}{t:SetTable}{pl:List Nat}{i:Nat}{x:Int×Value}{Q:Value->Shared->Prop}(H:iZ w o es ep t pl)(hI:s.heap.get? I=some (k8 w S es ep pl i))(hS:s.heap.get? S=some o)(hx:(orderOf w S ep es)[i]?=some x)(hi:i<=es.size)
  (hQ:∀h',h'.get? I=some (k8 w S es ep pl (i+1))->OR I s.heap h'->Q x.2 { s with heap:=h' }) :
  wpAny (model prog w) A (Builtin.«set_iterator.__next__» ⟨[.ref I],[]⟩) (λfin s'=>∃v,fin=.done (.ret v)/\Q v s') E s:=by
 unfold Builtin.«set_iterator.__next__»;refine ar ?_;unfold slotArgs;refine Om rfl (Om rfl (C0 ?_));dsimp only;refine ar (W6 hI rfl ?_);refine(show wpAny _ _ (setEntries S>>=_) _ _ _ from ar ?_);unfold setEntries;refine ar (OU hS H.dat H.fits (C0 ?_));refine Om (by simp) ?_;refine(show wpAny _ _ (setNext S ((slotAt w pl i:Nat):Int).toNat ((i:Nat):Int).toNat ((ep:Nat):Int).toNat>>=_) _ _ _ from ar ?_);rw[O0,O0,O0];refine vE H hS hi ?_;rw[hx];dsimp only[YE];refine ar (PX hI (by simp) λh1 g1 e1=>?_);refine ar (PX g1 (by simp) λh2 g2 e2=>?_);refine C0 ⟨_,rfl,hQ h2 ?_ (e1.trans e2)⟩;rw[g2];rfl
theorem CT(hh:A.handled=none)(H:iZ w o es ep t pl)(hI:s.heap.get? I=some (k8 w S es ep pl i))(hS:s.heap.get? S=some o)(hx:(orderOf w S ep es)[i]?=none)(hi:i<=es.size)
  (hE:∀h' e,RU I s.heap h'->(∃o,h'.get? e=some o/\o.cls=.type "StopIteration")->E (.ref e) { s with heap:=h' }) :
  wpAny (model prog w) A (Builtin.«set_iterator.__next__» ⟨[.ref I],[]⟩) Q E s:=by
 unfold Builtin.«set_iterator.__next__»;refine ar ?_;unfold slotArgs;refine Om rfl (Om rfl (C0 ?_));dsimp only;refine ar (W6 hI rfl ?_);refine(show wpAny _ _ (setEntries S>>=_) _ _ _ from ar ?_);unfold setEntries;refine ar (OU hS H.dat H.fits (C0 ?_));refine Om (by simp) ?_;refine(show wpAny _ _ (setNext S ((slotAt w pl i:Nat):Int).toNat ((i:Nat):Int).toNat ((ep:Nat):Int).toNat>>=_) _ _ _ from ar ?_);rw[O0,O0,O0];refine vE H hS hi ?_;rw[hx];dsimp only[YE];refine ar (U2 hI rfl (by simp) ?_);refine(show wpAny _ _ (newExc (.type "StopIteration") []>>=_) _ _ _ from ar ?_);simp only[newExc,newTuple];refine ar (Pp (ar (m:=firstArgMember _ _) (RV (a:=Value.none) (by first |rfl |(simp only[firstArgMember];rfl)) (Pp ?_ (by size_fits)))) (by size_fits));simp only[raiseNew];refine ar (Xi ?_)
 first |rw[show A.in1.handled=none from hh] |rw[hh]
 exact ar (C0 (wpAny_throw (hE _ _ (((P7 ..).extBut.push _).push _) ⟨_,OA _ rfl,rfl⟩)))
theorem eK:Slot "set_iterator" (OS "__iter__") "set_iterator.__iter__":=Slot.of (owner:="set_iterator") (n:="__iter__") (by rw[Sv,Rg];rfl) (by decide+kernel) (by decide+kernel) (by decide+kernel) (Or.inl (by decide+kernel)) (by rw[W5];rfl) (by decide+kernel)
theorem jw:entryFor table "set_iterator.__iter__"=some Builtin.«dict_keyiterator.__iter__»:=U8 (id':="dict_keyiterator.__iter__") (by rfl) (by decide+kernel) (by decide+kernel) (by rfl)
theorem kq(a:Value):argsOk "set_iterator.__iter__" ⟨[a],[]⟩:=by
 have h:Vu "set_iterator.__iter__"=Wk (Vr (['_','_','r','e','t','i','_','_']:List Char).reverse) Sw:=Xp (o:=['r','o','t','a','r','e','t','i','_','t','e','s']) (by decide+kernel) gW;unfold argsOk;rw[h];rfl
theorem lB(w:World)(S:Addr)(ep:Nat)(es:Array (Int×Value)):(orderOf w S ep es).size=es.size:=by
 have:=(qi w S ep es).length_eq;simpa using this
theorem AN(hh:A.handled=none)(hne:S≠I)(H:iZ w o es ep t pl) :
  Walks prog w A I [I,S] [I] es.size (λi v=>∃x,(orderOf w S ep es)[i]?=some x/\v=x.2) (λi h=>h.get? I=some (k8 w S es ep pl i)/\h.get? S=some o)where
 sub:=λb hb=>by rw[Og.mp hb];simp
 frame:=λi h h' st hk=>⟨hk I (by simp) _ st.1,hk S (by simp) _ st.2⟩
 item:=λi s Q E hi st hQ=>by
  have hx:(orderOf w S ep es)[i]?=some ((orderOf w S ep es)[i]'(by rw[lB];exact hi)):=by rw[Qq]
  have hT:s.TypeIs (.ref I) "set_iterator":=⟨_,st.1,rfl⟩;unfold pyNext;refine ar (Sm (Pc (name:=OS "__next__") hT aY (Pe aY hT eJ ?_ (eQ _))));refine Ac H st.1 st.2 hx ⋯ λh' g1 e1=>C0 ?_;exact hQ _ h' s.toks ⟨_,hx,rfl⟩ ⟨g1,e1.extBut _ _ hne st.2⟩ λb o hb q=>e1.extBut b o (λz=>hb (by simp[z])) q
 done:=λs Q E st hQ=>by
  have hx:(orderOf w S ep es)[es.size]?=none:=by rw[Array.getElem?_eq_none_iff,lB];exact Oj _
  have hT:s.TypeIs (.ref I) "set_iterator":=⟨_,st.1,rfl⟩;unfold pyNext;refine ar (Sm (Pc (name:=OS "__next__") hT aY (Pe aY hT eJ ?_ (eQ _))));refine CT hh H st.1 st.2 hx (Oj _) λh' e ext he=>?_;obtain⟨o',ho',hc'⟩:=he;exact ar (Qu (T:="StopIteration") (b:=true) ⟨o',ho',hc'⟩ U4 (C0 (hQ _ s.toks λb o hb q=>ext b o (λz=>hb (by simp[z])) q)))
 self:=λi s Q E st h=>by
  have hT:s.TypeIs (.ref I) "set_iterator":=⟨_,st.1,rfl⟩;exact V_ hT eK (Pe eK hT jw (C0 ⟨_,rfl,"set_iterator",_,hT,aY.lookup,h⟩) (kq _))
theorem Gf(H:iZ w o es ep t pl) :
  PySem.W.KdlSrc prog w "set" S S es.size (λi v=>∃x,(orderOf w S ep es)[i]?=some x/\v=x.2) (λh=>h.get? S=some o)where
 type:=λs hs=>H.typeIs hs
 there:=λh hs=>⟨Ou hs,Ou hs⟩
 keep:=λh h' hs hk=>hk S (.inl rfl) o hs
 notList:=by decide
 notTuple:=by decide
 hint:=λA E s Q hs h=>Et (H.typeIs hs) h
 iter:=λA s hh hs=>⟨k8 w S es ep pl 0,λi h=>h.get? s.heap.objs.size=some (k8 w S es ep pl i)/\h.get? S=some o,λE Q hq=>zI H hs hq,
  AN hh (OE (Ou hs)) H,OA _ rfl,Od _ hs⟩
end
noncomputable def zK:Value->Int
 | .int k _=>k
 |_=>0
theorem intsAre_map:∀{vs:List Value}{ns:List Int},IntsAre vs ns->(∀v∈vs,∃k t,v=Value.int k t)/\ns=vs.map zK
 |_,_,.nil=>⟨by simp,rfl⟩
 |_,_,.cons n t r=>by
  obtain⟨h1,h2⟩:=intsAre_map r;refine⟨λv hv=>?_,by rw[Oq,<-h2];rfl⟩;rcases Ow.mp hv with z |z
  ·exact⟨n,t,z⟩
  ·exact h1 v z
theorem rH:∀(vs:List Value),(∀v∈vs,∃k t,v=Value.int k t)->IntsAre vs (vs.map zK)
 | [],_=>.nil
 |v::vs,h=>by
  obtain⟨k,t,rfl⟩:=h v (by simp);exact .cons k t (rH vs λu hu=>h u (by simp[hu]))
theorem wu(hp:List.Perm vs us)(r:IntsAre us ns):∃ms,IntsAre vs ms/\List.Perm ms ns:=by
 obtain⟨h1,h2⟩:=intsAre_map r;refine⟨vs.map zK,rH vs λv hv=>h1 v (hp.mem_iff.mp hv),?_⟩;rw[h2];exact hp.map zK
def nQ(N:Nat):Prop:=∀{prog:Program}{w:World}{A:Around}{E:Value->Shared->Prop}{s:Shared}{a:Addr}{vs:List Value}{ns:List Int}{n:Nat}{P:PySem.Fin->Shared->Prop},s.heap.get? a=some (seqObj "list" vs.toArray n)->IntsAre vs ns->vs.length<N->(∀(out:Array Value)(ns':List Int),IntsAre out.toList ns'->ns'.Perm ns->ns'.Pairwise (·<=·)->P (.done (.ret .none)) { s with heap:=sortedHeap s.heap a vs out })->wpAny (model prog w) A (Builtin.«list.sort» ⟨[.ref a],[]⟩) P E s
theorem Ao:nQ 64:=λho hI h64 h=>W7 ho hI h64 h
section
variable{prog:Program}{w:World}{A:Around}{E:Value->Shared->Prop}{s:Shared}
theorem zZ(T:nQ N)(hN:N<=301)(hh:A.handled=none)(hS:lP w s.heap S ks)(h64:ks.length<N)
  (h:∀(h':Heap)(tk:Nat)(out:Array Value)(ms:List Int)(l:Addr)(c:Nat),(∀b o,s.heap.get? b=some o->h'.get? b=some o)->S<l->h'.get? l=some (seqObj "list" out c)->IntsAre out.toList ms->ms.Pairwise (· <·)->(∀x,x∈ms↔x∈ks)->ms.length<=300->Q (.ref l) { s with heap:=h',toks:=tk }) :
  wpAny (model prog w) A (call (.builtin "sorted") [.ref S]) Q E s:=by
 obtain⟨o,es,ep,t,pl,g1,g2,g3,g4,g5,g6,g7,g8,g9,g10,g11,g12,g13⟩:=hS;obtain⟨g9,lpl,g14⟩:=g9;have lks:es.size=ks.length:=by
  have:=dH g10;rw[Oa,OM]at this;exact this
 have H:iZ w o es ep t pl:=⟨g3,g2.1,g5,g6,g7,g8,g9,by omega,by omega,by omega⟩;refine Sx Wl VS VT (VU _) ?_;unfold W8;refine ar ?_;unfold checkCount;refine Om rfl (Om rfl (Om rfl (C0 ?_)));refine ar (Vv (Gf H) hh g1 (PC H.few (Qb (dg (by decide)))) λh1 tk acc hk hacc=>?_);have hacc1:acc.toList=(orderOf w S ep es).toList.map Uo:=by
  refine Qo λi=>?_;by_cases hi:i<acc.size
  ·have e1:acc.toList[i]?=some acc[i]:=by simp[hi]
   obtain⟨x,hx,hv⟩:=hacc.2 i acc[i] (by simp[hi]);rw[e1,Ox];rw[show(orderOf w S ep es).toList[i]?=some x by simpa using hx];rw[hv];rfl
  ·rw[O2 (by simp;omega),O2];rw[Oa,OM,lB];have:=hacc.1;omega
 obtain⟨ns0,i1,i2⟩:=wu (vs:=acc.toList) (by rw[hacc1];exact(qi w S ep es).map Uo) g10;have l0:acc.toList.length=ks.length:=by rw[dH i1];exact i2.length_eq
 refine ar (T3 ?_ (by rw[l0];exact Qb (dg ⋯)));refine ar (OO ?_);have hat:(h1.push (seqObj "list" acc.toList.toArray 0)).get? h1.objs.size=some (seqObj "list" acc.toList.toArray 0):=OA _ rfl;refine Pe U_ ⟨_,hat,rfl⟩ UI ?_ (Va _);refine T hat i1 ⋯ λout ms r1 r2 r3=>⟨_,rfl,C0 ⟨_,rfl,?_⟩⟩;obtain⟨c,hc⟩:=Xq (out:=out) hat;have hnd:ms.Nodup:=r2.nodup_iff.mpr (i2.nodup_iff.mpr g12);refine h _ tk out ms h1.objs.size c ?_ ?_ hc r1 ?_ ?_ ?_
 ·intro b o' e;have e1:=hk b o' e;have hb:b<h1.objs.size:=Ou e1;rw[W9 (OE hb) (by rw[Qz];exact Rn hb)];exact Od _ e1
 ·exact Ou (hk S o g1)
 ·exact(YY r3 hnd).imp λz=>by have:=z.1;have:=z.2;omega
 ·intro x;rw[r2.mem_iff,i2.mem_iff]
 ·have:=r2.length_eq;have:=i2.length_eq;omega
end
end L2
namespace L2
open PySem PySem.Spec PyProof.Rows ZS
noncomputable def hT(ks:List Int):Int:=reduceHash (XJ (ks.map hashInt))
theorem Fj(ks:List Int):tupleKeyHash (intKind prog w) ks=hT ks:=rfl
section
variable{prog:Program}{w:World}{A:Around}{E:Value->Shared->Prop}{s:Shared}
theorem B9(hi:ItemsAre (intKind prog w) ks vs):∀v∈vs,∃n t,v=Value.int n t:=by
 induction hi with
 |nil=>intro v hv;cases hv
 | @cons k v' ks vs h1 _ ih=>
  intro v hv;rcases Ow.mp hv with rfl |hv
  ·obtain⟨t',e'⟩:=RZ (show Ql k v=true from h1);exact⟨k,t',e'⟩
  ·exact ih v hv
theorem mI(hk:IsTupleKey (intKind prog w) s.heap ks b)(h:Q false s):wpAny (model prog w) A (ofAClassStatement 8 (.ref b)) Q E s:=by
 have hT:=hk.typeIs;obtain⟨o,items,n,ho,_,hd,hi⟩:=hk;have hall:=B9 hi;unfold ofAClassStatement;refine ar (Qd hT ?_);dsimp only;refine PH rfl ?_;refine ar (C0 ?_);refine Om rfl ?_;refine ar (PU ho hd ?_);dsimp only;refine ar ?_;rw[<-Q_];refine Up _ (λrest(r:Option Bool×Unit) s'=>r.1=none/\s'=s/\∀v∈rest,∃n t,v=Value.int n t) _ ?_ ?_ _ _ ⟨rfl,rfl,hall⟩
 ·rintro v rest r s' ⟨hr,rfl,hal⟩;obtain⟨n,t,rfl⟩:=hal v (OY ..);rw[show ofAClassStatement 7 (.int n t)=pure false from rfl];refine ar (C0 ?_);exact Om rfl (C0 ⟨rfl,rfl,λu hu'=>hal u (OJ _ hu')⟩)
 ·rintro⟨r1,r2⟩ s' ⟨hr,rfl,_⟩;simp only at hr;subst hr;exact C0 h
theorem nZ{k:List Int}{b:Addr}{stored:List Value}{Q:Bool->Shared->Prop}(hk:IsTupleKey (intKind prog w) s.heap k b)(hst:∀v∈stored,∃k' b',v=Value.ref b'/\IsTupleKey (intKind prog w) s.heap k' b')(h:Q false s):wpAny (model prog w) A (searchCouldBeSeen (.ref b) stored) Q E s:=by
 unfold searchCouldBeSeen;refine ar ?_;refine Up _ (λrest(r:Option Bool×Unit) s'=>r.1=none/\s'=s/\∀v∈rest,∃k' b',v=Value.ref b'/\IsTupleKey (intKind prog w) s.heap k' b') _ ?_ ?_ _ _ ⟨rfl,rfl,hst⟩
 ·rintro v rest r s' ⟨hr,rfl,hal⟩;obtain⟨k',b',rfl,hk'⟩:=hal v (OY ..);have fin:(none:Option Bool)=none/\s'=s'/\∀v∈rest,∃k' b',v=Value.ref b'/\IsTupleKey (intKind prog w) s'.heap k' b':=⟨rfl,rfl,λu hu'=>hal u (OJ _ hu')⟩;dsimp only;by_cases hv:((b==b')||(carriedByValue (.ref b)&&carriedByValue (.ref b')))=true
  ·rw[Oe hv];exact C0 fin
  ·rw[Ot hv];refine ar (Vb hk ?_);refine Om rfl ?_;refine ar (Vb hk' ?_);refine Om rfl ?_;refine ar (mI hk ?_);refine Om rfl ?_;refine ar (mI hk' ?_);refine Om rfl ?_;exact C0 fin
 ·rintro⟨r1,r2⟩ s' ⟨hr,rfl,_⟩;simp only at hr;subst hr;exact C0 h
theorem oE(hk:IsTupleKey (intKind prog w) s.heap ks b)(h:∀c,Q c s):wpAny (model prog w) A (hashByValue 8 (.ref b)) Q E s:=by
 have hT:=hk.typeIs;obtain⟨o,items,n,ho,_,hd,hi⟩:=hk;unfold hashByValue;refine ar (UH hT F.slot_tuple_hash.lookup ?_);show wpAny _ _ (seqItems? (.ref b)>>=_) _ _ _;refine ar (PU ho hd ?_);refine ar ?_;show wpAny _ _ (forIn items (none,()) _) _ _ _;rw[<-Q_];refine Up _ (λrest(_:Option Bool×Unit) s'=>s'=s/\(∀v∈rest,v.scannable=true)) _ ?_ ?_ _ _ ⟨rfl,λv hv=>?_⟩
 ·rintro x rest c s' ⟨rfl,hr⟩;rw[U5 7 (hr x (OY ..))];refine ar (C0 ?_);cases plainKind x with
  |true=>exact Om rfl (C0 ⟨rfl,λv hv=>hr v (OJ _ hv)⟩)
  |false=>exact PH rfl (C0 (C0 (h false)))
 ·rintro c s' ⟨rfl,_⟩;dsimp only;split
  ·exact C0 (h _)
  ·exact C0 (h _)
 ·have:∀{ks:List Int}{vs:List Value},ItemsAre (intKind prog w) ks vs->∀v∈vs,v.scannable=true:=by
   intro ks vs hi
   induction hi with
   |nil=>intro v hv;cases hv
   | @cons k v' ks vs h1 _ ih=>
    intro v hv;rcases Ow.mp hv with rfl |hv
    ·obtain⟨t',e'⟩:=RZ (show Ql k v=true from h1);rw[e'];rfl
    ·exact ih v hv
  exact this hi v hv
theorem Bw(g1:s.heap.get? a=some o)(g3:o.data=.set es ep t)(hfit:t.fits es.size=true)(hodd:t.gaveWay=false)(g5:t.dummies=#[])(g8:t.place=pl.toArray)(g9:Ri pl)(lks:es.size=pl.length)
  (hu:A.units<cLine) (hk:IsTupleKey (intKind prog w) s.heap k b) (hent:∀e∈es.toList,∃k' b',k'≠k/\e=(hT k',Value.ref b')/\IsTupleKey (intKind prog w) s.heap k' b') :
  ∀(n fuel:Nat)(stand:Option SetTable.Probe),Rch t pl n (stand.getD (t.probeStart (hT k)))->Path t.mask pl (t.probeStart (hT k)) (stand.getD (t.probeStart (hT k)))->n<=10*O4 t.mask->n<fuel->(∀j,j∉pl->Rea t.mask pl (hT k) j->Q (.free j false) s)->wpAny (model prog w) A (setSearchFrom a (.ref b) (hT k) true fuel stand) Q E s:=by
 intro n
 induction n using Tj with
 |ind n ih=>
  intro fuel stand hq hpa hn hf hQ;obtain⟨fu,rfl⟩:∃f,fuel=f+1:=⟨fuel-1,by omega⟩;rw[setSearchFrom.eq_2];refine ar (OU g1 g3 hfit ?_);dsimp only;rw[hodd];refine Om rfl ?_;have key:=F6 g8 g9 g5 (hT k) (λi=>(es[i]?.map (·.1)).getD 0) n (10*O4 t.mask) _ hq hn;split
  case h_2 heq=>
   rcases key with⟨j,q',ej,_⟩ |⟨j,i,next,m,ej,_⟩
   ·exact(heq _ ej).elim
   ·exact(heq _ ej).elim
  case h_1 met heq=>
   rcases key with⟨j,q',ej,hjl,pa,eq'⟩ |⟨j,i,next,m,ej,r1,r2,r3,r4,r5,r6⟩
   ·have e:=ej.symm.trans heq;cases e;dsimp only;exact C0 (hQ _ hjl ⟨q',hpa.trans pa,eq'⟩)
   ·have e:=ej.symm.trans heq;cases e;dsimp only;have hi2:i<es.size:=by have:=(Ol.mp r1).1;omega
    obtain⟨k',b',hne,he,hk'⟩:=hent es[i] (by simp);have hes:es[i]?=some (hT k',Value.ref b'):=by rw[Qq hi2,he]
    by_cases hled:t.led=true
    ·rw[hled];refine Om rfl ?_;rw[hes];dsimp only;refine ar (OO (SD (knd:=intKind prog w) hu hk' hk ?_));rw[Oo hne];refine ar (OU g1 g3 hfit ?_);dsimp only;refine Om rfl ?_;rw[show t.sameMemory t.moves t.mask=some true by simp[Ss]];dsimp only;rw[Oe rfl,r3];dsimp only;rw[hes];dsimp only;refine ar (R_ ?_);refine ar (C0 ?_);rw[Oe rfl];dsimp only;refine Om rfl ?_;exact ih m r4 fu (some next) r5 (hpa.trans r6) ⋯ ⋯ hQ
    ·rw[Qv _ |>.mp hled];refine PH rfl (ar (nZ hk ?_ ?_))
     ·intro v hv;obtain⟨x,hx,rfl⟩:=Of.mp hv;obtain⟨k2,b2,_,e2,hk2⟩:=hent x (by
       have:=Rq.mp hx;exact Rq.mpr (Wu.mp this).1)
      rw[e2];exact⟨k2,b2,rfl,hk2⟩
     refine Om rfl ?_;rw[hes];dsimp only;refine ar (OO (SD (knd:=intKind prog w) hu hk' hk ?_));rw[Oo hne];refine ar (OU g1 g3 hfit ?_);dsimp only;refine Om rfl ?_;rw[show t.sameMemory t.moves t.mask=some true by simp[Ss]];dsimp only;rw[Oe rfl,r3];dsimp only;rw[hes];dsimp only;refine ar (R_ ?_);refine ar (C0 ?_);rw[Oe rfl];dsimp only;refine Om rfl ?_;exact ih m r4 fu (some next) r5 (hpa.trans r6) ⋯ ⋯ hQ
theorem pj:∀{ks ks':List Int}{vs:List Value},ItemsAre (intKind prog w) ks vs->ItemsAre (intKind prog w) ks' vs->ks=ks'
 |_,_,_,.nil,.nil=>rfl
 |_,_,_,.cons h r,.cons h' r'=>by
  rw[pj r r'];have e:=KeyKind.is_eq_decide (knd:=intKind prog w) h;rw[e]at h';rw[QX h']
theorem vK{a b:Addr}{o:Obj}{es:Array (Int×Value)}{ep:Nat}{t:SetTable}{pl:List Nat}{k:List Int}{Q:SetFound->Shared->Prop}(g1:s.heap.get? a=some o)(g3:o.data=.set es ep t)(hfit:t.fits es.size=true)(hodd:t.gaveWay=false)(g5:t.dummies=#[])(g8:t.place=pl.toArray)(g9:Ri pl)(lks:es.size=pl.length)
  (hu:A.units<cLine) (hk:IsTupleKey (intKind prog w) s.heap k b) (hent:∀e∈es.toList,∃k' b',e=(hT k',Value.ref b')/\IsTupleKey (intKind prog w) s.heap k' b') {i0:Nat} {b0:Addr} {q':SetTable.Probe} (h0:pl[i0]?=some q'.j) (he0:es[i0]?=some (hT k,Value.ref b0)) (hk0:IsTupleKey (intKind prog w) s.heap k b0) :
  ∀(n fuel:Nat)(stand:Option SetTable.Probe),Rch t pl n (stand.getD (t.probeStart (hT k)))->Path t.mask pl (stand.getD (t.probeStart (hT k))) q'->n<=10*O4 t.mask->n<fuel->Q (.there none) s->wpAny (model prog w) A (setSearchFrom a (.ref b) (hT k) true fuel stand) Q E s:=by
 intro n
 induction n using Tj with
 |ind n ih=>
  intro fuel stand hq hpa hn hf hQ;obtain⟨fu,rfl⟩:∃f,fuel=f+1:=⟨fuel-1,by omega⟩;rw[setSearchFrom.eq_2];refine ar (OU g1 g3 hfit ?_);dsimp only;rw[hodd];refine Om rfl ?_;have key:=GD g8 g9 (hT k) (λi=>(es[i]?.map (·.1)).getD 0) h0 (show((es[i0]?.map (·.1)).getD 0)=hT k by rw[he0];rfl) n (10*O4 t.mask) _ hq hn hpa;split
  case h_2 heq=>
   obtain⟨j,i,next,m,ej,_⟩:=key;exact(heq _ ej).elim
  case h_1 met heq=>
   obtain⟨j,i,next,m,ej,r1,r2,r3,r4,r5,r6⟩:=key
   ·have e:=ej.symm.trans heq;cases e;dsimp only;have hi2:i<es.size:=by have:=(Ol.mp r1).1;omega
    obtain⟨k',b',he,hk'⟩:=hent es[i] (by simp);have hes:es[i]?=some (hT k',Value.ref b'):=by rw[Qq hi2,he]
    by_cases hled:t.led=true
    ·rw[hled];refine Om rfl ?_;rw[hes];dsimp only;refine ar (OO (SD (knd:=intKind prog w) hu hk' hk ?_));by_cases heq2:k'=k
     ·rw[Oi heq2];refine ar (OU g1 g3 hfit ?_);dsimp only;exact PH rfl (C0 hQ)
     have r7:Path t.mask pl next q':=by
      rcases r6 with z |r6
      ·rw[z,he0]at hes;have hb:=T4 (RX (OV hes)).2;subst hb;obtain⟨o1,v1,n1,x1,x2,x3,x4⟩:=hk';obtain⟨o2,v2,n2,y1,y2,y3,y4⟩:=hk0;exact absurd (by
        rw[x1]at y1;cases y1;rw[x3]at y3;have:=(Ya y3).1;rw[this]at x4;exact pj x4 y4) heq2
      ·exact r6
     rw[Oo heq2];refine ar (OU g1 g3 hfit ?_);dsimp only;refine Om rfl ?_;rw[show t.sameMemory t.moves t.mask=some true by simp[Ss]];dsimp only;rw[Oe rfl,r3];dsimp only;rw[hes];dsimp only;refine ar (R_ ?_);refine ar (C0 ?_);rw[Oe rfl];dsimp only;refine Om rfl ?_;exact ih m r4 fu (some next) r5 r7 ⋯ ⋯ hQ
    ·rw[Qv _ |>.mp hled];refine PH rfl (ar (nZ hk ?_ ?_))
     ·intro v hv;obtain⟨x,hx,rfl⟩:=Of.mp hv;obtain⟨k2,b2,e2,hk2⟩:=hent x (by
       have:=Rq.mp hx;exact Rq.mpr (Wu.mp this).1)
      rw[e2];exact⟨k2,b2,rfl,hk2⟩
     refine Om rfl ?_;rw[hes];dsimp only;refine ar (OO (SD (knd:=intKind prog w) hu hk' hk ?_));by_cases heq2:k'=k
     ·rw[Oi heq2];refine ar (OU g1 g3 hfit ?_);dsimp only;exact PH rfl (C0 hQ)
     have r7:Path t.mask pl next q':=by
      rcases r6 with z |r6
      ·rw[z,he0]at hes;have hb:=T4 (RX (OV hes)).2;subst hb;obtain⟨o1,v1,n1,x1,x2,x3,x4⟩:=hk';obtain⟨o2,v2,n2,y1,y2,y3,y4⟩:=hk0;exact absurd (by
        rw[x1]at y1;cases y1;rw[x3]at y3;have:=(Ya y3).1;rw[this]at x4;exact pj x4 y4) heq2
      ·exact r6
     rw[Oo heq2];refine ar (OU g1 g3 hfit ?_);dsimp only;refine Om rfl ?_;rw[show t.sameMemory t.moves t.mask=some true by simp[Ss]];dsimp only;rw[Oe rfl,r3];dsimp only;rw[hes];dsimp only;refine ar (R_ ?_);refine ar (C0 ?_);rw[Oe rfl];dsimp only;refine Om rfl ?_;exact ih m r4 fu (some next) r5 r7 ⋯ ⋯ hQ
theorem eS(H:IsTupleKey (intKind prog w) h ks b)(k:∀o,h.get? b=some o->h'.get? b=some o):IsTupleKey (intKind prog w) h' ks b:=by
 obtain⟨o,items,n,g,r⟩:=H;exact⟨o,items,n,k o g,r⟩
def J7(m:Nat)(pl:List Nat)(es:Array (Int×Value)):Prop:=∀i j:Nat,pl[i]?=some j->∃e,es[i]?=some e/\Rea m pl e.1 j
def kc(prog:Program)(w:World)(P:Addr->Prop)(h:Heap)(a:Addr)(ks:List (List Int)):Prop:=
 ∃(o:Obj)(es:Array (Int×Value))(ep:Nat)(t:SetTable)(pl:List Nat),h.get? a=some o/\o.ExactSet/\o.data=.set es ep t/\cf t.mask=true/\t.dummies=#[] /\
  t.place=pl.toArray/\(Ri pl/\pl.length=ks.length/\ks.length*5<t.mask*3)/\es.size=ks.length/\ks.length<=300/\(∀e∈es.toList,∃k b,k∈ks/\e=(hT k,Value.ref b)/\b≠a/\P b/\IsTupleKey (intKind prog w) h k b)/\(∀k∈ks,∃b,(hT k,Value.ref b)∈es.toList/\b≠a/\P b/\IsTupleKey (intKind prog w) h k b)/\J7 t.mask pl es
theorem kc.at(H:kc prog w P h S ks)(k:∀b o,b=S\/P b->h.get? b=some o->h'.get? b=some o):kc prog w P h' S ks:=by
 obtain⟨o,es,ep,t,pl,g1,g2,g3,g4,g5,g6,g7,g8,g9,g10,g11,g12⟩:=H;refine⟨o,es,ep,t,pl,k S o (.inl rfl) g1,g2,g3,g4,g5,g6,g7,g8,g9,λe he=>?_,λx hx=>?_,g12⟩
 ·obtain⟨k',b,q1,q2,q3,q4,q5⟩:=g10 e he;exact⟨k',b,q1,q2,q3,q4,eS q5 λo e=>k b o (.inr q4) e⟩
 ·obtain⟨b,q1,q2,q3,q4⟩:=g11 x hx;exact⟨b,q1,q2,q3,eS q4 λo e=>k b o (.inr q3) e⟩
theorem CM(hu:A.units<cLine)(hS:kc prog w P s.heap a hs)(hba:b≠a)(hPb:P b)(hk:IsTupleKey (intKind prog w) s.heap ks b)(hnew:ks∉hs)(hl:hs.length<300)
  (h:∀(h':Heap)(tk:Nat),OR a s.heap h'->kc prog w P h' a (ks::hs)->Q true { s with heap:=h',toks:=tk }) :
  wpAny (model prog w) A (setAdd a (.ref b)) Q E s:=by
 obtain⟨o,es,ep,t,pl,g1,g2,g3,g4,g5,g8,⟨g9,lpl,g14⟩,lks,g13,g15,g16,g17⟩:=hS;have hmask:=iR g4;have hmk:7<=t.mask:=by
  have q:=g4;simp only[cf,PV,PY]at q;omega
 have hodd:t.gaveWay=false:=by
  have q:=g4;simp only[cf,PV,PY]at q;unfold Wv;rcases q with((q |q) |q) |q<;>rw[q]<;>rfl
 have hfit:t.fits es.size=true:=fits_of g5 (by rw[g8,lks];simpa using lpl) ⋯;unfold setAdd;refine OO (ar (VW (knd:=intKind prog w) hu hk ?_));rw[Fj];unfold setAddHashed;refine OO ?_;show wpAny _ _ (setAddHashedIn a (.ref b) _ (99999+1)) _ _ _;rw[setAddHashedIn.eq_2];refine ar (OU g1 g3 hfit ?_);show wpAny _ _ (if byScan (.ref b) es=true then _ else _) _ _ _;rw[Ot (show¬byScan (.ref b) es=true by simp[byScan,WR])];refine ar ?_;unfold setSearch;have hne:∀e∈es.toList,∃k' b',k'≠ks/\e=(hT k',Value.ref b')/\IsTupleKey (intKind prog w) s.heap k' b':=λe he=>by
  obtain⟨k',b',q1,q2,q3,q4,q5⟩:=g15 e he;exact⟨k',b',λz=>hnew (z▸q1),q2,q5⟩
 have htn:10*O4 t.mask<100000:=by
  have q:=g4;simp only[cf,PV,PY]at q;unfold O4;omega
 refine Bw (s:={ s with toks:=s.toks+(ks.length+1) }) g1 g3 hfit hodd g5 g8 g9 ⋯ hu hk hne (10*O4 t.mask) 100000 none (sV hmask ⋯ (hT ks)) (.refl _) (Oj _) htn λj hjl hrea=>?_
 ·dsimp only;refine ar (OU g1 g3 hfit ?_);obtain⟨p,hple,hpb,hpa,hpc⟩:=tB g9 j;have hp:Qn pl.toArray j=p:=hpb;have les0:es.size=pl.length:=by omega
  have riN:Ri (pl.take p++j::pl.drop p):=tR g9 hjl hpa hpc;have liN:(PR pl.toArray p j).toList=pl.take p++j::pl.drop p:=by
   have:=e9 pl.toArray p j (by simpa using hple);simpa using this
  have hput:t.put j=({ mask:=t.mask,place:=PR t.place p j,dummies:=#[],finger:=t.finger,led:=t.led,moves:=t.moves,plain:=t.plain },p):=by
   unfold X9;rw[g8,hp,g5];rfl
  rw[hput];dsimp only;have h1000:(1000:Nat)<=sizeLine:=Qb (dg (Oj 1000));have lpl':(pl.take p++j::pl.drop p).length=hs.length+1:=by simp;omega
  have les:(PR es p (hT ks,Value.ref b)).toList=es.toList.take p++(hT ks,Value.ref b)::es.toList.drop p:=e9 _ _ _ ⋯;generalize hes:PR es p (hT ks,Value.ref b)=es' at les;have lsz:es'.size=hs.length+1:=by
   rw[<-OM,les];simp;omega
  have i2:∀(h':Heap),(∀c o,c≠a->s.heap.get? c=some o->h'.get? c=some o)->∀e∈es'.toList,∃k c,k∈ks::hs/\e=(hT k,Value.ref c)/\c≠a/\P c/\IsTupleKey (intKind prog w) h' k c:=by
   intro h' hh e he;rw[les]at he;have old:∀e∈es.toList,∃k c,k∈ks::hs/\e=(hT k,Value.ref c)/\c≠a/\P c/\IsTupleKey (intKind prog w) h' k c:=λe he=>by
    obtain⟨k',c,q1,q2,q3,q4,q5⟩:=g15 e he;exact⟨k',c,OJ _ q1,q2,q3,q4,eS q5 λo e=>hh c o q3 e⟩
   rcases OI.mp he with z |z
   ·exact old e (Rv z)
   ·rcases Ow.mp z with z |z
    ·exact⟨ks,b,OY ..,z,hba,hPb,eS hk λo e=>hh b o hba e⟩
    ·exact old e (Sg z)
  have i3:∀(h':Heap),(∀c o,c≠a->s.heap.get? c=some o->h'.get? c=some o)->∀k∈ks::hs,∃c,(hT k,Value.ref c)∈es'.toList/\c≠a/\P c/\IsTupleKey (intKind prog w) h' k c:=by
   intro h' hh k hkm;rw[les];rcases Ow.mp hkm with z |z
   ·exact⟨b,by rw[z];simp,hba,hPb,eS (z▸hk) λo e=>hh b o hba e⟩
   ·obtain⟨c,q1,q2,q3,q4⟩:=g16 k z;refine⟨c,?_,q2,q3,eS q4 λo e=>hh c o q2 e⟩;rw[<-R8 p es.toList]at q1;rcases OI.mp q1 with w |w
    ·exact OZ _ w
    ·exact OT _ (OJ _ w)
  have i4:J7 t.mask (pl.take p++j::pl.drop p) es':=by
   have sub:∀x∈pl,x∈pl.take p++j::pl.drop p:=λx hx=>by
    rw[<-R8 p pl]at hx;rcases OI.mp hx with w |w
    ·exact OZ _ w
    ·exact OT _ (OJ _ w)
   have lt1:(pl.take p).length=p:=by rw[Pd];omega
   have lt2:(es.toList.take p).length=p:=by rw[Pd,OM];omega
   intro i j' hij;have ges:∀i:Nat,es'[i]?=(es.toList.take p++(hT ks,Value.ref b)::es.toList.drop p)[i]?:=λi=>by rw[<-les,PF]
   rw[ges];rcases V9 i p with z |z |z
   ·rw[OC ⋯,QP,Oe z]at hij;obtain⟨e,e1,e2⟩:=g17 i j' hij;refine⟨e,?_,e2.mono sub⟩;rw[OC ⋯,QP,Oe z,PF];exact e1
   ·subst z;rw[OP ⋯,lt1,Ti]at hij;cases hij;refine⟨_,by rw[OP ⋯,lt2,Ti];rfl,hrea.mono sub⟩
   ·rw[OP ⋯,lt1]at hij;obtain⟨d,rfl⟩:∃d,i=p+1+d:=⟨i-p-1,by omega⟩;rw[show p+1+d-p=d+1 by omega,SK,TL]at hij;obtain⟨e,e1,e2⟩:=g17 (p+d) j' hij;refine⟨e,?_,e2.mono sub⟩;rw[OP ⋯,lt2,show p+1+d-p=d+1 by omega,SK,TL,PF];exact e1
  have go:∀(t1:SetTable),t1.mask=t.mask->t1.dummies=#[]->t1.place=(pl.take p++j::pl.drop p).toArray->wpAny (model prog w) A (do
    storeSet a es' t1
    if(!false&&t1.tooFull)=true then do
     setRelay a (R9 (es.size+1))
     pure true
    else pure true) Q E { s with toks:=s.toks+(ks.length+1) }:=by
   intro t1 m1 m2 m5;have hfit':t1.fits es'.size=true:=fits_of m2 (by rw[m5,lsz];simpa using lpl') ⋯;have hfill:t1.fill=hs.length+1:=by
    unfold TZ;rw[m2,m5];simp only[Ov,lpl'];rfl
   have gN:(s.heap.update a (RM es' t1)).get? a=some { o with data:=.set es' (ep+1) t1 }:=by
    rw[<-W_ es' t1 g3];exact QM _ g1 (by rw[W_ es' t1 g3];rfl)
   have sbN:OR a s.heap (s.heap.update a (RM es' t1)):=P7 ..;refine ar (Wa (s:={ s with toks:=s.toks+(ks.length+1) }) g1 g3 ?_ (by rw[lsz];omega));by_cases hfull:(hs.length+1)*5<t.mask*3
   ·have hf0:(!false&&t1.tooFull)=false:=by
     unfold S6;rw[hfill,m1];simp;omega
    rw[hf0];refine Om rfl (C0 ?_);exact h _ _ sbN ⟨_,es',ep+1,t1,_,gN,g2,rfl,by rw[m1];exact g4,m2,m5,⟨riN,by rw[lpl',OB],by rw[OB,m1];exact hfull⟩,by rw[lsz,OB],by rw[OB];omega,i2 _ λc o hc e=>sbN.extBut c o hc e,i3 _ λc o hc e=>sbN.extBut c o hc e,by rw[m1];exact i4⟩
   ·have hf1:(!false&&t1.tooFull)=true:=by
     unfold S6;rw[hfill,m1];simp;omega
    rw[hf1];refine PH rfl (ar ?_);obtain⟨w1,w2⟩:=vM (t':=t1) (es':=es') (n:=hs.length+1) (by rw[m1];exact g4) lsz (by rw[m1];exact hfull) (by rw[m1];omega) ⋯;obtain⟨t2,order,l2,r1,r2,r3,r4,r5,r6,r7,r8,r9⟩:=Bj (t:=t1) (es:=es') (wanted:=R9 (hs.length+1)) (iR w1) (by rw[lsz];omega);generalize he2:UJ (λx=>es'[x]?) order=e2 at r2;have lsz2:e2.size=hs.length+1:=by rw[<-OM,r2.length_eq,OM,lsz]
    rw[lks];unfold setRelay;refine ar (OU gN rfl hfit' ?_);dsimp only;have hok:Px (R9 (hs.length+1))<=sizeLine:=by
     have q:=w1;simp only[cf,PV,PY]at q;omega
    refine Om (by simpa using hok) ?_;refine ar ?_;rw[r1];have gM:((s.heap.update a (RM es' t1)).update a (RM e2 t2)).get? a=some { o with data:=.set e2 (ep+1+1) t2 }:=by
     have hq:=W_ (o:={ o with data:=.set es' (ep+1) t1 }) e2 t2 rfl;rw[<-hq];exact QM _ gN (by rw[hq];rfl)
    refine(show wpAny _ _ (if((UJ (λx=>es'[x]?) order).size != es'.size)=true then _ else pure (UJ (λx=>es'[x]?) order,t2)) _ _ _ from ?_);rw[he2];refine Om (by rw[lsz2,lsz];simp) (C0 ?_);refine Wa gN rfl ?_ (by rw[lsz2];omega);refine C0 ?_;exact h _ _ (sbN.trans (P7 ..)) ⟨_,e2,ep+1+1,t2,l2,gM,g2,rfl,by rw[r7];exact w1,r6,r3,⟨r4,by rw[r5,lsz,OB],by rw[r7,OB];exact w2⟩,by rw[lsz2,OB],by rw[OB];omega,λe he=>i2 _ (λc o hc e=>(sbN.trans (P7 ..)).extBut c o hc e) e (r2.mem_iff.mp he),λk hk=>by
     obtain⟨c,q1,q2,q3,q4⟩:=i3 _ (λc o hc e=>(sbN.trans (P7 ..)).extBut c o hc e) k hk;exact⟨c,r2.mem_iff.mpr q1,q2,q3,q4⟩,by
     rw[<-he2];exact C5 (iR w1) (by rw[lsz];omega) r1 r3⟩
  by_cases hpl:t.plain=true
  ·rw[Oe hpl];refine ar (oE (s:={ s with toks:=s.toks+(ks.length+1) }) hk λc=>?_);cases c with
   |true=>exact go _ rfl rfl (by rw[<-liN,g8];rfl)
   |false=>exact go _ rfl rfl (by rw[<-liN,g8];rfl)
  ·rw[Ot hpl];refine ar (C0 ?_);exact go _ rfl rfl (by rw[<-liN,g8];rfl)
theorem Dw{a b:Addr}{P:Addr->Prop}{hs:List (List Int)}{ks:List Int}{Q:Bool->Shared->Prop}(hu:A.units<cLine)(hS:kc prog w P s.heap a hs)(hk:IsTupleKey (intKind prog w) s.heap ks b)(hold:ks∈hs)(h:∀tk:Nat,Q false { s with toks:=tk }) :
  wpAny (model prog w) A (setAdd a (.ref b)) Q E s:=by
 obtain⟨o,es,ep,t,pl,g1,g2,g3,g4,g5,g8,⟨g9,lpl,g14⟩,lks,g13,g15,g16,g17⟩:=hS;have hmask:=iR g4;have hmk:7<=t.mask:=by
  have q:=g4;simp only[cf,PV,PY]at q;omega
 have hodd:t.gaveWay=false:=by
  have q:=g4;simp only[cf,PV,PY]at q;unfold Wv;rcases q with((q |q) |q) |q<;>rw[q]<;>rfl
 have hfit:t.fits es.size=true:=fits_of g5 (by rw[g8,lks];simpa using lpl) ⋯;unfold setAdd;refine OO (ar (VW (knd:=intKind prog w) hu hk ?_));rw[Fj];unfold setAddHashed;refine OO ?_;show wpAny _ _ (setAddHashedIn a (.ref b) _ (99999+1)) _ _ _;rw[setAddHashedIn.eq_2];refine ar (OU g1 g3 hfit ?_);show wpAny _ _ (if byScan (.ref b) es=true then _ else _) _ _ _;rw[Ot (show¬byScan (.ref b) es=true by simp[byScan,WR])];refine ar ?_;unfold setSearch;have htn:10*O4 t.mask<100000:=by
  have q:=g4;simp only[cf,PV,PY]at q;unfold O4;omega
 obtain⟨b0,e0,_,_,hk0⟩:=g16 ks hold;obtain⟨i0,hi0⟩:=R6.mp e0;have hlt:=(Ol.mp hi0).1;rw[OM]at hlt;have hpl:pl[i0]?=some (pl[i0]'⋯):=gV _;obtain⟨e1,ee,q',pa,ej⟩:=g17 i0 _ hpl;rw[PF]at hi0;rw[hi0]at ee;cases ee;refine vK (s:={ s with toks:=s.toks+(ks.length+1) }) g1 g3 hfit hodd g5 g8 g9 ⋯ hu hk (λe he=>by
  obtain⟨k',b',q1,q2,q3,q4,q5⟩:=g15 e he;exact⟨k',b',q2,q5⟩) (i0:=i0) (b0:=b0) (q':=q') (by rw[hpl,ej]) hi0 hk0 (10*O4 t.mask) 100000 none (sV hmask ⋯ (hT ks)) pa (Oj _) htn ?_
 exact C0 (h _)
def Cz(ky:Nat->List Int)(i:Nat)(hs:List (List Int)):Prop:=hs.Nodup/\hs.length<=i/\∀x,x∈hs↔∃j,j<i/\ky j=x
theorem As{R:Result->Shared->Prop}{I:Addr}{fp wr:List Addr}{n:Nat}{P:Nat->Value->Prop}{St:Nat->Heap->Prop}(W:Walks prog w A.in1 I fp wr n P St)(S:Addr)(hSf:S∉fp)(ky:Nat->List Int)(ad:Nat->Addr)(hval:∀i v,P i v->i<n->v=Value.ref (ad i))(hn:n<=300)
  (hu:A.in1.units<cLine) (had:∀j,j<n->ad j≠S/\ad j∉wr) :
  ∀(k i:Nat)(s:Shared)(hs:List (List Int)),n-i=k->i<=n->St i s.heap->kc prog w (λb=>b≠S/\b∉wr) s.heap S hs->Cz ky i hs->(∀j,j<n->IsTupleKey (intKind prog w) s.heap (ky j) (ad j)) ->
   (∀(h':Heap)(tk:Nat)(hs':List (List Int)),(∀b o,b≠S->b∉wr->s.heap.get? b=some o->h'.get? b=some o)->kc prog w (λb=>b≠S/\b∉wr) h' S hs'->Cz ky n hs'->R (.ok (.ret .none)) { s with heap:=h',toks:=tk }) ->
   codeAny (model prog w) A (Code.builtin "set.update.loop" ⟨[.ref S,.ref I],[]⟩) R s:=by
 have hSw:S∉wr:=λh=>hSf (W.sub S h);intro k
 induction k with
 |zero=>
  intro i s hs hk hi hst hS hks hkey hR;have hin:i=n:=by omega
  subst hin;refine Qr RJ ?_;rw[QA Qh];refine(show wpAny _ _ (pyNext (.ref I)>>=_) _ _ _ from ar (W.done s _ _ hst λh' tk hk'=>?_));exact C0 (hR h' tk hs (λb o _ hw e=>hk' b o hw e) (hS.at λb o hb e=>hk' b o (hb.elim (λz=>z▸hSw) (·.2)) e) hks)
 |succ k ih=>
  intro i s hs hk hi hst hS hks hkey hR;refine Qr RJ ?_;rw[QA Qh];refine(show wpAny _ _ (pyNext (.ref I)>>=_) _ _ _ from ar (W.item i s _ _ ⋯ hst λv h' tk hP hst' hk'=>?_));have hv:=hval i v hP ⋯;subst hv;refine(show wpAny _ _ (holding [Value.ref (ad i)] (setAdd S (.ref (ad i)))>>=_) _ _ _ from ar (OO ?_));obtain⟨knd,klen,kmem⟩:=hks;have hS':=hS.at λb o hb e=>hk' b o (hb.elim (λz=>z▸hSw) (·.2)) e;have hki:=eS (hkey i ⋯) λo e=>hk' _ o (had i ⋯).2 e;by_cases hm:ky i∈hs
  ·refine Dw (s:={ s with heap:=h',toks:=tk }) hu hS' hki hm λtk2=>?_;refine C0 ⟨Sn Qh _,ih (i+1) _ hs ⋯ ⋯ hst' hS' ⟨knd,by omega,λx=>?_⟩ (λj hj=>eS (hkey j hj) λo e=>hk' _ o (had j hj).2 e) λh3 tk3 ks3 q1 q2 q3=>?_⟩
   ·rw[kmem];constructor
    ·rintro⟨j,h1,h2⟩;exact⟨j,by omega,h2⟩
    ·rintro⟨j,h1,h2⟩;rcases Yb j i with z |z
     ·exact⟨j,z,h2⟩
     ·have:j=i:=by omega
      subst this;rw[h2]at hm;exact(kmem x).mp hm
   ·exact hR h3 tk3 ks3 (λb o hb1 hb2 e=>q1 b o hb1 hb2 (hk' b o hb2 e)) q2 q3
  ·refine CM (s:={ s with heap:=h',toks:=tk }) hu hS' (had i ⋯).1 (had i ⋯) hki hm ⋯ λh2 tk2 sb hS2=>?_;refine C0 ⟨Sn Qh _,ih (i+1) _ (ky i::hs) ⋯ ⋯ ?_ hS2 ⟨OW.mpr ⟨hm,knd⟩,by simp;omega,λx=>?_⟩ ?_ λh3 tk3 ks3 q1 q2 q3=>?_⟩
   ·exact W.frame _ _ _ hst' λb hb' o e=>sb.extBut b o (λz=>hSf (z▸hb')) e
   ·rw[Ow,kmem];constructor
    ·rintro(rfl |⟨j,h1,h2⟩)
     ·exact⟨i,by omega,rfl⟩
     ·exact⟨j,by omega,h2⟩
    ·rintro⟨j,h1,h2⟩;rcases Yb j i with z |z
     ·exact .inr ⟨j,z,h2⟩
     ·have:j=i:=by omega
      subst this;exact .inl h2.symm
   ·intro j hj;exact eS (hkey j hj) λo e=>sb.extBut _ o (had j hj).1 (hk' _ o (had j hj).2 e)
   ·exact hR h3 tk3 ks3 (λb o hb1 hb2 e=>q1 b o hb1 hb2 (sb.extBut b o hb1 (hk' b o hb2 e))) q2 q3
noncomputable def uq:List (List Int)->List (List Int)
 | []=>[]
 |x::xs=>if x∈xs then uq xs else x::uq xs
theorem nU(x:List Int):∀l,x∈uq l↔x∈l
 | []=>Iff.rfl
 |y::l=>by
  unfold uq;by_cases h:y∈l
  ·rw[Oe h,nU x l,Ow];exact⟨.inr,λz=>z.elim (λe=>e▸h) id⟩
  ·rw[Ot h,Ow,Ow,nU x l]
theorem pF:∀l,(uq l).Nodup
 | []=>QB
 |y::l=>by
  unfold uq;by_cases h:y∈l
  ·rw[Oe h];exact pF l
  ·rw[Ot h];exact OW.mpr ⟨λz=>h ((nU y l).mp z),pF l⟩
theorem EM:∀l,(uq l).length<=l.length
 | []=>Oj _
 |y::l=>by
  have:=EM l;unfold uq;by_cases h:y∈l
  ·rw[Oe h];simp;omega
  ·rw[Ot h];simp;omega
theorem A9:∀{l:List (List Int)},(uq l).length=l.length↔l.Nodup
 | []=>by simp[uq]
 |y::l=>by
  have ih:=A9 (l:=l);have le:=EM l;unfold uq;rw[OW];by_cases h:y∈l
  ·rw[Oe h];exact⟨λe=>by simp at e;omega,λe=>absurd h e.1⟩
  ·rw[Ot h,OB,OB];exact⟨λe=>⟨h,ih.mp ⋯⟩,λe=>by rw[ih.mpr e.2]⟩
theorem bL:∀{a b:List (List Int)},a.Nodup->(∀x∈a,x∈b)->a.length<=b.length
 | [],_,_,_=>QF _
 |x::a,b,h,hs=>by
  obtain⟨h1,h2⟩:=OW.mp h;have hx:=hs x (OY ..);have:=bL (a:=a) (b:=b.erase x) h2 λy hy=>(Tn (λz:y=x=>h1 (by rw[<-z];exact hy))).mpr (hs y (OJ _ hy));rw[Uq hx]at this;have:=Q9 hx;simp only[OB];omega
theorem CV(h:Cz (λi=>ts.getD i []) ts.length ks):ks.length=(uq ts).length:=by
 obtain⟨h1,_,h3⟩:=h;have mem:∀x,x∈ks↔x∈ts:=λx=>by
  rw[h3];constructor
  ·rintro⟨j,hj,rfl⟩;show ts.getD j []∈ts;rw[Oc,gV hj];exact O5 hj
  ·intro hx;obtain⟨j,hj,rfl⟩:=O1.mp hx;exact⟨j,hj,by show ts.getD j []=ts[j];rw[Oc,gV hj];rfl⟩
 exact WS (bL h1 λx hx=>(nU x ts).mpr ((mem x).mp hx)) (bL (pF ts) λx hx=>(mem x).mpr ((nU x ts).mp hx))
def Fy(w:World)(h:Heap)(a:Addr)(ks:List (List Int)):Prop:=
 ∃(o:Obj)(es:Array (Int×Value))(ep:Nat)(t:SetTable),h.get? a=some o/\o.ExactSet/\o.data=.set es ep t/\t.fits es.size=true/\es.size=ks.length/\ks.length<=300
theorem kc.x(H:kc prog w P h S ks):Fy w h S ks:=by
 obtain⟨o,es,ep,t,pl,g1,g2,g3,g4,g5,g8,⟨g9,g10,g11⟩,g12,g13,g15,_⟩:=H;exact⟨o,es,ep,t,g1,g2,g3,fits_of g5 (by rw[g8,g12];simpa using g10) ⋯,g12,g13⟩
theorem y9{l:Addr}{items:Array Value}{Q:Value->Shared->Prop}(hh:A.handled=none)(k:Bool)(hl:nW s.heap l items k)(ts:List (List Int))(ads:List Addr)(hi:items.toList=ads.map Value.ref)(hl2:ads.length=ts.length)(hn:ts.length<=300)(hu:A.in1.in1.in1.units<cLine)(hkey:∀j,j<ts.length->IsTupleKey (intKind prog w) s.heap (ts.getD j []) (ads.getD j 0))
  (h:∀(h':Heap)(tk:Nat)(ks:List (List Int)),Fy w h' s.heap.objs.size ks->ks.length=(uq ts).length->(∀b o,s.heap.get? b=some o->h'.get? b=some o)->Q (.ref s.heap.objs.size) { s with heap:=h',toks:=tk }):wpAny (model prog w) A (call (.type "set") [.ref l]) Q E s:=by
 refine tK hh k hl λhp o St R e W h0 hSf hR=>?_;have lit:items.size=ts.length:=by rw[<-OM,hi,Oa,hl2]
 have up:∀{b o'},s.heap.get? b=some o'->hp.get? b=some o':=λe'=>e▸Od _ e';refine As W _ hSf (λi=>ts.getD i []) (λi=>ads.getD i 0) (λi v hv hin=>?_) ⋯ hu (λj hj=>?_) items.size 0 _ [] ⋯ (QF _) h0 ⟨_,#[],0,_,[],Od _ (e▸OA _ rfl),⟨rfl,rfl,rfl⟩,rfl,(show cf 7=true by decide),rfl,rfl,⟨List.Pairwise.nil,rfl,(show 0*5<7*3 by decide)⟩,rfl,by simp,by simp,by simp,λi j z=>by cases z⟩ ⟨QB,Oj _,λx=>Iff.intro (λz=>absurd z (by simp)) λ⟨j,z,_⟩=>absurd z (Nat.not_lt_zero j)⟩ (λj hj=>eS (hkey j ⋯) λo e=>Od _ (up e)) λh' tk' ks' q1 q2 q3=>hR h' tk' (h h' tk' ks' q2.x (CV (by rw[<-lit];exact q3)) λb o' e'=>?_)
 ·have q:items.toList[i]?=some v:=by simpa using hv
  rw[hi,Ox]at q;rw[Oc];cases e:ads[i]? with
  |none=>rw[e]at q;cases q
  |some x=>rw[e]at q;exact(OV q).symm
 ·obtain⟨o',it',n',g,_⟩:=hkey j ⋯;refine⟨OE (Ou g),λhm=>?_⟩;simp only[Og]at hm;exact Pt _ (hm▸Ou (up g))
 ·exact q1 b o' (OE (Ou e')) (by simp only[Og];exact OE (Ou (up e'))) (Od _ (up e'))
end
section
variable{m:Type}[DecidableEq m]
noncomputable def ig(kvs:List (m×V))(k:m):Option V:=(kvs.find? λkv=>decide (kv.1=k)).map (·.2)
noncomputable def putK(kvs:List (m×V))(k:m)(v:V):List (m×V):=
 if(kvs.any λkv=>decide (kv.1=k))=true then kvs.map (λkv=>if kv.1=k then(kv.1,v)else kv)else kvs++[(k,v)]
theorem ma{p:m×V}{r:List (m×V)}{k:m}(e:p.1=k):ig (p::r) k=some p.2:=by simp[ig,Py,e]
theorem jl{p:m×V}{r:List (m×V)}{k:m}(e:¬p.1=k):ig (p::r) k=ig r k:=by simp[ig,Py,e]
theorem wD(k:m):∀kvs:List (m×V),(kvs.any λkv=>decide (kv.1=k))=(ig kvs k).isSome
 | []=>rfl
 |p::r=>by
  rw[Q4];by_cases e:p.1=k
  ·simp only[ma e,Oi e,Yc,Option.isSome_some]
  ·rw[jl e,Oo e,Xr];exact wD k r
theorem kg(kvs:List (m×V))(k:m)(v:V):(putK kvs k v).length<=kvs.length+1:=by
 unfold putK;split
 ·rw[Oa];omega
 ·rw[Pj,OB,Qf];omega
theorem gF.hG{o:Option V}{u:Option Value}(r:gF o u):o.isSome=u.isSome:=by
 cases o with
 |none=>cases u with
  |none=>rfl
  |some _=>exact(show False from r).elim
 |some _=>cases u with
  |none=>exact(show False from r).elim
  |some _=>rfl
theorem gF.getD{o:Option V}{u:Option Value}{d:V}{d':Value}(r:gF o u)(rd:RelV d d'):RelV (o.getD d) (u.getD d'):=by
 cases o with
 |none=>cases u with
  |none=>exact rd
  |some _=>exact(show False from r).elim
 |some _=>cases u with
  |none=>exact(show False from r).elim
  |some _=>exact r
theorem KV.val{kvs:List (m×V)}{vs:List (m×Value)}(r:KV kvs vs)(k:m):gF (ig kvs k) (valueAt vs k):=by
 unfold KV at r
 induction r with
 |nil=>exact True.intro
 | @cons p q ps qs h t ih=>
  obtain⟨h1,h2⟩:=h;by_cases e:p.1=k
  ·have e':q.1=k:=h1.symm.trans e;have b:valueAt (q::qs) k=some q.2:=by simp[valueAt,Py,e']
   rw[ma e,b];exact h2
  ·have e':¬q.1=k:=λz=>e (h1.trans z);have b:valueAt (q::qs) k=valueAt qs k:=by simp[valueAt,Py,e']
   rw[jl e,b];exact ih
theorem KV.any{kvs:List (m×V)}{vs:List (m×Value)}(r:KV kvs vs)(k:m):(kvs.any λkv=>decide (kv.1=k))=vs.any λkv=>decide (kv.1=k):=by
 unfold KV at r
 induction r with
 |nil=>rfl
 |cons h t ih=>rw[Q4,Q4,ih,h.1]
theorem KV.DV{kvs:List (m×V)}{vs:List (m×Value)}(r:KV kvs vs)(k:m){y:V}{u:Value}(ry:RelV y u) :
  KV (kvs.map λkv=>if kv.1=k then(kv.1,y)else kv) (vs.map λkv=>if kv.1=k then(kv.1,u)else kv):=by
 unfold KV at r ⊢
 induction r with
 |nil=>exact .nil
 | @cons p q ps qs h t ih=>
  rw[Oq,Oq];refine .cons ?_ ih;obtain⟨h1,h2⟩:=h;by_cases e:p.1=k
  ·rw[Oe e,Oe (h1.symm.trans e)];exact⟨h1,ry⟩
  ·rw[Ot e,Ot (λz=>e (h1.trans z))];exact⟨h1,h2⟩
theorem KV.put{kvs:List (m×V)}{vs:List (m×Value)}(r:KV kvs vs)(k:m){y:V}{u:Value}(ry:RelV y u):KV (putK kvs k y) (stored vs k u):=by
 unfold putK stored;rw[r.any k];by_cases e:(vs.any λkv=>decide (kv.1=k))=true
 ·rw[Oe e,Oe e];exact r.DV k ry
 ·rw[Ot e,Ot e];exact Yj r ⟨rfl,ry⟩
theorem KV.length{kvs:List (m×V)}{vs:List (m×Value)}(r:KV kvs vs):kvs.length=vs.length:=TR r
end
theorem iI{P:Program}{w:World}{k:Key}{u:Value}(r:RelV (kV k) u):(aK P w).is k u=true:=by
 cases k with
 |inl i=>obtain⟨t,e⟩:=(show∃t,u=Value.int i t from r);subst e;exact xg P w i t
 |inr x=>obtain⟨t,e⟩:=(show∃t,u=Value.str x t from r);subst e;exact wX P w x t
theorem s_{P:Program}{w:World}:∀{ks:List Key}{us:List Value},Vals (ks.map kV) us->ItemsAre (aK P w) ks us
 | [],_,r=>by rw[Tb]at r;cases r;exact .nil
 |k::ks,_,r=>by
  rw[Oq]at r;cases r with
  |cons h t=>exact .cons (iI h) (s_ t)
abbrev KT(H:Hp):List (List Key×V)->List (List Key×Addr×Value)->Prop:=Paired λp q=>p.1=q.1/\H q.2.1=some (.tup (p.1.map kV))/\RelV p.2 q.2.2
theorem KT.val{H:Hp}{kvs:List (List Key×V)}{xs:List (List Key×Addr×Value)}(r:KT H kvs xs)(k:List Key):gF (ig kvs k) ((atKey xs k).map (·.2)):=by
 induction r with
 |nil=>exact True.intro
 | @cons p q ps qs h t ih=>
  obtain⟨h1,_,h2⟩:=h;by_cases e:p.1=k
  ·have e':q.1=k:=h1.symm.trans e;have b:atKey (q::qs) k=some q.2:=by simp[atKey,Py,e']
   rw[ma e,b];exact h2
  ·have e':¬q.1=k:=λz=>e (h1.trans z);have b:atKey (q::qs) k=atKey qs k:=by simp[atKey,Py,e']
   rw[jl e,b];exact ih
theorem KT.DV{H:Hp}{kvs:List (List Key×V)}{xs:List (List Key×Addr×Value)}(r:KT H kvs xs)(k:List Key){y:V}{u:Value}(ry:RelV y u) :
  KT H (kvs.map λkv=>if kv.1=k then(kv.1,y)else kv) (xs.map (putAt k u)):=by
 induction r with
 |nil=>exact .nil
 | @cons p q ps qs h t ih=>
  rw[Oq,Oq];refine .cons ?_ ih;obtain⟨h1,h2,h3⟩:=h;unfold putAt;by_cases e:p.1=k
  ·rw[Oe e,Oe (h1.symm.trans e)];exact⟨h1,h2,ry⟩
  ·rw[Ot e,Ot (λz=>e (h1.trans z))];exact⟨h1,h2,h3⟩
theorem KT.put{H:Hp}{kvs:List (List Key×V)}{xs:List (List Key×Addr×Value)}(r:KT H kvs xs)(k:List Key){b:Addr}{y:V}{u:Value}(hb:H b=some (.tup (k.map kV)))(ry:RelV y u) :
  KT H (putK kvs k y) (storedH xs k b u):=by
 have e:(kvs.any λkv=>decide (kv.1=k))=(atKey xs k).isSome:=by
  rw[wD,(r.val k).hG,T9]
 unfold putK storedH;rw[e];by_cases q:(atKey xs k).isSome=true
 ·rw[Oe q,Oe q];exact r.DV k ry
 ·rw[Ot q,Ot q];exact Yj r ⟨rfl,hb,ry⟩
theorem KT.keeps{H H':Hp}{kvs:List (List Key×V)}{xs:List (List Key×Addr×Value)}(r:KT H kvs xs)(ht:∀b ys,H b=some (.tup ys)->H' b=some (.tup ys)):KT H' kvs xs:=
 Paired.C2 r λ_ _ z=>⟨z.1,ht _ _ z.2.1,z.2.2⟩
section
variable{P:Program}{w:World}{H:Hp}{h:Heap}{a:Addr}
theorem Ft{u:HO}(ok:HOk P w H h)(e:Rd H a u):aV P w H h a u:=e.ok ok
theorem ly{kvs:List (Key×V)}(ok:HOk P w H h)(e:Rd H a (.dK kvs)):kvs.length<=sizeLine/\(a==sysModules)=false/\∃vs,KV kvs vs/\h.DictOf (aK P w) a vs:=
 show aV P w H h a (.dK kvs)from Ft ok e
theorem Fb{kvs:List (Key×V)}(ok:HOk P w H h)(e:H a=some (.dK kvs)):kvs.length<=sizeLine/\(a==sysModules)=false/\∃vs,KV kvs vs/\h.DictOf (aK P w) a vs:=ly ok (.inl e)
theorem kQ{ks:List Key}(ok:HOk P w H h)(e:H a=some (.tup (ks.map kV))):(tupleKind (aK P w)).is h ks a:=by
 obtain⟨_,its,r,o,h1,h2,n,h3⟩:=(show aV P w H h a (.tup (ks.map kV))from ok a _ e);exact⟨o,its.toArray,n,h1,h2,h3,by simpa using s_ r⟩
theorem lM{kvs:List (List Key×V)}(ok:HOk P w H h)(e:Rd H a (.dT kvs)):kvs.length<=sizeLine/\(a==sysModules)=false /\
  ∃xs,KT H kvs xs/\h.DictOfH (tupleKind (aK P w)) a xs:=by
 obtain⟨z,y,xs,r,o,es,ep,h1,h2,h3,h4,h5⟩:=(show aV P w H h a (.dT kvs)from Ft ok e);refine⟨z,y,xs,r,o,es,ep,h1,h2,h3,h4,λx hx=>?_,h5⟩;have all:∀{l:List (List Key×V)}{m:List (List Key×Addr×Value)},KT H l m->∀x∈m,(tupleKind (aK P w)).is h x.1 x.2.1:=by
  intro l m q
  induction q with
  |nil=>intro x hx;exact nomatch hx
  | @cons p q ps qs hq t ih=>
   intro x hx;rcases Ow.mp hx with e |hx
   ·subst e;exact kQ ok (by rw[<-hq.1];exact hq.2.1)
   ·exact ih x hx
 exact all r x hx
theorem Lj{kvs:List (List Key×V)}(ok:HOk P w H h)(e:H a=some (.dT kvs)):kvs.length<=sizeLine/\(a==sysModules)=false /\
  ∃xs,KT H kvs xs/\h.DictOfH (tupleKind (aK P w)) a xs:=lM ok (.inl e)
end
def l8(H:Hp)(a:Addr)(y:V)(r:Option V):Prop:=
 (∃kvs k,Rd H a (.dK kvs)/\y=kV k/\r=ig kvs k)\/∃kvs k b,Rd H a (.dT kvs)/\y=.ref b/\H b=some (.tup (k.map kV))/\r=ig kvs k
def vH(H:Hp)(a:Addr)(y v:V)(H':Hp):Prop:=
 (∃kvs k,H a=some (.dK kvs)/\y=kV k/\kvs.length<sizeLine/\H'=upd H a (.dK (putK kvs k v))) \/
 ∃kvs k b,H a=some (.dT kvs)/\y=.ref b/\H b=some (.tup (k.map kV))/\kvs.length<sizeLine/\H'=upd H a (.dT (putK kvs k v))
theorem vH.k{H:Hp}{a:Addr}{kvs:List (Key×V)}{k:Key}{v:V}(e:H a=some (.dK kvs))(hl:kvs.length<sizeLine):vH H a (kV k) v (upd H a (.dK (putK kvs k v))):=.inl ⟨kvs,k,e,rfl,hl,rfl⟩
section
variable{X:Cx}{pins:List (Addr×Obj)}{σ:St}{H:Hp}{s:Shared}{a:Addr}{y v:V}{u r:Value}{o:Option V}{A:Around}{E:Value->Shared->Prop}
theorem Inv.big(I:Inv X pins σ H s):sysModules<s.heap.objs.size:=by
 have h:mainGlobals<s.heap.objs.size:=(I.mod.glob.keeps I.bk).lt;exact VX (by decide) h
theorem Ab{Q:Value->Shared->Prop}(hu:A.units+1<cLine)(I:Inv X pins σ H s)(g:l8 H a y (some v))(ry:RelV y u)(h:∀w' s',Inv X pins σ H s'->RelV v w'->Q w' s') :
  wpAny (model X.prog X.w) A (getItem (.ref a) u) Q E s:=by
 rcases g with⟨kvs,k,e,ey,l⟩ |⟨kvs,k,b,e,ey,eb,l⟩
 ·subst ey;obtain⟨z,hd,vs,rel,dd⟩:=ly I.hok e;obtain⟨w',hw,rw'⟩:=gF.some_of (v:=v) (o:=valueAt vs k) (by rw[l];exact rel.val k);exact wpAny_getItem_of (iI ry) dd.mapOf hw (h w' _ (I.tok _) rw')
 ·subst ey;cases(show u=Value.ref b from ry);obtain⟨z,hd,xs,rel,dd⟩:=lM I.hok e;obtain⟨w',hw,rw'⟩:=gF.some_of (v:=v) (o:=(atKey xs k).map (·.2)) (by rw[l];exact rel.val k);obtain⟨p,hp,hp2⟩:=PB.mp hw;refine wpAny_getItem_heap (RN hu) (kQ I.hok eb) dd hp ?_;rw[hp2];exact h w' _ (I.tok _) rw'
theorem NP{Q:Value->Shared->Prop}(hu:A.units+1<cLine)(I:Inv X pins σ H s)(g:l8 H a y o)(ry:RelV y u)(h:∀s',Inv X pins σ H s'->Q (.bool o.isSome) s') :
  wpAny (model X.prog X.w) A (compareOp .In u (.ref a)) Q E s:=by
 rcases g with⟨kvs,k,e,ey,l⟩ |⟨kvs,k,b,e,ey,eb,l⟩
 ·subst ey;obtain⟨z,hd,vs,rel,dd⟩:=ly I.hok e;refine wpAny_in_of (iI ry) hd dd.mapOf ?_;rw[<-(rel.val k).hG,<-l];exact h _ (I.tok _)
 ·subst ey;cases(show u=Value.ref b from ry);obtain⟨z,hd,xs,rel,dd⟩:=lM I.hok e;refine wpAny_in_heap (RN hu) (kQ I.hok eb) hd dd ?_;have q:=(rel.val k).hG;rw[T9]at q;rw[<-q,<-l];exact h _ (I.tok _)
theorem G_{Q:Value->Shared->Prop}(hu:A.units+1<cLine)(I:Inv X pins σ H s)(g:l8 H a y o)(ry:RelV y u)(h:∀s',Inv X pins σ H s'->Q (.bool (!o.isSome)) s') :
  wpAny (model X.prog X.w) A (compareOp .NotIn u (.ref a)) Q E s:=by
 rcases g with⟨kvs,k,e,ey,l⟩ |⟨kvs,k,b,e,ey,eb,l⟩
 ·subst ey;obtain⟨z,hd,vs,rel,dd⟩:=ly I.hok e;refine wpAny_notIn_of (iI ry) hd dd.mapOf ?_;rw[<-(rel.val k).hG,<-l];exact h _ (I.tok _)
 ·subst ey;cases(show u=Value.ref b from ry);obtain⟨z,hd,xs,rel,dd⟩:=lM I.hok e;refine wpAny_notIn_heap (RN hu) (kQ I.hok eb) hd dd ?_;have q:=(rel.val k).hG;rw[T9]at q;rw[<-q,<-l];exact h _ (I.tok _)
theorem se{h':Heap}{t':Nat}{ob:HO}(I:Inv X pins σ H s)(mu:Mut (H a))(hs:OR a s.heap h')(he:∃q,h'.get? a=some q)(new:aV X.prog X.w (upd H a ob) h' a ob) :
  Inv X pins σ (upd H a ob) { s with heap:=h',toks:=t' }:=
 I.write (x:=a) (e:=a) mu (.inl rfl) (λb q hb z=>(hs.2 b hb).trans z) he new
theorem rG{P:Program}{w:World}{H':Hp}{h':Heap}{kvs:List (Key×V)}{vs:List (Key×Value)}(z:kvs.length<=sizeLine)(hd:(a==sysModules)=false)(rel:KV kvs vs)(dd:h'.DictOf (aK P w) a vs) :
  aV P w H' h' a (.dK kvs):=⟨z,hd,vs,rel,dd⟩
theorem Ce{H':Hp}{Q:Unit->Shared->Prop}(hu:A.units+1<cLine)(I:Inv X pins σ H s)(g:vH H a y v H')(ry:RelV y u)(rv:RelV v r)(h:∀s',Inv X pins σ H' s'->Q () s') :
  wpAny (model X.prog X.w) A (setItem (.ref a) u r) Q E s:=by
 rcases g with⟨kvs,k,e,ey,l,eH⟩ |⟨kvs,k,b,e,ey,eb,l,eH⟩
 ·subst ey eH;obtain⟨z,hd,vs,rel,dd⟩:=Fb I.hok e;have hz:vs.length<=sizeLine:=by rw[<-rel.length];exact z
  have hl:(putK kvs k v).length<=sizeLine:=by have:=kg kvs k v;omega
  refine wpAny_setItem_pairs (hsz:=hz) (iI ry) dd λh' dd' hs=>h _ ?_;have he:∃q,h'.get? a=some q:=let⟨q,_,_,hq,_⟩:=dd';⟨q,hq⟩;exact se I (by rw[e];exact True.intro) hs he (rG hl hd (rel.put k rv) dd')
 ·subst ey eH;cases(show u=Value.ref b from ry);obtain⟨z,hd,xs,rel,dd⟩:=Lj I.hok e;have hz:xs.length<=sizeLine:=by rw[<-TR rel];exact z
  have hl:(putK kvs k v).length<=sizeLine:=by have:=kg kvs k v;omega
  refine wpAny_setItem_heap (hsz:=hz) (RN hu) (kQ I.hok eb) dd λh' dd' hs=>h _ ?_;obtain⟨q,es,ep,hq,h2,h3,h4,_,h5⟩:=dd';refine se I (by rw[e];exact True.intro) hs ⟨q,hq⟩ ⟨hl,hd,_,(rel.put k eb rv).keeps λc ys ec=>?_,q,es,ep,hq,h2,h3,h4,h5⟩;rw[aw (MN ec e (λz=>nomatch z))];exact ec
end
def DC(i:Expr):Prop:=∀ov iv,subscripted i false ov iv=operate [ov,iv] (getItem ov iv)
theorem G5{prog:Program}{w:World}{A:Around}{E:Value->Shared->Prop}{s:Shared}{env:Env}{value slice:Expr}{pos:Pos}{T id:String}{Q:Value->Shared->Prop}
    (hl:typeLookup (.type T) "__getitem__"=pure (some (.builtin id))) (hs:DC slice)
    (h:wpAny (model prog w) A (eval value env) (λo s1=>wpAny (model prog w) A (eval slice env) (λi s2=>s2.TypeIs o T/\wpAny (model prog w) A (getItem o i) Q E s2) E s1) E s) :
    wpAny (model prog w) A (eval (.Subscript value slice pos) env) Q E s:=by
  refine Vf (P9 h (λo s1 h1=>P9 h1 (λi s2 h₂=>?_) λ_ _ x=>x) λ_ _ x=>x);obtain⟨hT,h₂⟩:=h₂;unfold subscriptTail;refine ar ?_;rw[getitemInPython_of_ne hT.not_modules];refine ar (UH hT hl ?_);have fin:wpAny (model prog w) A (subscripted slice false o i) (λr s₃=>wpAny (model prog w) A (letTemporaryGo value o r>>=λ_=>pure r) Q E s₃) E s2:=by
    rw[hs o i];exact wpAny_operating (P9 h₂ (λr s₃ h3=>ar (wpAny_letTemporaryGo (C0 h3))) λ_ _ x=>x)
  first
    |exact C0 (ar fin)
    |exact ar (C0 (ar fin))
    |exact ar fin
theorem xr{X:Cx}{pins:List (Addr×Obj)}{σ:St}{H:Hp}{s:Shared}{a:Addr}{y:V}{o:Option V}(I:Inv X pins σ H s)(g:l8 H a y o):s.TypeIs (.ref a) "dict":=by
 rcases g with⟨kvs,k,e,_,_⟩ |⟨kvs,k,b,e,_,_,_⟩
 ·obtain⟨_,_,vs,_,dd⟩:=ly I.hok e;exact dd.typeIs
 ·obtain⟨_,_,xs,_,dd⟩:=lM I.hok e;exact dd.typeIs
noncomputable def MA(td ty:TE):TE:=λσ H Q=>td σ H λx H1=>ty σ H1 λy H2=>∃a v,x=.ref a/\l8 H2 a y (some v)/\Q v H2
noncomputable def LO(td ty tv:TE):TS:=λD σ H=>tv σ H λv H1=>td σ H1 λx H2=>ty σ H2 λy H3=>∃a H4,x=.ref a/\vH H3 a y v H4/\D.nx σ H4
section
variable{X:Cx}{o i e value:Expr}{pos pos' tpos:Pos}{td ty tv:TE}
theorem G7(hu:X.A.units+1<cLine)(ho:PE X o td)(hi:PE X i ty)(hs:DC i):PE X (.Subscript o i pos) (MA td ty):=by
 intro pins s σ H Q I h;refine G5 PySem.F.slot_dict_getitem.lookup hs (thn (ho pins s σ H _ I h) λu s1 ⟨x,H1,I1,rx,q1⟩=>thn (hi pins s1 σ H1 _ I1 q1) λiv s2 ⟨y,H2,I2,ry,a,v,ex,g,q2⟩=>?_);subst ex;obtain rfl:u=Value.ref a:=rx;exact⟨xr I2 g,Ab hu I2 g ry λw' s3 I3 rw'=>⟨v,H2,I3,rw',q2⟩⟩
theorem Ha(hu:X.A.units+1<cLine)(ho:PE X o td)(hi:PE X i ty)(hv:PE X value tv)(hs:swapsWith value (some (.Subscript o i pos')) pos.line X.env=pure false) :
  PS X (.Assign [.Subscript o i pos'] value pos) (LO td ty tv):=by
 intro pins s σ H D I h;refine wpAny_Assign_Subscript (thn (hv pins s σ H _ I h) λr s1 ⟨v,H1,I1,rv,q1⟩=>thn (ho pins s1 σ H1 _ I1 q1) λu s2 ⟨x,H2,I2,rx,q2⟩=>thn (hi pins s2 σ H2 _ I2 q2) λiv s3 ⟨y,H3,I3,ry,a,H4,ex,g,q3⟩=>?_) hs;subst ex;obtain rfl:u=Value.ref a:=rx;exact Ce hu I3 g ry rv λs4 I4=>⟨σ,H4,I4,q3⟩
end
theorem v3{P:Program}{w:World}{H:Hp}(h:Heap)(hb:sysModules<h.objs.size):aV P w H (h.push { cls:=.type "dict",data:=.dict #[] }) h.objs.size (.dK []):=
 ⟨QF _,QE.mpr (Qg (OE hb)),[],.nil,WT h⟩
noncomputable def JI:TE:=λ_ H Q=>∀p,H p=none->Q (.ref p) (upd H p (.dK []))
section
variable{X:Cx}{pos:Pos}
theorem Dx:PE X (.Dict [] [] pos) JI:=λpins s σ H Q I h=>
 wpAny_Dict_empty ⟨.ref s.heap.objs.size,_,I.laid (a:=s.heap.objs.size) (o:=.dK []) (t':=s.toks) (λ_ _ q=>Od _ q) (Oj _) (v3 s.heap I.big),rfl,h _ (I.hok.fresh (Oj _))⟩
end
def qw:List (TE×TE)->St->Hp->(List (V×V)->Hp->Prop)->Prop
 | [],_,H,Q=>Q [] H
 |(tk,tv)::r,σ,H,Q=>tk σ H λx H1=>tv σ H1 λy H2=>qw r σ H2 λps H3=>Q ((x,y)::ps) H3
abbrev VV:List (V×V)->List (Value×Value)->Prop:=Paired λp q=>RelV p.1 q.1/\RelV p.2 q.2
def PPs(X:Cx)(pos:Pos)(keys:List (Option Expr))(values:List Expr)(trs:List (TE×TE)):Prop:=
 ∀(pins:List (Addr×Obj))(s:Shared)(σ:St)(H:Hp)(Q:List (V×V)->Hp->Prop),Inv X pins σ H s->qw trs σ H Q ->
  wpAny (model X.prog X.w) X.A (evalPairs (pairTrees keys values X.env pos)) (λvs s'=>∃ps H',Inv X pins σ H' s'/\VV ps vs/\Q ps H') X.xe s
theorem Gb{X:Cx}{pos:Pos}:PPs X pos [] [] []:=λpins s σ H Q I h=>pairTrees_nil_walk ⟨[],H,I,.nil,h⟩
theorem DJ{X:Cx}{pos:Pos}{k v:Expr}{ks:List (Option Expr)}{vs:List Expr}{tk tv:TE}{trs:List (TE×TE)}(hk:PE X k tk)(hv:PE X v tv)(hr:PPs X pos ks vs trs) :
  PPs X pos (some k::ks) (v::vs) ((tk,tv)::trs):=λpins s σ H Q I h=>
 pairTrees_cons_walk (thn (hk pins s σ H _ I h) λu s1 ⟨x,H1,I1,rx,q1⟩=>thn (hv pins s1 σ H1 _ I1 q1) λw2 s2 ⟨y,H2,I2,ry,q2⟩=>
  thn (hr pins s2 σ H2 _ I2 q2) λws s3 ⟨ps,H3,I3,rel,q3⟩=>⟨(x,y)::ps,H3,I3,.cons ⟨rx,ry⟩ rel,q3⟩)
noncomputable def bH(kvs more:List (Key×V)):List (Key×V):=more.foldl (λacc kv=>putK acc kv.1 kv.2) kvs
theorem KV.merge:∀{more:List (Key×V)}{rs:List (Key×Value)}{kvs:List (Key×V)}{vs:List (Key×Value)},KV more rs->KV kvs vs->KV (bH kvs more) (merged vs rs):=by
 intro more rs kvs vs r;unfold KV at r
 induction r generalizing kvs vs with
 |nil=>intro q;exact q
 | @cons p q ps qs h t ih=>
  intro r0;have e:KV (putK kvs p.1 p.2) (stored vs q.1 q.2):=by
   have:=r0.put p.1 h.2;rw[<-h.1];exact this
  exact ih e
theorem dA:∀(more kvs:List (Key×V)),(bH kvs more).length<=kvs.length+more.length
 | [],kvs=>by show kvs.length<=kvs.length+0;omega
 |p::r,kvs=>by
  have h1:=dA r (putK kvs p.1 p.2);have h2:=kg kvs p.1 p.2;show(bH (putK kvs p.1 p.2) r).length<=_;rw[OB];omega
theorem qM{P:Program}{w:World}:∀{kvs:List (Key×V)}{ws:List (Value×Value)},VV (kvs.map λkv=>(kV kv.1,kv.2)) ws->∃rs,Carries (aK P w) ws rs/\KV kvs rs
 | [],_,r=>by rw[Tb]at r;cases r;exact⟨[],True.intro,.nil⟩
 |p::kvs,_,r=>by
  rw[Oq]at r;cases r with
  | @cons a b as bs h t=>
   obtain⟨rs,c,q⟩:=qM (P:=P) (w:=w) t;obtain⟨b1,b2⟩:=b;exact⟨(p.1,b2)::rs,⟨iI h.1,rfl,c⟩,.cons ⟨rfl,h.2⟩ q⟩
noncomputable def L3(trs:List (TE×TE)):TE:=λσ H Q=>∀p,H p=none->qw trs σ (upd H p (.dK [])) λps H2=>H2 p=some (.dK [])/\∃kvs:List (Key×V),ps=kvs.map (λkv=>(kV kv.1,kv.2))/\kvs.length<=15/\Q (.ref p) (upd H2 p (.dK (bH [] kvs)))
theorem Gs{X:Cx}{pos:Pos}{keys:List (Option Expr)}{values:List Expr}{trs:List (TE×TE)}(h:PPs X pos keys values trs)(hall:keys.all (·.isSome)=true)(hl:keys.length=values.length)(h0:keys≠[])
  (h15:keys.length<=15):PE X (.Dict keys values pos) (L3 trs):=by
 intro pins s σ H Q I q;have hn:=I.hok.fresh (Oj s.heap.objs.size);have I1:=I.laid (a:=s.heap.objs.size) (o:=.dK []) (h':=s.heap.push { cls:=.type "dict",data:=.dict #[] }) (t':=s.toks) (λ_ _ q=>Od _ q) (Oj _) (v3 s.heap I.big);refine wpAny_Dict_walk (knd:=aK X.prog X.w) hall hl h0 h15 (thn (h pins _ σ _ _ I1 (q _ hn)) λws s2 ⟨ps,H2,I2,rel,e,kvs,ep,lk,q2⟩=>?_);subst ep;obtain⟨rs,c,rk⟩:=qM (P:=X.prog) (w:=X.w) rel;obtain⟨z,hd,vs0,r0,dd⟩:=Fb I2.hok e;cases r0;refine⟨rs,c,dd,λh' dd' hs=>⟨.ref s.heap.objs.size,_,?_,rfl,q2⟩⟩;have hz:(bH [] kvs).length<=sizeLine:=by
  have h1:=dA kvs [];rw[Qf]at h1;rw[QT];omega
 have he:∃q,h'.get? s.heap.objs.size=some q:=let⟨q,_,_,hq,_⟩:=dd';⟨q,hq⟩;exact se I2 (by rw[e];exact True.intro) hs he (rG hz hd (rk.merge .nil) dd')
structure M1(X:Cx)(o:Expr)(m:Str)(apos:Pos)(e:Expr)(cpos:Pos):Prop where
 base:attributeBase o m X.env (eval o X.env)=eval o X.env
 few:((backTo cpos (starEach [e] X.env)).all (λx=>!x.1)&&(backToKw cpos (keywordEach [] X.env)).all (λx=>x.1.isSome)
  && decide (([e]:List Expr).length+([]:List Keyword).length+(if([]:List Keyword).isEmpty then 0 else 1)<30))=true
 line:(apos.endLine==cpos.line)=true
 trees:backTo cpos (starEach [e] X.env)=[(false,eval e X.env)]
structure M2(X:Cx)(o:Expr)(m:Str)(apos:Pos)(e f:Expr)(cpos:Pos):Prop where
 base:attributeBase o m X.env (eval o X.env)=eval o X.env
 few:((backTo cpos (starEach [e,f] X.env)).all (λx=>!x.1)&&(backToKw cpos (keywordEach [] X.env)).all (λx=>x.1.isSome)
  && decide (([e,f]:List Expr).length+([]:List Keyword).length+(if([]:List Keyword).isEmpty then 0 else 1)<30))=true
 line:(apos.endLine==cpos.line)=true
 trees:backTo cpos (starEach [e,f] X.env)=[(false,eval e X.env),(false,eval f X.env)]
def IsD(H:Hp)(a:Addr):Prop:=(∃kvs,Rd H a (.dK kvs))\/∃kvs,Rd H a (.dT kvs)
theorem JZ{X:Cx}{pins:List (Addr×Obj)}{σ:St}{H:Hp}{s:Shared}{a:Addr}(I:Inv X pins σ H s)(d:IsD H a) :
  s.TypeIs (.ref a) "dict"/\(∀b,Value.ref a=.ref b->∃ob,s.heap.get? b=some ob/\ob.dict=none)/\(a==sysModules)=false:=by
 rcases d with⟨kvs,e⟩ |⟨kvs,e⟩
 ·obtain⟨_,hd,vs,_,dd⟩:=ly I.hok e;refine⟨dd.typeIs,λb q=>?_,hd⟩;cases q;obtain⟨ob,_,_,h1,h2,_⟩:=dd;exact⟨ob,h1,h2.2.1⟩
 ·obtain⟨_,hd,xs,_,dd⟩:=lM I.hok e;refine⟨dd.typeIs,λb q=>?_,hd⟩;cases q;obtain⟨ob,_,_,h1,h2,_⟩:=dd;exact⟨ob,h1,h2.2.1⟩
section
variable{X:Cx}{pins:List (Addr×Obj)}{σ:St}{H:Hp}{s:Shared}{a:Addr}{y d:V}{u r:Value}{o:Option V}{A:Around}{E:Value->Shared->Prop}
theorem Jb{Q:Value->Shared->Prop}(hu:A.units+1<cLine)(I:Inv X pins σ H s)(g:l8 H a y o)(ry:RelV y u)(rd:RelV d r)(h:∀w' s',Inv X pins σ H s'->RelV (o.getD d) w'->Q w' s') :
  wpAny (model X.prog X.w) A (call (.builtin "dict.get") [.ref a,u,r]) Q E s:=by
 rcases g with⟨kvs,k,e,ey,l⟩ |⟨kvs,k,b,e,ey,eb,l⟩
 ·subst ey;obtain⟨z,hd,vs,rel,dd⟩:=ly I.hok e;refine call_meetsIn S9 dd.typeIs US (Ux _ _ _) (meets_dict_get_default (aK X.prog X.w) a (iI ry) hd r) ⟨_,dd.mapOf,h _ _ (I.tok _) ?_⟩;rw[l];exact(rel.val k).getD rd
 ·subst ey;cases(show u=Value.ref b from ry);obtain⟨z,hd,xs,rel,dd⟩:=lM I.hok e;refine call_meetsIn S9 dd.typeIs US (Ux _ _ _) (meetsH_dict_get_default (tupleKind (aK X.prog X.w)) a b hd r) ⟨RN hu,k,xs,kQ I.hok eb,dd,h _ _ (I.tok _) ?_⟩;rw[l];exact(rel.val k).getD rd
end
noncomputable def JL(td ty tx:TE):TE:=λσ H Q=>td σ H λx H1=>∃a,x=.ref a/\IsD H1 a/\ty σ H1 λy H2=>tx σ H2 λz H3=>∃o,l8 H3 a y o/\Q (o.getD z) H3
section
variable{X:Cx}{o e f:Expr}{apos cpos:Pos}{td ty tx:TE}
theorem Er(hu:X.A.units+1<cLine)(ho:PE X o td)(he:PE X e ty)(hf:PE X f tx)(m:M2 X o "get" apos e f cpos):PE X (.Call (.Attribute o "get" apos) [e,f] [] cpos) (JL td ty tx):=by
 intro pins s σ H Q I h;refine wpAny_Call_method m.base m.few m.line PySem.F.plainAttrs_dict S9 PySem.F.type_dict_get (thn (ho pins s σ H _ I h) λu s1 ⟨x,H1,I1,rx,a,ex,d,q1⟩=>?_);subst ex;obtain rfl:u=Value.ref a:=rx;obtain⟨t1,t2,_⟩:=JZ I1 d;refine⟨t1,t2,?_⟩;rw[m.trees];refine Q8 rfl (Ru (QK (thn (he pins s1 σ H1 _ I1 q1) λiv s2 ⟨y,H2,I2,ry,q2⟩=>
  QK (thn (hf pins s2 σ H2 _ I2 q2) λfv s3 ⟨z,H3,I3,rz,ov,g,q3⟩=>V6 ?_))))
 exact Jb hu I3 g ry rz λw' s4 I4 rw'=>⟨_,H3,I4,rw',q3⟩
end
inductive Vl where
 |d (x:D) |r (n:Nat) |fd (kvs:List (Key×D)) |fn (x:Str) |sc (ns:List Int) |pr (x:D) (n:Nat) |xc (c:Str) (xs:List (Str×D)) |kt (ws:List Str) |xl (es:List (Str×List (Str×D)))
inductive Ob where
 |lst (xs:List D) |dct (kvs:List (Key×D)) |dead
noncomputable abbrev Sto:=List Ob
inductive R(α:Type)where
 |ok (a:α) (S:Sto) |ex (c:Str) (xs:List (Str×D)) (S:Sto) |bad
noncomputable def R.bind{α y:Type}(x:R α)(f:α->Sto->R y):R y:=match x with
 | .ok a S=>f a S
 | .ex c xs S=>.ex c xs S
 | .bad=>.bad
noncomputable abbrev Nv:=List (Option Vl)
noncomputable abbrev XE:=Nv->Sto->R Vl
noncomputable abbrev XT:=Nv->Sto->R Bool
noncomputable abbrev XA:=Nv->Sto->R (List Vl)
noncomputable abbrev XO:=Nv->Sto->R (Option Int)
inductive Fl where
 |nx |bk |ct |rt (v:Vl)
noncomputable abbrev XS:=Nv->Sto->R (Fl×Nv)
noncomputable abbrev XG:=Vl->Nv->Sto->R Nv
noncomputable abbrev XGs:=List Vl->Nv->Sto->R Nv
noncomputable abbrev XF:=List Vl->Sto->R Vl
structure Its where
 items:List Vl
 gd:Option (Nat×Ob)
def Its.ok(I:Its)(S:Sto):Prop:=match I.gd with
 |none=>True
 |some (n,o)=>S[n]?=some o
noncomputable abbrev XI:=Nv->Sto->R Its
def Al(μ:Nat->Addr)(S:Sto)(b:Addr):Prop:=∃n o,S[n]?=some o/\o≠.dead/\μ n=b
open Classical in
noncomputable def vh (μ:Nat->Addr) (S:Sto) (H:Hp):Hp:=λb=>if Al μ S b then none else H b
section
variable{μ μ' μ1 μ2:Nat->Addr}{S S' S1 S2:Sto}{H H' H1 H2:Hp}{b:Addr}{o:HO}
theorem bB(h:H b=some o)(n:¬Al μ S b):vh μ S H b=some o:=by unfold vh;rw[Ot n];exact h
theorem aH(h:vh μ S H b=some o):¬Al μ S b/\H b=some o:=by
 unfold vh at h;split at h
 ·cases h
 ·exact⟨‹_›,h⟩
theorem fK:dy (vh μ S H) H:=λ_ _ h=>(aH h).2
def ObR(μ:Nat->Addr)(S:Sto)(H:Hp)(a:Addr):Ob->Prop
 | .lst ds=>∃vs,H a=some (.lst vs)/\ak (vh μ S H) vs ds
 | .dct kvs=>∃vs:List V,vs.length=kvs.length/\H a=some (.dK ((kvs.map (·.1)).zip vs))/\ak (vh μ S H) vs (kvs.map (·.2))
 | .dead=>True
structure HR(μ:Nat->Addr)(S:Sto)(H:Hp):Prop where
 ob:∀n o,S[n]?=some o->ObR μ S H (μ n) o
 inj:∀n m o o',S[n]?=some o->S[m]?=some o'->o≠.dead->o'≠.dead->μ n=μ m->n=m
theorem ObR.some(h:ObR μ S H a ob)(n:ob≠.dead):∃o,H a=Option.some o:=by
 cases ob with
 |lst ds=>obtain⟨vs,e,_⟩:=h;exact⟨_,e⟩
 |dct kvs=>obtain⟨vs,_,e,_⟩:=h;exact⟨_,e⟩
 |dead=>exact absurd rfl n
theorem HR.al(h:HR μ S H)(a:Al μ S b):∃o,H b=some o:=by
 obtain⟨n,ob,e,nd,rfl⟩:=a;exact(h.ob n ob e).some nd
theorem HR.nal(h:HR μ S H)(e:H b=none):¬Al μ S b:=λa=>by
 obtain⟨o,q⟩:=h.al a;rw[e]at q;cases q
theorem ObR.mono(h:ObR μ S H a ob)(e:ob≠.dead->H' a=H a)(k:dy (vh μ S H) (vh μ' S' H')):ObR μ' S' H' a ob:=by
 cases ob with
 |lst ds=>obtain⟨vs,q,r⟩:=h;exact⟨vs,by rw[e (by simp)];exact q,r.mono k⟩
 |dct kvs=>obtain⟨vs,l,q,r⟩:=h;exact⟨vs,l,by rw[e (by simp)];exact q,r.mono k⟩
 |dead=>exact True.intro
structure Step(μ:Nat->Addr)(S:Sto)(H:Hp)(μ':Nat->Addr)(S':Sto)(H':Hp):Prop where
 ag:∀n,n<S.length->μ' n=μ n
 le:S.length<=S'.length
 hr:HR μ' S' H'
 dd:∀n:Nat,S[n]?=some Ob.dead->S'[n]?=some Ob.dead
 nw:∀n o,S.length<=n->S'[n]?=some o->o≠.dead->H (μ' n)=none
 ko:∀b o,H b=some o->¬Al μ S b->H' b=some o
 dm:∀b o,H b=some o->∃o',H' b=some o'
theorem Step.refl(h:HR μ S H):Step μ S H μ S H:=
 ⟨λ_ _=>rfl,Oj _,h,λ_ e=>e,λn o l e _=>(by rw[O2 l]at e;cases e),λ_ _ e _=>e,λ_ o e=>⟨o,e⟩⟩
theorem Step.nal(a:Step μ S H μ' S' H')(h:H b=some o)(n:¬Al μ S b):¬Al μ' S' b:=by
 rintro⟨k,ob,e,nd,rfl⟩;by_cases hk:k<S.length
 ·have e0:S[k]?=some S[k]:=gV hk;by_cases hd:S[k]=.dead
  ·rw[hd]at e0;rw[a.dd k e0]at e;cases e;exact nd rfl
  ·exact n ⟨k,_,e0,hd,(a.ag k hk).symm⟩
 ·rw[a.nw k ob ⋯ e nd]at h;cases h
theorem Step.vis(a:Step μ S H μ' S' H'):dy (vh μ S H) (vh μ' S' H'):=λb o h=>by
 obtain⟨n,h⟩:=aH h;exact bB (a.ko b o h n) (a.nal h n)
theorem Step.trans(a:Step μ S H μ1 S1 H1)(b:Step μ1 S1 H1 μ2 S2 H2):Step μ S H μ2 S2 H2 where
 ag:=λn h=>(b.ag n (ON h a.le)).trans (a.ag n h)
 le:=PC a.le b.le
 hr:=b.hr
 dd:=λn e=>b.dd n (a.dd n e)
 nw:=λn o l e nd=>by
  by_cases hn:n<S1.length
  ·rw[b.ag n hn];refine a.nw n S1[n] l (gV hn) λz=>?_;have e0:S1[n]?=some S1[n]:=gV hn;rw[z]at e0;rw[b.dd n e0]at e;cases e;exact nd rfl
  ·have q:=b.nw n o ⋯ e nd;cases e2:H (μ2 n)with
   |none=>rfl
   |some u=>
    obtain⟨u',e3⟩:=a.dm _ _ e2;rw[q]at e3;cases e3
 ko:=λc o h n=>b.ko c o (a.ko c o h n) (a.nal h n)
 dm:=λc o h=>by
  obtain⟨o1,e1⟩:=a.dm c o h;exact b.dm c o1 e1
theorem Step.new(h:HR μ S H)(hp:H p=none)(o:HO):Step μ S H μ S (upd H p o):=by
 have k:dy (vh μ S H) (vh μ S (upd H p o)):=λb u q=>by
  obtain⟨n,q⟩:=aH q;exact bB (by rw[aw (aT q hp)];exact q) n
 refine⟨λ_ _=>rfl,Oj _,⟨λn ob e=>?_,h.inj⟩,λ_ e=>e,λn ob l e _=>(by rw[O2 l]at e;cases e),λb u q _=>by rw[aw (aT q hp)];exact q,λb u q=>⟨u,by rw[aw (aT q hp)];exact q⟩⟩;refine(h.ob n ob e).mono (λnd=>?_) k;obtain⟨u,q⟩:=(h.ob n ob e).some nd;exact aw (aT q hp)
noncomputable def ext(μ:Nat->Addr)(k:Nat)(p:Addr):Nat->Addr:=λn=>if n=k then p else μ n
theorem cw:ext μ k p k=p:=by unfold ext;rw[Oe rfl]
theorem m7(h:n≠k):ext μ k p n=μ n:=by unfold ext;rw[Ot h]
def ObL(G:Hp):Ob->HO->Prop
 | .lst ds,o=>∃vs,o=.lst vs/\ak G vs ds
 | .dct kvs,o=>∃vs:List V,vs.length=kvs.length/\o=.dK ((kvs.map (·.1)).zip vs)/\ak G vs (kvs.map (·.2))
 | .dead,_=>False
theorem ObL.ne(h:ObL G ob o):ob≠.dead:=by
 rintro rfl;exact h
theorem ObL.at(h:ObL G ob o)(e:H a=some o)(k:dy G (vh μ S H)):ObR μ S H a ob:=by
 cases ob with
 |lst ds=>obtain⟨vs,rfl,r⟩:=h;exact⟨vs,e,r.mono k⟩
 |dct kvs=>obtain⟨vs,l,rfl,r⟩:=h;exact⟨vs,l,e,r.mono k⟩
 |dead=>exact h.elim
theorem HR.get(h:HR μ S H){n:Nat}{ob:Ob}(e:S[n]?=some ob)(nd:ob≠.dead):∃o,H (μ n)=some o/\ObL (vh μ S H) ob o:=by
 have q:=h.ob n ob e;cases ob with
 |lst ds=>obtain⟨vs,e1,r⟩:=q;exact⟨_,e1,vs,rfl,r⟩
 |dct kvs=>obtain⟨vs,l,e1,r⟩:=q;exact⟨_,e1,vs,l,rfl,r⟩
 |dead=>exact absurd rfl nd
theorem Step.alloc(h:HR μ S H)(hp:H p=none)(hl:ObL (vh μ S H) ob o):Step μ S H (ext μ S.length p) (S++[ob]) (upd H p o):=by
 have nd:=hl.ne;have old:∀n u,n<S.length->(S++[ob])[n]?=some u->S[n]?=some u/\ext μ S.length p n=μ n:=λn u hn e=>by
  rw[OC hn]at e;exact⟨e,m7 (OE hn)⟩
 have new:∀n u,S.length<=n->(S++[ob])[n]?=some u->n=S.length/\u=ob:=λn u hn e=>by
  rw[OP hn]at e;have hz:n-S.length=0:=by
   refine UT λz=>?_;rw[O2 (by simp;omega)]at e;cases e
  rw[hz]at e;exact⟨by omega,by simpa using e.symm⟩
 have nal:∀{b u},H b=some u->¬Al μ S b->¬Al (ext μ S.length p) (S++[ob]) b:=by
  rintro b u q n ⟨k,v,e,d,rfl⟩;by_cases hk:k<S.length
  ·obtain⟨e1,e2⟩:=old k v hk e;exact n ⟨k,v,e1,d,e2.symm⟩
  ·obtain⟨rfl,rfl⟩:=new k v ⋯ e;rw[cw,hp]at q;cases q
 have k:dy (vh μ S H) (vh (ext μ S.length p) (S++[ob]) (upd H p o)):=λb u q=>by
  obtain⟨n,q⟩:=aH q;exact bB (by rw[aw (aT q hp)];exact q) (nal q n)
 refine⟨λn hn=>m7 (OE hn),by simp,⟨λn u e=>?_,λn m u v e1 e2 d1 d2 q=>?_⟩,λn e=>?_,λn u l e _=>?_,λb u q _=>by rw[aw (aT q hp)];exact q,λb u q=>⟨u,by rw[aw (aT q hp)];exact q⟩⟩
 ·by_cases hn:n<S.length
  ·obtain⟨e1,e2⟩:=old n u hn e;rw[e2];refine(h.ob n u e1).mono (λnd=>?_) k;obtain⟨x,q⟩:=(h.ob n u e1).some nd;exact aw (aT q hp)
  ·obtain⟨rfl,rfl⟩:=new n u ⋯ e;rw[cw];exact hl.at ba k
 ·by_cases hn:n<S.length
  ·obtain⟨a1,a2⟩:=old n u hn e1;obtain⟨x,qx⟩:=(h.ob n u a1).some d1;by_cases hm:m<S.length
   ·obtain⟨b1,b2⟩:=old m v hm e2;rw[a2,b2]at q;exact h.inj n m u v a1 b1 d1 d2 q
   ·obtain⟨rfl,rfl⟩:=new m v ⋯ e2;rw[a2,cw]at q;rw[q,hp]at qx;cases qx
  ·obtain⟨rfl,rfl⟩:=new n u ⋯ e1;by_cases hm:m<S.length
   ·obtain⟨b1,b2⟩:=old m v hm e2;obtain⟨x,qx⟩:=(h.ob m v b1).some d2;rw[b2,cw]at q;rw[<-q,hp]at qx;cases qx
   ·exact(new m v ⋯ e2).1.symm
 ·have hn:n<S.length:=by
   refine Um λz=>?_;rw[O2 z]at e;cases e
  rw[OC hn];exact e
 ·obtain⟨rfl,rfl⟩:=new n u l e;rw[cw];exact hp
theorem cR(hn:n<S.length)(e:(S.set n ob)[m]?=some u):(m=n/\u=ob)\/(m≠n/\S[m]?=some u):=by
 rw[Qa]at e;by_cases q:n=m
 ·subst q;rw[Oe rfl,Oe hn]at e;exact .inl ⟨rfl,(OV e).symm⟩
 ·rw[Ot q]at e;exact .inr ⟨λz=>q z.symm,e⟩
theorem Step.put(h:HR μ S H)(e0:S[n]?=some ob0)(d0:ob0≠.dead)(hl:ObL (vh μ S H) ob o):Step μ S H μ (S.set n ob) (upd H (μ n) o):=by
 have nd:=hl.ne;have hn:n<S.length:=(Ol.mp e0).1;have al0:Al μ S (μ n):=⟨n,ob0,e0,d0,rfl⟩;have al:∀{b},Al μ (S.set n ob) b->Al μ S b:=by
  rintro b ⟨m,u,e,d,rfl⟩;rcases cR hn e with⟨rfl,rfl⟩ |⟨z,q⟩
  ·exact al0
  ·exact⟨m,u,q,d,rfl⟩
 have k:dy (vh μ S H) (vh μ (S.set n ob) (upd H (μ n) o)):=λb u q=>by
  obtain⟨z,q⟩:=aH q;exact bB (by rw[aw (λc=>z (by rw[c];exact al0))];exact q) λc=>z (al c)
 refine⟨λ_ _=>rfl,by rw[PJ];exact Oj _,⟨λm u e=>?_,λm m' u v e1 e2 d1 d2 q=>?_⟩,λm e=>?_,λm u l e _=>?_,λb u q z=>by rw[aw (λc=>z (by rw[c];exact al0))];exact q,λb u q=>?_⟩
 ·rcases cR hn e with⟨rfl,rfl⟩ |⟨z,q⟩
  ·exact hl.at ba k
  ·refine(h.ob m u q).mono (λd=>aw λc=>z (h.inj m n u ob0 q e0 d d0 c)) k
 ·have a1:∃w,S[m]?=some w/\w≠.dead:=by
   rcases cR hn e1 with⟨rfl,rfl⟩ |⟨z,q⟩
   ·exact⟨ob0,e0,d0⟩
   ·exact⟨u,q,d1⟩
  have a2:∃w,S[m']?=some w/\w≠.dead:=by
   rcases cR hn e2 with⟨rfl,rfl⟩ |⟨z,q⟩
   ·exact⟨ob0,e0,d0⟩
   ·exact⟨v,q,d2⟩
  obtain⟨w1,x1,y1⟩:=a1;obtain⟨w2,x2,y2⟩:=a2;exact h.inj m m' w1 w2 x1 x2 y1 y2 q
 ·rw[O_]
  ·exact e
  ·rintro rfl;rw[e0]at e;cases e;exact d0 rfl
 ·rw[O2 (by rw[PJ];exact l)]at e;cases e
 ·by_cases z:b=μ n
  ·subst z;exact⟨o,ba⟩
  ·exact⟨u,by rw[aw z];exact q⟩
theorem Step.freeze(h:HR μ S H)(e0:S[n]?=some ob)(d0:ob≠.dead):Step μ S H μ (S.set n .dead) H/\¬Al μ (S.set n .dead) (μ n):=by
 have hn:n<S.length:=(Ol.mp e0).1;have al:∀{b},Al μ (S.set n .dead) b->Al μ S b:=by
  rintro b ⟨m,u,e,d,rfl⟩;rcases cR hn e with⟨rfl,rfl⟩ |⟨z,q⟩
  ·exact absurd rfl d
  ·exact⟨m,u,q,d,rfl⟩
 have k:dy (vh μ S H) (vh μ (S.set n .dead) H):=λb u q=>by
  obtain⟨z,q⟩:=aH q;exact bB q λc=>z (al c)
 have inn:∀m u,(S.set n .dead)[m]?=some u->u≠.dead->S[m]?=some u/\m≠n:=λm u e d=>by
  rcases cR hn e with⟨rfl,rfl⟩ |⟨z,q⟩
  ·exact absurd rfl d
  ·exact⟨q,z⟩
 refine⟨⟨λ_ _=>rfl,by rw[PJ];exact Oj _,⟨λm u e=>?_,λm m' u v e1 e2 d1 d2 q=>h.inj m m' u v (inn m u e1 d1).1 (inn m' v e2 d2).1 d1 d2 q⟩,λm e=>?_,λm u l e _=>?_,λb u q z=>q,λb u q=>⟨u,q⟩⟩,?_⟩
 ·by_cases d:u=.dead
  ·subst d;exact True.intro
  ·exact(h.ob m u (inn m u e d).1).mono (λ_=>rfl) k
 ·by_cases z:m=n
  ·subst z;rw[Qa,Oe rfl,Oe hn]
  ·rw[O_ (λc=>z c.symm)];exact e
 ·rw[O2 (by rw[PJ];exact l)]at e;cases e
 ·rintro⟨m,u,e,d,q⟩;obtain⟨e1,z⟩:=inn m u e d;exact z (h.inj m n u ob e1 e0 d d0 q)
theorem Step.vU(h:HR μ S H)(o':HO)(e0:S[n]?=some ob)(d0:ob≠.dead):Step μ S H μ (S.set n .dead) (upd H (μ n) o')/\¬Al μ (S.set n .dead) (μ n):=by
 have hn:n<S.length:=(Ol.mp e0).1;have al0:Al μ S (μ n):=⟨n,ob,e0,d0,rfl⟩;obtain⟨st,na⟩:=Step.freeze h e0 d0;have k:dy (vh μ S H) (vh μ (S.set n .dead) (upd H (μ n) o')):=λb u q=>by
  obtain⟨z,q'⟩:=aH q;exact bB (by rw[aw (λc=>z (by rw[c];exact al0))];exact q') (aH (st.vis b u q)).1
 refine⟨⟨st.ag,st.le,⟨λm u e=>?_,st.hr.inj⟩,st.dd,λm u l e d=>st.nw m u l e d,λb u q z=>by rw[aw (λc=>z (by rw[c];exact al0))];exact q,λb u q=>?_⟩,na⟩
 ·rcases cR hn e with⟨rfl,rfl⟩ |⟨z,q⟩
  ·exact True.intro
  ·by_cases d:u=.dead
   ·subst d;exact True.intro
   ·exact(h.ob m u q).mono (λ_=>aw λc=>z (h.inj m n u ob q e0 d d0 c)) k
 ·by_cases z:b=μ n
  ·subst z;exact⟨o',ba⟩
  ·exact⟨u,by rw[aw z];exact q⟩
theorem dv(e:(S.take k)[n]?=some u):n<k/\S[n]?=some u:=by
 rw[QP]at e;split at e
 ·exact⟨‹_›,e⟩
 ·cases e
theorem Step.take(a:Step μ S H μ' S' H'):Step μ S H μ' (S'.take S.length) H':=by
 have al:∀{b},Al μ' (S'.take S.length) b->Al μ' S' b:=by
  rintro b ⟨m,u,e,d,rfl⟩;exact⟨m,u,(dv e).2,d,rfl⟩
 have k:dy (vh μ' S' H') (vh μ' (S'.take S.length) H'):=λb u q=>by
  obtain⟨z,q⟩:=aH q;exact bB q λc=>z (al c)
 refine⟨a.ag,by rw[Pd];have:=a.le;omega,⟨λm u e=>(a.hr.ob m u (dv e).2).mono (λ_=>rfl) k,λm m' u v e1 e2=>a.hr.inj m m' u v (dv e1).2 (dv e2).2⟩,λn e=>?_,λn u l e _=>?_,a.ko,a.dm⟩
 ·have hn:n<S.length:=(Ol.mp e).1;rw[QP,Oe hn];exact a.dd n e
 ·have:=(dv e).1;omega
theorem Step.move(a:Step μ S H μ' S' H')(hn:S.length<=n)(e0:S'[n]?=some ob)(d0:ob≠.dead):Step μ S H (ext μ' S.length (μ' n)) (S'.take S.length++[ob]) H':=by
 have lt:(S'.take S.length).length=S.length:=by rw[Pd];have:=a.le;omega
 have get:∀m u,(S'.take S.length++[ob])[m]?=some u->∃j,S'[j]?=some u/\ext μ' S.length (μ' n) m=μ' j/\((m<S.length/\j=m)\/(m=S.length/\j=n)):=λm u e=>by
  by_cases hm:m<S.length
  ·rw[OC ⋯]at e;exact⟨m,(dv e).2,m7 (OE hm),.inl ⟨hm,rfl⟩⟩
  ·rw[OP ⋯]at e;have hz:m-(S'.take S.length).length=0:=by
    refine UT λz=>?_;rw[O2 (by simp;omega)]at e;cases e
   rw[hz]at e;have hm':m=S.length:=by omega
   subst hm';obtain rfl:ob=u:=by simpa using e
   exact⟨n,e0,cw,.inr ⟨rfl,rfl⟩⟩
 have al:∀{b},Al (ext μ' S.length (μ' n)) (S'.take S.length++[ob]) b->Al μ' S' b:=by
  rintro b ⟨m,u,e,d,rfl⟩;obtain⟨j,q,z,_⟩:=get m u e;exact⟨j,u,q,d,z.symm⟩
 have k:dy (vh μ' S' H') (vh (ext μ' S.length (μ' n)) (S'.take S.length++[ob]) H'):=λb u q=>by
  obtain⟨z,q⟩:=aH q;exact bB q λc=>z (al c)
 refine⟨λm hm=>(m7 (OE hm)).trans (a.ag m hm),by rw[Pj,lt];simp,⟨λm u e=>?_,λm m' u v e1 e2 d1 d2 q=>?_⟩,λm e=>?_,λm u l e d=>?_,a.ko,a.dm⟩
 ·obtain⟨j,q,z,_⟩:=get m u e;rw[z];exact(a.hr.ob j u q).mono (λ_=>rfl) k
 ·obtain⟨j,q1,z1,w1⟩:=get m u e1;obtain⟨j',q2,z2,w2⟩:=get m' v e2;rw[z1,z2]at q;have:=a.hr.inj j j' u v q1 q2 d1 d2 q;omega
 ·have hm:m<S.length:=(Ol.mp e).1;rw[OC ⋯,QP,Oe hm];exact a.dd m e
 ·obtain⟨j,q,z,w⟩:=get m u e;rw[z];have hj:S.length<=j:=by omega
  exact a.nw j u hj q d
end
section
variable(K:Oh)(mg:Str->Option Value)
def NQ(K:Oh)(a:Addr)(ws:List Str):Prop:=∃(o:Obj)(its:Array Value)(n:Nat),K.lookup a=some o/\o.cls=.type "tuple"/\o.data=.seq its n/\its.size<=sizeLine/\Vals (ws.map V.str) its.toList
def excAt(a C:Addr)(od:Option Addr)(h:Heap):Prop:=∃o,h.get? a=some o/\o.cls=.ref C/\(∀d,od=some d->o.dict=some d)/\∃vs,o.data=.fields vs
def uO(G:Hp)(a C:Addr)(xs:List (Str×D)):Prop:=∃od,G a=some (.ext (excAt a C od))/\(xs≠[]->∃(dx:Addr)(vs:List V),od=some dx/\vs.length=xs.length/\G dx=some (.xd ((xs.map (·.1)).zip vs))/\ak G vs (xs.map (·.2)))
theorem uO.mono(k:dy G G')(h:uO G a C xs):uO G' a C xs:=by
 obtain⟨od,e,h⟩:=h;refine⟨od,k _ _ e,λn=>?_⟩;obtain⟨dx,vs,q1,q2,q3,q4⟩:=h n;exact⟨dx,vs,q1,q2,k _ _ q3,q4.mono k⟩
inductive m8(G:Hp):List V->List (Str×List (Str×D))->Prop
 |nil:m8 G [] []
 |cons {a C:Addr} {c:Str} {xs:List (Str×D)} {vs:List V} {es:List (Str×List (Str×D))}:mg c=some (.ref C)->uO G a C xs->m8 G vs es->m8 G (.ref a::vs) ((c,xs)::es)
def aF(μ:Nat->Addr)(S:Sto)(H:Hp)(v:V):Vl->Prop
 | .d x=>Rep (vh μ S H) v x
 | .r n=>v=.ref (μ n)/\n<S.length
 | .fd kvs=>∃(a:Addr)(vs:List V)(o:Obj),v=.ref a/\vs.length=kvs.length/\vh μ S H a=some (.frz o (.dK ((kvs.map (·.1)).zip vs)))/\ak (vh μ S H) vs (kvs.map (·.2))
 | .fn x=>∃f:Addr,mg x=some (.ref f)/\v=.ref f
 | .sc ns=>∃l:Addr,v=.ref l/\SqL K (vh μ S H) l (ns.map V.int)
 | .pr x n=>∃(a:Addr)(u:V),v=.ref a/\vh μ S H a=some (.tup [u,.ref (μ n)])/\Rep (vh μ S H) u x/\n<S.length
 | .xc c xs=>∃(a C:Addr),v=.ref a/\mg c=some (.ref C)/\uO (vh μ S H) a C xs
 | .kt ws=>∃a:Addr,v=.ref a/\NQ K a ws
 | .xl es=>∃(l:Addr)(vs:List V),v=.ref l/\vh μ S H l=some (.lst vs)/\m8 mg (vh μ S H) vs es
inductive bp(μ:Nat->Addr)(S:Sto)(H:Hp):List V->List Vl->Prop
 |nil:bp μ S H [] []
 |cons {v:V} {x:Vl} {vs:List V} {xs:List Vl}:aF K mg μ S H v x->bp μ S H vs xs->bp μ S H (v::vs) (x::xs)
structure bV(μ:Nat->Addr)(S:Sto)(H:Hp)(σ:St)(τ:Nv):Prop where
 len:σ.length=τ.length
 get:∀(i:Nat)(x:Vl),τ[i]?=some (some x)->∃v,σ[i]?=some (some v)/\aF K mg μ S H v x
end
section
variable{K:Oh}{mg:Str->Option Value}{μ μ':Nat->Addr}{S S':Sto}{H H':Hp}
theorem SqL.mono(k:dy H H')(h:SqL K H l xs):SqL K H' l xs:=by
 rcases h with(h |⟨o,h⟩) |h
 ·exact .inl (.inl (k _ _ h))
 ·exact .inl (.inr ⟨o,k _ _ h⟩)
 ·exact .inr h
theorem m8.mono(k:dy H H'):∀{vs es},m8 mg H vs es->m8 mg H' vs es
 |_,_,.nil=>.nil
 |_,_,.cons a b c=>.cons a (b.mono k) (m8.mono k c)
theorem aF.step(a:Step μ S H μ' S' H')(h:aF K mg μ S H v x):aF K mg μ' S' H' v x:=by
 cases x with
 |d x=>exact Rep.mono a.vis h
 |r n=>obtain⟨rfl,hn⟩:=h;exact⟨by rw[a.ag n hn],ON hn a.le⟩
 |fd kvs=>obtain⟨p,vs,o,e,l,q,r⟩:=h;exact⟨p,vs,o,e,l,a.vis _ _ q,r.mono a.vis⟩
 |pr x n=>obtain⟨p,u,e,q,r,hn⟩:=h;exact⟨p,u,e,by rw[a.ag n hn];exact a.vis _ _ q,Rep.mono a.vis r,ON hn a.le⟩
 |fn x=>exact h
 |sc ns=>obtain⟨l,e,q⟩:=h;exact⟨l,e,q.mono a.vis⟩
 |xc c xs=>obtain⟨p,C,e,m,q⟩:=h;exact⟨p,C,e,m,q.mono a.vis⟩
 |kt ws=>exact h
 |xl es=>obtain⟨l,vs,e,q,r⟩:=h;exact⟨l,vs,e,a.vis _ _ q,r.mono a.vis⟩
theorem bp.step(a:Step μ S H μ' S' H'):∀{vs:List V}{xs:List Vl},bp K mg μ S H vs xs->bp K mg μ' S' H' vs xs
 |_,_,.nil=>.nil
 |_,_,.cons r t=>.cons (r.step a) (bp.step a t)
theorem bp.length:∀{vs:List V}{xs:List Vl},bp K mg μ S H vs xs->vs.length=xs.length
 |_,_,.nil=>rfl
 |_,_,.cons _ t=>by simp[bp.length t]
theorem bp.get:∀{vs:List V}{xs:List Vl}{i:Nat}{x:Vl},bp K mg μ S H vs xs->xs[i]?=some x->∃v,vs[i]?=some v/\aF K mg μ S H v x
 |_,_,_,_,.nil,e=>by simp at e
 |_,_,0,_,.cons r _,e=>by simp at e;subst e;exact⟨_,rfl,r⟩
 |_,_,i+1,x,.cons _ t,e=>by
  obtain⟨d,h1,h2⟩:=bp.get (i:=i) (x:=x) t (by simpa using e);exact⟨d,by simpa using h1,h2⟩
theorem bp.xH:∀{vs:List V}{ds:List D},ak (vh μ S H) vs ds->bp K mg μ S H vs (ds.map Vl.d)
 |_,_,.nil=>.nil
 |_,_,.cons r t=>.cons (show aF K mg μ S H _ (.d _)from r) (bp.xH t)
theorem bV.step(a:Step μ S H μ' S' H')(h:bV K mg μ S H σ τ):bV K mg μ' S' H' σ τ:=
 ⟨h.len,λi x e=>by obtain⟨v,e1,r⟩:=h.get i x e;exact⟨v,e1,r.step a⟩⟩
theorem bV.set(i:Nat)(h:bV K mg μ S H σ τ)(r:aF K mg μ S H v x):bV K mg μ S H (σ.set i (some v)) (τ.set i (some x)):=by
 refine⟨by rw[PJ,PJ];exact h.len,λj y e=>?_⟩;rw[Qa]at e ⊢;by_cases q:i=j
 ·subst q;rw[Oe rfl]at e ⊢;by_cases hl:i<τ.length
  ·rw[Oe hl]at e;cases e;exact⟨v,by rw[Oe (by rw[h.len];exact hl)],r⟩
  ·rw[Ot hl]at e;cases e
 ·rw[Ot q]at e ⊢;exact h.get j y e
theorem bV.pre(k:Nat)(h:bV K mg μ S H σ τ):bV K mg μ S H (Pm k none++σ) (Pm k none++τ):=by
 refine⟨by simp[h.len],λi x e=>?_⟩;by_cases hi:i<k
 ·rw[OC (by simpa using hi),RH,Oe hi]at e;cases e
 ·rw[OP (by simpa using hi)]at e ⊢;simpa using h.get (i-k) x (by simpa using e)
theorem bV.beg(h:bp K mg μ S H vs us):bV K mg μ S H (L2.start N vs) (us.map some++Pm (N.length-us.length) none):=by
 have l:=h.length;refine⟨by simp[L2.start,l],λi x e=>?_⟩;unfold L2.start;by_cases hi:i<us.length
 ·rw[OC (by simpa using hi),Ox]at e;cases q:us[i]? with
  |none=>rw[q]at e;cases e
  |some y=>
   rw[q]at e;cases e;obtain⟨v,e1,r⟩:=h.get q;exact⟨v,by rw[OC (by simp;omega),Ox,e1];rfl,r⟩
 ·rw[OP (by simpa using hi),RH]at e;split at e<;>cases e
end
noncomputable abbrev WX:=Str->List (Str×D)->Sto->(Nat->Addr)->Hp->Prop
noncomputable abbrev W0:WX:=λ_ _ _ _ _=>False
def aE{α y:Type}(Rl:(Nat->Addr)->Sto->Hp->y->α->Prop)(WE:WX)(μ:Nat->Addr)(S:Sto)(H:Hp)(res:R α)(Q:y->Hp->Prop):Prop:=match res with
 | .ok a S'=>∀b μ' H',Step μ S H μ' S' H'->Rl μ' S' H' b a->Q b H'
 | .ex c xs S'=>∀μ' H',Step μ S H μ' S' H'->WE c xs S' μ' H'
 | .bad=>False
section
variable{α y m d:Type}{Rl:(Nat->Addr)->Sto->Hp->y->α->Prop}{Rl2:(Nat->Addr)->Sto->Hp->d->m->Prop}{WE:WX}{μ μ1:Nat->Addr}{S S1:Sto}{H H1:Hp}{res:R α}{Q:y->Hp->Prop}{Q2:d->Hp->Prop}
theorem aE.shift(h:aE Rl WE μ S H res Q)(a:Step μ S H μ1 S1 H1):aE Rl WE μ1 S1 H1 res Q:=by
 cases res with
 |ok x S'=>exactλb μ' H' st r=>h b μ' H' (a.trans st) r
 |ex c xs S'=>exactλμ' H' st=>h μ' H' (a.trans st)
 |bad=>exact h
theorem aE.bind(h:aE Rl2 WE μ S H (res.bind f) Q2)(k:∀b a S1 μ1 H1,Step μ S H μ1 S1 H1->Rl μ1 S1 H1 b a->aE Rl2 WE μ1 S1 H1 (f a S1) Q2->Q b H1):aE Rl WE μ S H res Q:=by
 cases res with
 |ok x S'=>exactλb μ' H' st r=>k b x S' μ' H' st r (aE.shift (show aE Rl2 WE μ S H (f x S') Q2 from h) st)
 |ex c xs S'=>exact h
 |bad=>exact h
theorem aE.here(hr:HR μ S H)(h:aE Rl WE μ S H (.ok a S) Q)(r:Rl μ S H b a):Q b H:=h b μ H (Step.refl hr) r
theorem aE.imp(h:aE Rl WE μ S H res Q)(k:∀b H',Q b H'->Q' b H'):aE Rl WE μ S H res Q':=by
 cases res with
 |ok x S'=>exactλb μ' H' st r=>k _ _ (h b μ' H' st r)
 |ex c xs S'=>exact h
 |bad=>exact h
end
inductive FlV where
 |nx |bk |ct |rt (v:V)
def Ends.at(D:Ends)(p:FlV×St)(H:Hp):Prop:=match p.1 with
 | .nx=>D.nx p.2 H
 | .bk=>D.bk p.2 H
 | .ct=>D.ct p.2 H
 | .rt v=>D.rt v H
section
variable(K:Oh)(mg:Str->Option Value)
def FlR(μ:Nat->Addr)(S:Sto)(H:Hp):FlV->Fl->Prop
 | .nx,.nx=>True
 | .bk,.bk=>True
 | .ct,.ct=>True
 | .rt v,.rt z=>aF K mg μ S H v z
 |_,_=>False
def RlS(μ:Nat->Addr)(S:Sto)(H:Hp)(p:FlV×St)(q:Fl×Nv):Prop:=bV K mg μ S H p.2 q.2/\FlR K mg μ S H p.1 q.1
abbrev RlQ{α:Type}(_:Nat->Addr)(_:Sto)(_:Hp)(b a:α):Prop:=b=a
structure jr(μ:Nat->Addr)(S:Sto)(H:Hp)(J:It)(I:Its):Prop where
 ok:I.ok S
 len:I.items.length<=sizeLine
 go:∀i z μ' S' H',Step μ S H μ' S' H'->I.ok S'->I.items[i]?=some z->J.go i H'
 yld:∀i z μ' S' H' x H2,Step μ S H μ' S' H'->I.ok S'->I.items[i]?=some z->J.yld i H' x H2->Step μ' S' H' μ' S' H2/\aF K mg μ' S' H2 x z
 stop:∀i μ' S' H',Step μ S H μ' S' H'->I.ok S'->I.items.length=i->J.stop i H'
noncomputable def trE(WE:WX)(m:XE):TE:=λσ H Q=>∃μ S τ,HR μ S H/\bV K mg μ S H σ τ/\aE (aF K mg) WE μ S H (m τ S) Q
noncomputable def trT(WE:WX)(m:XT):TT:=λσ H Q=>∃μ S τ,HR μ S H/\bV K mg μ S H σ τ/\aE RlQ WE μ S H (m τ S) Q
noncomputable def trA(WE:WX)(m:XA):TA:=λσ H Q=>∃μ S τ,HR μ S H/\bV K mg μ S H σ τ/\aE (bp K mg) WE μ S H (m τ S) Q
noncomputable def trO(WE:WX)(m:XO):TO:=λσ H Q=>∃μ S τ,HR μ S H/\bV K mg μ S H σ τ/\aE RlQ WE μ S H (m τ S) Q
noncomputable def trS(WE:WX)(m:XS):TS:=λD σ H=>∃μ S τ,HR μ S H/\bV K mg μ S H σ τ/\aE (RlS K mg) WE μ S H (m τ S) D.at
noncomputable def trG(WE:WX)(g:XG):TG:=λv σ H Q=>∃μ S τ z,HR μ S H/\bV K mg μ S H σ τ/\aF K mg μ S H v z/\aE (bV K mg) WE μ S H (g z τ S) Q
noncomputable def NL(WE:WX)(g:XGs):TGs:=λvs σ H Q=>∃μ S τ zs,HR μ S H/\bV K mg μ S H σ τ/\bp K mg μ S H vs zs/\aE (bV K mg) WE μ S H (g zs τ S) Q
noncomputable def trI(WE:WX)(it:XI):TI:=λσ H Rr=>∃μ S τ,HR μ S H/\bV K mg μ S H σ τ/\aE (jr K mg) WE μ S H (it τ S) Rr
end
structure RE(X:Cx)(WE:WX)(e:Expr)(m:XE):Prop where
 h:PE X e (trE X.K X.mg WE m)
structure RT(X:Cx)(WE:WX)(e:Expr)(m:XT):Prop where
 h:PT X e (trT X.K X.mg WE m)
structure RW(X:Cx)(WE:WX)(e:Expr)(m:XT):Prop where
 h:PW X e (trT X.K X.mg WE m)
structure RA(X:Cx)(WE:WX)(es:List Expr)(m:XA):Prop where
 h:PA X es (trA X.K X.mg WE m)
structure RO(X:Cx)(WE:WX)(e:Option Expr)(m:XO):Prop where
 h:PO X e (trO X.K X.mg WE m)
structure RS(X:Cx)(WE:WX)(s:Stmt)(m:XS):Prop where
 h:PS X s (trS X.K X.mg WE m)
structure RB(X:Cx)(WE:WX)(s:List Stmt)(m:XS):Prop where
 h:PSs X s (trS X.K X.mg WE m)
structure RG(X:Cx)(WE:WX)(t:Expr)(g:XG):Prop where
 h:PG X t (trG X.K X.mg WE g)
structure RGs(X:Cx)(WE:WX)(ts:List Expr)(g:XGs):Prop where
 h:PGs X ts (NL X.K X.mg WE g)
structure RI(X:Cx)(WE:WX)(tg iter:Expr)(it:XI):Prop where
 h:PI X tg iter (trI X.K X.mg WE it)
structure RTs(X:Cx)(WE:WX)(ifs:List Expr)(m:XT):Prop where
 h:PTs X ifs (trT X.K X.mg WE m)
section
variable{X:Cx}
theorem PE.weak(h:PE X e t)(k:∀σ H Q,t' σ H Q->t σ H Q):PE X e t':=λpins s σ H Q I q=>h pins s σ H Q I (k σ H Q q)
theorem PT.weak(h:PT X e t)(k:∀σ H Q,t' σ H Q->t σ H Q):PT X e t':=λpins s σ H Q I q=>h pins s σ H Q I (k σ H Q q)
theorem PW.weak(h:PW X e t)(k:∀σ H Q,t' σ H Q->t σ H Q):PW X e t':=λwh pins s σ H Q I q=>h wh pins s σ H Q I (k σ H Q q)
theorem PA.weak(h:PA X e t)(k:∀σ H Q,t' σ H Q->t σ H Q):PA X e t':=λpo pins s σ H Q I q=>h po pins s σ H Q I (k σ H Q q)
theorem PS.weak(h:PS X e t)(k:∀D σ H,t' D σ H->t D σ H):PS X e t':=λpins s σ H D I q=>h pins s σ H D I (k D σ H q)
theorem PSs.weak(h:PSs X e t)(k:∀D σ H,t' D σ H->t D σ H):PSs X e t':=λpins s σ H D I q=>h pins s σ H D I (k D σ H q)
theorem PG.weak(h:PG X e t)(k:∀v σ H Q,t' v σ H Q->t v σ H Q):PG X e t':=λpins s σ H v u Q I r q=>h pins s σ H v u Q I r (k v σ H Q q)
theorem PGs.weak(h:PGs X e t)(k:∀v σ H Q,t' v σ H Q->t v σ H Q):PGs X e t':=λpins s σ H v u Q I r q=>h pins s σ H v u Q I r (k v σ H Q q)
theorem PI.weak(h:PI X tg e t)(k:∀σ H Q,t' σ H Q->t σ H Q):PI X tg e t':=λpins s σ H Q I q=>h pins s σ H Q I (k σ H Q q)
end
def cz(K:Oh)(mg:Str->Option Value)(r:R2)(f:Vl->Vl->Sto->R Vl):Prop:=∀(WE:WX)(μ:Nat->Addr)(S:Sto)(H:Hp)(v w:V)(x y:Vl)(Q:VK),HR μ S H->aF K mg μ S H v x->aF K mg μ S H w y->aE (aF K mg) WE μ S H (f x y S) Q->r v w H Q
def Je(K:Oh)(mg:Str->Option Value)(r:V->Hp->VK->Prop)(f:Vl->Sto->R Vl):Prop:=∀(WE:WX)(μ:Nat->Addr)(S:Sto)(H:Hp)(v:V)(x:Vl)(Q:VK),HR μ S H->aF K mg μ S H v x->aE (aF K mg) WE μ S H (f x S) Q->r v H Q
def fU(K:Oh)(mg:Str->Option Value)(r:List V->Hp->VK->Prop)(f:List Vl->Sto->R Vl):Prop:=∀(WE:WX)(μ:Nat->Addr)(S:Sto)(H:Hp)(vs:List V)(xs:List Vl)(Q:VK),HR μ S H->bp K mg μ S H vs xs->aE (aF K mg) WE μ S H (f xs S) Q->r vs H Q
noncomputable def aa(i:Nat):XE:=λτ S=>match τ[i]? with
 |some (some v)=>.ok v S
 |_=>.bad
noncomputable def xC(d:D):XE:=λ_ S=>.ok (.d d) S
noncomputable def xFn(x:Str):XE:=λ_ S=>.ok (.fn x) S
noncomputable def xOp(f:Vl->Vl->Sto->R Vl)(a b:XE):XE:=λτ S=>(a τ S).bind λx S1=>(b τ S1).bind λy S2=>f x y S2
noncomputable def xUn(f:Vl->Sto->R Vl)(a:XE):XE:=λτ S=>(a τ S).bind λx S1=>f x S1
noncomputable def fZ(f f':Vl->Vl->Sto->R Vl)(a b c:XE):XE:=λτ S=>(a τ S).bind λx S1=>(b τ S1).bind λy S2=>(f x y S2).bind λz S3=>match z with
 | .d (.bl k)=>if k=true then(c τ S3).bind λw S4=>f' y w S4 else .ok (.d (.bl false)) S3
 |_=>.bad
noncomputable def asB(z:Vl)(S:Sto):R Bool:=match z with
 | .d (.bl b)=>.ok b S
 |_=>.bad
noncomputable def aA(a:XE):XT:=λτ S=>(a τ S).bind asB
noncomputable def tru(z:Vl)(S:Sto):R Bool:=match z with
 | .d .non=>.ok false S
 | .d (.bl b)=>.ok b S
 | .d (.int i)=>.ok (i != 0) S
 | .d (.tup xs)=>.ok (!xs.isEmpty) S
 | .d (.lst xs)=>.ok (!xs.isEmpty) S
 | .r n=>match S[n]? with
  |some (.lst xs)=>.ok (!xs.isEmpty) S
  |some (.dct kvs)=>.ok (!kvs.isEmpty) S
  |_=>.bad
 |_=>.bad
noncomputable def bF(a:XE):XT:=λτ S=>(a τ S).bind tru
noncomputable def vo(a b:XT):XT:=λτ S=>(a τ S).bind λc S1=>if c=true then b τ S1 else .ok false S1
noncomputable def xOr(a b:XT):XT:=λτ S=>(a τ S).bind λc S1=>if c=true then .ok true S1 else b τ S1
noncomputable def cn(a:XT):XT:=λτ S=>(a τ S).bind λc S1=>.ok (!c) S1
noncomputable def bq(a b:XE):XE:=λτ S=>(a τ S).bind λx S1=>(asB x S1).bind λc S2=>if c=true then b τ S2 else .ok (.d (.bl false)) S2
noncomputable def DO(a b:XE):XE:=λτ S=>(a τ S).bind λx S1=>(asB x S1).bind λc S2=>if c=true then .ok (.d (.bl true)) S2 else b τ S2
noncomputable def uD(a:XE):XE:=λτ S=>(a τ S).bind λx S1=>(asB x S1).bind λc S2=>.ok (.d (.bl (!c))) S2
noncomputable def Ei(c:XT)(a b:XE):XE:=λτ S=>(c τ S).bind λk S1=>if k=true then a τ S1 else b τ S1
noncomputable def af:XA:=λ_ S=>.ok [] S
noncomputable def ab(a:XE)(r:XA):XA:=λτ S=>(a τ S).bind λx S1=>(r τ S1).bind λxs S2=>.ok (x::xs) S2
noncomputable def jE:List Vl->Option (List D)
 | []=>some []
 | .d x::r=>(jE r).map (x::·)
 |_=>none
noncomputable def mkT(xs:List Vl)(S:Sto):R Vl:=match jE xs with
 |some ds=>if ds.length<=100000 then .ok (.d (.tup ds)) S else .bad
 |none=>.bad
noncomputable def mkL(xs:List Vl)(S:Sto):R Vl:=match jE xs with
 |some ds=>if ds.length<=100000 then .ok (.d (.lst ds)) S else .bad
 |none=>.bad
noncomputable def mkM(xs:List Vl)(S:Sto):R Vl:=match jE xs with
 |some ds=>if ds.length<=100000 then .ok (.r S.length) (S++[.lst ds])else .bad
 |none=>.bad
noncomputable def xN(f:List Vl->Sto->R Vl)(as:XA):XE:=λτ S=>(as τ S).bind f
noncomputable def frz(z:Vl)(S:Sto):R Vl:=match z with
 | .r n=>match S[n]? with
  |some (.lst xs)=>.ok (.d (.lst xs)) (S.set n .dead)
  |some (.dct kvs)=>.ok (.fd kvs) (S.set n .dead)
  |_=>.bad
 |z=>.ok z S
noncomputable def xFz(a:XE):XE:=λτ S=>(a τ S).bind frz
noncomputable def kN:XO:=λ_ S=>.ok none S
noncomputable def lA(a:XE):XO:=λτ S=>(a τ S).bind λx S1=>match x with
 | .d (.int i)=>.ok (some i) S1
 |_=>.bad
noncomputable def xSl(f:Vl->Option Int->Option Int->Sto->R Vl)(a:XE)(l h:XO):XE:=λτ S=>(a τ S).bind λx S1=>(l τ S1).bind λi S2=>(h τ S2).bind λj S3=>f x i j S3
section
variable{X:Cx}{WE:WX}{a b c e:Expr}{xa xb xc xe:XE}{pos:Pos}{es:List Expr}{t u:XT}
theorem rv(i:Nat)(hN:X.N[i]?=some x:=by rfl)(hv:Vis X.env.scope x:=by first |exact Or.inl rfl |exact Or.inr (Or.inl rfl) |exact Or.inr (Or.inr rfl))(hd:(x==("__debug__":Str))=false:=by decide)
  (hcd:(x==("__classdict__":Str))=false:=by decide):RE X WE (.Name x pos) (aa i):=⟨(BR hN hv hd hcd).weak λσ H Q ⟨μ,S,τ,hr,sr,p⟩=>by
 unfold aa at p;split at p
 ·obtain⟨v,e1,r⟩:=sr.get _ _ ‹_›;exact⟨v,e1,p.here hr r⟩
 ·exact p.elim⟩
theorem cJ{i j}:RE X WE (.Constant (.int i) j pos) (xC (.int i)):=⟨IT.weak λ_ _ _ ⟨_,_,_,hr,_,p⟩=>p.here hr (Rep.int i)⟩
theorem dR{i j}:RE X WE (.Constant (.bool i) j pos) (xC (.bl i)):=⟨LU.weak λ_ _ _ ⟨_,_,_,hr,_,p⟩=>p.here hr (Rep.bl i)⟩
theorem HV{j}:RE X WE (.Constant .none j pos) (xC .non):=⟨Jn.weak λ_ _ _ ⟨_,_,_,hr,_,p⟩=>p.here hr Rep.non⟩
theorem fF{x j}:RE X WE (.Constant (.str x) j pos) (xC (.str x)):=⟨Jc.weak λ_ _ _ ⟨_,_,_,hr,_,p⟩=>p.here hr (Rep.str x)⟩
theorem Mx(hg:Gl X x)(hm:X.mg x=some (.ref f))(hd:(x==("__debug__":Str))=false:=by decide):RE X WE (.Name x pos) (xFn x):=
 ⟨(He (v:=.ref f) hg hm rfl hd).weak λ_ _ _ ⟨_,_,_,hr,_,p⟩=>p.here hr ⟨f,hm,rfl⟩⟩
theorem two(hf:cz X.K X.mg r f)(h:trE X.K X.mg WE (xOp f xa xb) σ H Q):tOp r (trE X.K X.mg WE xa) (trE X.K X.mg WE xb) σ H Q:=by
 obtain⟨μ,S,τ,hr,sr,p⟩:=h;refine⟨μ,S,τ,hr,sr,p.bind λv x S1 μ1 H1 st1 r1 p1=>?_⟩;refine⟨μ1,S1,τ,st1.hr,sr.step st1,p1.bind λw y S2 μ2 H2 st2 r2 p2=>?_⟩;exact hf WE μ2 S2 H2 v w x y Q st2.hr (r1.step st2) r2 p2
theorem gK(ho:OpR X (binaryOp op) r)(hf:cz X.K X.mg r f)(ha:RE X WE a xa)(hb:RE X WE b xb):RE X WE (.BinOp a op b pos) (xOp f xa xb):=
 ⟨(LN ho ha.h hb.h).weak λ_ _ _ h=>two hf h⟩
theorem Li(ho:UnR X (unaryOp op) r)(hf:Je X.K X.mg r f)(ha:RE X WE a xa):RE X WE (.UnaryOp op a pos) (xUn f xa):=
 ⟨(Mk ho ha.h).weak λσ H Q ⟨μ,S,τ,hr,sr,p⟩=>⟨μ,S,τ,hr,sr,p.bind λv x S1 μ1 H1 st1 r1 p1=>hf WE μ1 S1 H1 v x Q st1.hr r1 p1⟩⟩
theorem fV(ho:OpR X (compareOp op) r)(hf:cz X.K X.mg r f)(ha:RE X WE a xa)(hb:RE X WE b xb)(hm:behindInMarks op b=false:=by first |exact B4 _ |with_unfolding_all rfl):RE X WE (.Compare a [op] [b] pos) (xOp f xa xb):=
 ⟨(GG ho ha.h hb.h hm).weak λ_ _ _ h=>two hf h⟩
theorem xV(h:trT X.K X.mg WE (aA xa) σ H Q):trE X.K X.mg WE xa σ H λv H'=>∃k,v=.bl k/\Q k H':=by
 obtain⟨μ,S,τ,hr,sr,p⟩:=h;refine⟨μ,S,τ,hr,sr,p.bind λv x S1 μ1 H1 st1 r1 p1=>?_⟩;unfold asB at p1;split at p1
 ·cases(show Rep (vh μ1 S1 H1) v (.bl _)from r1);exact⟨_,rfl,p1.here st1.hr rfl⟩
 ·exact p1.elim
theorem cp(ho:OpR X (compareOp op) r)(hf:cz X.K X.mg r f)(ha:RE X WE a xa)(hb:RE X WE b xb)(hm:behindInMarks op b=false:=by first |exact B4 _ |with_unfolding_all rfl):RT X WE (.Compare a [op] [b] pos) (aA (xOp f xa xb)):=
 ⟨(F1 ho ha.h hb.h hm).weak λ_ _ _ h=>two hf (xV h)⟩
theorem wH(hf:cz X.K X.mg r f)(hf':cz X.K X.mg r' f')(h:trE X.K X.mg WE (fZ f f' xa xb xc) σ H Q):vt r r' (trE X.K X.mg WE xa) (trE X.K X.mg WE xb) (trE X.K X.mg WE xc) σ H Q:=by
 obtain⟨μ,S,τ,hr,sr,p⟩:=h;refine⟨μ,S,τ,hr,sr,p.bind λv x S1 μ1 H1 st1 r1 p1=>?_⟩;refine⟨μ1,S1,τ,st1.hr,sr.step st1,p1.bind λw y S2 μ2 H2 st2 r2 p2=>?_⟩;refine hf WE μ2 S2 H2 v w x y _ st2.hr (r1.step st2) r2 (p2.bind λz zz S3 μ3 H3 st3 r3 p3=>?_)
 try dsimp only at p3
 split at p3
 ·cases(show Rep (vh μ3 S3 H3) z (.bl _)from r3);refine⟨_,rfl,?_⟩;split at p3
  ·rename_i k hk;rw[Oe hk];refine⟨μ3,S3,τ,st3.hr,sr.step (st1.trans (st2.trans st3)),p3.bind λq qq S4 μ4 H4 st4 r4 p4=>?_⟩;exact hf' WE μ4 S4 H4 w q y qq Q st4.hr (r2.step (st3.trans st4)) r4 p4
  ·rename_i k hk;rw[Ot hk];exact p3.here st3.hr (Rep.bl false)
 ·exact p3.elim
theorem CK(ho:OpR X (compareOp op) r)(hf:cz X.K X.mg r f)(ho':OpR X (compareOp op') r')(hf':cz X.K X.mg r' f')(ha:RE X WE a xa)(hb:RE X WE b xb)(hc:RE X WE c xc)
  (hm:lastMarks [op,op'] [b,c]=false:=by with_unfolding_all rfl):RE X WE (.Compare a [op,op'] [b,c] pos) (fZ f f' xa xb xc):=⟨(DA ho ho' ha.h hb.h hc.h hm).weak λ_ _ _ h=>wH hf hf' h⟩
theorem Dt(ho:OpR X (compareOp op) r)(hf:cz X.K X.mg r f)(ho':OpR X (compareOp op') r')(hf':cz X.K X.mg r' f')(ha:RE X WE a xa)(hb:RE X WE b xb)(hc:RE X WE c xc)
  (hm:lastMarks [op,op'] [b,c]=false:=by with_unfolding_all rfl):RT X WE (.Compare a [op,op'] [b,c] pos) (aA (fZ f f' xa xb xc)):=⟨(DS ho ho' ha.h hb.h hc.h hm).weak λ_ _ _ h=>wH hf hf' (xV h)⟩
theorem isE{α m:Type}{xs:List α}{ys:List m}(h:xs.length=ys.length):(!xs.isEmpty)=!ys.isEmpty:=by
  cases xs<;>cases ys<;>first |rfl |simp at h
theorem KD{K:Oh}{mg:Str->Option Value}{WE:WX}{μ:Nat->Addr}{S:Sto}{H:Hp}{v:V}{x:Vl}{Q:Bool->Hp->Prop}(hr:HR μ S H)(r:aF K mg μ S H v x)(p:aE RlQ WE μ S H (tru x S) Q):∃k,DB K v H k/\Q k H:=by
 unfold tru at p;split at p
 ·cases(show Rep (vh μ S H) v .non from r);exact⟨false,rfl,p.here hr rfl⟩
 ·cases(show Rep (vh μ S H) v (.bl _)from r);exact⟨_,rfl,p.here hr rfl⟩
 ·cases(show Rep (vh μ S H) v (.int _)from r);exact⟨_,rfl,p.here hr rfl⟩
 ·cases(show Rep (vh μ S H) v (.tup _)from r)with
  |tup h rs=>exact⟨_,.inr (.inl ⟨_,SqT.of (aH h).2,rfl⟩),by rw[isE rs.length];exact p.here hr rfl⟩
 ·cases(show Rep (vh μ S H) v (.lst _)from r)with
  |lst h rs=>exact⟨_,.inl ⟨_,SqL.of (aH h).2,rfl⟩,by rw[isE rs.length];exact p.here hr rfl⟩
 ·obtain⟨rfl,hn⟩:=r;split at p
  ·rename_i xs e;obtain⟨vs,h,rs⟩:=hr.ob _ _ e;exact⟨_,.inl ⟨_,SqL.of h,rfl⟩,by rw[isE rs.length];exact p.here hr rfl⟩
  ·rename_i kvs e;obtain⟨vs,l,h,rs⟩:=hr.ob _ _ e;exact⟨_,.inr (.inr ⟨_,h,rfl⟩),by rw[isE (ys:=kvs) (by simp[l])];exact p.here hr rfl⟩
  ·exact p.elim
 ·exact p.elim
theorem cK(ha:RE X WE a xa)(he:∀whole,isTrue a X.env whole=(do let v<-whole;standAt a.pos;holding [v] (truthy v)):=by intro _;rfl):RT X WE a (bF xa):=
 ⟨(Dl ha.h he).weak λσ H Q ⟨μ,S,τ,hr,sr,p⟩=>⟨μ,S,τ,hr,sr,p.bind λv x S1 μ1 H1 st1 r1 p1=>KD st1.hr r1 p1⟩⟩
theorem Hb(ha:RT X WE a t):RW X WE (.BoolOp .And [a] pos) t:=⟨FY ha.h⟩
theorem kz(ha:RT X WE a t):RW X WE (.BoolOp .Or [a] pos) t:=⟨Lb ha.h⟩
theorem Ji(ha:RT X WE a t)(hb:RW X WE (.BoolOp .And (b::es) pos) u):RW X WE (.BoolOp .And (a::b::es) pos) (vo t u):=
 ⟨(Ig ha.h hb.h).weak λσ H Q ⟨μ,S,τ,hr,sr,p⟩=>⟨μ,S,τ,hr,sr,p.bind λk k' S1 μ1 H1 st1 r1 p1=>by
  cases(show k=k' from r1)
  try dsimp only at p1
  split at p1
  ·rename_i hk;rw[Oe hk];exact⟨μ1,S1,τ,st1.hr,sr.step st1,p1⟩
  ·rename_i hk;rw[Ot hk];exact p1.here st1.hr rfl⟩⟩
theorem oq(ha:RT X WE a t)(hb:RW X WE (.BoolOp .Or (b::es) pos) u):RW X WE (.BoolOp .Or (a::b::es) pos) (xOr t u):=
 ⟨(Ms ha.h hb.h).weak λσ H Q ⟨μ,S,τ,hr,sr,p⟩=>⟨μ,S,τ,hr,sr,p.bind λk k' S1 μ1 H1 st1 r1 p1=>by
  cases(show k=k' from r1)
  try dsimp only at p1
  split at p1
  ·rename_i hk;rw[Oe hk];exact p1.here st1.hr rfl
  ·rename_i hk;rw[Ot hk];exact⟨μ1,S1,τ,st1.hr,sr.step st1,p1⟩⟩⟩
theorem RW.rt(h:RW X WE a t):RT X WE a t:=⟨h.h.pt⟩
theorem ja(ha:RT X WE a t):RT X WE (.UnaryOp .Not a pos) (cn t):=
 ⟨(KL ha.h).weak λσ H Q ⟨μ,S,τ,hr,sr,p⟩=>⟨μ,S,τ,hr,sr,p.bind λk k' S1 μ1 H1 st1 r1 p1=>by
  cases(show k=k' from r1);exact p1.here st1.hr rfl⟩⟩
theorem vX{K:Oh}{mg:Str->Option Value}{α m:Type}{Rl:(Nat->Addr)->Sto->Hp->m->α->Prop}{μ:Nat->Addr}{S:Sto}{H:Hp}{v:V}{x:Vl}{Q:m->Hp->Prop}{f:Bool->Sto->R α}(r:aF K mg μ S H v x)(p:aE Rl WE μ S H ((asB x S).bind f) Q):∃k,v=.bl k/\aE Rl WE μ S H (f k S) Q:=by
 unfold asB at p;split at p
 ·cases(show Rep (vh μ S H) v (.bl _)from r);exact⟨_,rfl,p⟩
 ·exact p.elim
theorem HY{op}(ha:RE X WE a xa):RE X WE (.BoolOp op [a] pos) xa:=⟨Jo ha.h⟩
theorem I_(ha:RE X WE a xa)(hb:RE X WE (.BoolOp .And (b::es) pos) xb):RE X WE (.BoolOp .And (a::b::es) pos) (bq xa xb):=
 ⟨(JP ha.h hb.h).weak λσ H Q ⟨μ,S,τ,hr,sr,p⟩=>⟨μ,S,τ,hr,sr,p.bind λv x S1 μ1 H1 st1 r1 p1=>by
  obtain⟨k,rfl,p1⟩:=vX r1 p1;refine⟨k,rfl,?_⟩;split at p1
  ·rename_i hk;rw[Oe hk];exact⟨μ1,S1,τ,st1.hr,sr.step st1,p1⟩
  ·rename_i hk;rw[Ot hk];exact p1.here st1.hr (Rep.bl false)⟩⟩
theorem Nb(ha:RE X WE a xa)(hb:RE X WE (.BoolOp .Or (b::es) pos) xb):RE X WE (.BoolOp .Or (a::b::es) pos) (DO xa xb):=
 ⟨(L_ ha.h hb.h).weak λσ H Q ⟨μ,S,τ,hr,sr,p⟩=>⟨μ,S,τ,hr,sr,p.bind λv x S1 μ1 H1 st1 r1 p1=>by
  obtain⟨k,rfl,p1⟩:=vX r1 p1;refine⟨k,rfl,?_⟩;split at p1
  ·rename_i hk;rw[Oe hk];exact p1.here st1.hr (Rep.bl true)
  ·rename_i hk;rw[Ot hk];exact⟨μ1,S1,τ,st1.hr,sr.step st1,p1⟩⟩⟩
theorem Ay(ha:RE X WE a xa):RE X WE (.UnaryOp .Not a pos) (uD xa):=
 ⟨(Jr ha.h).weak λσ H Q ⟨μ,S,τ,hr,sr,p⟩=>⟨μ,S,τ,hr,sr,p.bind λv x S1 μ1 H1 st1 r1 p1=>by
  obtain⟨k,rfl,p1⟩:=vX r1 p1;exact⟨k,rfl,p1.here st1.hr (Rep.bl _)⟩⟩⟩
theorem Ky(hc:RT X WE c t)(ha:RE X WE a xa)(hb:RE X WE b xb):RE X WE (.IfExp c a b pos) (Ei t xa xb):=
 ⟨(EJ hc.h ha.h hb.h).weak λσ H Q ⟨μ,S,τ,hr,sr,p⟩=>⟨μ,S,τ,hr,sr,p.bind λk k' S1 μ1 H1 st1 r1 p1=>by
  cases(show k=k' from r1)
  try dsimp only at p1
  split at p1
  ·rename_i hk;rw[Oe hk];exact⟨μ1,S1,τ,st1.hr,sr.step st1,p1⟩
  ·rename_i hk;rw[Ot hk];exact⟨μ1,S1,τ,st1.hr,sr.step st1,p1⟩⟩⟩
theorem ax:RA X WE [] af:=⟨h8.weak λσ H Q ⟨μ,S,τ,hr,sr,p⟩=>p.here hr .nil⟩
theorem aq[n:NS e](ha:RE X WE e xe)(hr:RA X WE es ts):RA X WE (e::es) (ab xe ts):=
 ⟨(eC ha.h hr.h (n.eq es X.env)).weak λσ H Q ⟨μ,S,τ,hr,sr,p⟩=>⟨μ,S,τ,hr,sr,p.bind λv x S1 μ1 H1 st1 r1 p1=>⟨μ1,S1,τ,st1.hr,sr.step st1,p1.bind λvs xs S2 μ2 H2 st2 r2 p2=>
  p2.here st2.hr (.cons (r1.step st2) r2)⟩⟩⟩
theorem fR{K:Oh}{mg:Str->Option Value}{μ:Nat->Addr}{S:Sto}{H:Hp}:∀{vs:List V}{xs:List Vl}{ds:List D},bp K mg μ S H vs xs->jE xs=some ds->ak (vh μ S H) vs ds
 |_,_,_,.nil,e=>by simp[jE]at e;subst e;exact .nil
 |_,_,ds,@bp.cons _ _ _ _ _ v x vs xs r t,e=>by
  cases x with
  |d x=>
   simp only[jE,PB]at e;obtain⟨es,e1,rfl⟩:=e;exact .cons r (fR t e1)
  |_=>simp[jE]at e
theorem kh(h:n<=100000):n<=sizeLine:=by rw[QT];omega
theorem aE.sA{K:Oh}{mg:Str->Option Value}{μ:Nat->Addr}{S:Sto}{H:Hp}{Q:VK}{vs:List V}{ds:List D}(hr:HR μ S H)(rs:ak (vh μ S H) vs ds)(p:aE (aF K mg) WE μ S H (.ok (.d (.tup ds)) S) Q)(q:Addr)(hq:H q=none):Q (.ref q) (upd H q (.tup vs)):=by
 have st:=Step.new hr hq (.tup vs);exact p _ μ _ st (Rep.tup (bB ba (hr.nal hq)) (rs.mono st.vis))
theorem ed{ts:XA}{k:Nat}(h:RA X WE es ts):RE X WE (.Tuple es k pos) (xN mkT ts):=
 ⟨(By h.h).weak λσ H Q ⟨μ,S,τ,hr,sr,p⟩=>⟨μ,S,τ,hr,sr,p.bind λvs xs S1 μ1 H1 st1 r1 p1=>by
  unfold mkT at p1;split at p1
  ·rename_i ds e;split at p1
   ·have rs:=fR r1 e;refine⟨kh (by rw[rs.length];assumption),λq hq=>p1.sA st1.hr rs q hq⟩
   ·exact p1.elim
  ·exact p1.elim⟩⟩
end
section
variable{X:Cx}{WE:WX}{a b c e:Expr}{xa xb xc xe:XE}{pos:Pos}{es:List Expr}{t u:XT}{K:Oh}{mg:Str->Option Value}{μ:Nat->Addr}{S:Sto}{H:Hp}{Q:VK}{vs:List V}{ds:List D}
theorem aE.l_(hr:HR μ S H)(rs:ak (vh μ S H) vs ds)(p:aE (aF K mg) WE μ S H (.ok (.d (.lst ds)) S) Q)(q:Addr)(hq:H q=none):Q (.ref q) (upd H q (.lst vs)):=by
 have st:=Step.new hr hq (.lst vs);exact p _ μ _ st (Rep.lst (bB ba (hr.nal hq)) (rs.mono st.vis))
theorem aE.CZ(hr:HR μ S H)(rs:ak (vh μ S H) vs ds)(p:aE (aF K mg) WE μ S H (.ok (.r S.length) (S++[.lst ds])) Q)(q:Addr)(hq:H q=none):Q (.ref q) (upd H q (.lst vs)):=
 p _ _ _ (Step.alloc hr hq (ob:=.lst ds) ⟨vs,rfl,rs⟩) ⟨by rw[cw],by simp⟩
theorem BI{ts:XA}(h:RA X WE es ts):RE X WE (.List es pos) (xN mkL ts):=
 ⟨(Cu h.h).weak λσ H Q ⟨μ,S,τ,hr,sr,p⟩=>⟨μ,S,τ,hr,sr,p.bind λvs xs S1 μ1 H1 st1 r1 p1=>by
  unfold mkL at p1;split at p1
  ·rename_i ds e;split at p1
   ·have rs:=fR r1 e;refine⟨kh (by rw[rs.length];assumption),λq hq=>p1.l_ st1.hr rs q hq⟩
   ·exact p1.elim
  ·exact p1.elim⟩⟩
theorem yl{ts:XA}(h:RA X WE es ts):RE X WE (.List es pos) (xN mkM ts):=
 ⟨(Cu h.h).weak λσ H Q ⟨μ,S,τ,hr,sr,p⟩=>⟨μ,S,τ,hr,sr,p.bind λvs xs S1 μ1 H1 st1 r1 p1=>by
  unfold mkM at p1;split at p1
  ·rename_i ds e;split at p1
   ·have rs:=fR r1 e;refine⟨kh (by rw[rs.length];assumption),λq hq=>p1.CZ st1.hr rs q hq⟩
   ·exact p1.elim
  ·exact p1.elim⟩⟩
theorem uG(ha:RE X WE a xa):RE X WE a (xFz xa):=
 ⟨λpins s σ H Q I ⟨μ,S,τ,hr,sr,p⟩=>by
  refine thn (ha.h pins s σ H (λv H1=>∃μ1 S1 x,HR μ1 S1 H1/\aF X.K X.mg μ1 S1 H1 v x/\aE (aF X.K X.mg) WE μ1 S1 H1 (frz x S1) Q) I ⟨μ,S,τ,hr,sr,p.bind λv x S1 μ1 H1 st1 r1 p1=>⟨μ1,S1,x,st1.hr,r1,p1⟩⟩) λu s1 ⟨v,H1,I1,ru,μ1,S1,x,hr1,r1,p1⟩=>?_;unfold frz at p1;split at p1
  ·obtain⟨rfl,hn⟩:=r1;split at p1
   ·rename_i n xs e;obtain⟨vs,h,rs⟩:=hr1.ob _ _ e;obtain⟨st2,na⟩:=Step.freeze hr1 e (by simp);exact⟨_,H1,I1,ru,p1 _ _ _ st2 (Rep.lst (bB h na) (rs.mono st2.vis))⟩
   ·rename_i n _ kvs e;obtain⟨vs,l,h,rs⟩:=hr1.ob _ _ e;have ok:aV X.prog X.w H1 s1.heap (μ1 n) (.dK ((kvs.map (·.1)).zip vs)):=I1.hok _ _ h;obtain⟨z1,z2,ws,rel,o,es,ep,ho,r⟩:=ok;obtain⟨st2,na⟩:=Step.vU hr1 (.frz o (.dK ((kvs.map (·.1)).zip vs))) e (by simp);exact⟨_,_,I1.write (o:=.frz o (.dK ((kvs.map (·.1)).zip vs))) (h':=s1.heap) (x:=μ1 n) (e:=μ1 n) (t':=s1.toks) (by rw[h];exact True.intro) (.inl rfl) (λb q _ hq=>hq) ⟨o,ho⟩ (show _/\_ from⟨ho,z1,z2,ws,rel,o,es,ep,ho,r⟩),ru,p1 _ _ _ st2 ⟨_,vs,o,rfl,l,bB ba na,rs.mono st2.vis⟩⟩
   ·exact p1.elim
  ·exact⟨_,H1,I1,ru,p1.here hr1 r1⟩⟩
theorem a_{x:Str}{p:Pos}{id:String}{r:List V->Hp->VK->Prop}{f:List Vl->Sto->R Vl}{ts:XA}[n:NS e](hc:aX X (.builtin id) r)(hf:fU X.K X.mg r f)(hm:X.mg x=none)(hv:bootBuiltins x=some (.builtin id))(ha:RA X WE (e::es) ts)(hg:Gl X x:=by exact rfl)(hn:x≠"__name__":=by decide)(hdb:(x==("__debug__":Str))=false:=by decide)
  (hpl:(backTo pos (starEach es X.env)).any (·.1)=false:=by rfl):RE X WE (.Call (.Name x p) (e::es) [] pos) (xN f ts):=
 ⟨(Ey hc hg hm hv ha.h hn hdb (n.eq es X.env) hpl).weak λσ H Q ⟨μ,S,τ,hr,sr,p⟩=>⟨μ,S,τ,hr,sr,p.bind λvs xs S1 μ1 H1 st1 r1 p1=>hf WE μ1 S1 H1 vs xs Q st1.hr r1 p1⟩⟩
theorem dj{x:Str}{p:Pos}{T:String}{r:List V->Hp->VK->Prop}{f:List Vl->Sto->R Vl}{ts:XA}[n:NS e](hc:aX X (.type T) r)(hf:fU X.K X.mg r f)(hm:X.mg x=none)(hv:bootBuiltins x=some (.type T))(ha:RA X WE (e::es) ts)(hg:Gl X x:=by exact rfl)(hn:x≠"__name__":=by decide)(hdb:(x==("__debug__":Str))=false:=by decide)
  (hpl:(backTo pos (starEach es X.env)).any (·.1)=false:=by rfl):RE X WE (.Call (.Name x p) (e::es) [] pos) (xN f ts):=
 ⟨(BA hc hg hm hv ha.h hn hdb (n.eq es X.env) hpl).weak λσ H Q ⟨μ,S,τ,hr,sr,p⟩=>⟨μ,S,τ,hr,sr,p.bind λvs xs S1 μ1 H1 st1 r1 p1=>hf WE μ1 S1 H1 vs xs Q st1.hr r1 p1⟩⟩
noncomputable def spM(K:Oh)(mg:Str->Option Value)(F:XF):Sp:=λvs H Q _=>∃μ S us,HR μ S H/\bp K mg μ S H vs us/\aE (aF K mg) W0 μ S H (F us S) Q
noncomputable def noX{α:Type}(r:R α):R α:=match r with
 | .ex _ _ _=>.bad
 |r=>r
noncomputable def ai(F:XF)(as:XA):XE:=λτ S=>(as τ S).bind λus S1=>noX (F us S1)
theorem aE.noX{α y:Type}{Rl:(Nat->Addr)->Sto->Hp->y->α->Prop}{res:R α}{Q:y->Hp->Prop}(h:aE Rl WE μ S H (noX res) Q):aE Rl W0 μ S H res Q:=by
 cases res with
 |ok a S'=>exact h
 |ex c xs S'=>exact h.elim
 |bad=>exact h.elim
end
section
variable{X:Cx}{WE:WX}{e:Expr}{es:List Expr}{pos p:Pos}{lev j:Nat}{ps:List Str}{F:XF}{x:Str}{ts:XA}
def OkE(P:Program)(w:World)(K:Oh)(mg:Str->Option Value)(lev:Nat)(x:Str)(ps:List Str)(M:XF):Prop:=∃(f:Addr)(fd:FuncData),mg x=some (.ref f)/\R4 K (.ref f)=true/\(∀us:List Value,us.length=ps.length->bindArgs fd ⟨us,[]⟩=pure (ps.zip us))/\∀base,dY P w K mg base CX0 lev f fd ps (spM K mg M)
theorem bj[n:NS e](G:OkE X.prog X.w X.K X.mg lev x ps F)(hr:cP j X.A)(ha:RA X WE (e::es) ts)(hj:lev<=j:=by decide)(hg:Gl X x:=by exact rfl)
  (hdb:(x==("__debug__":Str))=false:=by decide) (hpl:(backTo pos (starEach es X.env)).any (·.1)=false:=by rfl):RE X WE (.Call (.Name x p) (e::es) [] pos) (ai F ts):=by
 obtain⟨f,fd,hm,hk,hb,G⟩:=G;exact⟨(GF (G X.base) (hr.mono hj) hg hm hk (.all hb) .nil EX ha.h hdb (n.eq es X.env) hpl).weak λσ H Q ⟨μ,S,τ,hr,sr,p⟩=>⟨μ,S,τ,hr,sr,p.bind λvs xs S1 μ1 H1 st1 r1 p1=>by
  rw[Qp];exact⟨μ1,S1,xs,st1.hr,r1,p1.noX⟩⟩⟩
end
noncomputable def out(S:Sto)(z:Vl)(S':Sto):R Vl:=match z with
 | .r n=>if n<S.length then .ok (.r n) (S'.take S.length)else match S'[n]? with
  |some (.lst xs)=>.ok (.r S.length) (S'.take S.length++[.lst xs])
  |some (.dct kvs)=>.ok (.r S.length) (S'.take S.length++[.dct kvs])
  |_=>.bad
 | .pr x n=>if n<S.length then .ok (.pr x n) (S'.take S.length)else match S'[n]? with
  |some (.lst xs)=>.ok (.pr x S.length) (S'.take S.length++[.lst xs])
  |_=>.bad
 |z=>.ok z (S'.take S.length)
noncomputable def leave(S:Sto)(r:R (Fl×Nv)):R Vl:=match r with
 | .ok q S'=>(match q.1 with
  | .nx=>out S (.d .non) S'
  | .rt z=>out S z S'
  |_=>.bad)
 | .ex c xs S'=>.ex c xs (S'.take S.length)
 | .bad=>.bad
noncomputable def ay(k n:Nat)(b:XS):XF:=λus S=>if us.length=k then leave S (b (us.map some++Pm (n-k) none) S)else .bad
section
variable{K:Oh}{mg:Str->Option Value}{μ μ':Nat->Addr}{S S':Sto}{H H':Hp}{Q:VK}
theorem dJ{k:Nat}:dy (vh μ S H) (vh μ (S.take k) H):=λb u q=>by
 obtain⟨z,q⟩:=aH q;refine bB q ?_;rintro⟨m,u,e,d,rfl⟩;exact z ⟨m,u,(dv e).2,d,rfl⟩
theorem Hi{k n:Nat}{ob:Ob}(hk:k<=S.length)(e0:S[n]?=some ob)(d0:ob≠.dead):dy (vh μ S H) (vh (ext μ k (μ n)) (S.take k++[ob]) H):=λb u q=>by
 obtain⟨z,q⟩:=aH q;refine bB q ?_;rintro⟨m,u,e,d,rfl⟩;have lt:(S.take k).length=k:=by rw[Pd];omega
 by_cases hm:m<k
 ·rw[OC ⋯]at e;exact z ⟨m,u,(dv e).2,d,by rw[m7 (OE hm)]⟩
 ·have hm':m=k:=by
   have:=(Ol.mp e).1;simp only[Pj,lt,U1]at this;omega
  subst hm';exact z ⟨n,ob,e0,d0,by rw[cw]⟩
theorem AL{WE:WX}{v:V}{z:Vl}(st:Step μ S H μ' S' H')(r:aF K mg μ' S' H' v z)(p:aE (aF K mg) WE μ S H (out S z S') Q):Q v H':=by
 have st':=st.take;cases z with
 |d x=>exact p v μ' H' st' (Rep.mono dJ r)
 |fd kvs=>obtain⟨a,vs,o,e,l,h,rs⟩:=r;exact p v μ' H' st' ⟨a,vs,o,e,l,dJ _ _ h,rs.mono dJ⟩
 |fn x=>exact p v μ' H' st' r
 |sc ns=>obtain⟨l,e,h⟩:=r;exact p v μ' H' st' ⟨l,e,h.mono dJ⟩
 |xc c xs=>obtain⟨a,C,e,m,h⟩:=r;exact p v μ' H' st' ⟨a,C,e,m,h.mono dJ⟩
 |kt ws=>exact p v μ' H' st' r
 |xl es=>obtain⟨l,vs,e,q,h⟩:=r;exact p v μ' H' st' ⟨l,vs,e,dJ _ _ q,h.mono dJ⟩
 |pr x n=>
  obtain⟨a,u,rfl,h,ru,hn⟩:=r;unfold out at p
  try dsimp only at p
  split at p
  ·exact p _ μ' H' st' ⟨a,u,rfl,dJ _ _ h,Rep.mono dJ ru,by rw[Pd];omega⟩
  ·have lt:(S'.take S.length).length=S.length:=by rw[Pd];have:=st.le;omega
   split at p
   ·rename_i xs e;have k:=Hi (μ:=μ') (H:=H') (k:=S.length) st.le e (by simp);exact p _ _ H' (st.move ⋯ e (by simp)) ⟨a,u,rfl,by rw[cw];exact k _ _ h,Rep.mono k ru,by simp[lt]⟩
   ·exact p.elim
 |r n=>
  obtain⟨rfl,hn⟩:=r;unfold out at p
  try dsimp only at p
  split at p
  ·exact p _ μ' H' st' ⟨rfl,by rw[Pd];omega⟩
  ·have lt:(S'.take S.length).length=S.length:=by rw[Pd];have:=st.le;omega
   split at p
   ·rename_i xs e;exact p _ _ H' (st.move ⋯ e (by simp)) ⟨by rw[cw],by simp[lt]⟩
   ·rename_i xs e;exact p _ _ H' (st.move ⋯ e (by simp)) ⟨by rw[cw],by simp[lt]⟩
   ·exact p.elim
theorem Nl{P:Program}{w:World}{base:Heap}{x qual:Str}{st:Stmt}{f:Addr}{fd:FuncData}{N ps:List Str}{lev:Nat}{m:XS}(F:Fun K x qual st f fd)(Sc:kX N ps (bM st))
  (hb:∀(cdv:Value)(A:Around)(outer:List Env)(s:Shared)(H:Hp)(E:XK),cP lev (A.deeper (envOfC qual (bM st) s.heap.objs.size f cdv))->RB (mT CX0 P w K mg base N qual (bM st) f cdv A outer s H E).nox W0 (fz st) m) :
  dY P w K mg base CX0 (lev+1) f fd ps (spM K mg (ay ps.length N.length m)):=by
 refine F.ok Sc (λvs H Q E h=>?_) (λcdv A outer s H vs Q E hr h=>?_)
 ·obtain⟨μ,S,us,hr,rs,p⟩:=h;unfold ay at p;split at p
  ·rw[rs.length];assumption
  ·exact p.elim
 ·refine⟨_,(hb cdv A outer s H E hr).h,?_⟩;obtain⟨μ,S,us,hr,rs,p⟩:=h;unfold ay at p;split at p
  ·rename_i hl;have sr:bV K mg μ S H (start N vs) (us.map some++Pm (N.length-ps.length) none):=by
    rw[<-hl];exact bV.beg rs
   refine⟨μ,S,_,hr,sr,?_⟩;generalize m (us.map some++Pm (N.length-ps.length) none) S=res at p;cases res with
   |bad=>exact p.elim
   |ex c xs S'=>exactλμ' H' st=>p μ' H' st.take
   |ok q S'=>
    obtain⟨fl,q'⟩:=q;rintro⟨fv,z'⟩ μ' H' st ⟨sr',fr⟩;cases fl with
    |nx=>
     cases fv with
     |nx=>exact AL (K:=K) (mg:=mg) (v:=.non) (z:=.d .non) st Rep.non p
     |_=>exact(show False from fr).elim
    |rt z=>
     cases fv with
     |rt v=>exact AL st fr p
     |_=>exact(show False from fr).elim
    |bk=>exact(show False from p).elim
    |ct=>exact(show False from p).elim
  ·exact p.elim
end
noncomputable def aB:XS:=λτ S=>.ok (.nx,τ) S
noncomputable def aj(a b:XS):XS:=λτ S=>(a τ S).bind λq S1=>match q.1 with
 | .nx=>b q.2 S1
 |_=>.ok q S1
noncomputable def cO(e:XE):XS:=λτ S=>(e τ S).bind λ_ S1=>.ok (.nx,τ) S1
noncomputable def au(e:XE):XS:=λτ S=>(e τ S).bind λz S1=>.ok (.rt z,τ) S1
noncomputable def Ng:XS:=λτ S=>.ok (.rt (.d .non),τ) S
noncomputable def Ir:XS:=λτ S=>.ok (.bk,τ) S
noncomputable def uF:XS:=λτ S=>.ok (.ct,τ) S
noncomputable def xIf(c:XT)(a b:XS):XS:=λτ S=>(c τ S).bind λk S1=>if k=true then a τ S1 else b τ S1
noncomputable def b6:XS:=λ_ _=>.bad
noncomputable def az(e:XE)(g:XG):XS:=λτ S=>(e τ S).bind λz S1=>(g z τ S1).bind λτ1 S2=>.ok (.nx,τ1) S2
noncomputable def gNm(i:Nat):XG:=λz τ S=>.ok (τ.set i (some z)) S
noncomputable def gTu(n:Nat)(g:XGs):XG:=λz τ S=>match z with
 | .d (.tup xs)=>if xs.length=n then g (xs.map Vl.d) τ S else .bad
 |_=>.bad
noncomputable def gN0:XGs:=λzs τ S=>match zs with
 | []=>.ok τ S
 |_=>.bad
noncomputable def gCo(g:XG)(gs:XGs):XGs:=λzs τ S=>match zs with
 |z::r=>(g z τ S).bind λτ1 S1=>gs r τ1 S1
 | []=>.bad
noncomputable def gSb(o i:XE)(f:Vl->Vl->Vl->Sto->R Unit):XG:=λz τ S=>(o τ S).bind λx S1=>(i τ S1).bind λy S2=>(f x y z S2).bind λ_ S3=>.ok τ S3
def gok(gd:Option (Nat×Ob))(S:Sto):Prop:=match gd with
 |none=>True
 |some (n,o)=>S[n]?=some o
open Classical in
noncomputable def cc (g:XG) (b:XS) (gd:Option (Nat×Ob)):List Vl->Nv->Sto->R (Fl×Nv)
 | [],τ,S=>.ok (.nx,τ) S
 |z::zs,τ,S=>(g z τ S).bind λτ1 S1=>(b τ1 S1).bind λq S2=>match q.1 with
  | .bk=>.ok (.nx,q.2) S2
  | .rt v=>.ok (.rt v,q.2) S2
  |_=>if gok gd S2 then cc g b gd zs q.2 S2 else .bad
noncomputable def bU(it:XI)(g:XG)(b:XS):XS:=λτ S=>(it τ S).bind λI S1=>cc g b I.gd I.items τ S1
noncomputable def de:Nat->XT->XS->XS
 |0,_,_=>λ_ _=>.bad
 |n+1,c,b=>λτ S=>(c τ S).bind λk S1=>if k=true then(b τ S1).bind λq S2=>(match q.1 with
  | .bk=>.ok (.nx,q.2) S2
  | .rt v=>.ok (.rt v,q.2) S2
  |_=>de n c b q.2 S2)else .ok (.nx,τ) S1
section
variable{X:Cx}{WE:WX}{e c tg iter:Expr}{xe:XE}{t:XT}{pos:Pos}{st:Stmt}{sts sts':List Stmt}{m m':XS}{g:XG}{gs:XGs}{it:XI}
theorem cM:RB X WE [] aB:=⟨GX.weak λD σ H ⟨μ,S,τ,hr,sr,p⟩=>p.here (b:=(FlV.nx,σ)) hr ⟨sr,True.intro⟩⟩
theorem aJ(h:RS X WE st m):RB X WE [st] m:=⟨GV h.h⟩
theorem aI(h:RS X WE st m)(h':RB X WE sts m'):RB X WE (st::sts) (aj m m'):=
 ⟨(CF h.h h'.h).weak λD σ H ⟨μ,S,τ,hr,sr,p⟩=>⟨μ,S,τ,hr,sr,p.bind λb q S1 μ1 H1 st1 r1 p1=>by
  obtain⟨fv,σ1⟩:=b;obtain⟨fl,τ1⟩:=q;obtain⟨sr1,fr⟩:=r1;cases fl with
  |nx=>cases fv with
   |nx=>exact⟨μ1,S1,τ1,st1.hr,sr1,p1⟩
   |_=>exact(show False from fr).elim
  |bk=>cases fv with
   |bk=>exact(show D.at (FlV.bk,σ1) H1 from aE.here (b:=(FlV.bk,σ1)) st1.hr p1 ⟨sr1,True.intro⟩)
   |_=>exact(show False from fr).elim
  |ct=>cases fv with
   |ct=>exact(show D.at (FlV.ct,σ1) H1 from aE.here (b:=(FlV.ct,σ1)) st1.hr p1 ⟨sr1,True.intro⟩)
   |_=>exact(show False from fr).elim
  |rt z=>cases fv with
   |rt v=>exact(show D.at (FlV.rt v,σ1) H1 from aE.here (b:=(FlV.rt v,σ1)) st1.hr p1 ⟨sr1,fr⟩)
   |_=>exact(show False from fr).elim⟩⟩
theorem sm(he:RE X WE e xe)(hs:swapsWith e none pos.line X.env=pure false:=by rfl):RS X WE (.Expr e pos) (cO xe):=
 ⟨(Hn he.h hs).weak λD σ H ⟨μ,S,τ,hr,sr,p⟩=>⟨μ,S,τ,hr,sr,p.bind λv x S1 μ1 H1 st1 r1 p1=>p1.here (b:=(FlV.nx,σ)) st1.hr ⟨sr.step st1,True.intro⟩⟩⟩
theorem bc(he:RE X WE e xe):RS X WE (.Return (some e) pos) (au xe):=
 ⟨(J3 he.h).weak λD σ H ⟨μ,S,τ,hr,sr,p⟩=>⟨μ,S,τ,hr,sr,p.bind λv x S1 μ1 H1 st1 r1 p1=>p1.here (b:=(FlV.rt v,σ)) st1.hr ⟨sr.step st1,r1⟩⟩⟩
theorem xy:RS X WE (.Continue pos) uF:=⟨wU.weak λD σ H ⟨μ,S,τ,hr,sr,p⟩=>p.here (b:=(FlV.ct,σ)) hr ⟨sr,True.intro⟩⟩
theorem Es:RS X WE st b6:=⟨λ_ _ _ _ _ _ ⟨_,_,_,_,_,p⟩=>p.elim⟩
theorem dz(hc:RT X WE c t)(ha:RB X WE sts m)(hb:RB X WE sts' m'):RS X WE (.If c sts sts' pos) (xIf t m m'):=
 ⟨(M8 hc.h ha.h hb.h).weak λD σ H ⟨μ,S,τ,hr,sr,p⟩=>⟨μ,S,τ,hr,sr,p.bind λk k' S1 μ1 H1 st1 r1 p1=>by
  cases(show k=k' from r1)
  try dsimp only at p1
  split at p1
  ·rename_i hk;rw[Oe hk];exact⟨μ1,S1,τ,st1.hr,sr.step st1,p1⟩
  ·rename_i hk;rw[Ot hk];exact⟨μ1,S1,τ,st1.hr,sr.step st1,p1⟩⟩⟩
structure LQ(sc:Scope)(N:List Str):Prop where
 nd:N.Nodup
theorem bD{i:Nat}{x:Str}{sc:Scope}(q:LQ sc X.N)(hi:X.N[i]?=some x:=by exact rfl)(hx:Loc X.env.scope x:=by first |exact .inl rfl |exact .inr rfl)(hf:X.fn x=true\/X.env.scope.names.lookup x=some .local:=by first |exact .inl rfl |exact .inr rfl |assumption):RG X WE (.Name x pos) (gNm i):=
 ⟨(GR q.nd hi hx hf).weak λv σ H Q ⟨μ,S,τ,z,hr,sr,r,p⟩=>p.here hr (sr.set i r)⟩
theorem Gw:RGs X WE [] gN0:=⟨Gd.weak λvs σ H Q ⟨μ,S,τ,zs,hr,sr,r,p⟩=>by
 unfold gN0 at p;split at p
 ·cases r;exact⟨rfl,p.here hr sr⟩
 ·exact p.elim⟩
theorem Dj{es:List Expr}(h:RG X WE e g)(h':RGs X WE es gs)(hs:(assignEach (e::es) X.env).map (·.2)=assign e X.env::(assignEach es X.env).map (·.2):=by rfl):RGs X WE (e::es) (gCo g gs):=
 ⟨(Ek h.h h'.h hs).weak λvs σ H Q ⟨μ,S,τ,zs,hr,sr,r,p⟩=>by
  unfold gCo at p;split at p
  ·cases r with
   |cons r1 rr=>exact⟨_,_,rfl,μ,S,τ,_,hr,sr,r1,p.bind λσ1 τ1 S1 μ1 H1 st1 sr1 p1=>⟨μ1,S1,τ1,_,st1.hr,sr1,rr.step st1,p1⟩⟩
  ·exact p.elim⟩
theorem Ke{n:Nat}{es:List Expr}{k:Nat}(h:RGs X WE es gs)(hc:X.calm=true:=by exact rfl)(hn:(assignEach es X.env).length=n:=by rfl)(hst:(assignEach es X.env).findIdx? (·.1)=none:=by rfl):RG X WE (.Tuple es k pos) (gTu n gs):=
 ⟨(HH hc h.h hn hst).weak λv σ H Q ⟨μ,S,τ,z,hr,sr,r,p⟩=>by
  unfold gTu at p;split at p
  ·split at p
   ·rename_i xs hl;cases(show Rep (vh μ S H) v (.tup xs)from r)with
    |tup h rs=>exact⟨_,_,rfl,SqT.of (aH h).2,by rw[rs.length];exact hl,μ,S,τ,_,hr,sr,bp.xH rs,p⟩
   ·exact p.elim
  ·exact p.elim⟩
def Av(K:Oh)(mg:Str->Option Value)(ts:vd)(f:Vl->Vl->Vl->Sto->R Unit):Prop:=∀(WE:WX)(μ:Nat->Addr)(S:Sto)(H:Hp)(o i v:V)(x y z:Vl)(Q:Unit->Hp->Prop),HR μ S H->aF K mg μ S H o x->aF K mg μ S H i y->aF K mg μ S H v z->aE (λ_ _ _(_ _:Unit)=>True) WE μ S H (f x y z S) Q->ts o i v H (Q ())
theorem JJ{o i:Expr}{xo xi:XE}{ts:vd}{f:Vl->Vl->Vl->Sto->R Unit}(ho:RE X WE o xo)(hi:RE X WE i xi)(hs:zc X ts)(hf:Av X.K X.mg ts f)
  (ha:∀v,assign (.Subscript o i pos) X.env v=(do
   let ov<-holding [v] (eval o X.env)
   let iv<-holding [v,ov] (eval i X.env)
   standAt pos
   holding [v,ov,iv] (setItem ov iv v)
   release [v,ov,iv] []):=by intro _;rfl):RG X WE (.Subscript o i pos) (gSb xo xi f):=
 ⟨(HK ho.h hi.h hs ha).weak λv σ H Q ⟨μ,S,τ,z,hr,sr,r,p⟩=>⟨μ,S,τ,hr,sr,p.bind λov x S1 μ1 H1 st1 r1 p1=>⟨μ1,S1,τ,st1.hr,sr.step st1,p1.bind λiv y S2 μ2 H2 st2 r2 p2=>
  hf WE μ2 S2 H2 ov iv v x y z (λ_ H3=>Q σ H3) st2.hr (r1.step st2) r2 (r.step (st1.trans st2)) (p2.bind λ_ _ S3 μ3 H3 st3 _ p3=>p3.here st3.hr (sr.step (st1.trans (st2.trans st3))))⟩⟩⟩
theorem IL(he:RE X WE e xe)(hg:RG X WE tg g)(hs:swapsWithSole [tg] e pos.line X.env=pure false:=by rfl)(hw:swappedStores [tg] e X.env=pure none:=by rfl)
  (h1:(assignEach [tg] X.env).map (·.2)=[assign tg X.env]:=by rfl):RS X WE (.Assign [tg] e pos) (az xe g):=
 ⟨(KP he.h hg.h hs hw h1).weak λD σ H ⟨μ,S,τ,hr,sr,p⟩=>⟨μ,S,τ,hr,sr,p.bind λv x S1 μ1 H1 st1 r1 p1=>⟨μ1,S1,τ,x,st1.hr,sr.step st1,r1,p1.bind λσ2 τ2 S2 μ2 H2 st2 sr2 p2=>p2.here (b:=(FlV.nx,σ2)) st2.hr ⟨sr2,True.intro⟩⟩⟩⟩
theorem df{i:Nat}{x:Str}{pos':Pos}{sc:Scope}(q:LQ sc X.N)(he:RE X WE e xe)(hi:X.N[i]?=some x:=by exact rfl)(hx:Loc X.env.scope x:=by first |exact .inl rfl |exact .inr rfl)(hs:swapsWith e (some (.Name x pos')) pos.line X.env=pure false:=by rfl)(hf:X.fn x=true\/X.env.scope.names.lookup x=some .local:=by first |exact .inl rfl |exact .inr rfl |assumption) :
  RS X WE (.Assign [.Name x pos'] e pos) (az xe (gNm i)):=
 ⟨(HS q.nd hi hx he.h hs hf).weak λD σ H ⟨μ,S,τ,hr,sr,p⟩=>⟨μ,S,τ,hr,sr,p.bind λv x S1 μ1 H1 st1 r1 p1=>p1.here (b:=(FlV.nx,σ.set i (some v))) st1.hr ⟨(sr.step st1).set i r1,True.intro⟩⟩⟩
theorem HU{I:Its}{S:Sto}(h:gok I.gd S):I.ok S:=h
open Classical in
theorem c8 (hi:RI X WE tg iter it) (hg:RG X WE tg g) (hb:RB X WE sts m) (hp:PassesOwn (model X.prog X.w) X.A X.env X.xe:=by first |exact WU |exact Wb) (hc:X.calm=true:=by exact rfl) (hs:∀x,foldedSetIterable iter X.env x=pure x:=by intro _;rfl):RS X WE (.For tg iter sts [] pos) (bU it g m):=
 ⟨(Kv hp hc hi.h hg.h hb.h hs).weak λD σ H ⟨μ,S,τ,hr,sr,p⟩=>⟨μ,S,τ,hr,sr,p.bind λJ I S1 μ1 H1 st1 io p1=>by
  refine⟨λi k σ' H'=>∃μ' S' τ',Step μ1 S1 H1 μ' S' H'/\bV X.K X.mg μ' S' H' σ' τ'/\I.ok S'/\k+i=I.items.length/\aE (RlS X.K X.mg) WE μ' S' H' (cc g m I.gd (I.items.drop i) τ' S') D.at,
   ⟨I.items.length,μ1,S1,τ,Step.refl st1.hr,sr.step st1,io.ok,by simp,p1⟩,?_⟩
  rintro i k σ' H' ⟨μ',S',τ',st',sr',ok',hk,p'⟩
  by_cases hlt:i<I.items.length
  ·have hz:I.items[i]?=some I.items[i]:=gV hlt
   rw[Uc hlt,cc]at p'
   refine .inr ⟨io.go i _ μ' S' H' st' ok' hz,_,λσ2 H2 n=>⟨I.items.length-(i+1),by omega,n⟩,λx H2 y=>?_⟩
   obtain⟨st2,rx⟩:=io.yld i _ μ' S' H' x H2 st' ok' hz y
   refine⟨μ',S',τ',_,st2.hr,sr'.step st2,rx,(p'.shift st2).bind λσ3 τ3 S3 μ3 H3 st3 sr3 p3=>⟨μ3,S3,τ3,st3.hr,sr3,p3.bind λq qq S4 μ4 H4 st4 r4 p4=>?_⟩⟩
   obtain⟨fv,σ4⟩:=q
   obtain⟨fl,τ4⟩:=qq
   obtain⟨sr4,fr⟩:=r4
   have go:∀{b},aE (RlS X.K X.mg) WE μ4 S4 H4 (if gok I.gd S4 then cc g m I.gd (I.items.drop (i+1)) τ4 S4 else .bad) D.at->b=σ4->∃μ' S' τ',Step μ1 S1 H1 μ' S' H4/\bV X.K X.mg μ' S' H4 b τ'/\I.ok S'/\I.items.length-(i+1)+(i+1)=I.items.length/\aE (RlS X.K X.mg) WE μ' S' H4 (cc g m I.gd (I.items.drop (i+1)) τ' S') D.at:=by
    rintro b p5 rfl
    split at p5
    ·exact⟨μ4,S4,τ4,st'.trans (st2.trans (st3.trans st4)),sr4,HU ‹_›,by omega,p5⟩
    ·exact p5.elim
   cases fl with
   |nx=>cases fv with
    |nx=>exact go p4 rfl
    |_=>exact(show False from fr).elim
   |ct=>cases fv with
    |ct=>exact go p4 rfl
    |_=>exact(show False from fr).elim
   |bk=>cases fv with
    |bk=>exact(show D.at (FlV.nx,σ4) H4 from aE.here (b:=(FlV.nx,σ4)) st4.hr p4 ⟨sr4,True.intro⟩)
    |_=>exact(show False from fr).elim
   |rt z=>cases fv with
    |rt v=>exact(show D.at (FlV.rt v,σ4) H4 from aE.here (b:=(FlV.rt v,σ4)) st4.hr p4 ⟨sr4,fr⟩)
    |_=>exact(show False from fr).elim
  ·rw[UU ⋯,cc]at p'
   exact .inl ⟨io.stop i μ' S' H' st' ok' ⋯,p'.here (b:=(FlV.nx,σ')) st'.hr ⟨sr',True.intro⟩⟩⟩⟩
theorem DF{n:Nat}(hc:RT X WE c t)(hb:RB X WE sts m)(hp:PassesOwn (model X.prog X.w) X.A X.env X.xe:=by first |exact WU |exact Wb):RS X WE (.While c sts [] pos) (de n t m):=
 ⟨(DM hp hc.h hb.h).weak λD σ H h=>by
  refine⟨λk σ' H'=>trS X.K X.mg WE (de k t m) D σ' H',⟨n,h⟩,?_⟩;rintro k σ' H' ⟨μ,S,τ,hr,sr,p⟩;cases k with
  |zero=>exact p.elim
  |succ k=>
   refine⟨μ,S,τ,hr,sr,p.bind λb b' S1 μ1 H1 st1 r1 p1=>?_⟩;cases(show b=b' from r1)
   try dsimp only at p1
   split at p1
   ·rename_i hk;rw[Oe hk];refine⟨λσ2 H2=>trS X.K X.mg WE (de k t m) D σ2 H2,λσ2 H2 q=>⟨k,Uj k,q⟩,μ1,S1,τ,st1.hr,sr.step st1,p1.bind λq qq S4 μ4 H4 st4 r4 p4=>?_⟩;obtain⟨fv,σ4⟩:=q;obtain⟨fl,τ4⟩:=qq;obtain⟨sr4,fr⟩:=r4;cases fl with
    |nx=>cases fv with
     |nx=>exact⟨μ4,S4,τ4,st4.hr,sr4,p4⟩
     |_=>exact(show False from fr).elim
    |ct=>cases fv with
     |ct=>exact⟨μ4,S4,τ4,st4.hr,sr4,p4⟩
     |_=>exact(show False from fr).elim
    |bk=>cases fv with
     |bk=>exact(show D.at (FlV.nx,σ4) H4 from aE.here (b:=(FlV.nx,σ4)) st4.hr p4 ⟨sr4,True.intro⟩)
     |_=>exact(show False from fr).elim
    |rt z=>cases fv with
     |rt v=>exact(show D.at (FlV.rt v,σ4) H4 from aE.here (b:=(FlV.rt v,σ4)) st4.hr p4 ⟨sr4,fr⟩)
     |_=>exact(show False from fr).elim
   ·rename_i hk;rw[Ot hk];exact p1.here (b:=(FlV.nx,σ')) st1.hr ⟨sr.step st1,True.intro⟩⟩
end
open Classical in
noncomputable def eM (g:XG) (t:XT) (e:XE) (n:Nat) (gd:Option (Nat×Ob)):List Vl->List D->Nv->Sto->R (List D)
 | [],acc,_,S=>if S[n]?=some (.lst acc)then .ok acc S else .bad
 |z::zs,acc,τ,S=>(g z τ S).bind λτ1 S1=>(t τ1 S1).bind λb S2=>if b=true then(e τ1 S2).bind λv S3=>(match v with
   | .d x=>if S3[n]?=some (.lst acc)/\gok gd (S3.set n (.lst (acc++[x])))then eM g t e n gd zs (acc++[x]) τ1 (S3.set n (.lst (acc++[x])))else .bad
   |_=>.bad)
  else if gok gd S2 then eM g t e n gd zs acc τ1 S2 else .bad
noncomputable def lE(n:Nat)(acc:List D)(S:Sto):R Vl:=.ok (.d (.lst acc)) (if S.length=n+1 then S.take n else S.set n .dead)
noncomputable def pO(fin:Nat->List D->Sto->R Vl)(it:XI)(k:Nat)(g:XG)(t:XT)(e:XE):XE:=λτ S=>(it τ S).bind λI S1=>(eM g t e S1.length I.gd I.items [] (Pm k none++τ) (S1++[.lst []])).bind λacc S2=>fin S1.length acc S2
noncomputable abbrev xLC:XI->Nat->XG->XT->XE->XE:=pO lE
def qu(fin:Nat->List D->Sto->R Vl):Prop:=∀(K:Oh)(mg:Str->Option Value)(WE:WX)(μ μ':Nat->Addr)(S S':Sto)(H H':Hp)(acc:List D)(D:Addr)(Q:VK),Step μ S H μ' S' H'->S'[S.length]?=some (.lst acc)->μ' S.length=D->aE (aF K mg) WE μ S H (fin S.length acc S') Q->Q (.ref D) H'
theorem hZ:qu lE:=by
 intro K mg WE μ μ' S S' H H' acc D Q st e hD p;obtain⟨vs,h,rs⟩:=st.hr.ob _ _ e;have hn:S.length<S'.length:=(Ol.mp e).1;unfold lE at p;by_cases hl:S'.length=S.length+1
 ·rw[Oe hl]at p;refine p _ _ _ st.take (Rep.lst (vs:=vs) (bB (by rw[<-hD];exact h) ?_) (rs.mono dJ));rintro⟨m,u,e2,d2,q⟩;obtain⟨hm,e3⟩:=dv e2;have:=st.hr.inj m S.length u _ e3 e d2 (by simp) (by rw[q,hD]);omega
 ·rw[Ot hl]at p;obtain⟨st2,na⟩:=Step.freeze st.hr e (by simp);refine p _ _ _ (st.trans st2) (Rep.lst (vs:=vs) (bB (by rw[<-hD];exact h) (by rw[<-hD];exact na)) (rs.mono st2.vis))
section
variable{X:Cx}{WE:WX}{tg elt iter:Expr}{ifs:List Expr}{scope:Scope}{pos:Pos}{it:XI}{g:XG}{t:XT}{e:XE}{N:List Str}{k:Nat}{fin:Nat->List D->Sto->R Vl}
theorem Hw:RTs X WE [] (λ_ S=>.ok true S):=⟨λpins s σ H Q I ⟨μ,S,τ,hr,sr,p⟩=>GL pins s σ H Q I (p.here hr rfl)⟩
theorem sJ{c:Expr}(h:RT X WE c t):RTs X WE [c] t:=⟨FR h.h⟩
theorem aE.uA{α Z Y B:Type}{Rl:(Nat->Addr)->Sto->Hp->Z->α->Prop}{Rl2:(Nat->Addr)->Sto->Hp->B->Y->Prop}{μ μ1:Nat->Addr}{S S1:Sto}{H H1:Hp}{res:R α}{Q:Z->Hp->Prop}{Q2:B->Hp->Prop}{f:α->Sto->R Y}
  (h:aE Rl2 WE μ S H (res.bind f) Q2) (a:Step μ S H μ1 S1 H1) (kk:∀b x S2 μ2 H2,Step μ1 S1 H1 μ2 S2 H2->Rl μ2 S2 H2 b x->aE Rl2 WE μ S H (f x S2) Q2->Q b H2):aE Rl WE μ1 S1 H1 res Q:=by
 cases res with
 |ok x S'=>exactλb μ' H' st r=>kk b x S' μ' H' st r h
 |ex c xs S'=>exactλμ' H' st=>h μ' H' (a.trans st)
 |bad=>exact h
noncomputable def WEd(WE:WX)(H3:Hp):WX:=λc xs S μ H'=>(∀b o,H3 b=some o->∃o',H' b=some o')/\WE c xs S μ H'
theorem aE.exd{α Z:Type}{Rl:(Nat->Addr)->Sto->Hp->Z->α->Prop}{μ:Nat->Addr}{S:Sto}{H H3:Hp}{res:R α}{Q:Z->Hp->Prop}(h:aE Rl WE μ S H res Q)(k:∀μ' S' H',Step μ S H μ' S' H'->∀b o,H3 b=some o->∃o',H' b=some o'):aE Rl (WEd WE H3) μ S H res Q:=by
 cases res with
 |ok x S'=>exact h
 |ex c xs S'=>exactλμ' H' st=>⟨k _ _ _ st,h μ' H' st⟩
 |bad=>exact h
theorem HP{K:Oh}{mg:Str->Option Value}{H3:Hp}{σ:St}{H:Hp}{Q:VK}(h:trE K mg (WEd WE H3) e σ H Q):trE K mg WE e σ H Q:=by
 obtain⟨μ,S,τ,hr,sr,p⟩:=h;refine⟨μ,S,τ,hr,sr,?_⟩;generalize e τ S=res at p;cases res with
 |ok x S'=>exact p
 |ex c xs S'=>exactλμ' H' st=>(p μ' H' st).2
 |bad=>exact p
theorem LCW.weak{J:It}{g:TG}{tt:TT}{te te':TE}{D:Addr}{σ:St}{H1:Hp}{Q:Hp->Prop}(h:LCW J g tt te k D σ H1 Q)(gm:∀{x σ H Q Q'},g x σ H Q->(∀σ H,Q σ H->Q' σ H)->g x σ H Q')(tm:∀{σ H Q Q'},tt σ H Q->(∀b H,Q b H->Q' b H)->tt σ H Q')(em:∀{σ H Q},te σ H Q->te' σ H Q):LCW J g tt te' k D σ H1 Q:=by
 obtain⟨W,w0,st⟩:=h;refine⟨W,w0,λi m σ' H' w=>(st i m σ' H' w).imp id λ⟨go,N,hN,q⟩=>⟨go,N,hN,λx H2 y=>gm (q x H2 y) λσ3 H3 z=>tm z λb H4 z=>?_⟩⟩;cases b
 ·exact z
 ·exact em z
open Classical in
theorem K4 (hfin:qu fin) {σ:St} {H:Hp} {Q:VK} (h:trE X.K X.mg WE (pO fin it k g t e) σ H Q):Ii (trI X.K X.mg WE it) (trG X.K X.mg WE g) (trT X.K X.mg WE t) (λH3=>trE X.K X.mg (WEd WE H3) e) k σ H Q:=by
 obtain⟨μ,S,τ,hr,sr,p⟩:=h
 refine⟨μ,S,τ,hr,sr,p.bind λJ I S1 μ1 H1 st1 io p1=>λD hD=>?_⟩
 have st0:Step μ1 S1 H1 (ext μ1 S1.length D) (S1++[.lst []]) (upd H1 D (.lst [])):=Step.alloc st1.hr hD (ob:=.lst []) ⟨[],rfl,.nil⟩
 have hlen:(S1++[Ob.lst []]).length=S1.length+1:=by simp
 refine⟨λi j σ' H'=>∃μ' S' τ' acc,Step (ext μ1 S1.length D) (S1++[.lst []]) (upd H1 D (.lst [])) μ' S' H'/\bV X.K X.mg μ' S' H' σ' τ'/\I.ok S'/\j+i=I.items.length/\acc.length<=i /\
   aE (aF X.K X.mg) WE μ1 S1 H1 ((eM g t e S1.length I.gd (I.items.drop i) acc τ' S').bind λacc S2=>fin S1.length acc S2) Q,
  ⟨I.items.length,_,_,_,[],Step.refl st0.hr,((sr.step st1).step st0).pre k,?_,by simp,Oj _,p1⟩,?_⟩
 ·have ok:=io.ok
  unfold Its.ok at ok ⊢
  split
  ·trivial
  ·rename_i n o hg
   rw[hg]at ok
   have hn:n<S1.length:=(Ol.mp ok).1
   rw[OC hn];exact ok
 rintro i j σ' H' ⟨μ',S',τ',acc,st',sr',ok',hj,hacc,p'⟩
 have stA:=st0.trans st'
 have hn:S1.length<S'.length:=by have:=st'.le;omega
 have hμ:μ' S1.length=D:=by rw[st'.ag S1.length ⋯,cw]
 by_cases hlt:i<I.items.length
 ·have hz:I.items[i]?=some I.items[i]:=gV hlt
  rw[Uc hlt,eM]at p'
  refine .inr ⟨io.go i _ μ' S' H' stA ok' hz,_,λσ2 H2 n=>⟨I.items.length-(i+1),by omega,n⟩,λx H2 y=>?_⟩
  obtain⟨st2,rx⟩:=io.yld i _ μ' S' H' x H2 stA ok' hz y
  have bb:∀{α Z Y:Type}(r:R α)(f:α->Sto->R Z)(f':Z->Sto->R Y),(r.bind f).bind f'=r.bind λa S=>(f a S).bind f':=λr f f'=>by cases r<;>rfl
  simp only[bb]at p'
  refine⟨μ',S',τ',_,st2.hr,sr'.step st2,rx,p'.uA (stA.trans st2) λσ3 τ3 S3 μ3 H3 st3 sr3 p3=>?_⟩
  refine⟨μ3,S3,τ3,st3.hr,sr3,p3.uA (stA.trans (st2.trans st3)) λb b' S4 μ4 H4 st4 r4 p4=>?_⟩
  cases(show b=b' from r4)
  have st24:=st2.trans (st3.trans st4)
  by_cases hb:b=true
  ·rw[Oe hb]at p4 ⊢
   rw[bb]at p4
   refine⟨μ4,S4,τ3,st4.hr,sr3.step st4,(p4.uA (Rl:=aF X.K X.mg) (stA.trans st24) λv z S5 μ5 H5 st5 r5 p5=>?_).exd λ_ _ _ st=>(st'.trans (st24.trans st)).dm⟩
   have st25:=st24.trans st5
   cases z with
   |d x=>
    try dsimp only at p5
    by_cases hif:S5[S1.length]?=some (.lst acc)/\gok I.gd (S5.set S1.length (.lst (acc++[x])))
    ·rw[Oe hif]at p5
     obtain⟨vs,h5,rs⟩:=st5.hr.ob _ _ hif.1
     have hμ5:μ5 S1.length=D:=by rw[st25.ag S1.length ⋯];exact hμ
     rw[hμ5]at h5
     have sp:Step μ5 S5 H5 μ5 (S5.set S1.length (.lst (acc++[x]))) (upd H5 (μ5 S1.length) (.lst (vs++[v]))):=Step.put st5.hr hif.1 (by simp) (ob:=.lst (acc++[x])) ⟨_,rfl,rs.append (.cons r5 .nil)⟩
     rw[hμ5]at sp
     have lz:=io.len
     have lv:=rs.length
     refine⟨vs,h5,by omega,μ5,_,τ3,acc++[x],st'.trans (st25.trans sp),(sr3.step (st4.trans st5)).step sp,hif.2,by omega,by simp;omega,p5⟩
    ·rw[Ot hif]at p5
     exact p5.elim
   |_=>exact p5.elim
  ·rw[Ot hb]at p4 ⊢
   by_cases hif:gok I.gd S4
   ·rw[Oe hif]at p4
    exact⟨μ4,S4,τ3,acc,st'.trans st24,sr3.step st4,hif,by omega,by omega,p4⟩
   ·rw[Ot hif]at p4
    exact p4.elim
 ·rw[UU ⋯,eM]at p'
  refine .inl ⟨io.stop i μ' S' H' stA ok' ⋯,?_⟩
  by_cases hif:S'[S1.length]?=some (.lst acc)
  ·rw[Oe hif]at p'
   exact hfin X.K X.mg WE μ1 μ' S1 S' H1 H' acc D Q stA hif hμ p'
  ·rw[Ot hif]at p'
   exact p'.elim
theorem Fi(hfin:qu fin){σ:St}{H:Hp}{Q:VK}(h:trE X.K X.mg WE (pO fin it k g t e) σ H Q):tLC (trI X.K X.mg WE it) (trG X.K X.mg WE g) (trT X.K X.mg WE t) (trE X.K X.mg WE e) k σ H Q:=by
 obtain⟨μ,S,τ,hr,sr,p⟩:=K4 hfin h;exact⟨μ,S,τ,hr,sr,p.imp λJ H1 q D hD=>(q D hD).weak (λ⟨μ,S,τ,z,a,b,c,p⟩ k=>⟨μ,S,τ,z,a,b,c,p.imp k⟩) (λ⟨μ,S,τ,a,b,p⟩ k=>⟨μ,S,τ,a,b,p.imp k⟩) HP⟩
theorem rt0:∀C s H fp,RTs (bP X scope N C s H fp) WE [] (λ_ S=>.ok true S):=λ_ _ _ _=>Hw
theorem lO{esc:Scope}{EN:List Str}(hfin:qu fin)(N:List Str)(q:LQ esc EN)(hi:RI X WE tg iter it)(hg:∀C s H fp,LQ scope N->RG (bP X scope N C s H fp) WE tg g)(ht:∀C s H fp,RTs (bP X scope N C s H fp) WE ifs t)(he:∀C s H fp,RE (bP X scope N C s H fp) WE elt e)(hd:N.Nodup:=by decide+kernel)
  (Sc:eI esc scope EN N k:=by exact⟨rfl,by decide+kernel,by decide+kernel,by decide+kernel,by decide+kernel,by decide+kernel⟩) (h1:X.env.scope=esc:=by exact rfl) (h2:X.N=EN:=by exact rfl) (hc:X.calm=true:=by exact rfl) (hs:∀x,foldedSetIterable iter X.env x=pure x:=by intro _;rfl):RE X WE (.ListComp elt [⟨tg,iter,ifs,0⟩] scope pos) (pO fin it k g t e):=
 ⟨(LL hc Sc h1 h2 hi.h (λC s H fp=>(hg C s H fp ⟨hd⟩).h) (λC s H fp=>(ht C s H fp).h) (λC s H fp=>(he C s H fp).h) hs).weak λσ H Q h=>Fi (X:=X) hfin h⟩
theorem LG{esc:Scope}{EN:List Str}{i:Nat}{y:Str}{py spos:Pos}(hfin:qu fin)(N:List Str)(q:LQ esc EN)(hi:RI X WE tg iter it)(hg:∀C s H fp,LQ scope N->RG (bP X scope N C s H fp) WE tg g)(ht:∀C s H fp,RTs (bP X scope N C s H fp) WE ifs t)(he:∀C s H fp,RE (bP X scope N C s H fp) WE elt e)
  (hi':X.N[i]?=some y:=by exact rfl) (hy:Loc X.env.scope y:=by first |exact .inl rfl |exact .inr rfl) (hd:N.Nodup:=by decide+kernel)
  (Sc:eI esc scope EN N k:=by exact⟨rfl,by decide+kernel,by decide+kernel,by decide+kernel,by decide+kernel,by decide+kernel⟩) (h1:X.env.scope=esc:=by exact rfl) (h2:X.N=EN:=by exact rfl) (hc:X.calm=true:=by exact rfl)
  (hsw:swapsWith (.ListComp elt [⟨tg,iter,ifs,0⟩] scope pos) (some (.Name y py)) spos.line X.env=pure true:=by rfl)
  (hs:∀x,foldedSetIterable iter X.env x=pure x:=by intro _;rfl) (hf:X.fn y=true\/X.env.scope.names.lookup y=some .local:=by first |exact .inl rfl |exact .inr rfl |assumption) :
  RS X WE (.Assign [.Name y py] (.ListComp elt [⟨tg,iter,ifs,0⟩] scope pos) spos) (az (pO fin it k g t e) (gNm i)):=
 ⟨(Lx (h2▸q.nd) hi' hy hc Sc h1 h2 hi.h (λC s H fp=>(hg C s H fp ⟨hd⟩).h) (λC s H fp=>(ht C s H fp).h) (λC s H fp=>(he C s H fp).h) hsw hs hf).weak λD0 σ H ⟨μ,S,τ,hr,sr,p⟩=>by
  refine Fi (X:=X) (WE:=WE) (g:=g) (t:=t) (e:=e) hfin ⟨μ,S,τ,hr,sr,?_⟩;exact p.bind λv x S1 μ1 H1 st1 r1 p1=>p1.here (b:=(FlV.nx,σ.set i (some v))) st1.hr ⟨(sr.step st1).set i r1,True.intro⟩⟩
end
noncomputable def bX(x:Vl)(S:Sto):Option (List D):=match x with
 | .d (.lst xs)=>some xs
 | .r n=>(match S[n]? with
  |some (.lst xs)=>some xs
  |_=>none)
 |_=>none
noncomputable def bK(x:Vl)(S:Sto):Option (List D):=match x with
 | .d (.tup xs)=>some xs
 |x=>bX x S
section
variable{K:Oh}{mg:Str->Option Value}{μ:Nat->Addr}{S:Sto}{H:Hp}{v:V}{x:Vl}{ds:List D}{WE:WX}{Q:VK}
theorem dB(hr:HR μ S H)(r:aF K mg μ S H v x)(e:bX x S=some ds):∃a vs,v=.ref a/\H a=some (.lst vs)/\ak (vh μ S H) vs ds:=by
 unfold bX at e;split at e
 ·cases e;cases(show Rep (vh μ S H) v (.lst _)from r)with
  |lst h rs=>exact⟨_,_,rfl,(aH h).2,rs⟩
 ·split at e
  ·rename_i q;cases e;obtain⟨rfl,hn⟩:=r;obtain⟨vs,h,rs⟩:=hr.ob _ _ q;exact⟨_,vs,rfl,h,rs⟩
  ·cases e
 ·cases e
theorem jc(hr:HR μ S H)(r:aF K mg μ S H v x)(e:bK x S=some ds):∃a vs,v=.ref a/\(H a=some (.lst vs)\/H a=some (.tup vs))/\ak (vh μ S H) vs ds:=by
 unfold bK at e;split at e
 ·cases e;cases(show Rep (vh μ S H) v (.tup _)from r)with
  |tup h rs=>exact⟨_,_,rfl,.inr (aH h).2,rs⟩
 ·obtain⟨a,vs,e1,e2,e3⟩:=dB hr r e;exact⟨a,vs,e1,.inl e2,e3⟩
theorem oC(h:H a=some (.lst vs)\/H a=some (.tup vs)):jb H a=some vs:=h.elim Kt wL
theorem aM(r:aF K mg μ S H v (.d (.int i))):v=.int i:=by cases(show Rep (vh μ S H) v (.int i)from r);rfl
theorem kB(r:aF K mg μ S H v (.d (.bl i))):v=.bl i:=by cases(show Rep (vh μ S H) v (.bl i)from r);rfl
theorem gT(r:aF K mg μ S H v (.d (.str i))):v=.str i:=by cases(show Rep (vh μ S H) v (.str i)from r);rfl
theorem cQ(r:aF K mg μ S H v (.d .non)):v=.non:=by cases(show Rep (vh μ S H) v .non from r);rfl
theorem fX(r:aF K mg μ S H v (.d (.tup ds))):∃a vs,v=.ref a/\H a=some (.tup vs)/\vh μ S H a=some (.tup vs)/\ak (vh μ S H) vs ds:=by
 cases(show Rep (vh μ S H) v (.tup _)from r)with
 |tup h rs=>exact⟨_,_,rfl,(aH h).2,h,rs⟩
end
noncomputable def oI(C:Int->Int->Prop)[∀i j,Decidable (C i j)](f:Int->Int->D)(x y:Vl)(S:Sto):R Vl:=match x,y with
 | .d (.int i),.d (.int j)=>if C i j then .ok (.d (f i j)) S else .bad
 |_,_=>.bad
noncomputable def oI0(f:Int->Int->D)(x y:Vl)(S:Sto):R Vl:=match x,y with
 | .d (.int i),.d (.int j)=>.ok (.d (f i j)) S
 |_,_=>.bad
section
variable{K:Oh}{mg:Str->Option Value}
theorem uI[∀i j,Decidable (C i j)](f:Int->Int->Int):cz K mg (rI C λi j=>V.int (f i j)) (oI C λi j=>D.int (f i j)):=by
 intro WE μ S H v w x y Q hr rx ry p;unfold oI at p;split at p
 ·split at p
  ·exact⟨_,_,aM rx,aM ry,‹_›,p.here hr (Rep.int _)⟩
  ·exact p.elim
 ·exact p.elim
theorem IM(f:Int->Int->Int):cz K mg (rI0 λi j=>V.int (f i j)) (oI0 λi j=>D.int (f i j)):=by
 intro WE μ S H v w x y Q hr rx ry p;unfold oI0 at p;split at p
 ·exact⟨_,_,aM rx,aM ry,p.here hr (Rep.int _)⟩
 ·exact p.elim
theorem dZ(f:Int->Int->Bool):cz K mg (rI0 λi j=>V.bl (f i j)) (oI0 λi j=>D.bl (f i j)):=by
 intro WE μ S H v w x y Q hr rx ry p;unfold oI0 at p;split at p
 ·exact⟨_,_,aM rx,aM ry,p.here hr (Rep.bl _)⟩
 ·exact p.elim
end
noncomputable instance(i j:Int):Decidable (l9 i j):=by unfold l9;infer_instance
noncomputable instance(i j:Int):Decidable (sh i j):=by unfold sh;infer_instance
noncomputable instance(i j:Int):Decidable (sv i j):=by unfold sv;infer_instance
noncomputable abbrev vj:=oI0 λi j=>D.int (i-j)
noncomputable abbrev i8:=oI l9 λi j=>D.int (i*j)
noncomputable abbrev oMod:=oI (λ_ j=>0<j) λi j=>D.int (i % j)
noncomputable abbrev oDiv:=oI sh λi j=>D.int (i / j)
noncomputable abbrev yG:=oI sv λi j=>D.int (i ^ j.toNat)
noncomputable abbrev oLt:=oI0 λi j=>D.bl (decide (i<j))
noncomputable abbrev oLe:=oI0 λi j=>D.bl (decide (i<=j))
noncomputable abbrev oGt:=oI0 λi j=>D.bl (decide (j<i))
noncomputable abbrev oGe:=oI0 λi j=>D.bl (decide (j<=i))
noncomputable def l4(x:Vl)(S:Sto):R Vl:=match x with
 | .d (.int i)=>.ok (.d (.int (-i))) S
 |_=>.bad
noncomputable def bz(x y:Vl)(S:Sto):R Vl:=match x,y with
 | .d (.int i),.d (.int j)=>.ok (.d (.int (i+j))) S
 | .d (.tup a),.d (.tup b)=>if a.length+b.length<=100000 then .ok (.d (.tup (a++b))) S else .bad
 | .d (.str a),.d (.str b)=>if a.length+b.length<=100000 then .ok (.d (.str (a++b))) S else .bad
 |x,y=>(match bX x S,bX y S with
  |some a,some b=>if a.length+b.length<=100000 then .ok (.d (.lst (a++b))) S else .bad
  |_,_=>.bad)
noncomputable def eqD(x y:Vl)(S:Sto):Option Bool:=match x,y with
 | .d .non,.d .non=>some true
 | .d .non,.d (.int _)=>some false
 | .d .non,.d (.str _)=>some false
 | .d (.int _),.d .non=>some false
 | .d (.str _),.d .non=>some false
 | .d (.int i),.d (.int j)=>some (decide (i=j))
 | .d (.bl i),.d (.bl j)=>some (decide (i=j))
 | .d (.str i),.d (.str j)=>some (decide (i=j))
 | .d (.int _),.d (.str _)=>some false
 | .d (.str _),.d (.int _)=>some false
 | .d (.tup a),.d (.tup b)=>if D.depth (.tup a)<=50 then some (D.dN a b)else none
 |x,y=>(match bX x S,bX y S with
  |some a,some b=>if D.depth (.lst a)<=50 then some (D.dN a b)else none
  |_,_=>none)
noncomputable def oEq(x y:Vl)(S:Sto):R Vl:=match eqD x y S with
 |some b=>.ok (.d (.bl b)) S
 |none=>.bad
noncomputable def oNe(x y:Vl)(S:Sto):R Vl:=match eqD x y S with
 |some b=>.ok (.d (.bl (!b))) S
 |none=>.bad
noncomputable def oIs(x y:Vl)(S:Sto):R Vl:=match x,y with
 | .d (.bl a),.d (.bl b)=>.ok (.d (.bl (a==b))) S
 | .d .non,.d .non=>.ok (.d (.bl true)) S
 | .fn _,_=>.bad
 | .sc _,_=>.bad
 |_,.d .non=>.ok (.d (.bl false)) S
 |_,_=>.bad
noncomputable def iL(x y:Vl)(S:Sto):R Vl:=match x,y with
 | .d (.bl a),.d (.bl b)=>.ok (.d (.bl (a != b))) S
 | .d .non,.d .non=>.ok (.d (.bl false)) S
 | .fn _,_=>.bad
 | .sc _,_=>.bad
 |_,.d .non=>.ok (.d (.bl true)) S
 |_,_=>.bad
section
variable{K:Oh}{mg:Str->Option Value}
theorem Ga:Je K mg (rU λi=>.int (-i)) l4:=by
 intro WE μ S H v x Q hr rx p;unfold l4 at p;split at p
 ·exact⟨_,aM rx,p.here hr (Rep.int _)⟩
 ·exact p.elim
noncomputable def E4:R2:=λx y H Q=>E7 x y H Q\/∃i j,x=.str i/\y=.str j/\i.length+j.length<=sizeLine/\Q (.str (i++j)) H
theorem kJ:OpR X (binaryOp .Add) E4:=GA.or zQ
theorem kC:cz K mg E4 bz:=by
 intro WE μ S H v w x y Q hr rx ry p;unfold bz at p;split at p
 ·exact .inl (.inl ⟨_,_,aM rx,aM ry,p.here hr (Rep.int _)⟩)
 ·split at p
  ·rename_i a b hl;obtain⟨p1,us,rfl,h1,g1,r1⟩:=fX rx;obtain⟨p2,ws,rfl,h2,g2,r2⟩:=fX ry;have l1:=r1.length;have l2:=r2.length;refine .inl (.inr ⟨p1,p2,rfl,rfl,.inl ⟨us,ws,h1,h2,kh ⋯,λe=>?_,λ_ e=>?_,λ_ _ q hq=>p.sA hr (r1.append r2) q hq⟩⟩)
   ·subst e;have:a=[]:=Q5 l1.symm;subst this;exact p.here hr (Rep.tup g2 r2)
   ·subst e;have:b=[]:=Q5 l2.symm;subst this;rw[Qp]at p;exact p.here hr (Rep.tup g1 r1)
  ·exact p.elim
 ·split at p
  ·exact .inr ⟨_,_,gT rx,gT ry,kh ‹_›,p.here hr (Rep.str _)⟩
  ·exact p.elim
 ·split at p
  ·rename_i a b e1 e2;split at p
   ·obtain⟨p1,us,rfl,h1,r1⟩:=dB hr rx e1;obtain⟨p2,ws,rfl,h2,r2⟩:=dB hr ry e2;have l1:=r1.length;have l2:=r2.length;exact .inl (.inr ⟨p1,p2,rfl,rfl,.inr ⟨us,ws,h1,h2,kh ⋯,λq hq=>p.l_ hr (r1.append r2) q hq⟩⟩)
   ·exact p.elim
  ·exact p.elim
theorem Fu(hr:HR μ S H)(rx:aF K mg μ S H v x)(ry:aF K mg μ S H w y)(e:eqD x y S=some b) :
  (D8 v w=true/\decide (v=w)=b)\/∃d e,Rep H v d/\Rep H w e/\D.depth d<=50/\((∃ds es,d=.tup ds/\e=.tup es)\/∃ds es,d=.lst ds/\e=.lst es)/\D.eqv d e=b:=by
 unfold eqD at e;split at e
 ·cases e;rw[cQ rx,cQ ry];exact .inl ⟨rfl,by decide⟩
 ·cases e;rw[cQ rx,aM ry];exact .inl ⟨rfl,by simp⟩
 ·cases e;rw[cQ rx,gT ry];exact .inl ⟨rfl,by simp⟩
 ·cases e;rw[aM rx,cQ ry];exact .inl ⟨rfl,by simp⟩
 ·cases e;rw[gT rx,cQ ry];exact .inl ⟨rfl,by simp⟩
 ·cases e;rw[aM rx,aM ry];exact .inl ⟨rfl,by simp only[V.int.injEq]⟩
 ·cases e;rw[kB rx,kB ry];exact .inl ⟨rfl,by simp only[V.bl.injEq]⟩
 ·cases e;rw[gT rx,gT ry];exact .inl ⟨rfl,by simp only[V.str.injEq]⟩
 ·cases e;rw[aM rx,gT ry];exact .inl ⟨rfl,by simp⟩
 ·cases e;rw[gT rx,aM ry];exact .inl ⟨rfl,by simp⟩
 ·split at e
  ·cases e;refine .inr ⟨_,_,Rep.mono fK rx,Rep.mono fK ry,‹_›,.inl ⟨_,_,rfl,rfl⟩,?_⟩;simp only[D.eqv]
  ·cases e
 ·split at e
  ·rename_i a b e1 e2;split at e
   ·cases e;obtain⟨p1,us,rfl,h1,r1⟩:=dB hr rx e1;obtain⟨p2,ws,rfl,h2,r2⟩:=dB hr ry e2;refine .inr ⟨.lst a,.lst b,.lst h1 (r1.mono fK),.lst h2 (r2.mono fK),‹_›,.inr ⟨_,_,rfl,rfl⟩,?_⟩;simp only[D.eqv]
   ·cases e
  ·cases e
theorem uW:cz K mg K5 oEq:=by
 intro WE μ S H v w x y Q hr rx ry p;unfold oEq at p;split at p
 ·rename_i b e;have q:=p.here hr (Rep.bl b);rcases Fu hr rx ry e with⟨h1,h2⟩ |⟨d,d',h1,h2,h3,h4,h5⟩
  ·exact .inl ⟨h1,by rw[h2];exact q⟩
  ·exact .inr ⟨d,d',h1,h2,h3,h4,by rw[h5];exact q⟩
 ·exact p.elim
theorem A6:cz K mg IU oNe:=by
 intro WE μ S H v w x y Q hr rx ry p;unfold oNe at p;split at p
 ·rename_i b e;have q:=p.here hr (Rep.bl (!b));rcases Fu hr rx ry e with⟨h1,h2⟩ |⟨d,d',h1,h2,h3,h4,h5⟩
  ·exact .inl ⟨h1,by rw[h2];exact q⟩
  ·exact .inr ⟨d,d',h1,h2,h3,h4,by rw[h5];exact q⟩
 ·exact p.elim
theorem yo(r:aF K mg μ S H v x)(h1:x≠.d .non):v≠.non:=by
 rintro rfl;cases x with
 |d x=>cases(show Rep (vh μ S H) .non x from r);exact h1 rfl
 |r n=>obtain⟨e,_⟩:=r;cases e
 |fd kvs=>obtain⟨_,_,_,e,_⟩:=r;cases e
 |pr x n=>obtain⟨_,_,e,_⟩:=r;cases e
 |fn x=>obtain⟨_,_,e⟩:=r;cases e
 |sc ns=>obtain⟨_,e,_⟩:=r;cases e
 |xc c xs=>obtain⟨_,_,e,_⟩:=r;cases e
 |kt ws=>obtain⟨_,e,_⟩:=r;cases e
 |xl es=>obtain⟨_,_,e,_⟩:=r;cases e
theorem HN:cz K mg IZ oIs:=by
 intro WE μ S H v w x y Q hr rx ry p;unfold oIs at p;split at p
 ·rw[kB rx,kB ry];exact .inl ⟨_,_,rfl,rfl,p.here hr (Rep.bl _)⟩
 ·rw[cQ rx,cQ ry];exact .inr ⟨rfl,by rw[Oi rfl];exact p.here hr (Rep.bl _)⟩
 ·exact p.elim
 ·exact p.elim
 ·rename_i h _ _;rw[cQ ry];exact .inr ⟨rfl,by rw[Oo (yo rx h)];exact p.here hr (Rep.bl _)⟩
 ·exact p.elim
theorem Dn:cz K mg BS iL:=by
 intro WE μ S H v w x y Q hr rx ry p;unfold iL at p;split at p
 ·rw[kB rx,kB ry];exact .inl ⟨_,_,rfl,rfl,p.here hr (Rep.bl _)⟩
 ·rw[cQ rx,cQ ry];exact .inr ⟨rfl,by rw[Oi rfl];exact p.here hr (Rep.bl _)⟩
 ·exact p.elim
 ·exact p.elim
 ·rename_i h _ _;rw[cQ ry];exact .inr ⟨rfl,by rw[Oo (yo rx h)];exact p.here hr (Rep.bl _)⟩
 ·exact p.elim
end
noncomputable def D.flat:D->Bool
 | .tup _=>false
 | .lst _=>false
 |_=>true
noncomputable def inD(x:D)(ds:List D):Bool:=ds.any λe=>D.eqv e x
noncomputable def inX(x y:Vl)(S:Sto):Option Bool:=match x with
 | .d x=>(match bK y S with
  |some ds=>if(D.flat x&&ds.all D.flat)=true then some (inD x ds)else(match bX y S with
   |some ds=>if D.cU ds<=50 then some (inD x ds)else none
   |none=>none)
  |none=>none)
 |_=>none
noncomputable def oIn(x y:Vl)(S:Sto):R Vl:=match inX x y S with
 |some b=>.ok (.d (.bl b)) S
 |none=>.bad
noncomputable def ff(x y:Vl)(S:Sto):R Vl:=match inX x y S with
 |some b=>.ok (.d (.bl (!b))) S
 |none=>.bad
noncomputable def oIx(x y:Vl)(S:Sto):R Vl:=match y with
 | .d (.int i)=>(match bK x S with
  |some ds=>(match atI ds i with
   |some z=>.ok (.d z) S
   |none=>.bad)
  |none=>.bad)
 |_=>.bad
noncomputable def dW(xs:List D)(lo hi:Option Int):List D:=(xs.drop (HT.sIx xs.length 0 lo)).take (HT.sIx xs.length xs.length hi-HT.sIx xs.length 0 lo)
noncomputable def oSl(x:Vl)(lo hi:Option Int)(S:Sto):R Vl:=match x with
 | .d (.tup xs)=>.ok (.d (.tup (dW xs lo hi))) S
 |x=>(match bX x S with
  |some xs=>.ok (.d (.lst (dW xs lo hi))) S
  |none=>.bad)
noncomputable def vZ(x y:Vl)(S:Sto):R Vl:=match x,y with
 | .d (.tup xs),.d (.int i)=>if i=-1 then .ok (.d (.tup xs.reverse)) S else .bad
 |_,_=>.bad
section
variable{K:Oh}{mg:Str->Option Value}
theorem wq(r:Rep H v d)(h:D.flat d=true):eX v=true:=by cases r<;>first |rfl |cases h
theorem JH(r:Rep H v d)(q:Rep H w e)(h:D.flat d=true)(h':D.flat e=true):eqV v w=D.eqv d e:=by
  cases r<;>cases q<;>first |rfl |cases h |cases h' |simp[eqV,D.eqv]
theorem tT:∀{vs:List V}{ds:List D},ak H vs ds->ds.all D.flat=true->vs.all eX=true
 |_,_,.nil,_=>rfl
 |_,_,.cons r t,h=>by
  rw[QG,OQ]at h ⊢;exact⟨wq r h.1,tT t h.2⟩
theorem Bd(r:Rep H v d)(h:D.flat d=true):∀{vs:List V}{ds:List D},ak H vs ds->ds.all D.flat=true->inV v vs=inD d ds
 |_,_,.nil,_=>rfl
 |_,_,.cons q t,h'=>by
  rw[QG,OQ]at h';have ih:=Bd r h t h'.2;unfold inV inD at ih ⊢;rw[Q4,Q4,JH q r h'.1 h,ih]
noncomputable def uY(neg:Bool):R2:=λx y H Q=>Du neg x y H Q\/DR neg x y H Q
theorem in_of(hr:HR μ S H)(rx:aF K mg μ S H v x)(ry:aF K mg μ S H w y)(e:inX x y S=some b)(q:Q (.bl (if neg then !b else b)) H):uY neg v w H Q:=by
 unfold inX at e;split at e
 ·rename_i x;split at e
  ·rename_i ds e1;obtain⟨a,vs,rfl,ha,rs⟩:=jc hr ry e1;split at e
   ·rename_i hf;rw[OQ]at hf;cases e;refine .inl ⟨a,vs,rfl,oC ha,wq rx hf.1,tT rs hf.2,?_⟩;rw[Bd rx hf.1 rs hf.2];exact q
   ·split at e
    ·rename_i ds e2;split at e
     ·cases e;obtain⟨a',vs',e3,ha',rs'⟩:=dB hr ry e2;cases e3;exact .inr ⟨_,vs',x,_,rfl,ha',rs'.mono fK,Rep.mono fK rx,‹_›,q⟩
     ·cases e
    ·cases e
  ·cases e
 ·cases e
theorem u5(hu:X.A.units+64<cLine):OpR X (compareOp .In) (uY false):=Kx.or (KA hu)
theorem sf(hu:X.A.units+64<cLine):OpR X (compareOp .NotIn) (uY true):=Ap.or (BN hu)
theorem uP:cz K mg (uY false) oIn:=by
 intro WE μ S H v w x y Q hr rx ry p;unfold oIn at p;split at p
 ·rename_i b e;exact in_of hr rx ry e (p.here hr (Rep.bl b))
 ·exact p.elim
theorem sH:cz K mg (uY true) ff:=by
 intro WE μ S H v w x y Q hr rx ry p;unfold ff at p;split at p
 ·rename_i b e;exact in_of hr rx ry e (p.here hr (Rep.bl (!b)))
 ·exact p.elim
theorem Cy(rs:ak H vs ds)(e:atI ds i=some z):∃v,atI vs i=some v/\Rep H v z:=by
 unfold atI at e ⊢;rw[rs.length];cases q:ixN ds.length i with
 |none=>rw[q]at e;cases e
 |some j=>
  rw[q]at e;obtain⟨v,e1,r⟩:=rs.get' (show ds[j]?=some z from e);exact⟨v,e1,r⟩
theorem Bl:cz K mg CU oIx:=by
 intro WE μ S H v w x y Q hr rx ry p;unfold oIx at p;split at p
 ·split at p
  ·rename_i ds e1;obtain⟨a,vs,rfl,ha,rs⟩:=jc hr rx e1;split at p
   ·rename_i z e2;obtain⟨u,e3,ru⟩:=Cy rs e2;rw[aM ry];exact⟨a,_,vs,u,rfl,rfl,oC ha,e3,p.here hr ru⟩
   ·exact p.elim
  ·exact p.elim
 ·exact p.elim
theorem pC(rs:ak H vs ds)(lo hi:Option Int):ak H (jg vs lo hi) (dW ds lo hi):=by
 unfold jg dW;rw[rs.length];exact(rs.drop _).take _
theorem z7{α:Type}{xs:List D}{lo hi:Option Int}(h:js xs.length lo hi):dW xs lo hi=xs:=by
 unfold dW;rw[h.1,h.2];simp
theorem IK{X:Cx}{WE:WX}{e:Expr}{lo hi:Option Expr}{xa:XE}{xl xh:XO}{p2 pos:Pos}(he:RE X WE e xa)(hl:RO X WE lo xl)(hh:RO X WE hi xh):RE X WE (.Subscript e (.Slice lo hi none p2) pos) (xSl oSl xa xl xh):=
 ⟨(v5 Ni he.h hl.h hh.h).weak λσ H Q ⟨μ,S,τ,hr,sr,p⟩=>⟨μ,S,τ,hr,sr,p.bind λv x S1 μ1 H1 st1 r1 p1=>⟨μ1,S1,τ,st1.hr,sr.step st1,p1.bind λi i' S2 μ2 H2 st2 r2 p2=>⟨μ2,S2,τ,st2.hr,sr.step (st1.trans st2),p2.bind λj j' S3 μ3 H3 st3 r3 p3=>by
  cases(show i=i' from r2);cases(show j=j' from r3);have rv:=r1.step (st2.trans st3);unfold oSl at p3;split at p3
  ·rename_i xs;obtain⟨a,vs,rfl,h,g,rs⟩:=fX rv;refine⟨a,rfl,.inl ⟨vs,h,λhw=>?_,λhw q hq=>p3.sA st3.hr (pC rs i j) q hq⟩⟩;rw[rs.length]at hw;rw[z7 (α:=Unit) hw]at p3;exact p3.here st3.hr (Rep.tup g rs)
  ·split at p3
   ·rename_i xs e1;obtain⟨a,vs,rfl,h,rs⟩:=dB st3.hr rv e1;exact⟨a,rfl,.inr ⟨vs,h,λq hq=>p3.l_ st3.hr (pC rs i j) q hq⟩⟩
   ·exact p3.elim⟩⟩⟩⟩
theorem Hg:RO X WE none kN:=⟨λpins s σ H Q I ⟨μ,S,τ,hr,sr,p⟩=>Gn pins s σ H Q I (p.here hr rfl)⟩
theorem Gp(he:RE X WE e xa):RO X WE (some e) (lA xa):=⟨λpins s σ H Q I ⟨μ,S,τ,hr,sr,p⟩=>Gm he.h pins s σ H Q I ⟨μ,S,τ,hr,sr,p.bind λv x S1 μ1 H1 st1 r1 p1=>by
 try dsimp only at p1
 split at p1
 ·exact⟨_,aM r1,p1.here st1.hr rfl⟩
 ·exact p1.elim⟩⟩
theorem cy(ha:RE X WE a xa)(hb:RE X WE b xb)(hs:rQ b:=by exactλ_ _=>rfl):RE X WE (.Subscript a b pos) (xOp oIx xa xb):=⟨(FI K2 ha.h hb.h hs).weak λ_ _ _ h=>two (X:=X) Bl h⟩
theorem Im{X:Cx}{WE:WX}{e st:Expr}{xa xb:XE}{p2 pos:Pos}(he:RE X WE e xa)(hs:RE X WE st xb):RE X WE (.Subscript e (.Slice none none (some st) p2) pos) (xOp vZ xa xb):=
 ⟨(F2 he.h hs.h).weak λσ H Q ⟨μ,S,τ,hr,sr,p⟩=>⟨μ,S,τ,hr,sr,p.bind λv x S1 μ1 H1 st1 r1 p1=>⟨μ1,S1,τ,st1.hr,sr.step st1,p1.bind λw y S2 μ2 H2 st2 r2 p2=>by
  have rv:=r1.step st2;unfold vZ at p2;split at p2
  ·split at p2
   ·rename_i hi;obtain⟨a,vs,rfl,h,g,rs⟩:=fX rv;exact⟨a,vs,rfl,by rw[aM r2,hi],h,λq hq=>p2.sA st2.hr rs.reverse q hq⟩
   ·exact p2.elim
  ·exact p2.elim⟩⟩⟩
end
noncomputable def fY:List D->Option (List Bool)
 | []=>some []
 | .bl b::r=>(fY r).map (b::·)
 |_=>none
noncomputable def intsOf:List D->Option (List Int)
 | []=>some []
 | .int b::r=>(intsOf r).map (b::·)
 |_=>none
theorem pD:∀{ds:List D}{bs:List Bool},fY ds=some bs->ds=bs.map D.bl
 | [],_,e=>by simp[fY]at e;subst e;rfl
 |d::ds,bs,e=>by
  cases d with
  |bl b=>
   simp only[fY,PB]at e;obtain⟨cs,e1,rfl⟩:=e;rw[pD e1];rfl
  |_=>simp[fY]at e
theorem ft:∀{ds:List D}{bs:List Int},intsOf ds=some bs->ds=bs.map D.int
 | [],_,e=>by simp[intsOf]at e;subst e;rfl
 |d::ds,bs,e=>by
  cases d with
  |int b=>
   simp only[intsOf,PB]at e;obtain⟨cs,e1,rfl⟩:=e;rw[ft e1];rfl
  |_=>simp[intsOf]at e
theorem lT:∀bs:List Int,intsOf (bs.map D.int)=some bs
 | []=>rfl
 |b::bs=>by simp[intsOf,lT bs]
theorem ak.vD:∀{vs:List V}{ns:List Bool},ak H vs (ns.map D.bl)->vs=ns.map V.bl
 | [],[],.nil=>rfl
 |v::vs,n::ns,.cons r t=>by
  cases r;rw[Oq,ak.vD t]
noncomputable def insI(x:Int):List Int->List Int
 | []=>[x]
 |y::ys=>if x<=y then x::y::ys else y::insI x ys
noncomputable def sortI:List Int->List Int
 | []=>[]
 |x::xs=>insI x (sortI xs)
theorem insI_perm(x:Int):∀ys,(insI x ys).Perm (x::ys)
 | []=>.refl _
 |y::ys=>by
  unfold insI;split
  ·exact .refl _
  ·exact((insI_perm x ys).cons y).trans (.swap x y ys)
theorem sortI_perm:∀xs,(sortI xs).Perm xs
 | []=>.refl _
 |x::xs=>(insI_perm x _).trans ((sortI_perm xs).cons x)
theorem sZ(x:Int):∀ys:List Int,ys.Pairwise (·<=·)->(insI x ys).Pairwise (·<=·)
 | [],_=>by simp[insI]
 |y::ys,h=>by
  unfold insI;split
  ·rename_i hxy;refine PD.mpr ⟨λz hz=>?_,h⟩;rcases Ow.mp hz with e |e
   ·omega
   ·have:=(PD.mp h).1 z e;omega
  ·rename_i hxy;obtain⟨h1,h2⟩:=PD.mp h;refine PD.mpr ⟨λz hz=>?_,sZ x ys h2⟩;rcases Ow.mp ((insI_perm x ys).mem_iff.mp hz)with e |e
   ·omega
   ·exact h1 z e
theorem lh:∀xs,(sortI xs).Pairwise (·<=·)
 | []=>.nil
 |x::xs=>sZ x _ (lh xs)
theorem rV:∀{xs ys:List Int},xs.Perm ys->xs.Pairwise (·<=·)->ys.Pairwise (·<=·)->xs=ys
 | [],ys,h,_,_=>by rw[List.nil_perm.mp h]
 |x::xs,[],h,_,_=>by simpa using h.length_eq
 |x::xs,y::ys,h,h1,h2=>by
  obtain⟨a1,a2⟩:=PD.mp h1;obtain⟨b1,b2⟩:=PD.mp h2;have hx:x∈y::ys:=h.mem_iff.mp (OY ..);have hy:y∈x::xs:=h.mem_iff.mpr (OY ..);have e:x=y:=by
   rcases Ow.mp hx with e |e
   ·exact e
   ·rcases Ow.mp hy with e' |e'
    ·exact e'.symm
    ·have:=a1 y e';have:=b1 x e;omega
  subst e;rw[rV (List.Perm.cons_inv h) a2 b2]
theorem pq(h:ys.Perm xs)(h1:ys.Pairwise (·<=·)):ys=sortI xs:=rV (h.trans (sortI_perm xs).symm) h1 (lh xs)
noncomputable def aU(xs:List Vl)(S:Sto):R Vl:=match xs with
 | [x]=>(match bK x S with
  |some ds=>.ok (.d (.int ds.length)) S
  |none=>.bad)
 |_=>.bad
noncomputable def cg(xs:List Vl)(S:Sto):R Vl:=match xs with
 | [x]=>(match bK x S with
  |some ds=>.ok (.d (.tup ds)) S
  |none=>.bad)
 |_=>.bad
noncomputable def Fv(xs:List Vl)(S:Sto):R Vl:=match xs with
 | [x]=>(match bK x S with
  |some ds=>.ok (.d (.lst ds)) S
  |none=>.bad)
 |_=>.bad
noncomputable def m_(xs:List Vl)(S:Sto):R Vl:=match xs with
 | [x]=>(match bK x S with
  |some ds=>.ok (.r S.length) (S++[.lst ds])
  |none=>.bad)
 |_=>.bad
noncomputable def dO(xs:List Vl)(S:Sto):R Vl:=match xs with
 | [x]=>(match(bX x S).bind fY with
  |some bs=>.ok (.d (.bl (bs.all id))) S
  |none=>.bad)
 |_=>.bad
noncomputable def ki(xs:List Vl)(S:Sto):R Vl:=match xs with
 | [x]=>(match(bX x S).bind fY with
  |some bs=>.ok (.d (.bl (bs.any id))) S
  |none=>.bad)
 |_=>.bad
noncomputable def sg(xs:List Vl)(S:Sto):R Vl:=match xs with
 | [x]=>(match(bX x S).bind intsOf with
  |some ns=>if ns.length<=1000/\∀n∈ns,-1000000<=n/\n<=1000000 then .ok (.d (.int ns.sum)) S else .bad
  |none=>.bad)
 |_=>.bad
noncomputable def zL(xs:List Vl)(S:Sto):R Vl:=match xs with
 | [.d (.int i),.d (.int j)]=>.ok (.d (.int (if j>i then j else i))) S
 |_=>.bad
noncomputable def zE(xs:List Vl)(S:Sto):R Vl:=match xs with
 | [.d (.int i),.d (.int j)]=>.ok (.d (.int (if j<i then j else i))) S
 |_=>.bad
section
variable{K:Oh}{mg:Str->Option Value}
theorem bp.one(r:bp K mg μ S H vs [x]):∃v,vs=[v]/\aF K mg μ S H v x:=by
 cases r with |cons r t=>cases t;exact⟨_,rfl,r⟩
theorem bp.two(r:bp K mg μ S H vs [x,y]):∃v w,vs=[v,w]/\aF K mg μ S H v x/\aF K mg μ S H w y:=by
 cases r with |cons r t=>cases t with |cons r' t'=>cases t';exact⟨_,_,rfl,r,r'⟩
theorem jv:fU K mg E8 aU:=by
 intro WE μ S H vs xs Q hr rs p;unfold aU at p;split at p
 ·obtain⟨v,rfl,r⟩:=rs.one;split at p
  ·obtain⟨a,us,rfl,ha,rr⟩:=jc hr r ‹_›;exact⟨a,us,rfl,oC ha,by rw[rr.length];exact p.here hr (Rep.int _)⟩
  ·exact p.elim
 ·exact p.elim
theorem iC:fU K mg xY cg:=by
 intro WE μ S H vs xs Q hr rs p;unfold cg at p;split at p
 ·rename_i x;obtain⟨v,rfl,r⟩:=rs.one;split at p
  ·rename_i ds e;unfold bK at e;split at e
   ·cases e;obtain⟨a,us,rfl,h,g,rr⟩:=fX r;exact⟨a,rfl,.inr ⟨us,h,p.here hr (Rep.tup g rr)⟩⟩
   ·obtain⟨a,us,rfl,h,rr⟩:=dB hr r e;exact⟨a,rfl,.inl ⟨us,h,λq hq=>p.sA hr rr q hq⟩⟩
  ·exact p.elim
 ·exact p.elim
theorem zi:fU K mg BD m_:=by
 intro WE μ S H vs xs Q hr rs p;unfold m_ at p;split at p
 ·obtain⟨v,rfl,r⟩:=rs.one;split at p
  ·obtain⟨a,us,rfl,ha,rr⟩:=jc hr r ‹_›;exact⟨a,us,rfl,oC ha,λq hq=>p.CZ hr rr q hq⟩
  ·exact p.elim
 ·exact p.elim
theorem lN:fU K mg Fd dO:=by
 intro WE μ S H vs xs Q hr rs p;unfold dO at p;split at p
 ·obtain⟨v,rfl,r⟩:=rs.one;split at p
  ·rename_i bs e;obtain⟨ds,e1,e2⟩:=Qi.mp e;obtain⟨a,us,rfl,ha,rr⟩:=dB hr r e1;rw[pD e2]at rr;rw[ak.vD rr]at ha;exact⟨a,bs,rfl,ha,p.here hr (Rep.bl _)⟩
  ·exact p.elim
 ·exact p.elim
theorem wa:fU K mg FC ki:=by
 intro WE μ S H vs xs Q hr rs p;unfold ki at p;split at p
 ·obtain⟨v,rfl,r⟩:=rs.one;split at p
  ·rename_i bs e;obtain⟨ds,e1,e2⟩:=Qi.mp e;obtain⟨a,us,rfl,ha,rr⟩:=dB hr r e1;rw[pD e2]at rr;rw[ak.vD rr]at ha;exact⟨a,bs,rfl,ha,p.here hr (Rep.bl _)⟩
  ·exact p.elim
 ·exact p.elim
theorem DQ:fU K mg ER sg:=by
 intro WE μ S H vs xs Q hr rs p;unfold sg at p;split at p
 ·obtain⟨v,rfl,r⟩:=rs.one;split at p
  ·rename_i bs e;split at p
   ·rename_i hb;obtain⟨ds,e1,e2⟩:=Qi.mp e;obtain⟨a,us,rfl,ha,rr⟩:=dB hr r e1;rw[ft e2]at rr;rw[ak.iP rr]at ha;exact⟨a,bs,rfl,ha,hb.1,hb.2,p.here hr (Rep.int _)⟩
   ·exact p.elim
  ·exact p.elim
 ·exact p.elim
theorem Eh:fU K mg IQ zL:=by
 intro WE μ S H vs xs Q hr rs p;unfold zL at p;split at p
 ·obtain⟨v,w,rfl,r1,r2⟩:=rs.two;exact⟨_,_,by rw[aM r1,aM r2],p.here hr (Rep.int _)⟩
 ·exact p.elim
theorem En:fU K mg Kn zE:=by
 intro WE μ S H vs xs Q hr rs p;unfold zE at p;split at p
 ·obtain⟨v,w,rfl,r1,r2⟩:=rs.two;exact⟨_,_,by rw[aM r1,aM r2],p.here hr (Rep.int _)⟩
 ·exact p.elim
end
noncomputable def fo(T:String)(x:Vl)(S:Sto):R Vl:=match x with
 | .d d=>.ok (.d (.bl (isT T d))) S
 | .r n=>(match S[n]? with
  |some (.lst xs)=>.ok (.d (.bl (isT T (.lst xs)))) S
  |_=>.bad)
 |_=>.bad
section
variable{X:Cx}{WE:WX}
theorem jx[n:NS e](hm:X.mg "isinstance"=none)(hm2:X.mg nm=none)(hv:bootBuiltins nm=some (.type T))(ha:RE X WE e xa)(hg:Gl X "isinstance":=by exact rfl)(hg2:Gl X nm:=by exact rfl)(ho:okT T=true:=by exact rfl)
  (hn:nm≠"__name__":=by decide) (hd:(nm==("__debug__":Str))=false:=by decide) (hb:bootBuiltins "isinstance"=some (.builtin "isinstance"):=by decide+kernel)
  (hs2:starEach [.Name nm p2] X.env=(false,eval (.Name nm p2) X.env)::starEach [] X.env:=by rfl) (hpl:(backTo pos (starEach [.Name nm p2] X.env)).any (·.1)=false:=by rfl) :
  RE X WE (.Call (.Name "isinstance" p) [e,.Name nm p2] [] pos) (xUn (fo T) xa):=
 ⟨(Ar hg hm hg2 hm2 hv ho ha.h hn hd hb (n.eq _ X.env) hs2 hpl).weak λσ H Q ⟨μ,S,τ,hr,sr,p⟩=>⟨μ,S,τ,hr,sr,p.bind λv x S1 μ1 H1 st1 r1 p1=>by
  unfold fo at p1;split at p1
  ·exact⟨_,Rep.mono fK r1,p1.here st1.hr (Rep.bl _)⟩
  ·split at p1
   ·rename_i e;obtain⟨rfl,hn⟩:=r1;obtain⟨vs,h,rs⟩:=st1.hr.ob _ _ e;exact⟨_,Rep.lst h (rs.mono fK),p1.here st1.hr (Rep.bl _)⟩
   ·exact p1.elim
  ·exact p1.elim⟩⟩
noncomputable def xLm(f:Nat->List D->D->Sto->R Vl)(o e:XE):XE:=λτ S=>(o τ S).bind λx S1=>match x with
 | .r n=>(match S1[n]? with
  |some (.lst _)=>(e τ S1).bind λy S2=>(match y with
   | .d z=>(match S2[n]? with
    |some (.lst xs)=>f n xs z S2
    |_=>.bad)
   |_=>.bad)
  |_=>.bad)
 |_=>.bad
noncomputable def ka(n:Nat)(xs:List D)(z:D)(S:Sto):R Vl:=if xs.length<100000 then .ok (.d .non) (S.set n (.lst (xs++[z])))else .bad
theorem BG(ho:RE X WE o xo)(he:RE X WE e xe)
  (hbase:attributeBase o "append" X.env (eval o X.env)=eval o X.env:=by rfl)
  (hfew:((backTo cpos (starEach [e] X.env)).all (λx=>!x.1)&&(backToKw cpos (keywordEach [] X.env)).all (λx=>x.1.isSome)&&decide ([e].length+([]:List Keyword).length+(if([]:List Keyword).isEmpty then 0 else 1)<30))=true:=by rfl)
  (hline:(apos.endLine==cpos.line)=true:=by rfl) (hs:starEach [e] X.env=(false,eval e X.env)::starEach [] X.env:=by rfl):RE X WE (.Call (.Attribute o "append" apos) [e] [] cpos) (xLm ka xo xe):=
 ⟨(K8 ho.h he.h hbase hfew hline hs).weak λσ H Q ⟨μ,S,τ,hr,sr,p⟩=>⟨μ,S,τ,hr,sr,p.bind λv x S1 μ1 H1 st1 r1 p1=>by
  try dsimp only at p1
  split at p1
  ·rename_i n;obtain⟨rfl,hn⟩:=r1;split at p1
   ·rename_i xs0 e0;obtain⟨vs0,h0,_⟩:=st1.hr.ob _ _ e0;refine⟨_,vs0,rfl,h0,μ1,S1,τ,st1.hr,sr.step st1,p1.bind λw y S2 μ2 H2 st2 r2 p2=>?_⟩
    try dsimp only at p2
    split at p2
    ·split at p2
     ·rename_i z _ xs e2;obtain⟨vs,h2,rs⟩:=st2.hr.ob _ _ e2;rw[st2.ag n hn]at h2;unfold ka at p2;split at p2
      ·have lv:=rs.length;have sp:=Step.put st2.hr e2 (by simp) (ob:=.lst (xs++[z])) ⟨_,rfl,rs.append (.cons r2 .nil)⟩;rw[st2.ag n hn]at sp;refine⟨vs,h2,by rw[QT];omega,p2 _ _ _ sp Rep.non⟩
      ·exact p2.elim
     ·exact p2.elim
    ·exact p2.elim
   ·exact p1.elim
  ·exact p1.elim⟩⟩
def C4(r:V->List V->Hp->VK->Prop)(f:Nat->List D->D->Sto->R Vl):Prop:=∀(K:Oh)(mg:Str->Option Value)(WE:WX)(μ:Nat->Addr)(S:Sto)(H:Hp)(n:Nat)(xs:List D)(vs:List V)(w:V)(z:D)(Q:VK),HR μ S H->S[n]?=some (.lst xs)->H (μ n)=some (.lst vs)->ak (vh μ S H) vs xs->Rep (vh μ S H) w z->aE (aF K mg) WE μ S H (f n xs z S) Q->r (.ref (μ n)) [w] H Q
theorem E9{r:V->List V->Hp->VK->Prop}{f:Nat->List D->D->Sto->R Vl}{name:Str}{id:String}{o e:Expr}{xo xe:XE}{apos cpos:Pos}(slot:Slot "list" name id)(hty:typeOf (.builtin id)=pure (.type "method_descriptor"))(hm:MtM X id r)(hf:C4 r f)(ho:RE X WE o xo)(he:RE X WE e xe)
  (hbase:attributeBase o name X.env (eval o X.env)=eval o X.env:=by rfl)
  (hfew:((backTo cpos (starEach [e] X.env)).all (λx=>!x.1)&&(backToKw cpos (keywordEach [] X.env)).all (λx=>x.1.isSome)&&decide ([e].length+([]:List Keyword).length+(if([]:List Keyword).isEmpty then 0 else 1)<30))=true:=by rfl)
  (hline:(apos.endLine==cpos.line)=true:=by rfl) (hs:starEach [e] X.env=(false,eval e X.env)::starEach [] X.env:=by rfl):RE X WE (.Call (.Attribute o name apos) [e] [] cpos) (xLm f xo xe):=
 ⟨(E1 slot hty hm ho.h he.h hbase hfew hline hs).weak λσ H Q ⟨μ,S,τ,hr,sr,p⟩=>⟨μ,S,τ,hr,sr,p.bind λv x S1 μ1 H1 st1 r1 p1=>by
  try dsimp only at p1
  split at p1
  ·rename_i n;obtain⟨rfl,hn⟩:=r1;split at p1
   ·rename_i xs0 e0;obtain⟨vs0,h0,_⟩:=st1.hr.ob _ _ e0;refine⟨_,vs0,rfl,h0,μ1,S1,τ,st1.hr,sr.step st1,p1.bind λw y S2 μ2 H2 st2 r2 p2=>?_⟩
    try dsimp only at p2
    split at p2
    ·split at p2
     ·rename_i z _ xs e2;obtain⟨vs,h2,rs⟩:=st2.hr.ob _ _ e2;rw[<-st2.ag n hn];exact hf X.K X.mg WE μ2 S2 H2 n xs vs w z Q st2.hr e2 h2 rs r2 p2
     ·exact p2.elim
    ·exact p2.elim
   ·exact p1.elim
  ·exact p1.elim⟩⟩
noncomputable def vw(n:Nat)(xs:List D)(z:D)(S:Sto):R Vl:=match z with
 | .int i=>if 0<=i/\i<2 ^ 63 then(match xs[i.toNat]? with
  |some y=>.ok (.d y) (S.set n (.lst (xs.eraseIdx i.toNat)))
  |none=>.bad)else .bad
 |_=>.bad
theorem ak.erase:∀{vs:List V}{ds:List D}(i:Nat),ak H vs ds->ak H (vs.eraseIdx i) (ds.eraseIdx i)
 |_,_,_,.nil=>.nil
 |_,_,0,.cons _ t=>t
 |_,_,i+1,.cons r t=>.cons r (ak.erase i t)
theorem Ea:C4 Bb vw:=by
 intro K mg WE μ S H n xs vs w z Q hr e h rs rw' p;unfold vw at p;split at p
 ·rename_i i;split at p
  ·rename_i hi;split at p
   ·rename_i y ey;obtain⟨u,eu,ru⟩:=rs.get' ey;have hl:i.toNat<vs.length:=(Ol.mp eu).1;cases rw';refine⟨_,vs,i,i.toNat,u,rfl,rfl,h,by omega,hi.2,WW hi.1 ⋯,eu,?_⟩;have sp:=Step.put hr e (by simp) (ob:=.lst (xs.eraseIdx i.toNat)) ⟨_,rfl,rs.erase i.toNat⟩;exact p _ _ _ sp (Rep.mono sp.vis ru)
   ·exact p.elim
  ·exact p.elim
 ·exact p.elim
end
noncomputable def aR(e:XE):XI:=λτ S=>(e τ S).bind λz S1=>match z with
 | .d (.tup xs)=>.ok ⟨xs.map Vl.d,none⟩ S1
 | .d (.lst xs)=>.ok ⟨xs.map Vl.d,none⟩ S1
 | .r n=>(match S1[n]? with
  |some (.lst xs)=>.ok ⟨xs.map Vl.d,some (n,.lst xs)⟩ S1
  |_=>.bad)
 |_=>.bad
noncomputable def gu(as:XA):XI:=λτ S=>(as τ S).bind λzs S1=>match zs with
 | [.d (.int j)]=>if -100000<=j/\j<=100000 then .ok ⟨(Oy j.toNat).map λi=>Vl.d (.int (i:Nat)),none⟩ S1 else .bad
 |_=>.bad
noncomputable def EG(as:XA):XI:=λτ S=>(as τ S).bind λzs S1=>match zs with
 | [.d (.int i),.d (.int j)]=>if(-100000<=i/\i<=100000)/\-100000<=j/\j<=100000 then .ok ⟨(Oy (j-i).toNat).map λk=>Vl.d (.int (i+(k:Nat))),none⟩ S1 else .bad
 |_=>.bad
section
variable{X:Cx}{WE:WX}{K:Oh}{mg:Str->Option Value}{μ:Nat->Addr}{S:Sto}{H:Hp}
theorem iM{xs:List D}{i:Nat}{z:Vl}(e:(xs.map Vl.d)[i]?=some z):∃x,xs[i]?=some x/\z=.d x:=by
 rw[Ox]at e;cases q:xs[i]? with
 |none=>rw[q]at e;cases e
 |some x=>rw[q]at e;cases e;exact⟨x,rfl,rfl⟩
theorem KN{a:Addr}{vs:List V}{xs:List D}(g:vh μ S H a=some (.tup vs))(rs:ak (vh μ S H) vs xs)(hz:vs.length<=sizeLine):jr K mg μ S H (Itt K a) ⟨xs.map Vl.d,none⟩where
 ok:=True.intro
 len:=by simp only[Oa];rw[<-rs.length];exact hz
 go:=λi z μ' S' H' st _ e=>by
  obtain⟨x,e1,rfl⟩:=iM e;obtain⟨u,e2,_⟩:=rs.get' e1;exact⟨vs,u,SqT.of (aH (st.vis _ _ g)).2,e2⟩
 yld:=λi z μ' S' H' u H2 st _ e y=>by
  obtain⟨rfl,y⟩:=y;obtain⟨x,e1,rfl⟩:=iM e;have e2:=y vs (SqT.of (aH (st.vis _ _ g)).2);obtain⟨x',e3,r⟩:=rs.get e2;rw[e1]at e3;cases e3;exact⟨Step.refl st.hr,Rep.mono st.vis r⟩
 stop:=λi μ' S' H' st _ hi=>⟨vs,SqT.of (aH (st.vis _ _ g)).2,by rw[rs.length];simpa using Ry hi⟩
theorem IE{a:Addr}{vs:List V}{xs:List D}(g:vh μ S H a=some (.lst vs))(rs:ak (vh μ S H) vs xs)(hz:vs.length<=sizeLine):jr K mg μ S H (Itl K a) ⟨xs.map Vl.d,none⟩where
 ok:=True.intro
 len:=by simp only[Oa];rw[<-rs.length];exact hz
 go:=λi z μ' S' H' st _ e=>by
  obtain⟨x,e1,rfl⟩:=iM e;obtain⟨u,e2,_⟩:=rs.get' e1;exact⟨vs,u,SqL.of (aH (st.vis _ _ g)).2,e2⟩
 yld:=λi z μ' S' H' u H2 st _ e y=>by
  obtain⟨rfl,y⟩:=y;obtain⟨x,e1,rfl⟩:=iM e;have e2:=y vs (SqL.of (aH (st.vis _ _ g)).2);obtain⟨x',e3,r⟩:=rs.get e2;rw[e1]at e3;cases e3;exact⟨Step.refl st.hr,Rep.mono st.vis r⟩
 stop:=λi μ' S' H' st _ hi=>⟨vs,SqL.of (aH (st.vis _ _ g)).2,by rw[rs.length];simpa using Ry hi⟩
theorem Ld{n:Nat}{vs:List V}{xs:List D}(hn:n<S.length)(e0:S[n]?=some (.lst xs))(rs:ak (vh μ S H) vs xs)(hz:vs.length<=sizeLine):jr K mg μ S H (Itl K (μ n)) ⟨xs.map Vl.d,some (n,.lst xs)⟩where
 ok:=e0
 len:=by simp only[Oa];rw[<-rs.length];exact hz
 go:=λi z μ' S' H' st ok e=>by
  obtain⟨us,h,rs'⟩:=st.hr.ob n _ ok;rw[st.ag n hn]at h;obtain⟨x,e1,rfl⟩:=iM e;obtain⟨u,e2,_⟩:=rs'.get' e1;exact⟨us,u,SqL.of h,e2⟩
 yld:=λi z μ' S' H' u H2 st ok e y=>by
  obtain⟨rfl,y⟩:=y;obtain⟨us,h,rs'⟩:=st.hr.ob n _ ok;rw[st.ag n hn]at h;obtain⟨x,e1,rfl⟩:=iM e;have e2:=y us (SqL.of h);obtain⟨x',e3,r⟩:=rs'.get e2;rw[e1]at e3;cases e3;exact⟨Step.refl st.hr,r⟩
 stop:=λi μ' S' H' st ok hi=>by
  replace hi:=Ry hi
  obtain⟨us,h,rs'⟩:=st.hr.ob n _ ok;rw[st.ag n hn]at h;exact⟨us,SqL.of h,by rw[rs'.length];simpa using hi⟩
theorem BB{lo:Int}{m:Nat}(hr:HR μ S H)(hm:m<=sizeLine):jr K mg μ S H (Itr lo m) ⟨(Oy m).map λk=>Vl.d (.int (lo+(k:Nat))),none⟩where
 ok:=True.intro
 len:=by simpa using hm
 go:=λi z μ' S' H' st _ e=>by
  have:=(Ol.mp e).1;exact(show i<m by simpa using this)
 yld:=λi z μ' S' H' u H2 st _ e y=>by
  obtain⟨rfl,rfl⟩:=y;have hi:i<m:=by simpa using(Ol.mp e).1
  rw[Ox,PN hi]at e;cases e;exact⟨Step.refl st.hr,Rep.int _⟩
 stop:=λi μ' S' H' st _ hi=>(show m<=i by simpa using Ry hi)
theorem dF(hl:RE X WE l xl):RI X WE tg l (aR xl):=⟨by
 intro pins s σ H Rr I h;obtain⟨μ,S,τ,hr,sr,p⟩:=h;refine thn (hl.h pins s σ H _ I ⟨μ,S,τ,hr,sr,p.bind (Q:=λv H1=>∃μ1 S1 z,HR μ1 S1 H1/\aF X.K X.mg μ1 S1 H1 v z/\aE (jr X.K X.mg) WE μ1 S1 H1 (match z with
   | .d (.tup xs)=>.ok ⟨xs.map Vl.d,none⟩ S1
   | .d (.lst xs)=>.ok ⟨xs.map Vl.d,none⟩ S1
   | .r n=>(match S1[n]? with
    |some (.lst xs)=>.ok ⟨xs.map Vl.d,some (n,.lst xs)⟩ S1
    |_=>.bad)
   |_=>.bad) Rr) λv x S1 μ1 H1 st1 r1 p1=>⟨μ1,S1,x,st1.hr,r1,p1⟩⟩) λv s1 ⟨u,H1,I1,ru,μ1,S1,z,hr1,r1,p1⟩=>?_
 have goT:∀a vs xs,u=.ref a->vh μ1 S1 H1 a=some (.tup vs)->ak (vh μ1 S1 H1) vs xs->Rr (Itt X.K a) H1->wpAny (model X.prog X.w) X.A (pyIter v) (PIE X pins σ tg Rr) X.xe s1:=by
  rintro a vs xs rfl g rs q;cases ru;obtain⟨its,rv,pp,hz⟩:=I1.tuple (SqT.of (aH g).2);refine QN (show s1.heap.IsTuple a its.toArray from pp) ?_;refine⟨s1.heap.objs.size,[s1.heap.objs.size],_,_,H1,rfl,I1.kept (t':=s1.toks) λb o e=>Od _ e,zC a _,⟨_,OA _ rfl,rfl,rfl⟩,λb hb=>?_,q⟩;rw[Og.mp hb];exact I1.lQ (Oj _) (I1.hok.fresh (Oj _))
 have goL:∀a vs,u=.ref a->H1 a=some (.lst vs)->Rr (Itl X.K a) H1->wpAny (model X.prog X.w) X.A (pyIter v) (PIE X pins σ tg Rr) X.xe s1:=by
  rintro a vs rfl g q;cases ru;obtain⟨its,rv,pp,hz⟩:=I1.list (SqL.of g);refine Ro pp.isList ?_;refine⟨s1.heap.objs.size,[s1.heap.objs.size],_,_,H1,rfl,I1.kept (t':=s1.toks) λb o e=>Od _ e,Br a _,⟨_,OA _ rfl,rfl,rfl⟩,λb hb=>?_,q⟩;rw[Og.mp hb];exact I1.lQ (Oj _) (I1.hok.fresh (Oj _))
 split at p1
 ·obtain⟨a,vs,rfl,h,g,rs⟩:=fX r1;obtain⟨its,rv,pp,hz⟩:=I1.tuple (SqT.of h);exact goT a vs _ rfl g rs (p1.here hr1 (KN g rs hz))
 ·cases(show Rep (vh μ1 S1 H1) u (.lst _)from r1)with
  |lst g rs=>
   obtain⟨its,rv,pp,hz⟩:=I1.list (SqL.of (aH g).2);exact goL _ _ rfl (aH g).2 (p1.here hr1 (IE g rs hz))
 ·split at p1
  ·rename_i e;obtain⟨rfl,hn⟩:=r1;obtain⟨vs,h,rs⟩:=hr1.ob _ _ e;obtain⟨its,rv,pp,hz⟩:=I1.list (SqL.of h);exact goL _ _ rfl h (p1.here hr1 (Ld hn e rs hz))
  ·exact p1.elim
 ·exact p1.elim⟩
theorem nO{tg a:Expr}{as:XA}{p pos:Pos}(hg:Gl X "range")(hm:X.mg "range"=none)(ha:RA X WE [a] as)(hs:starEach [a] X.env=[(false,eval a X.env)]:=by rfl):RI X WE tg (.Call (.Name "range" p) [a] [] pos) (gu as):=
 ⟨(Cc hg hm ha.h hs).weak λσ H Rr ⟨μ,S,τ,hr,sr,p⟩=>⟨μ,S,τ,hr,sr,p.bind λvs xs S1 μ1 H1 st1 r1 p1=>by
  try dsimp only at p1
  split at p1
  ·split at p1
   ·obtain⟨v,rfl,r⟩:=r1.one;rename_i j hj;refine⟨j,by rw[aM r],by omega,by omega,p1.here st1.hr ?_⟩;have q:=BB (K:=X.K) (mg:=X.mg) (lo:=0) (m:=j.toNat) st1.hr (kh ⋯);have z:∀k:Nat,(0:Int)+k=k:=λk=>by omega
    simp only[z]at q;exact q
   ·exact p1.elim
  ·exact p1.elim⟩⟩
theorem Bg{tg a b:Expr}{as:XA}{p pos:Pos}(hg:Gl X "range")(hm:X.mg "range"=none)(ha:RA X WE [a,b] as)(hs:starEach [a,b] X.env=[(false,eval a X.env),(false,eval b X.env)]:=by rfl)(hs2:starEach [b] X.env=[(false,eval b X.env)]:=by rfl):RI X WE tg (.Call (.Name "range" p) [a,b] [] pos) (EG as):=
 ⟨(Ax hg hm ha.h hs hs2).weak λσ H Rr ⟨μ,S,τ,hr,sr,p⟩=>⟨μ,S,τ,hr,sr,p.bind λvs xs S1 μ1 H1 st1 r1 p1=>by
  try dsimp only at p1
  split at p1
  ·split at p1
   ·obtain⟨v,w,rfl,r,r'⟩:=r1.two;rename_i i j hj;exact⟨i,j,by rw[aM r,aM r'],⟨by omega,by omega,by omega,by omega⟩,p1.here st1.hr (BB st1.hr (by rw[QT];omega))⟩
   ·exact p1.elim
  ·exact p1.elim⟩⟩
end
section
variable{prog:Program}{w:World}{A:Around}{E:Value->Shared->Prop}{s:Shared}
theorem w8(hl:IsTup s.heap l vs.toArray)
  (h:Q vs { s with heap:=(s.heap.push (seqObj "list" #[] 0)).update s.heap.objs.size (Rt (·++vs.toArray)) }) (hsz:vs.length<=sizeLine:=by size_fits) :
  wpAny (model prog w) A (collect (.ref l)) Q E s:=by
 obtain⟨o,ho,hc,n,hd⟩:=id hl;unfold collect;refine ar (U7 (Qr entry_proto_collect' ?_));show wpAny _ _ (do again (.builtin "list.__iadd__" ⟨[<-newList [],.ref l],[]⟩)) _ _ s;refine ar (T3 (C0 ⟨VQ _ (by decide+kernel),Qr entry_list_iadd' ?_⟩));show wpAny _ _ (Sf (.ref s.heap.objs.size) (.ref l) (.ref s.heap.objs.size)) _ _ { s with heap:=s.heap.push (seqObj "list" #[] 0) };unfold Sf;have ho':(s.heap.push (seqObj "list" #[] 0)).get? l=some o:=Od _ ho;refine ar (Qd (T:="tuple") ⟨o,ho',hc⟩ ?_);have ht:(Value.type "tuple" == Value.type "tuple")=true:=by rfl
 rw[Oe (by rw[ht];simp)];refine ar (Ur ho' hd ?_);refine ar (Ur (xs:=#[]) (n:=0) (OA _ rfl) rfl ?_);rw[Ot (by simp)];refine ar (Xs (xs:=#[]) (n:=0) (OA _ rfl) rfl ?_ (QF _) (by show(#[]++vs.toArray).size<=sizeLine+1;simp only[Wc,Ov,Qf];omega));refine C0 ?_;show wpAny (model prog w) A (do
   let o<-load s.heap.objs.size
   match o.data with
   | .seq xs _=>pure xs.toList
   |_=>unsupported "internal:collect") Q E { s with heap:=(s.heap.push (seqObj "list" #[] 0)).update s.heap.objs.size (Rt (·++vs.toArray)) }
 refine ar (wpAny_load (get?_update_seq (OA _ rfl) _) ?_);show wpAny _ _ (pure ((#[]:Array Value)++vs.toArray).toList) Q E _;rw[show((#[]:Array Value)++vs.toArray).toList=vs by simp];exact C0 h
theorem y_(hl:IsTup s.heap l vs.toArray)(hI:IntsAre vs ns)(h64:vs.length<64)
  (h:∀(out:Array Value)(ns':List Int),IntsAre out.toList ns'->ns'.Perm ns->ns'.Pairwise (·<=·)->Q (.ref (s.heap.objs.size+1)) { s with heap:=sortedAll s.heap vs out }) :
  wpAny (model prog w) A (call (.builtin "sorted") [.ref l]) Q E s:=by
 refine Sx Wl VS VT (VU _) ?_;unfold Builtin.«sorted»;refine ar (m:=checkCount "sorted" 1 1 _) (C0 ?_);refine ar (w8 hl ?_ (Qb (dg ⋯)));refine ar (T3 ?_);have hsz:((s.heap.push (seqObj "list" #[] 0)).update s.heap.objs.size (Rt (·++vs.toArray))).objs.size=s.heap.objs.size+1:=by
  rw[Heap.size_update,size_push']
 have hoL:(((s.heap.push (seqObj "list" #[] 0)).update s.heap.objs.size (Rt (·++vs.toArray))).push (seqObj "list" vs.toArray 0)).get? (s.heap.objs.size+1)=some (seqObj "list" vs.toArray 0):=by
  rw[<-hsz];exact OA _ rfl
 show wpAny _ _ _ _ _ { s with heap:=((s.heap.push (seqObj "list" #[] 0)).update s.heap.objs.size (Rt (·++vs.toArray))).push (seqObj "list" vs.toArray 0) };rw[hsz];refine ar (OO (Pe U_ ⟨_,hoL,rfl⟩ UI (W7 hoL hI h64 λout ns' a1 a2 a3=>⟨_,rfl,?_⟩) (Va _)));exact C0 ⟨_,rfl,h out ns' a1 a2 a3⟩
end
section
variable{X:Cx}
def AS:List V->Hp->VK->Prop:=λvs H Q=>∃(p:Addr)(ns:List Int),vs=[.ref p]/\H p=some (.tup (ns.map V.int))/\ns.length<64/\∀(l:Addr)(ms:List Int),H l=none->List.Perm ms ns->ms.Pairwise (·<=·)->Q (.ref l) (upd H l (.lst (ms.map V.int)))
theorem yy:aX X (.builtin "sorted") AS:=by
 intro pins s σ H xs us Q I r h;obtain⟨p,ns,rfl,hq,hl,q⟩:=h;obtain⟨u,rfl,rx⟩:=vals1 r;cases rx;obtain⟨its,rv,pl,hz⟩:=I.tuple (SqT.of hq);have hI:IntsAre its ns:=intsAre_of rv;have h64:its.length<64:=by rw[<-rv.length,Oa];exact hl
 refine y_ pl hI h64 λout ms hout hperm hpair=>?_;obtain⟨e,he⟩:=sortedAll_at s.heap its out;refine⟨.ref (s.heap.objs.size+1),_,I.laid (t':=s.toks) (o:=.lst (ms.map V.int)) (λb ob q=>Xk q) (So _) ?_,rfl,q _ ms (I.hok.fresh (So _)) hperm hpair⟩;have hlm:ms.length=ns.length:=hperm.length_eq;exact⟨by rw[Oa];have:(64:Nat)<=sizeLine:=(by decide);omega,out.toList,e,fq hout,by simpa using he⟩
def AX:List V->Hp->VK->Prop:=λvs H Q=>wt vs H Q\/AS vs H Q
theorem qD:aX X (.builtin "sorted") AX:=uU.or yy
noncomputable def iw(xs:List Vl)(S:Sto):R Vl:=match xs with
 | [x]=>(match(bK x S).bind intsOf with
  |some ns=>if ns.length<64 then .ok (.d (.lst ((sortI ns).map D.int))) S else .bad
  |none=>.bad)
 |_=>.bad
theorem tW{K:Oh}{mg:Str->Option Value}:fU K mg AX iw:=by
 intro WE μ S H vs xs Q hr rs p;unfold iw at p;split at p
 ·obtain⟨v,rfl,r⟩:=rs.one;split at p
  ·rename_i ns e;split at p
   ·rename_i hb;obtain⟨ds,e1,e2⟩:=Qi.mp e;obtain⟨a,us,rfl,ha,rr⟩:=jc hr r e1;rw[ft e2]at rr;rw[ak.iP rr]at ha;rcases ha with ha |ha
    ·refine .inl ⟨a,ns,rfl,ha,hb,λl ms hl h1 h2=>?_⟩;rw[pq h1 h2];exact p.l_ hr (ak.ints _) l hl
    ·refine .inr ⟨a,ns,rfl,ha,hb,λl ms hl h1 h2=>?_⟩;rw[pq h1 h2];exact p.l_ hr (ak.ints _) l hl
   ·exact p.elim
  ·exact p.elim
 ·exact p.elim
def Fg:V->List V->Hp->VK->Prop:=λx vs H Q=>∃l b xs zs,x=.ref l/\vs=[.ref b]/\H l=some (.lst xs)/\H b=some (.tup zs)/\xs.length+zs.length<=sizeLine/\Q .non (upd H l (.lst (xs++zs)))
theorem Hr:MtM X "list.extend" Fg:=by
 intro pins s σ H x vs v us Q I rx rv h;obtain⟨l,b,xs,zs,rfl,rfl,hH,hB,hz,q⟩:=h;cases rx;obtain⟨u,rfl,ru⟩:=rv.one;cases ru;obtain⟨z,its,n,r,hl,e⟩:=I.pI hH;obtain⟨its2,r2,p2,hz2⟩:=I.tuple (SqT.of hB);obtain⟨o2,g2,c2,n2,d2⟩:=id p2;have l2:=r2.length;have hsz:its.toArray.size+its2.toArray.size<=sizeLine:=by rw[Ov,Ov];omega
 have hlong:¬(!its.toArray.isEmpty&&Rx (its.toArray.size+its2.toArray.size))=true:=by
  rw[wC hsz,Qy];exact OF
 refine Pe VJ ⟨_,e,rfl⟩ Vs ?_ (Vg _ _);unfold Builtin.«list.extend»;refine ar (m:=selfAndOne "list.extend" _) ?_;refine RV (a:=(Value.ref l,Value.ref b)) (by first |rfl |(unfold selfAndOne;rfl)) ?_;dsimp only;unfold Sf;refine ar (Qd (T:="tuple") ⟨o2,g2,c2⟩ ?_);have ht:(Value.type "tuple" == Value.type "tuple")=true:=by rfl
 rw[Oe (by rw[ht];simp)];refine ar (Ur g2 d2 ?_);refine ar (Ur (n:=n) e rfl ?_);rw[Ot hlong];refine ar (Xs (n:=n) e rfl ?_ (by rw[Ov];omega) (by rw[Wc];omega));refine C0 ?_;refine⟨_,rfl,.non,_,I.zF (its':=its++its2) hH e (by simp) (r.append r2) ?_,rfl,q⟩;rw[Pj];omega
end
section
variable{X:Cx}{WE:WX}
def FE:V->List V->Hp->VK->Prop:=λx vs H Q=>xE x vs H Q\/Fg x vs H Q
theorem GU:MtM X "list.extend" FE:=by
 intro pins s σ H x vs v us Q I rx rv h;rcases h with h |h
 ·exact AW pins s σ H x vs v us Q I rx rv h
 ·exact Hr pins s σ H x vs v us Q I rx rv h
noncomputable def iH(n:Nat)(xs:List D)(z:D)(S:Sto):R Vl:=match z with
 | .lst ys=>if xs.length+ys.length<=100000 then .ok (.d .non) (S.set n (.lst (xs++ys)))else .bad
 | .tup ys=>if xs.length+ys.length<=100000 then .ok (.d .non) (S.set n (.lst (xs++ys)))else .bad
 |_=>.bad
theorem BE:C4 FE iH:=by
 intro K mg WE μ S H n xs vs w z Q hr e h rs rw' p;unfold iH at p;split at p
 ·rename_i ys;split at p
  ·cases rw' with
   | @lst a us _ h' rs'=>
    have l1:=rs.length;have l2:=rs'.length;exact .inl ⟨_,a,vs,us,rfl,rfl,h,(aH h').2,kh ⋯,p _ _ _ (Step.put hr e (by simp) (ob:=.lst (xs++ys)) ⟨_,rfl,rs.append rs'⟩) Rep.non⟩
  ·exact p.elim
 ·rename_i ys;split at p
  ·cases rw' with
   | @tup a us _ h' rs'=>
    have l1:=rs.length;have l2:=rs'.length;exact .inr ⟨_,a,vs,us,rfl,rfl,h,(aH h').2,kh ⋯,p _ _ _ (Step.put hr e (by simp) (ob:=.lst (xs++ys)) ⟨_,rfl,rs.append rs'⟩) Rep.non⟩
  ·exact p.elim
 ·exact p.elim
noncomputable def fg(x y z:Vl)(S:Sto):R Unit:=match x,y,z with
 | .r n,.d (.int k),.d w=>(match S[n]? with
  |some (.lst xs)=>(match ixN xs.length k with
   |some j=>.ok () (S.set n (.lst (xs.set j w)))
   |none=>.bad)
  |_=>.bad)
 |_,_,_=>.bad
theorem ak.set(r:Rep H v d):∀{vs:List V}{ds:List D}(i:Nat),ak H vs ds->ak H (vs.set i v) (ds.set i d)
 |_,_,_,.nil=>.nil
 |_,_,0,.cons _ t=>.cons r t
 |_,_,i+1,.cons q t=>.cons q (ak.set r i t)
theorem F8{K:Oh}{mg:Str->Option Value}:Av K mg yM fg:=by
 intro WE μ S H o i v x y z Q hr ro ri rv p;unfold fg at p;split at p
 ·split at p
  ·rename_i n k w _ xs e;obtain⟨rfl,hn⟩:=ro;obtain⟨vs,h,rs⟩:=hr.ob _ _ e;split at p
   ·rename_i j ej;refine⟨_,vs,k,j,rfl,aM ri,h,by rw[rs.length];exact ej,?_⟩;exact p () _ _ (Step.put hr e (by simp) (ob:=.lst (xs.set j w)) ⟨_,rfl,rs.set rv j⟩) True.intro
   ·exact p.elim
  ·exact p.elim
 ·exact p.elim
theorem ML:zc X yM:=set_list
noncomputable def lrg(fin:List D->Sto->R Vl)(zs:List Vl)(S:Sto):R Vl:=match zs with
 | [.d (.int j)]=>if 0<=j/\j<=1000 then fin ((Oy j.toNat).map λi=>D.int (i:Nat)) S else .bad
 |_=>.bad
noncomputable def Dq(ds:List D)(S:Sto):R Vl:=.ok (.r S.length) (S++[.lst ds])
theorem rK:∀l:List Nat,ak H (l.map λi=>V.int (i:Nat)) (l.map λi=>D.int (i:Nat))
 | []=>.nil
 |n::l=>.cons (.int _) (rK l)
theorem ug(hc:X.calm=true)(hgl:Gl X "list")(hml:X.mg "list"=none)(hgr:Gl X "range")(hmr:X.mg "range"=none)(hbl:bootBuiltins "list"=some (.type "list"))(ha:RA X WE [a] as)
  (hs:starEach [a] X.env=[(false,eval a X.env)]:=by rfl)
  (hs2:starEach [Expr.Call (.Name "range" p2) [a] [] pos2] X.env=(false,eval (Expr.Call (.Name "range" p2) [a] [] pos2) X.env)::starEach [] X.env:=by rfl) :
  RE X WE (.Call (.Name "list" p1) [.Call (.Name "range" p2) [a] [] pos2] [] pos1) (xN (lrg Dq) as):=
 ⟨(vI hc hgl hml hgr hmr hbl ha.h hs hs2).weak λσ H Q ⟨μ,S,τ,hr,sr,p⟩=>⟨μ,S,τ,hr,sr,p.bind λvs xs S1 μ1 H1 st1 r1 p1=>by
  unfold lrg at p1;split at p1
  ·split at p1
   ·rename_i j hj;obtain⟨v,rfl,r⟩:=r1.one;exact⟨j,by rw[aM r],hj.1,hj.2,λl hl=>p1.CZ st1.hr (rK _) l hl⟩
   ·exact p1.elim
  ·exact p1.elim⟩⟩
end
noncomputable def mX(x:Int):List Int->List Int
 | []=>[x]
 |y::ys=>if x<y then x::y::ys else if x=y then y::ys else y::mX x ys
noncomputable def aS:List Int->List Int
 | []=>[]
 |x::xs=>mX x (aS xs)
theorem pM(x z:Int):∀ys,z∈mX x ys↔z=x\/z∈ys
 | []=>by simp[mX]
 |y::ys=>by
  unfold mX;split
  ·simp
  ·split
   ·rename_i h;subst h;simp
   ·simp only[Ow,pM x z ys];constructor
    ·rintro(h |h |h)
     ·exact .inr (.inl h)
     ·exact .inl h
     ·exact .inr (.inr h)
    ·rintro(h |h |h)
     ·exact .inr (.inl h)
     ·exact .inl h
     ·exact .inr (.inr h)
theorem dh(z:Int):∀xs,z∈aS xs↔z∈xs
 | []=>by simp[aS]
 |x::xs=>by rw[aS,pM,dh z xs,Ow]
theorem tF(x:Int):∀ys:List Int,ys.Pairwise (· <·)->(mX x ys).Pairwise (· <·)
 | [],_=>by simp[mX]
 |y::ys,h=>by
  obtain⟨h1,h2⟩:=PD.mp h;unfold mX;split
  ·rename_i hxy;refine PD.mpr ⟨λz hz=>?_,h⟩;rcases Ow.mp hz with e |e
   ·omega
   ·have:=h1 z e;omega
  ·split
   ·exact h
   ·refine PD.mpr ⟨λz hz=>?_,tF x ys h2⟩;rcases(pM x z ys).mp hz with e |e
    ·omega
    ·exact h1 z e
theorem cS:∀xs,(aS xs).Pairwise (· <·)
 | []=>.nil
 |x::xs=>tF x _ (cS xs)
theorem sM{xs:List Int}(h:xs.Pairwise (· <·)):xs.Nodup:=h.imp λz=>by omega
theorem C6{xs ys:List Int}(h:∀z,z∈xs↔z∈ys)(h1:xs.Pairwise (· <·))(h2:ys.Pairwise (· <·)):xs=ys:=
 rV ((T5 (sM h1) (sM h2)).mpr h) (h1.imp λz=>by omega) (h2.imp λz=>by omega)
theorem vF{xs ys:List Int}(h:∀z,z∈ys↔z∈xs)(h1:ys.Pairwise (· <·)):ys=aS xs:=C6 (λz=>by rw[h,dh]) h1 (cS xs)
theorem rA{ks ns:List Int}(h1:ks.Nodup)(h2:∀x,x∈ks↔x∈ns):ks.length=(aS ns).length:=
 ((T5 h1 (sM (cS ns))).mpr λz=>by rw[h2,dh]).length_eq
section
variable{X:Cx}{WE:WX}
def SqI(H:Hp)(a:Addr)(ns:List Int):Prop:=H a=some (.lst (ns.map V.int))\/H a=some (.tup (ns.map V.int))
noncomputable def NX(N:Nat)(te:TE):TE:=λσ H Q=>te σ H λx H1=>∃(a:Addr)(ns:List Int),x=.ref a/\SqI H1 a ns/\ns.length<=300/\(aS ns).length<N/\∀l:Addr,H1 l=none->Q (.ref l) (upd H1 l (.lst ((aS ns).map V.int)))
theorem SqI.at(I:Inv X pins σ H s)(h:SqI H a ns):∃(its:List Value)(k:Bool),IntsAre its ns/\nW s.heap a its.toArray k:=by
 rcases h with h |h
 ·obtain⟨its,rv,pl,hz⟩:=I.list (SqL.of h);exact⟨its,true,intsAre_of rv,pl.isList⟩
 ·obtain⟨its,rv,pl,hz⟩:=I.tuple (SqT.of h);exact⟨its,false,intsAre_of rv,pl⟩
theorem J6{N:Nat}(T:nQ N)(hN:N<=301){e:Expr}{te:TE}{p1 p2 pos1 pos2:Pos}(hc:X.calm=true)(hgs:Gl X "sorted")(hms:X.mg "sorted"=none)(hgt:Gl X "set")(hmt:X.mg "set"=none)(hbs:bootBuiltins "sorted"=some (.builtin "sorted"))(hbt:bootBuiltins "set"=some (.type "set"))(he:PE X e te)
  (hs:starEach [e] X.env=(false,eval e X.env)::starEach [] X.env:=by rfl)
  (hs2:starEach [Expr.Call (.Name "set" p2) [e] [] pos2] X.env=(false,eval (Expr.Call (.Name "set" p2) [e] [] pos2) X.env)::starEach [] X.env:=by rfl) :
  PE X (.Call (.Name "sorted" p1) [.Call (.Name "set" p2) [e] [] pos2] [] pos1) (NX N te):=by
 intro pins s σ H Q I h;refine Qt (cv I hgs hms hbs ?_);rw[hs2];refine Q8 (by show(false||(backTo pos1 (starEach ([]:List Expr) X.env)).any (·.1))=false;rfl) (Ru ?_);show wpAny _ _ (spliced ((false,eval (Expr.Call (.Name "set" p2) [e] [] pos2) X.env)::backTo pos1 (starEach [] X.env))) _ _ s;refine QK ?_;have hA:=(eC he h8 hs) pos2 pins s σ H (λvs H1=>∃x,vs=[x]/\∃(a:Addr)(ns:List Int),x=.ref a/\SqI H1 a ns/\ns.length<=300/\(aS ns).length<N/\∀l:Addr,H1 l=none->Q (.ref l) (upd H1 l (.lst ((aS ns).map V.int)))) I (by
  refine cast (Pq (te σ H) ?_) h;funext y H2;refine propext ⟨λq=>⟨y,rfl,q⟩,λ⟨y',e',q⟩=>?_⟩;cases e';exact q)
 refine UB (cv I hgt hmt hbt (O6 (thn hA λus s1 ⟨vs,H1,I1,r1,x,e1,a,ns,e2,hx,hn,hb,q⟩=>?_) hs rfl));subst e1 e2;obtain⟨u,rfl,rx⟩:=vals1 r1;cases rx;obtain⟨its,k,hI,pl⟩:=hx.at I1;have hA0:X.A.handled=none:=I.ok.hd hc;refine tV hA0 k pl (by simpa using hI) hn λh' tk ks S1 S2 S3=>?_;refine C0 ?_;have hnd:ks.Nodup:=by obtain⟨_,_,_,_,_,_,_,_,_,_,_,_,_,_,_,_,g,_⟩:=S1;exact g
 have lk:=rA hnd S2;refine zZ T hN hA0 S1 ⋯ λh2 tk2 out ms l c k1 k2 k3 k4 k5 k6 k7=>?_;have em:ms=aS ns:=vF (λx=>by rw[k6,S2]) k5;subst em;refine⟨.ref l,_,I1.laid (t':=tk2) (o:=.lst ((aS ns).map V.int)) (λb o e=>k1 b o (S3 b o e)) (Qb k2) ⟨?_,out.toList,c,fq k4,?_⟩,rfl,q l (I1.hok.fresh (Qb k2))⟩
 ·rw[Oa];exact Qb (dg ⋯)
 ·simpa[seqObj]using k3
noncomputable def zJ(N:Nat)(x:Vl)(S:Sto):R Vl:=match(bK x S).bind intsOf with
 |some ns=>if ns.length<=300/\(aS ns).length<N then .ok (.d (.lst ((aS ns).map D.int))) S else .bad
 |none=>.bad
theorem z9{K:Oh}{mg:Str->Option Value}{μ:Nat->Addr}{S:Sto}{H:Hp}{v:V}{x:Vl}{ns:List Int}(hr:HR μ S H)(r:aF K mg μ S H v x)(e:(bK x S).bind intsOf=some ns):∃a,v=.ref a/\SqI H a ns:=by
 obtain⟨ds,e1,e2⟩:=Qi.mp e;obtain⟨a,us,rfl,ha,rr⟩:=jc hr r e1;rw[ft e2]at rr;rw[ak.iP rr]at ha;exact⟨a,rfl,ha⟩
noncomputable abbrev oSS:=zJ 64
theorem JB{N:Nat}(T:nQ N)(hN:N<=301){e:Expr}{xa:XE}{p1 p2 pos1 pos2:Pos}[n:NS e](hc:X.calm=true)(hgs:Gl X "sorted")(hms:X.mg "sorted"=none)(hgt:Gl X "set")(hmt:X.mg "set"=none)(hbs:bootBuiltins "sorted"=some (.builtin "sorted"))(hbt:bootBuiltins "set"=some (.type "set"))(he:RE X WE e xa)
  (hs2:starEach [Expr.Call (.Name "set" p2) [e] [] pos2] X.env=(false,eval (Expr.Call (.Name "set" p2) [e] [] pos2) X.env)::starEach [] X.env:=by rfl) :
  RE X WE (.Call (.Name "sorted" p1) [.Call (.Name "set" p2) [e] [] pos2] [] pos1) (xUn (zJ N) xa):=
 ⟨(J6 T hN hc hgs hms hgt hmt hbs hbt he.h (n.eq _ X.env) hs2).weak λσ H Q ⟨μ,S,τ,hr,sr,p⟩=>⟨μ,S,τ,hr,sr,p.bind λv x S1 μ1 H1 st1 r1 p1=>by
  unfold zJ at p1;split at p1
  ·rename_i ns e1;split at p1
   ·rename_i hb;obtain⟨a,rfl,sq⟩:=z9 st1.hr r1 e1;exact⟨a,ns,rfl,sq,hb.1,hb.2,λl hl=>p1.l_ st1.hr (ak.ints _) l hl⟩
   ·exact p1.elim
  ·exact p1.elim⟩⟩
theorem LY[n:NS e](hc:X.calm=true)(hgs:Gl X "sorted")(hms:X.mg "sorted"=none)(hgt:Gl X "set")(hmt:X.mg "set"=none)(hbs:bootBuiltins "sorted"=some (.builtin "sorted"))(hbt:bootBuiltins "set"=some (.type "set"))(he:RE X WE e xa)
  (hs2:starEach [Expr.Call (.Name "set" p2) [e] [] pos2] X.env=(false,eval (Expr.Call (.Name "set" p2) [e] [] pos2) X.env)::starEach [] X.env:=by rfl) :
  RE X WE (.Call (.Name "sorted" p1) [.Call (.Name "set" p2) [e] [] pos2] [] pos1) (xUn oSS xa):=JB Ao (by decide) hc hgs hms hgt hmt hbs hbt he hs2
end
noncomputable def cB(k:Nat):List D->List Vl
 | []=>[]
 |x::xs=>.d (.tup [.int k,x])::cB (k+1) xs
theorem gX:∀(k:Nat)(xs:List D),(cB k xs).length=xs.length
 |_,[]=>rfl
 |k,x::xs=>by simp[cB,gX (k+1) xs]
theorem di:∀(k:Nat)(xs:List D)(i:Nat),(cB k xs)[i]?=(xs[i]?).map λx=>Vl.d (.tup [.int ((k+i:Nat):Int),x])
 |_,[],_=>by simp[cB]
 |k,x::xs,0=>by simp[cB]
 |k,x::xs,i+1=>by
  simp only[cB,SK,di (k+1) xs i];congr 1;funext z;rw[show k+1+i=k+(i+1) by omega]
noncomputable def DG(e:XE):XI:=λτ S=>(e τ S).bind λz S1=>match z with
 | .d (.lst xs)=>.ok ⟨cB 0 xs,none⟩ S1
 |_=>.bad
section
variable{X:Cx}{WE:WX}{K:Oh}{mg:Str->Option Value}{μ:Nat->Addr}{S:Sto}{H:Hp}
theorem DD(g:vh μ S H a=some (.lst vs))(rs:ak (vh μ S H) vs xs)(hz:vs.length<=sizeLine):jr K mg μ S H (Ite K a) ⟨cB 0 xs,none⟩where
 ok:=True.intro
 len:=by simp only[gX];rw[<-rs.length];exact hz
 go:=λi z μ' S' H' st _ e=>by
  rw[di]at e;cases q:xs[i]? with
  |none=>rw[q]at e;cases e
  |some x=>
   obtain⟨u,e2,_⟩:=rs.get' q;exact⟨vs,u,SqL.of (aH (st.vis _ _ g)).2,e2⟩
 yld:=λi z μ' S' H' u H2 st _ e y=>by
  obtain⟨p,w,hp,rfl,rfl,y⟩:=y;rw[di]at e;cases q:xs[i]? with
  |none=>rw[q]at e;cases e
  |some x=>
   rw[q]at e;cases e;have e2:=y vs (SqL.of (aH (st.vis _ _ g)).2);obtain⟨x',e3,r⟩:=rs.get e2;rw[q]at e3;cases e3;have st2:=Step.new st.hr hp (.tup [.int i,w]);refine⟨st2,Rep.tup (bB ba (st.hr.nal hp)) (.cons ?_ (.cons (Rep.mono (st.trans st2).vis r) .nil))⟩;rw[To];exact .int _
 stop:=λi μ' S' H' st _ hi=>⟨vs,SqL.of (aH (st.vis _ _ g)).2,by rw[rs.length];rw[gX]at hi;exact Ry hi⟩
end
section
variable{X:Cx}{WE:WX}
theorem Eg(hg:Gl X "enumerate")(hm:X.mg "enumerate"=none)(hl:RE X WE l xl)(hb:bootBuiltins "enumerate"=some (.type "enumerate"):=by decide+kernel)
  (hs:starEach [l] X.env=[(false,eval l X.env)]:=by rfl):RI X WE (.Tuple es kk tp) (.Call (.Name "enumerate" p) [l] [] pos) (DG xl):=⟨by
 intro pins s σ H R I h;obtain⟨μ,S,τ,hr,sr,pp⟩:=h;refine UB (cv I hg hm hb (O6 (thn ((eC hl.h h8 hs) pos pins s σ H (λvs H1=>∃x,vs=[x]/\∃μ1 S1 z,HR μ1 S1 H1/\aF X.K X.mg μ1 S1 H1 x z/\aE (jr X.K X.mg) WE μ1 S1 H1 (match z with
   | .d (.lst xs)=>.ok ⟨cB 0 xs,none⟩ S1
   |_=>.bad) R) I ?_) λus s1 ⟨vs,H1,I1,r1,q1⟩=>?_) hs rfl))
 ·exact⟨μ,S,τ,hr,sr,pp.bind λv x S1 μ1 H1 st1 r1 p1=>⟨v,rfl,μ1,S1,x,st1.hr,r1,p1⟩⟩
 ·obtain⟨x,e,μ1,S1,z,hr1,rz,p1⟩:=q1;subst e;obtain⟨u,rfl,ru⟩:=vals1 r1;split at p1
  ·cases(show Rep (vh μ1 S1 H1) x (.lst _)from rz)with
   | @lst a us _ g rs=>
    cases ru;have hq:SqL X.K H1 a us:=SqL.of (aH g).2;obtain⟨its,rv,pl,hz⟩:=I1.list hq;have q:=p1.here hr1 (DD g rs hz);refine call_enumerate_list pl.isList λh' he hit hsz hk=>?_;refine SQ (s:={ s1 with heap:=h' }) he ?_;have I2:Inv X pins σ H1 { s1 with heap:=h' }:=I1.kept (t':=s1.toks) hk;refine⟨s1.heap.objs.size+1,[s1.heap.objs.size+1,s1.heap.objs.size],_,_,H1,rfl,I2,Bp a _ _ (Ww _),⟨⟨_,he⟩,hit⟩,λb hb=>?_,q⟩;have hle:s1.heap.objs.size<=b:=by
     rcases Ow.mp hb with z |z
     ·rw[z];exact So _
     ·rw[Og.mp z];exact Oj _
    exact I1.lQ hle (I1.hok.fresh hle)
  ·exact p1.elim⟩
noncomputable def vO(x:Vl)(lo hi:Option Int)(S:Sto):R Vl:=match x with
 | .sc ns=>.ok (.d (.lst (dW (ns.map D.int) lo hi))) S
 |_=>.bad
theorem JN{e:Expr}{lo hi:Option Expr}{xa:XE}{xl xh:XO}{p2 pos:Pos}(he:RE X WE e xa)(hl:RO X WE lo xl)(hh:RO X WE hi xh):RE X WE (.Subscript e (.Slice lo hi none p2) pos) (xSl vO xa xl xh):=
 ⟨(v5 yi he.h hl.h hh.h).weak λσ H Q ⟨μ,S,τ,hr,sr,p⟩=>⟨μ,S,τ,hr,sr,p.bind λv x S1 μ1 H1 st1 r1 p1=>⟨μ1,S1,τ,st1.hr,sr.step st1,p1.bind λi i' S2 μ2 H2 st2 r2 p2=>⟨μ2,S2,τ,st2.hr,sr.step (st1.trans st2),p2.bind λj j' S3 μ3 H3 st3 r3 p3=>by
  cases(show i=i' from r2);cases(show j=j' from r3);have rv:=r1.step (st2.trans st3);unfold vO at p3;split at p3
  ·rename_i ns;obtain⟨l,rfl,hq⟩:=rv;exact⟨l,_,rfl,hq.mono fK,λq hq=>p3.l_ st3.hr (pC (ak.ints ns) i j) q hq⟩
  ·exact p3.elim⟩⟩⟩⟩
theorem ll:RB X WE sts b6:=⟨λ_ _ _ _ _ _ ⟨_,_,_,_,_,p⟩=>p.elim⟩
end
def Df(K:Oh)(mg:Str->Option Value)(x:Str)(st:Stmt):Prop:=∃(f:Addr)(fd:FuncData),Fun K x x st f fd/\mg x=some (.ref f)
theorem LP{K:Oh}{h:Heap}{mg:Str->Option Value}{x:Str}{st:Stmt}{f:Addr}{oc:Value}{od an:Option Addr}{osl:Array (Option Value)}{kV doc pm cdv ct:Value}(X:K.In h)(G:h.Ns mainGlobals mg)(a:PySem.W.nsIn K mainGlobals x=some (some (.ref f)))
  (l:K.lookup f=some ⟨oc,od,.func (R5 x x (kG st) (fz st) (bM st) .none kV doc pm an cdv ct),osl⟩) (c:Tv K cdv x=true) (k:R4 K (.ref f)=true):Df K mg x st:=⟨f,_,JD l c k,PySem.W.mg_of X G a⟩
theorem ln0{P:List Value->Prop}(h:P [])(us:List Value)(hl:us.length=0):P us:=by
 cases us with
 |nil=>exact h
 |cons a us=>cases hl
theorem lnS{P:List Value->Prop}{n:Nat}(h:∀a us,us.length=n->P (a::us))(us:List Value)(hl:us.length=n+1):P us:=by
 cases us with
 |nil=>cases hl
 |cons a us=>exact h a us (Nat.succ.inj hl)
theorem gh{K:Oh}{mg:Str->Option Value}{P:Program}{w:World}{x:Str}{st:Stmt}{ps:List Str}{lev:Nat}{k n:Nat}{m:XS}{M:XF}(N:List Str)(F:Df K mg x st)
  (hb:∀(base:Heap)(f:Addr)(cdv:Value)(A:Around)(outer:List Env)(s:Shared)(H:Hp)(E:XK),cP lev (A.deeper (envOfC x (bM st) s.heap.objs.size f cdv))->LQ (bM st) N->RB (mT CX0 P w K mg base N x (bM st) f cdv A outer s H E).nox W0 (fz st) m)
  (hM:M=ay k n m:=by rfl) (hk:ps.length=k:=by rfl) (hn:N.length=n:=by rfl) (Sc:kX N ps (bM st):=by exact⟨rfl,rfl,rfl,by decide+kernel,rfl,by decide+kernel,by decide+kernel⟩)
  (hbd:∀(kV doc pm:Value)(an:Option Addr)(cdv ct:Value)(us:List Value),us.length=ps.length->bindArgs (R5 x x (kG st) (fz st) (bM st) .none kV doc pm an cdv ct) ⟨us,[]⟩=pure (ps.zip us):=by
   intro _ _ _ _ _ _
   repeat refine lnS λ_=>?_
   exact ln0 rfl):OkE P w K mg (lev+1) x ps M:=by
 subst hM hk hn;obtain⟨f,fd,F,hm⟩:=F;refine⟨f,fd,hm,F.kp,?_,λbase=>Nl F Sc λcdv A outer s H E hr=>hb base f cdv A outer s H E hr ⟨Sc.nd⟩⟩;obtain⟨oc,od,kV,doc,pm,an,cdv,ct,osl,rfl,lk,hcd⟩:=F.ex;exact hbd kV doc pm an cdv ct
theorem aC{α y:Type}{a:α}{S:Sto}{f:α->Sto->R y}:(R.ok a S).bind f=f a S:=rfl
theorem MC{i:Nat}{z:Vl}{τ:Nv}{S:Sto}:gNm i z τ S=.ok (τ.set i (some z)) S:=rfl
theorem lK:leave S (.ok (.rt z,τ) S')=out S z S':=rfl
theorem gx:leave S (.ok (.nx,τ) S')=out S (.d .non) S':=rfl
theorem fD:out S (.d x) S'=.ok (.d x) (S'.take S.length):=rfl
theorem rj(h:us.length=k):ay k n b us S=leave S (b (us.map some++Pm (n-k) none) S):=by unfold ay;rw[Oe h]
open Classical in
theorem va {g:XG} {b:XS} {gd:Option (Nat×Ob)}:∀{items:List Vl}{τ:Nv}{S:Sto}(I:Nat->Nv->Sto->Prop),I 0 τ S ->
  (∀i z τ S,items[i]?=some z->I i τ S->∃τ1 S1 fl τ2 S2,g z τ S=.ok τ1 S1/\b τ1 S1=.ok (fl,τ2) S2/\(fl=.nx\/fl=.ct)/\gok gd S2/\I (i+1) τ2 S2) ->
  ∃τ' S',cc g b gd items τ S=.ok (.nx,τ') S'/\I items.length τ' S'
 | [],τ,S,I,h0,_=>⟨τ,S,rfl,h0⟩
 |z::zs,τ,S,I,h0,hs=>by
  obtain⟨τ1,S1,fl,τ2,S2,e1,e2,hf,hg,hI⟩:=hs 0 z τ S rfl h0
  obtain⟨τ',S',e3,h3⟩:=va (items:=zs) (τ:=τ2) (S:=S2) (λi=>I (i+1)) hI λi z' τ S hz hi=>hs (i+1) z' τ S (by simpa using hz) hi
  refine⟨τ',S',?_,h3⟩
  rw[cc,e1,aC,e2,aC]
  rcases hf with rfl |rfl
  ·dsimp only
   rw[Oe hg];exact e3
  ·dsimp only
   rw[Oe hg];exact e3
theorem AD{it:XI}{t:XT}{e:XE}{τ:Nv}{S S1:Sto}{items:List Vl}(hit:it τ S=.ok ⟨items,none⟩ S1)(J:Nat->List D->Sto->Prop)(h0:J 0 [] S1)
  (hs:∀i z acc Q,items[i]?=some z->J i acc Q->Q.length=S1.length->∃b Q1,t (some z::τ) (Q++[.lst acc])=.ok b (Q1++[.lst acc])/\Q1.length=S1.length /\
   (b=true->∃x Q2,e (some z::τ) (Q1++[.lst acc])=.ok (.d x) (Q2++[.lst acc])/\Q2.length=S1.length/\J (i+1) (acc++[x]) Q2)/\(b=false->J (i+1) acc Q1)) :
  ∃acc Q,xLC it 1 (gNm 0) t e τ S=.ok (.d (.lst acc)) Q/\Q.length=S1.length/\J items.length acc Q:=by
 have key:∀(zs:List Vl)(i:Nat)(acc:List D)(o:Option Vl)(Q:Sto),(∀j,zs[j]?=items[i+j]?)->J i acc Q->Q.length=S1.length->∃acc' Q',eM (gNm 0) t e S1.length none zs acc (o::τ) (Q++[.lst acc])=.ok acc' (Q'++[.lst acc'])/\Q'.length=S1.length/\J (i+zs.length) acc' Q':=by
  intro zs
  induction zs with
  |nil=>
   intro i acc o Q _ hJ hl;refine⟨acc,Q,?_,hl,hJ⟩;rw[eM,Oe];rw[<-hl,OP (Oj _)];simp
  |cons z zs ih=>
   intro i acc o Q hz hJ hl;have hz0:items[i]?=some z:=by
    have:=hz 0;simpa using this.symm
   have hz1:∀j,zs[j]?=items[i+1+j]?:=λj=>by
    have:=hz (j+1);rw[show i+1+j=i+(j+1) by omega];simpa using this
   obtain⟨b,Q1,e1,l1,ht,hf⟩:=hs i z acc Q hz0 hJ hl;rw[eM,MC,aC,show(o::τ).set 0 (some z)=some z::τ from rfl,e1,aC];cases b with
   |true=>
    obtain⟨x,Q2,e2,l2,hJ2⟩:=ht rfl;rw[Oe rfl,e2,aC];dsimp only;have hn:(Q2++[Ob.lst acc])[S1.length]?=some (.lst acc):=by
     rw[<-l2,OP (Oj _)];simp
    rw[Oe ⟨hn,True.intro⟩];have hset:(Q2++[Ob.lst acc]).set S1.length (.lst (acc++[x]))=Q2++[.lst (acc++[x])]:=by
     rw[<-l2,List.set_append_right _ _ (Oj _)];simp
    rw[hset];obtain⟨acc',Q',e3,l3,h3⟩:=ih (i+1) (acc++[x]) (some z) Q2 hz1 hJ2 l2;exact⟨acc',Q',e3,l3,by rw[show i+(z::zs).length=i+1+zs.length by simp;omega];exact h3⟩
   |false=>
    rw[Ot OF,Oe (show gok none (Q1++[Ob.lst acc])from True.intro)];obtain⟨acc',Q',e3,l3,h3⟩:=ih (i+1) acc (some z) Q1 hz1 (hf rfl) l1;exact⟨acc',Q',e3,l3,by rw[show i+(z::zs).length=i+1+zs.length by simp;omega];exact h3⟩
 obtain⟨acc,Q,e1,l1,h1⟩:=key items 0 [] none S1 (λj=>by rw[To]) h0 rfl;refine⟨acc,Q,?_,l1,by rw[To]at h1;exact h1⟩;show(it τ S).bind _=_;rw[hit,aC];dsimp only;rw[show Pm 1 (none:Option Vl)++τ=none::τ from rfl,e1,aC];unfold lE;rw[Oe (by simp[l1]),<-l1,Sa]
theorem G4(hit:it τ S=.ok ⟨items,none⟩ S1)(f:Vl->Option D)
  (hs:∀z∈items,∀S:Sto,(∀x,f z=some x->t (some z::τ) S=.ok true S/\e (some z::τ) S=.ok (.d x) S)/\(f z=none->t (some z::τ) S=.ok false S)) :
  xLC it 1 (gNm 0) t e τ S=.ok (.d (.lst (items.filterMap f))) S1:=by
 obtain⟨acc,Q,e1,l1,h1⟩:=AD (t:=t) (e:=e) hit (λi acc Q=>acc=(items.take i).filterMap f/\Q=S1) ⟨rfl,rfl⟩ (by
  rintro i z acc Q hz ⟨rfl,rfl⟩ _;have hm:=OG hz;have ht:items.take (i+1)=items.take i++[z]:=by rw[R1,hz];rfl
  obtain⟨h1,h2⟩:=hs z hm (Q++[.lst ((items.take i).filterMap f)]);cases q:f z with
  |some x=>
   obtain⟨h3,h4⟩:=h1 x q;refine⟨true,Q,h3,rfl,λ_=>⟨x,Q,h4,rfl,?_,rfl⟩,λz=>(by cases z)⟩;rw[ht,S8];simp[q]
  |none=>
   refine⟨false,Q,h2 q,rfl,λz=>(by cases z),λ_=>⟨?_,rfl⟩⟩;rw[ht,S8];simp[q])
 obtain⟨rfl,rfl⟩:=h1;rw[OD]at e1;exact e1
theorem rm(hit:it τ S=.ok ⟨items,none⟩ S1)(f:Vl->D)(hs:∀z∈items,∀S:Sto,e (some z::τ) S=.ok (.d (f z)) S) :
  xLC it 1 (gNm 0) (λ_ S=>.ok true S) e τ S=.ok (.d (.lst (items.map f))) S1:=by
 have:=G4 (t:=λ_ S=>.ok true S) (e:=e) hit (λz=>some (f z)) λz hz S=>⟨λx hx=>⟨rfl,by cases hx;exact hs z hz S⟩,λh=>by cases h⟩;rw[this];congr 4;rw[List.filterMap_eq_map']
end L2
namespace L2
section
variable{n:Nat}{b:XS}{x y z u v:Vl}{S:Sto}
theorem bf:ay 1 n b [x] S=leave S (b ([some x]++Pm (n-1) none) S):=rj rfl
theorem bO:ay 2 n b [x,y] S=leave S (b ([some x,some y]++Pm (n-2) none) S):=rj rfl
theorem bZ:ay 3 n b [x,y,z] S=leave S (b ([some x,some y,some z]++Pm (n-3) none) S):=rj rfl
theorem je:ay 4 n b [x,y,z,u] S=leave S (b ([some x,some y,some z,some u]++Pm (n-4) none) S):=rj rfl
theorem kE:ay 5 n b [x,y,z,u,v] S=leave S (b ([some x,some y,some z,some u,some v]++Pm (n-5) none) S):=rj rfl
end
end L2
theorem L2.bu{α:Sort _}{a b:α}(h:a=b):a=b:=h
namespace L2
open PySem PySem.Spec PyProof.Rows
noncomputable def IC(f:Vl->Vl->Sto->R Vl)(r:R Vl)(b:XE)(τ:Nv):R Vl:=r.bind λx S1=>(b τ S1).bind λy S2=>f x y S2
noncomputable def D9(f:Vl->Vl->Sto->R Vl)(x:Vl)(r:R Vl):R Vl:=r.bind λy S2=>f x y S2
noncomputable def un1(f:Vl->Sto->R Vl)(r:R Vl):R Vl:=r.bind λx S1=>f x S1
noncomputable def ch3(r:R Vl)(f:Vl->Vl->Sto->R Vl)(y:Vl)(c:XE)(τ:Nv):R Vl:=r.bind λz S3=>match z with
 | .d (.bl k)=>if k=true then(c τ S3).bind λw S4=>f y w S4 else .ok (.d (.bl false)) S3
 |_=>.bad
noncomputable def ch2(f f2:Vl->Vl->Sto->R Vl)(x:Vl)(r:R Vl)(c:XE)(τ:Nv):R Vl:=r.bind λy S2=>ch3 (f x y S2) f2 y c τ
noncomputable def ch1(f f2:Vl->Vl->Sto->R Vl)(r:R Vl)(b c:XE)(τ:Nv):R Vl:=r.bind λx S1=>ch2 f f2 x (b τ S1) c τ
noncomputable def t1(r:R Vl):R Bool:=r.bind asB
noncomputable def tr1(r:R Vl):R Bool:=r.bind tru
noncomputable def DT(r:R Bool)(b:XT)(τ:Nv):R Bool:=r.bind λc S1=>if c=true then b τ S1 else .ok false S1
noncomputable def or1(r:R Bool)(b:XT)(τ:Nv):R Bool:=r.bind λc S1=>if c=true then .ok true S1 else b τ S1
noncomputable def Kc(r:R Bool):R Bool:=r.bind λc S1=>.ok (!c) S1
noncomputable def zw(r:R Vl)(b:XE)(τ:Nv):R Vl:=r.bind λx S1=>(asB x S1).bind λc S2=>if c=true then b τ S2 else .ok (.d (.bl false)) S2
noncomputable def D_(r:R Vl)(b:XE)(τ:Nv):R Vl:=r.bind λx S1=>(asB x S1).bind λc S2=>if c=true then .ok (.d (.bl true)) S2 else b τ S2
noncomputable def Fe(r:R Vl):R Vl:=r.bind λx S1=>(asB x S1).bind λc S2=>.ok (.d (.bl (!c))) S2
noncomputable def C9(r:R Bool)(a b:XE)(τ:Nv):R Vl:=r.bind λk S1=>if k=true then a τ S1 else b τ S1
noncomputable def co2(x:Vl)(r:R (List Vl)):R (List Vl):=r.bind λxs S2=>.ok (x::xs) S2
noncomputable def co1(r:R Vl)(t:XA)(τ:Nv):R (List Vl):=r.bind λx S1=>co2 x (t τ S1)
noncomputable def n1(f:List Vl->Sto->R Vl)(r:R (List Vl)):R Vl:=r.bind f
noncomputable def c1(F:XF)(r:R (List Vl)):R Vl:=r.bind λus S1=>noX (F us S1)
noncomputable def fz1(r:R Vl):R Vl:=r.bind frz
noncomputable def p1(r:R Vl):R (Option Int):=r.bind λx S1=>match x with
 | .d (.int i)=>.ok (some i) S1
 |_=>.bad
noncomputable def sl3(f:Vl->Option Int->Option Int->Sto->R Vl)(x:Vl)(i:Option Int)(r:R (Option Int)):R Vl:=r.bind λj S3=>f x i j S3
noncomputable def sl2(f:Vl->Option Int->Option Int->Sto->R Vl)(x:Vl)(r:R (Option Int))(h:XO)(τ:Nv):R Vl:=r.bind λi S2=>sl3 f x i (h τ S2)
noncomputable def sl1(f:Vl->Option Int->Option Int->Sto->R Vl)(r:R Vl)(l h:XO)(τ:Nv):R Vl:=r.bind λx S1=>sl2 f x (l τ S1) h τ
noncomputable def lm4(f:Nat->List D->D->Sto->R Vl)(n:Nat)(o:Option Ob)(z:D)(S:Sto):R Vl:=match o with
 |some (.lst xs)=>f n xs z S
 |_=>.bad
noncomputable def lm3(f:Nat->List D->D->Sto->R Vl)(n:Nat)(r:R Vl):R Vl:=r.bind λy S2=>match y with
 | .d z=>lm4 f n S2[n]? z S2
 |_=>.bad
noncomputable def lm2(f:Nat->List D->D->Sto->R Vl)(n:Nat)(o:Option Ob)(e:XE)(τ:Nv)(S:Sto):R Vl:=match o with
 |some (.lst _)=>lm3 f n (e τ S)
 |_=>.bad
noncomputable def lm1(f:Nat->List D->D->Sto->R Vl)(r:R Vl)(e:XE)(τ:Nv):R Vl:=r.bind λx S1=>match x with
 | .r n=>lm2 f n S1[n]? e τ S1
 |_=>.bad
noncomputable def sq1(r:R (Fl×Nv))(b:XS):R (Fl×Nv):=r.bind λq S1=>match q.1 with
 | .nx=>b q.2 S1
 |_=>.ok q S1
noncomputable def ex1(r:R Vl)(τ:Nv):R (Fl×Nv):=r.bind λ_ S1=>.ok (.nx,τ) S1
noncomputable def rt1(r:R Vl)(τ:Nv):R (Fl×Nv):=r.bind λz S1=>.ok (.rt z,τ) S1
noncomputable def if1(r:R Bool)(a b:XS)(τ:Nv):R (Fl×Nv):=r.bind λk S1=>if k=true then a τ S1 else b τ S1
noncomputable def as2(r:R Nv):R (Fl×Nv):=r.bind λq1 S2=>.ok (.nx,q1) S2
noncomputable def as1(r:R Vl)(g:XG)(τ:Nv):R (Fl×Nv):=r.bind λz S1=>as2 (g z τ S1)
noncomputable def gc1(r:R Nv)(gs:XGs)(zs:List Vl):R Nv:=r.bind λq1 S1=>gs zs q1 S1
noncomputable def gs3(r:R Unit)(τ:Nv):R Nv:=r.bind λ_ S3=>.ok τ S3
noncomputable def gs2(x:Vl)(r:R Vl)(f:Vl->Vl->Vl->Sto->R Unit)(z:Vl)(τ:Nv):R Nv:=r.bind λy S2=>gs3 (f x y z S2) τ
noncomputable def gs1(r:R Vl)(i:XE)(f:Vl->Vl->Vl->Sto->R Unit)(z:Vl)(τ:Nv):R Nv:=r.bind λx S1=>gs2 x (i τ S1) f z τ
noncomputable def fo1(r:R Its)(g:XG)(b:XS)(τ:Nv):R (Fl×Nv):=r.bind λI S1=>cc g b I.gd I.items τ S1
noncomputable def is2(n:Nat)(o:Option Ob)(S:Sto):R Its:=match o with
 |some (.lst xs)=>.ok ⟨xs.map Vl.d,some (n,.lst xs)⟩ S
 |_=>.bad
noncomputable def is1(r:R Vl):R Its:=r.bind λz S1=>match z with
 | .d (.tup xs)=>.ok ⟨xs.map Vl.d,none⟩ S1
 | .d (.lst xs)=>.ok ⟨xs.map Vl.d,none⟩ S1
 | .r n=>is2 n S1[n]? S1
 |_=>.bad
noncomputable def ir1(r:R (List Vl)):R Its:=r.bind λzs S1=>match zs with
 | [.d (.int j)]=>if -100000<=j/\j<=100000 then .ok ⟨(Oy j.toNat).map λi=>Vl.d (.int (i:Nat)),none⟩ S1 else .bad
 |_=>.bad
noncomputable def ir2(r:R (List Vl)):R Its:=r.bind λzs S1=>match zs with
 | [.d (.int i),.d (.int j)]=>if(-100000<=i/\i<=100000)/\-100000<=j/\j<=100000 then .ok ⟨(Oy (j-i).toNat).map λk=>Vl.d (.int (i+(k:Nat))),none⟩ S1 else .bad
 |_=>.bad
noncomputable def ie1(r:R Vl):R Its:=r.bind λz S1=>match z with
 | .d (.lst xs)=>.ok ⟨cB 0 xs,none⟩ S1
 |_=>.bad
theorem FF:aa 0 (some v::τ) S=.ok v S:=rfl
theorem Ff:aa (n+1) (o::τ) S=aa n τ S:=rfl
theorem IV:xC x τ S=.ok (.d x) S:=rfl
theorem Na:xFn x τ S=.ok (.fn x) S:=rfl
theorem MX:xOp f a b τ S=IC f (a τ S) b τ:=rfl
theorem JF:IC f (.ok x S1) b τ=D9 f x (b τ S1):=rfl
theorem JS:D9 f x (.ok y S1)=f x y S1:=rfl
theorem MR:xUn u a τ S=un1 u (a τ S):=rfl
theorem Mq:un1 u (.ok x S1)=u x S1:=rfl
theorem CS:fZ f f2 a b c τ S=ch1 f f2 (a τ S) b c τ:=rfl
theorem Mh:ch1 f f2 (.ok x S1) b c τ=ch2 f f2 x (b τ S1) c τ:=rfl
theorem MK:ch2 f f2 x (.ok y S1) c τ=ch3 (f x y S1) f2 y c τ:=rfl
theorem JA:ch3 (.ok (.d (.bl true)) S1) f y c τ=D9 f y (c τ S1):=rfl
theorem KI:ch3 (.ok (.d (.bl false)) S1) f y c τ=.ok (.d (.bl false)) S1:=rfl
theorem FJ:aA a τ S=t1 (a τ S):=rfl
theorem N1:t1 (.ok (.d (.bl k)) S)=.ok k S:=rfl
theorem IJ:bF a τ S=tr1 (a τ S):=rfl
theorem Mn:tr1 (.ok z S)=tru z S:=rfl
theorem MT:tru (.d (.bl k)) S=.ok k S:=rfl
theorem MH:tru (.d (.tup xs)) S=.ok (!xs.isEmpty) S:=rfl
theorem L8:tru (.d (.lst xs)) S=.ok (!xs.isEmpty) S:=rfl
theorem Mt:tru (.d .non) S=.ok false S:=rfl
theorem Jt:vo a b τ S=DT (a τ S) b τ:=rfl
theorem J_:DT (.ok true S) b τ=b τ S:=rfl
theorem IA:DT (.ok false S) b τ=.ok false S:=rfl
theorem Nf:xOr a b τ S=or1 (a τ S) b τ:=rfl
theorem Lo:or1 (.ok true S) b τ=.ok true S:=rfl
theorem MD:or1 (.ok false S) b τ=b τ S:=rfl
theorem La:cn a τ S=Kc (a τ S):=rfl
theorem Kh:Kc (.ok k S)=.ok (!k) S:=rfl
theorem FP:bq a b τ S=zw (a τ S) b τ:=rfl
theorem GQ:zw (.ok (.d (.bl true)) S) b τ=b τ S:=rfl
theorem GP:zw (.ok (.d (.bl false)) S) b τ=.ok (.d (.bl false)) S:=rfl
theorem Jk:DO a b τ S=D_ (a τ S) b τ:=rfl
theorem KH:D_ (.ok (.d (.bl true)) S) b τ=.ok (.d (.bl true)) S:=rfl
theorem Kp:D_ (.ok (.d (.bl false)) S) b τ=b τ S:=rfl
theorem Gu:uD a τ S=Fe (a τ S):=rfl
theorem Hz:Fe (.ok (.d (.bl k)) S)=.ok (.d (.bl (!k))) S:=rfl
theorem JT:Ei c a b τ S=C9 (c τ S) a b τ:=rfl
theorem KW:C9 (.ok true S) a b τ=a τ S:=rfl
theorem JO:C9 (.ok false S) a b τ=b τ S:=rfl
theorem BJ:af τ S=.ok [] S:=rfl
theorem xG:ab a r τ S=co1 (a τ S) r τ:=rfl
theorem FG:co1 (.ok x S) r τ=co2 x (r τ S):=rfl
theorem Fq:co2 x (.ok xs S)=.ok (x::xs) S:=rfl
theorem NB:xN f r τ S=n1 f (r τ S):=rfl
theorem N9:n1 f (.ok xs S)=f xs S:=rfl
theorem yr:ai F r τ S=c1 F (r τ S):=rfl
theorem Lc:c1 F (.ok xs S)=noX (F xs S):=rfl
theorem E6:noX (R.ok x S)=.ok x S:=rfl
theorem Lw:xFz a τ S=fz1 (a τ S):=rfl
theorem Mw:fz1 (.ok z S)=frz z S:=rfl
theorem Jd:frz (.d x) S=.ok (.d x) S:=rfl
theorem Ak:kN τ S=.ok none S:=rfl
theorem Gk:lA a τ S=p1 (a τ S):=rfl
theorem NM:p1 (.ok (.d (.int i)) S)=.ok (some i) S:=rfl
theorem Mo:xSl f a l h τ S=sl1 f (a τ S) l h τ:=rfl
theorem LS:sl1 f (.ok x S) l h τ=sl2 f x (l τ S) h τ:=rfl
theorem Md:sl2 f x (.ok i S) h τ=sl3 f x i (h τ S):=rfl
theorem L7:sl3 f x i (.ok j S)=f x i j S:=rfl
theorem LB:xLm f o e τ S=lm1 f (o τ S) e τ:=rfl
theorem LX:lm1 f (.ok (.r n) S) e τ=lm2 f n S[n]? e τ S:=rfl
theorem M3:lm2 f n (some (.lst xs)) e τ S=lm3 f n (e τ S):=rfl
theorem Mf:lm3 f n (.ok (.d z) S)=lm4 f n S[n]? z S:=rfl
theorem LF:lm4 f n (some (.lst xs)) z S=f n xs z S:=rfl
theorem rL:aB τ S=.ok (.nx,τ) S:=rfl
theorem i9:aj a b τ S=sq1 (a τ S) b:=rfl
theorem lU:sq1 (.ok (.nx,τ) S) b=b τ S:=rfl
theorem Ml:sq1 (.ok (.rt v,τ) S) b=.ok (.rt v,τ) S:=rfl
theorem M4:sq1 (.ok (.bk,τ) S) b=.ok (.bk,τ) S:=rfl
theorem MZ:sq1 (.ok (.ct,τ) S) b=.ok (.ct,τ) S:=rfl
theorem F9:cO e τ S=ex1 (e τ S) τ:=rfl
theorem Me:ex1 (.ok z S) τ=.ok (.nx,τ) S:=rfl
theorem Iq:au e τ S=rt1 (e τ S) τ:=rfl
theorem Mg:rt1 (.ok z S) τ=.ok (.rt z,τ) S:=rfl
theorem FT:Ng τ S=.ok (.rt (.d .non),τ) S:=rfl
theorem GY:uF τ S=.ok (.ct,τ) S:=rfl
theorem D5:Ir τ S=.ok (.bk,τ) S:=rfl
theorem E2:xIf t a b τ S=if1 (t τ S) a b τ:=rfl
theorem JC:if1 (.ok true S) a b τ=a τ S:=rfl
theorem vk:if1 (.ok false S) a b τ=b τ S:=rfl
theorem jd:az e g τ S=as1 (e τ S) g τ:=rfl
theorem uH:as1 (.ok z S) g τ=as2 (g z τ S):=rfl
theorem ql:as2 (.ok q1 S)=.ok (.nx,q1) S:=rfl
theorem oh:gNm i z τ S=.ok (τ.set i (some z)) S:=rfl
theorem Mu:gTu n gs (.d (.tup xs)) τ S=if xs.length=n then gs (xs.map Vl.d) τ S else .bad:=rfl
theorem Lp:gN0 [] τ S=.ok τ S:=rfl
theorem MQ:gCo g gs (z::zs) τ S=gc1 (g z τ S) gs zs:=rfl
theorem LZ:gc1 (.ok q1 S) gs zs=gs zs q1 S:=rfl
theorem E_:gSb o e f z τ S=gs1 (o τ S) e f z τ:=rfl
theorem EO:gs1 (.ok x S) e f z τ=gs2 x (e τ S) f z τ:=rfl
theorem E3:gs2 x (.ok y S) f z τ=gs3 (f x y z S) τ:=rfl
theorem yI:gs3 (.ok () S) τ=.ok τ S:=rfl
theorem pU:bU it g b τ S=fo1 (it τ S) g b τ:=rfl
theorem uC:fo1 (.ok I S) g b τ=cc g b I.gd I.items τ S:=rfl
theorem mV:aR e τ S=is1 (e τ S):=rfl
theorem Aq:is1 (.ok (.d (.tup xs)) S)=.ok ⟨xs.map Vl.d,none⟩ S:=rfl
theorem BZ:is1 (.ok (.d (.lst xs)) S)=.ok ⟨xs.map Vl.d,none⟩ S:=rfl
theorem Io:is1 (.ok (.r n) S)=is2 n S[n]? S:=rfl
theorem Nd:is2 n (some (.lst xs)) S=.ok ⟨xs.map Vl.d,some (n,.lst xs)⟩ S:=rfl
theorem J0:gu as τ S=ir1 (as τ S):=rfl
theorem Js:EG as τ S=ir2 (as τ S):=rfl
theorem Ks:DG e τ S=ie1 (e τ S):=rfl
theorem Lg:ie1 (.ok (.d (.lst xs)) S)=.ok ⟨cB 0 xs,none⟩ S:=rfl
theorem yR(h:-100000<=j/\j<=100000):ir1 (.ok [.d (.int j)] S)=.ok ⟨(Oy j.toNat).map λi=>Vl.d (.int (i:Nat)),none⟩ S:=by rw[show ir1 (.ok [.d (.int j)] S)=if -100000<=j/\j<=100000 then .ok ⟨(Oy j.toNat).map λi=>Vl.d (.int (i:Nat)),none⟩ S else .bad from rfl,Oe h]
theorem zm(h:(-100000<=i/\i<=100000)/\-100000<=j/\j<=100000):ir2 (.ok [.d (.int i),.d (.int j)] S)=.ok ⟨(Oy (j-i).toNat).map λk=>Vl.d (.int (i+(k:Nat))),none⟩ S:=by rw[show ir2 (.ok [.d (.int i),.d (.int j)] S)=if(-100000<=i/\i<=100000)/\-100000<=j/\j<=100000 then .ok ⟨(Oy (j-i).toNat).map λk=>Vl.d (.int (i+(k:Nat))),none⟩ S else .bad from rfl,Oe h]
theorem N6:oI0 g (.d (.int i)) (.d (.int j)) S=.ok (.d (g i j)) S:=rfl
theorem H_:bz (.d (.int i)) (.d (.int j)) S=.ok (.d (.int (i+j))) S:=rfl
theorem LC:l4 (.d (.int i)) S=.ok (.d (.int (-i))) S:=rfl
theorem wg(h:xs.length+ys.length<=100000):bz (.d (.tup xs)) (.d (.tup ys)) S=.ok (.d (.tup (xs++ys))) S:=by rw[show bz (.d (.tup xs)) (.d (.tup ys)) S=if xs.length+ys.length<=100000 then .ok (.d (.tup (xs++ys))) S else .bad from rfl,Oe h]
theorem v7(h:xs.length+ys.length<=100000):bz (.d (.lst xs)) (.d (.lst ys)) S=.ok (.d (.lst (xs++ys))) S:=by rw[show bz (.d (.lst xs)) (.d (.lst ys)) S=if xs.length+ys.length<=100000 then .ok (.d (.lst (xs++ys))) S else .bad from rfl,Oe h]
theorem M6:oEq (.d (.int i)) (.d (.int j)) S=.ok (.d (.bl (decide (i=j)))) S:=rfl
theorem MO:oNe (.d (.int i)) (.d (.int j)) S=.ok (.d (.bl (!decide (i=j)))) S:=rfl
theorem LA:oEq (.d (.str s)) (.d (.str t)) S=.ok (.d (.bl (decide (s=t)))) S:=rfl
theorem L5:oNe (.d (.str s)) (.d (.str t)) S=.ok (.d (.bl (!decide (s=t)))) S:=rfl
theorem L1:oEq (.d (.bl p)) (.d (.bl q)) S=.ok (.d (.bl (decide (p=q)))) S:=rfl
theorem Lh:oNe (.d (.bl p)) (.d (.bl q)) S=.ok (.d (.bl (!decide (p=q)))) S:=rfl
theorem Le:oIs (.d (.bl p)) (.d (.bl q)) S=.ok (.d (.bl (p==q))) S:=rfl
theorem JK:oIs (.d .non) (.d .non) S=.ok (.d (.bl true)) S:=rfl
theorem Jg:oIs (.d (.tup xs)) (.d .non) S=.ok (.d (.bl false)) S:=rfl
theorem KJ:oIs (.d (.lst xs)) (.d .non) S=.ok (.d (.bl false)) S:=rfl
theorem J5:oIs (.d (.int i)) (.d .non) S=.ok (.d (.bl false)) S:=rfl
theorem CL:iL (.d .non) (.d .non) S=.ok (.d (.bl false)) S:=rfl
theorem Dc:iL (.d (.tup xs)) (.d .non) S=.ok (.d (.bl true)) S:=rfl
theorem EF:iL (.d (.lst xs)) (.d .non) S=.ok (.d (.bl true)) S:=rfl
theorem Ee:iL (.d (.int i)) (.d .non) S=.ok (.d (.bl true)) S:=rfl
theorem Lr:fo T (.d x) S=.ok (.d (.bl (isT T x))) S:=rfl
theorem kU:aU [.d (.tup xs)] S=.ok (.d (.int xs.length)) S:=rfl
theorem Ic:aU [.d (.lst xs)] S=.ok (.d (.int xs.length)) S:=rfl
theorem Ij:cg [.d (.tup xs)] S=.ok (.d (.tup xs)) S:=rfl
theorem KY:cg [.d (.lst xs)] S=.ok (.d (.tup xs)) S:=rfl
theorem JW:Fv [.d (.tup xs)] S=.ok (.d (.lst xs)) S:=rfl
theorem K0:Fv [.d (.lst xs)] S=.ok (.d (.lst xs)) S:=rfl
theorem Hq:m_ [.d (.tup xs)] S=.ok (.r S.length) (S++[.lst xs]):=rfl
theorem Hj:m_ [.d (.lst xs)] S=.ok (.r S.length) (S++[.lst xs]):=rfl
theorem LK:zL [.d (.int i),.d (.int j)] S=.ok (.d (.int (if j>i then j else i))) S:=rfl
theorem Ln:zE [.d (.int i),.d (.int j)] S=.ok (.d (.int (if j<i then j else i))) S:=rfl
theorem aL(h:atI xs i=some z):oIx (.d (.tup xs)) (.d (.int i)) S=.ok (.d z) S:=by rw[show oIx (.d (.tup xs)) (.d (.int i)) S=(match atI xs i with |some z=>.ok (.d z) S |none=>.bad)from rfl,h]
theorem jX(h:atI xs i=some z):oIx (.d (.lst xs)) (.d (.int i)) S=.ok (.d z) S:=by rw[show oIx (.d (.lst xs)) (.d (.int i)) S=(match atI xs i with |some z=>.ok (.d z) S |none=>.bad)from rfl,h]
theorem uy(e:S[n]?=some (.lst xs))(h:atI xs i=some z):oIx (.r n) (.d (.int i)) S=.ok (.d z) S:=by
 have:bK (.r n) S=some xs:=by unfold bK bX;dsimp only;rw[e]
 unfold oIx;dsimp only;rw[this];dsimp only;rw[h]
theorem qt(e:S[n]?=some (.lst xs)):aU [.r n] S=.ok (.d (.int xs.length)) S:=by
 have:bK (.r n) S=some xs:=by unfold bK bX;dsimp only;rw[e]
 unfold aU;dsimp only;rw[this]
theorem FH:oSl (.d (.tup xs)) i j S=.ok (.d (.tup (dW xs i j))) S:=rfl
theorem LW:oSl (.d (.lst xs)) i j S=.ok (.d (.lst (dW xs i j))) S:=rfl
theorem Mj:vO (.sc ns) i j S=.ok (.d (.lst (dW (ns.map D.int) i j))) S:=rfl
theorem ET:vZ (.d (.tup xs)) (.d (.int (-1))) S=.ok (.d (.tup xs.reverse)) S:=rfl
theorem Lk:vj (.d (.int i)) (.d (.int j)) S=.ok (.d (.int (i-j))) S:=rfl
theorem N4:oLt (.d (.int i)) (.d (.int j)) S=.ok (.d (.bl (decide (i<j)))) S:=rfl
theorem N7:oLe (.d (.int i)) (.d (.int j)) S=.ok (.d (.bl (decide (i<=j)))) S:=rfl
theorem NT:oGt (.d (.int i)) (.d (.int j)) S=.ok (.d (.bl (decide (j<i)))) S:=rfl
theorem NR:oGe (.d (.int i)) (.d (.int j)) S=.ok (.d (.bl (decide (j<=i)))) S:=rfl
theorem Mc(h:l9 i j):i8 (.d (.int i)) (.d (.int j)) S=.ok (.d (.int (i*j))) S:=by rw[show i8 (.d (.int i)) (.d (.int j)) S=if l9 i j then .ok (.d (.int (i*j))) S else .bad from rfl,Oe h]
theorem FA(h:0<j):oMod (.d (.int i)) (.d (.int j)) S=.ok (.d (.int (i % j))) S:=by rw[show oMod (.d (.int i)) (.d (.int j)) S=if 0<j then .ok (.d (.int (i % j))) S else .bad from rfl,Oe h]
theorem MW(h:sh i j):oDiv (.d (.int i)) (.d (.int j)) S=.ok (.d (.int (i / j))) S:=by rw[show oDiv (.d (.int i)) (.d (.int j)) S=if sh i j then .ok (.d (.int (i / j))) S else .bad from rfl,Oe h]
theorem zA(h:sv i j):yG (.d (.int i)) (.d (.int j)) S=.ok (.d (.int (i ^ j.toNat))) S:=by rw[show yG (.d (.int i)) (.d (.int j)) S=if sv i j then .ok (.d (.int (i ^ j.toNat))) S else .bad from rfl,Oe h]
theorem LH(h1:-(2 ^ 64)<j)(h2:j<2 ^ 64):l9 i j:=.inr ⟨h1,h2⟩
theorem IY:mkT [] S=.ok (.d (.tup [])) S:=bu rfl
theorem J9:mkL [] S=.ok (.d (.lst [])) S:=bu rfl
theorem KQ:mkM [] S=.ok (.r S.length) (S++[.lst []]):=bu rfl
theorem HQ:mkT [.d a] S=.ok (.d (.tup [a])) S:=bu rfl
theorem J8:mkL [.d a] S=.ok (.d (.lst [a])) S:=bu rfl
theorem JG:mkM [.d a] S=.ok (.r S.length) (S++[.lst [a]]):=bu rfl
theorem Kj:mkT [.d a,.d b] S=.ok (.d (.tup [a,b])) S:=bu rfl
theorem Ih:mkL [.d a,.d b] S=.ok (.d (.lst [a,b])) S:=bu rfl
theorem HX:mkT [.d a,.d b,.d c] S=.ok (.d (.tup [a,b,c])) S:=bu rfl
theorem JU:mkT [.d a,.d b,.d c,.d d] S=.ok (.d (.tup [a,b,c,d])) S:=bu rfl
theorem Jm:mkT [.d a,.d b,.d c,.d d,.d e] S=.ok (.d (.tup [a,b,c,d,e])) S:=bu rfl
theorem Ju:mkL [.d a,.d b,.d c,.d d,.d e] S=.ok (.d (.lst [a,b,c,d,e])) S:=bu rfl
theorem HI:mkL [.d a,.d b,.d c,.d d,.d e,.d f] S=.ok (.d (.lst [a,b,c,d,e,f])) S:=bu rfl
theorem oz{R:Sto}:(o::(R++[x]))[R.length+1]?=some x:=by simp
theorem fm{R:Sto}:(R++[x])[R.length]?=some x:=by simp
theorem D4{R:Sto}:(R++[x]).set R.length y=R++[y]:=by simp
theorem D6{R:Sto}:(R++[x,y])[R.length]?=some x:=by simp
theorem DP{R:Sto}:(R++[x,y]).set R.length z=R++[z,y]:=by simp
theorem AJ(ns:List Int):(ns.map D.int).all D.flat=true:=by rw[VN];exact Pf.mpr λ_ _=>rfl
theorem Hs(w:Int)(ns:List Int):inD (.int w) (ns.map D.int)=decide (w∈ns):=by
 unfold inD;rw[Tp,Ph,O8,O7];constructor
 ·rintro⟨x,hx,e⟩;have e':(x==w)=true:=e;rw[<-(PY.mp e')];exact hx
 ·intro h;exact⟨w,h,by show(w==w)=true;simp⟩
theorem qk(e:S[n]?=some (.lst xs)):bK (.r n) S=some xs:=by unfold bK bX;dsimp only;rw[e]
theorem L6(e:S[n]?=some (.lst xs)):bX (.r n) S=some xs:=by unfold bX;dsimp only;rw[e]
theorem lZ{ns:List Int}(h:bK y S=some (ns.map D.int)):inX (.d (.int w)) y S=some (decide (w∈ns)):=by
 unfold inX;dsimp only;rw[h];dsimp only;rw[show D.flat (.int w)=true from rfl,AJ,Oe (by rfl),Hs]
theorem EY{ns:List Int}:oIn (.d (.int w)) (.d (.tup (ns.map D.int))) S=.ok (.d (.bl (decide (w∈ns)))) S:=by unfold oIn;rw[lZ (ns:=ns) rfl]
theorem Bv{ns:List Int}:ff (.d (.int w)) (.d (.tup (ns.map D.int))) S=.ok (.d (.bl (!decide (w∈ns)))) S:=by unfold ff;rw[lZ (ns:=ns) rfl]
theorem Mz{ns:List Int}:oIn (.d (.int w)) (.d (.lst (ns.map D.int))) S=.ok (.d (.bl (decide (w∈ns)))) S:=by unfold oIn;rw[lZ (ns:=ns) rfl]
theorem Bu{ns:List Int}(e:S[n]?=some (.lst (ns.map D.int))):ff (.d (.int w)) (.r n) S=.ok (.d (.bl (!decide (w∈ns)))) S:=by unfold ff;rw[lZ (qk e)]
theorem qI(h:xs.length<100000):ka n xs z S=.ok (.d .non) (S.set n (.lst (xs++[z]))):=by unfold ka;rw[Oe h]
theorem Kr(h:xs.length+ys.length<=100000):iH n xs (.tup ys) S=.ok (.d .non) (S.set n (.lst (xs++ys))):=by unfold iH;dsimp only;rw[Oe h]
theorem Cp(h:xs.length+ys.length<=100000):iH n xs (.lst ys) S=.ok (.d .non) (S.set n (.lst (xs++ys))):=by unfold iH;dsimp only;rw[Oe h]
theorem xM(e:bK x S=some (ns.map D.int))(h:ns.length<64):iw [x] S=.ok (.d (.lst ((sortI ns).map D.int))) S:=by
 unfold iw;dsimp only;rw[e,Sk,lT];dsimp only;rw[Oe h]
theorem yf(e:S[n]?=some (.lst (ns.map D.int)))(h:ns.length<64):iw [.r n] S=.ok (.d (.lst ((sortI ns).map D.int))) S:=xM (qk e) h
theorem Hd(h:ns.length<64):iw [.d (.lst (ns.map D.int))] S=.ok (.d (.lst ((sortI ns).map D.int))) S:=xM rfl h
theorem Lf(e:bK x S=some (ns.map D.int))(h:ns.length<=300)(h2:(aS ns).length<64):oSS x S=.ok (.d (.lst ((aS ns).map D.int))) S:=by
 unfold oSS zJ;rw[e,Sk,lT];dsimp only;rw[Oe ⟨h,h2⟩]
theorem cW(ns:List Int):(sortI ns).length=ns.length:=(sortI_perm ns).length_eq
theorem cC(ns:List Int)(z:Int):z∈sortI ns↔z∈ns:=(sortI_perm ns).mem_iff
theorem fe(h:ns.Nodup):(sortI ns).Pairwise (· <·):=((lh ns).and ((sortI_perm ns).nodup_iff.mpr h)).imp λz=>by have:=z.1;have:=z.2;omega
theorem Ja(h:fY ds=some bs):dO [.d (.lst ds)] S=.ok (.d (.bl (bs.all id))) S:=by
 unfold dO;dsimp only;rw[show bX (.d (.lst ds)) S=some ds from rfl,Sk,h]
theorem JR(h:fY ds=some bs):ki [.d (.lst ds)] S=.ok (.d (.bl (bs.any id))) S:=by
 unfold ki;dsimp only;rw[show bX (.d (.lst ds)) S=some ds from rfl,Sk,h]
theorem rZ(f:α->Bool):∀l:List α,fY (l.map λx=>D.bl (f x))=some (l.map f)
 | []=>rfl
 |x::l=>by simp[fY,rZ f l]
theorem ji(f:α->Int):∀l:List α,intsOf (l.map λx=>D.int (f x))=some (l.map f)
 | []=>rfl
 |x::l=>by simp[intsOf,ji f l]
theorem eV{α:Type}{f:α->Bool}{l:List α}{S:Sto}:dO [.d (.lst (l.map λx=>D.bl (f x)))] S=.ok (.d (.bl (l.all f))) S:=by rw[Ja (rZ f l),VN];rfl
theorem vY{α:Type}{f:α->Bool}{l:List α}{S:Sto}:ki [.d (.lst (l.map λx=>D.bl (f x)))] S=.ok (.d (.bl (l.any f))) S:=by rw[JR (rZ f l),Tp];rfl
theorem IG(h:0<=j/\j<=1000):lrg Dq [.d (.int j)] S=.ok (.r S.length) (S++[.lst ((Oy j.toNat).map λi=>D.int (i:Nat))]):=by
 unfold lrg;dsimp only;rw[Oe h];rfl
theorem Ly(h:0<=i/\i<2 ^ 63)(e:xs[i.toNat]?=some y):vw n xs (.int i) S=.ok (.d y) (S.set n (.lst (xs.eraseIdx i.toNat))):=by
 unfold vw;dsimp only;rw[Oe h,e]
theorem qZ(hC:xLC it 1 (gNm 0) t e τ S=r)(hit:it τ S=.ok ⟨items,none⟩ S1)(J:Nat->List D->Sto->Prop)(h0:J 0 [] S1)
  (hs:∀i z acc Q,items[i]?=some z->J i acc Q->Q.length=S1.length->∃b Q1,t (some z::τ) (Q++[.lst acc])=.ok b (Q1++[.lst acc])/\Q1.length=S1.length /\
   (b=true->∃x Q2,e (some z::τ) (Q1++[.lst acc])=.ok (.d x) (Q2++[.lst acc])/\Q2.length=S1.length/\J (i+1) (acc++[x]) Q2)/\(b=false->J (i+1) acc Q1)) :
  ∃acc Q,r=.ok (.d (.lst acc)) Q/\Q.length=S1.length/\J items.length acc Q:=by
 obtain⟨acc,Q,e1,h⟩:=AD (t:=t) (e:=e) hit J h0 hs;exact⟨acc,Q,hC.symm.trans e1,h⟩
theorem Bx(hC:xLC it 1 (gNm 0) (λ_ S=>.ok true S) e τ S=r)(hit:it τ S=.ok ⟨items,none⟩ S1)(J:Nat->List D->Sto->Prop)(h0:J 0 [] S1)
  (hs:∀i z acc Q,items[i]?=some z->J i acc Q->Q.length=S1.length->∃x Q2,e (some z::τ) (Q++[.lst acc])=.ok (.d x) (Q2++[.lst acc])/\Q2.length=S1.length/\J (i+1) (acc++[x]) Q2) :
  ∃acc Q,r=.ok (.d (.lst acc)) Q/\Q.length=S1.length/\J items.length acc Q:=
 qZ hC hit J h0 λi z acc Q hz hJ hl=>⟨true,Q,rfl,hl,λ_=>hs i z acc Q hz hJ hl,λz=>(by cases z)⟩
theorem cI(hC:xLC (aR a) 1 (gNm 0) (λ_ S=>.ok true S) e τ S=r)(ha:a τ S=.ok (.d (.tup xs)) S1)(f:D->D)(hs:∀x∈xs,∀S:Sto,e (some (.d x)::τ) S=.ok (.d (f x)) S):r=.ok (.d (.lst (xs.map f))) S1:=by
 rw[<-hC,rm (items:=xs.map Vl.d) (S1:=S1) (by rw[mV,ha,Aq]) (λz=>match z with | .d x=>f x |_=>.non) (by
  intro z hz S;obtain⟨x,hx,rfl⟩:=Of.mp hz;exact hs x hx S)]
 rw[Oz];rfl
theorem sP(hC:xLC (aR a) 1 (gNm 0) (λ_ S=>.ok true S) e τ S=r)(ha:a τ S=.ok (.d (.lst xs)) S1)(f:D->D)(hs:∀x∈xs,∀S:Sto,e (some (.d x)::τ) S=.ok (.d (f x)) S):r=.ok (.d (.lst (xs.map f))) S1:=by
 rw[<-hC,rm (items:=xs.map Vl.d) (S1:=S1) (by rw[mV,ha,BZ]) (λz=>match z with | .d x=>f x |_=>.non) (by
  intro z hz S;obtain⟨x,hx,rfl⟩:=Of.mp hz;exact hs x hx S)]
 rw[Oz];rfl
theorem cx(hL:bU it g b τ S=r)(hit:it τ S=.ok ⟨items,gd⟩ S1)(I:Nat->Nv->Sto->Prop)(h0:I 0 τ S1)
  (hs:∀i z τ S,items[i]?=some z->I i τ S->∃τ1 S1 fl τ2 S2,g z τ S=.ok τ1 S1/\b τ1 S1=.ok (fl,τ2) S2/\(fl=.nx\/fl=.ct)/\gok gd S2/\I (i+1) τ2 S2):∃τ' S',r=.ok (.nx,τ') S'/\I items.length τ' S':=by
 obtain⟨τ',S',e,h⟩:=va (g:=g) (b:=b) (gd:=gd) I h0 hs;refine⟨τ',S',?_,h⟩;rw[<-hL,pU,hit,uC];exact e
theorem wb(Pr:Vl->Sto->Prop):∀{items:List Vl}{τ:Nv}{S:Sto}(I:Nat->Nv->Sto->Prop),I 0 τ S ->
  (∀i z τ S,items[i]?=some z->I i τ S->∃τ1 S1 fl τ2 S2,g z τ S=.ok τ1 S1/\b τ1 S1=.ok (fl,τ2) S2/\(((fl=.nx\/fl=.ct)/\gok gd S2/\I (i+1) τ2 S2)\/∃v,fl=.rt v/\Pr v S2)) ->
  (∃τ' S',cc g b gd items τ S=.ok (.nx,τ') S'/\I items.length τ' S')\/∃v τ' S',cc g b gd items τ S=.ok (.rt v,τ') S'/\Pr v S'
 | [],τ,S,I,h0,_=>.inl ⟨τ,S,rfl,h0⟩
 |z::zs,τ,S,I,h0,hs=>by
  obtain⟨τ1,S1,fl,τ2,S2,e1,e2,h⟩:=hs 0 z τ S rfl h0;rcases h with⟨hf,hg,hI⟩ |⟨v,rfl,hv⟩
  ·have st:cc g b gd (z::zs) τ S=cc g b gd zs τ2 S2:=by
    rw[cc,e1,aC,e2,aC];rcases hf with rfl |rfl
    ·dsimp only;rw[Oe hg]
    ·dsimp only;rw[Oe hg]
   rw[st];exact wb Pr (items:=zs) (λi=>I (i+1)) hI λi z' τ S hz hi=>hs (i+1) z' τ S (by simpa using hz) hi
  ·refine .inr ⟨v,τ2,S2,?_,hv⟩;rw[cc,e1,aC,e2,aC]
theorem iU(hL:bU it g b τ S=r)(Pr:Vl->Sto->Prop)(hit:it τ S=.ok ⟨items,gd⟩ S1)(I:Nat->Nv->Sto->Prop)(h0:I 0 τ S1)
  (hs:∀i z τ S,items[i]?=some z->I i τ S->∃τ1 S1 fl τ2 S2,g z τ S=.ok τ1 S1/\b τ1 S1=.ok (fl,τ2) S2/\(((fl=.nx\/fl=.ct)/\gok gd S2/\I (i+1) τ2 S2)\/∃v,fl=.rt v/\Pr v S2)) :
  (∃τ' S',r=.ok (.nx,τ') S'/\I items.length τ' S')\/∃v τ' S',r=.ok (.rt v,τ') S'/\Pr v S':=by
 have q:=wb (g:=g) (b:=b) (gd:=gd) Pr I h0 hs;have e:r=cc g b gd items τ S1:=by rw[<-hL,pU,hit,uC]
 rw[e];exact q
theorem gE(h:((Oy n).map λi=>Vl.d (.int (i:Nat)))[i]?=some z):i<n/\z=.d (.int i):=by
 have hi:i<n:=by simpa using(Ol.mp h).1
 rw[Ox,PN hi]at h;exact⟨hi,(OV h).symm⟩
theorem iS:((Oy n).map λi=>Vl.d (.int (i:Nat))).length=n:=by simp
theorem k_{α y:Type}{f:α->y}{l:List α}{x:α}:(l++[x]).map f=l.map f++[f x]:=by rw[OX];rfl
end L2
namespace L2
open PySem PySem.Spec PyProof.Rows ZS
section
variable{X:Cx}{WE:WX}
def SqH(H:Hp)(a:Addr)(ts:List (List Int)):Prop:=∃ads:List Addr,(H a=some (.lst (ads.map V.ref))\/H a=some (.tup (ads.map V.ref)))/\ads.length=ts.length/\∀j,j<ts.length->H (ads.getD j 0)=some (.tup ((ts.getD j []).map V.int))
theorem ny:∀{ads:List Addr}{its:List Value},Vals (ads.map V.ref) its->its=ads.map Value.ref
 | [],_,r=>by cases r;rfl
 |a::ads,_,r=>by
  cases r with
  |cons h t=>
   cases h;rw[ny t];rfl
theorem oO:∀{its:List Value}{ns:List Int},IntsAre its ns->ItemsAre (intKind prog w) ns its
 |_,_,.nil=>.nil
 |_,_,.cons n t r=>.cons (intKind_is prog w n t) (oO r)
theorem SqH.at(I:Inv X pins σ H s)(h:SqH H a ts):∃(ads:List Addr)(k:Bool),ads.length=ts.length/\nW s.heap a (ads.map Value.ref).toArray k/\∀j,j<ts.length->IsTupleKey (intKind X.prog X.w) s.heap (ts.getD j []) (ads.getD j 0):=by
 obtain⟨ads,h,hl,hk⟩:=h;have hkey:∀j,j<ts.length->IsTupleKey (intKind X.prog X.w) s.heap (ts.getD j []) (ads.getD j 0):=λj hj=>by
  obtain⟨its,rv,⟨o,e,c,n,d⟩,hz⟩:=I.tuple (SqT.of (hk j hj));exact⟨o,_,n,e,c,d,by simpa using oO (intsAre_of rv)⟩
 rcases h with h |h
 ·obtain⟨its,rv,pl,hz⟩:=I.list (SqL.of h);rw[ny rv]at pl;exact⟨ads,true,hl,pl.isList,hkey⟩
 ·obtain⟨its,rv,pl,hz⟩:=I.tuple (SqT.of h);rw[ny rv]at pl;exact⟨ads,false,hl,pl,hkey⟩
noncomputable def Nq(te:TE):TE:=λσ H Q=>te σ H λx H1=>((∃(a:Addr)(ns:List Int),x=.ref a/\SqI H1 a ns/\ns.length<=300/\Q (.int (aS ns).length) H1)\/∃(a:Addr)(ts:List (List Int)),x=.ref a/\SqH H1 a ts/\ts.length<=300/\Q (.int (uq ts).length) H1)
theorem IB{e:Expr}{te:TE}{p1 p2 pos1 pos2:Pos}(hc:X.calm=true)(hgs:Gl X "len")(hms:X.mg "len"=none)(hgt:Gl X "set")(hmt:X.mg "set"=none)(hbs:bootBuiltins "len"=some (.builtin "len"))(hbt:bootBuiltins "set"=some (.type "set"))(hu:X.A.units+64<cLine)(he:PE X e te)
  (hs:starEach [e] X.env=(false,eval e X.env)::starEach [] X.env:=by rfl)
  (hs2:starEach [Expr.Call (.Name "set" p2) [e] [] pos2] X.env=(false,eval (Expr.Call (.Name "set" p2) [e] [] pos2) X.env)::starEach [] X.env:=by rfl) :
  PE X (.Call (.Name "len" p1) [.Call (.Name "set" p2) [e] [] pos2] [] pos1) (Nq te):=by
 intro pins s σ H Q I h;refine Qt (cv I hgs hms hbs ?_);rw[hs2];refine Q8 (by show(false||(backTo pos1 (starEach ([]:List Expr) X.env)).any (·.1))=false;rfl) (Ru ?_);show wpAny _ _ (spliced ((false,eval (Expr.Call (.Name "set" p2) [e] [] pos2) X.env)::backTo pos1 (starEach [] X.env))) _ _ s;refine QK ?_;have hA:=(eC he h8 hs) pos2 pins s σ H (λvs H1=>∃x,vs=[x]/\((∃(a:Addr)(ns:List Int),x=.ref a/\SqI H1 a ns/\ns.length<=300/\Q (.int (aS ns).length) H1)\/∃(a:Addr)(ts:List (List Int)),x=.ref a/\SqH H1 a ts/\ts.length<=300/\Q (.int (uq ts).length) H1)) I (by
  refine cast (Pq (te σ H) ?_) h;funext y H2;refine propext ⟨λq=>⟨y,rfl,q⟩,λ⟨y',e',q⟩=>?_⟩;cases e';exact q)
 refine UB (cv I hgt hmt hbt (O6 (thn hA λus s1 ⟨vs,H1,I1,r1,x,e1,hq⟩=>?_) hs rfl));subst e1;obtain⟨u,rfl,rx⟩:=vals1 r1;have hA0:X.A.handled=none:=I.ok.hd hc;rcases hq with⟨a,ns,e2,hx,hn,q⟩ |⟨a,ts,e2,hx,hn,q⟩
 ·subst e2;cases rx;obtain⟨its,k,hI,pl⟩:=hx.at I1;refine tV hA0 k pl (by simpa using hI) hn λh' tk ks S1 S2 S3=>?_;refine C0 ?_;obtain⟨o,es,ep,t,pl',g1,g2,g3,g4,g5,g6,g7,g8,⟨g9,g10,g11⟩,g12,g13,g14,g15⟩:=S1;have lks:es.size=ks.length:=by
   have:=dH g12;rw[Oa,OM]at this;exact this
  refine call_len_set (s:=⟨h',s1.gens,s1.drawn,tk,s1.os⟩) g1 g2 g3 (fits_of g5 (by rw[g8,lks];simpa using g10) ⋯) ⋯ ?_;rw[lks,rA g14 S2];exact⟨.int _,H1,I1.kept (t':=tk+1+1) S3,⟨_,rfl⟩,q⟩
 ·subst e2;cases rx;obtain⟨ads,k,hl2,pl,hkey⟩:=hx.at I1;refine y9 hA0 k pl ts ads rfl hl2 hn (by show X.A.units+1+1+1<cLine;omega) hkey λh' tk ks S1 S2 S3=>?_;refine C0 ?_;obtain⟨o,es,ep,t,g1,g2,g3,g4,lks,g6⟩:=S1;refine call_len_set (s:=⟨h',s1.gens,s1.drawn,tk,s1.os⟩) g1 g2 g3 g4 ⋯ ?_;rw[lks,S2];exact⟨.int _,H1,I1.kept (t':=tk+1+1) S3,⟨_,rfl⟩,q⟩
noncomputable def kS:List D->Option (List (List Int))
 | []=>some []
 | .tup xs::r=>(intsOf xs).bind λa=>(kS r).map (a::·)
 |_=>none
theorem qz:∀ts:List (List Int),kS (ts.map λt=>D.tup (t.map D.int))=some ts
 | []=>rfl
 |t::ts=>by
  rw[Oq,kS,qz ts,show intsOf (t.map D.int)=some t by rw[ji (λx=>x) t];simp];rfl
theorem tj:∀{vs:List V}{ds:List D}{ts:List (List Int)},ak G vs ds->kS ds=some ts->∃ads:List Addr,vs=ads.map V.ref/\ads.length=ts.length/\∀j,j<ts.length->G (ads.getD j 0)=some (.tup ((ts.getD j []).map V.int))
 |_,_,ts,.nil,e=>by
  cases e;exact⟨[],rfl,rfl,λj hj=>by cases hj⟩
 |_,_,ts,.cons (v:=v) (d:=d) r rs,e=>by
  cases d with
  |tup xs=>
   rw[kS]at e;obtain⟨a,e1,e2⟩:=Qi.mp e;obtain⟨ts',e3,e4⟩:=PB.mp e2;subst e4;obtain⟨ads,q1,q2,q3⟩:=tj rs e3;cases r with
   |tup h rr=>
    rename_i b us;rw[ft e1]at rr;rw[ak.iP rr]at h;refine⟨b::ads,by rw[q1];rfl,by simp[q2],λj hj=>?_⟩;cases j with
    |zero=>exact h
    |succ j=>exact q3 j (by simpa using hj)
  |_=>cases e
noncomputable def oLX(x:Vl)(S:Sto):R Vl:=match bK x S with
 |some ds=>(match intsOf ds with
  |some ns=>if ns.length<=300 then .ok (.d (.int (aS ns).length)) S else .bad
  |none=>(match kS ds with
   |some ts=>if ts.length<=300 then .ok (.d (.int (uq ts).length)) S else .bad
   |none=>.bad))
 |none=>.bad
theorem Ls{e:Expr}{xa:XE}{p1 p2 pos1 pos2:Pos}[n:NS e](hc:X.calm=true)(hgs:Gl X "len")(hms:X.mg "len"=none)(hgt:Gl X "set")(hmt:X.mg "set"=none)(hbs:bootBuiltins "len"=some (.builtin "len"))(hbt:bootBuiltins "set"=some (.type "set"))(hu:X.A.units+64<cLine)(he:RE X WE e xa)
  (hs2:starEach [Expr.Call (.Name "set" p2) [e] [] pos2] X.env=(false,eval (Expr.Call (.Name "set" p2) [e] [] pos2) X.env)::starEach [] X.env:=by rfl) :
  RE X WE (.Call (.Name "len" p1) [.Call (.Name "set" p2) [e] [] pos2] [] pos1) (xUn oLX xa):=
 ⟨(IB hc hgs hms hgt hmt hbs hbt hu he.h (n.eq _ X.env) hs2).weak λσ H Q ⟨μ,S,τ,hr,sr,p⟩=>⟨μ,S,τ,hr,sr,p.bind λv x S1 μ1 H1 st1 r1 p1=>by
  unfold oLX at p1;split at p1
  ·rename_i ds e0;split at p1
   ·rename_i ns e1;split at p1
    ·obtain⟨a,rfl,sq⟩:=z9 (ns:=ns) st1.hr r1 (by rw[e0];exact e1);exact .inl ⟨a,ns,rfl,sq,‹_›,p1.here st1.hr (Rep.int _)⟩
    ·exact p1.elim
   ·split at p1
    ·rename_i ts e1;split at p1
     ·rename_i hb;obtain⟨a,us,rfl,ha,rr⟩:=jc st1.hr r1 e0;obtain⟨ads,rfl,hl,hk⟩:=tj rr e1;exact .inr ⟨a,ts,rfl,⟨ads,ha,hl,λj hj=>fK _ _ (hk j hj)⟩,hb,p1.here st1.hr (Rep.int _)⟩
     ·exact p1.elim
    ·exact p1.elim
  ·exact p1.elim⟩⟩
end
noncomputable def DY(xs ys:List D):List Vl:=List.zipWith (λx y=>Vl.d (.tup [x,y])) xs ys
noncomputable def Km:D->Option (Bool×List D)
 | .tup xs=>some (false,xs)
 | .lst xs=>some (true,xs)
 |_=>none
noncomputable def Jp(zs:List Vl)(S:Sto):R Its:=match zs with
 | [.d x,.d y]=>(match Km x,Km y with
  |some p,some q=>.ok ⟨DY p.2 q.2,none⟩ S
  |_,_=>.bad)
 |_=>.bad
noncomputable def iZp(as:XA):XI:=λτ S=>(as τ S).bind Jp
noncomputable def xLf(f:List D->D->Sto->R Vl)(o e:XE):XE:=λτ S=>(o τ S).bind λx S1=>match x with
 | .d (.lst xs)=>(e τ S1).bind λy S2=>(match y with
  | .d z=>f xs z S2
  |_=>.bad)
 |_=>.bad
noncomputable def v8(xs:List D)(z:D)(S:Sto):R Vl:=match z,intsOf xs with
 | .int k,some ns=>.ok (.d (.int (ns.count k:Nat))) S
 |_,_=>.bad
def K7(r:V->List V->Hp->VK->Prop)(f:List D->D->Sto->R Vl):Prop:=∀(K:Oh)(mg:Str->Option Value)(WE:WX)(μ:Nat->Addr)(S:Sto)(H:Hp)(a:Addr)(xs:List D)(vs:List V)(w:V)(z:D)(Q:VK),HR μ S H->H a=some (.lst vs)->ak (vh μ S H) vs xs->Rep (vh μ S H) w z->aE (aF K mg) WE μ S H (f xs z S) Q->r (.ref a) [w] H Q
theorem CI:K7 xJ v8:=by
 intro K mg WE μ S H a xs vs w z Q hr h rs rw' p;unfold v8 at p;split at p
 ·rename_i k ns e1;cases rw';rw[ft e1]at rs;rw[ak.iP rs]at h;exact⟨_,ns,k,rfl,rfl,h,p.here hr (Rep.int _)⟩
 ·exact p.elim
section
variable{X:Cx}{WE:WX}
theorem LD{r:V->List V->Hp->VK->Prop}{f:List D->D->Sto->R Vl}{name:Str}{id:String}{o e:Expr}{xo xe:XE}{apos cpos:Pos}(slot:Slot "list" name id)(hty:typeOf (.builtin id)=pure (.type "method_descriptor"))(hm:MtM X id r)(hf:K7 r f)(ho:RE X WE o xo)(he:RE X WE e xe)
  (hbase:attributeBase o name X.env (eval o X.env)=eval o X.env:=by rfl)
  (hfew:((backTo cpos (starEach [e] X.env)).all (λx=>!x.1)&&(backToKw cpos (keywordEach [] X.env)).all (λx=>x.1.isSome)&&decide ([e].length+([]:List Keyword).length+(if([]:List Keyword).isEmpty then 0 else 1)<30))=true:=by rfl)
  (hline:(apos.endLine==cpos.line)=true:=by rfl) (hs:starEach [e] X.env=(false,eval e X.env)::starEach [] X.env:=by rfl):RE X WE (.Call (.Attribute o name apos) [e] [] cpos) (xLf f xo xe):=
 ⟨(E1 slot hty hm ho.h he.h hbase hfew hline hs).weak λσ H Q ⟨μ,S,τ,hr,sr,p⟩=>⟨μ,S,τ,hr,sr,p.bind λv x S1 μ1 H1 st1 r1 p1=>by
  try dsimp only at p1
  split at p1
  ·rename_i xs;cases(show Rep (vh μ1 S1 H1) v (.lst _)from r1)with
   | @lst a vs _ g rs=>
    refine⟨a,vs,rfl,(aH g).2,μ1,S1,τ,st1.hr,sr.step st1,p1.bind λw y S2 μ2 H2 st2 r2 p2=>?_⟩
    try dsimp only at p2
    split at p2
    ·exact hf X.K X.mg WE μ2 S2 H2 a xs vs w _ Q st2.hr (aH (st2.vis _ _ g)).2 (rs.mono st2.vis) r2 p2
    ·exact p2.elim
  ·exact p1.elim⟩⟩
end
noncomputable def f_(tb:List (Str×XF))(i:Nat)(as:XA):XE:=λτ S=>match τ[i]? with
 |some (some (.fn nm))=>(match tb.lookup nm with
  |some F=>ai F as τ S
  |none=>.bad)
 |_=>.bad
def zy(P:Program)(w:World)(K:Oh)(mg:Str->Option Value)(lev:Nat)(tb:List (Str×XF)):Prop:=∀nm F,tb.lookup nm=some F->∃ps,OkE P w K mg lev nm ps F
theorem qK{P:Program}{w:World}{K:Oh}{mg:Str->Option Value}{lev:Nat}:zy P w K mg lev []:=λ_ _ h=>by cases h
theorem oA{P:Program}{w:World}{K:Oh}{mg:Str->Option Value}{lev l0:Nat}{nm0:Str}{ps:List Str}{F0:XF}{tb:List (Str×XF)}(h:OkE P w K mg l0 nm0 ps F0)(h':zy P w K mg lev tb)(hl:l0<=lev:=by decide):zy P w K mg lev ((nm0,F0)::tb):=by
 intro nm F e;rw[Pu]at e;split at e
 ·rename_i q;cases e;obtain rfl:nm=nm0:=eq_of_beq q;obtain⟨f,fd,a,b,c,d⟩:=h;exact⟨ps,f,fd,a,b,c,λbase=>(d base).mono hl⟩
 ·exact h' nm F e
section
variable{X:Cx}{WE:WX}{i k lev j:Nat}{x:Str}{p pos:Pos}{e:Expr}{es:List Expr}{t:TA}{E:XK}
theorem D3(hr:cP k X.A)(hN:X.N[i]?=some x)(hv:Vis X.env.scope x)(hd:(x==("__debug__":Str))=false)(hcd:(x==("__classdict__":Str))=false)(hx:Passes CX0 X E)(ha:PA X (e::es) t)(he:starEach (e::es) X.env=(false,eval e X.env)::starEach es X.env)(hpl:(backTo pos (starEach es X.env)).any (·.1)=false) :
  PE X (.Call (.Name x p) (e::es) [] pos) (λσ H Q=>∃f fd ps sp,σ[i]?=some (some (.ref f))/\R4 X.K (.ref f)=true/\Binds X.K fd ps []/\dY X.prog X.w X.K X.mg X.base CX0 k f fd ps sp/\EZ sp [] E t σ H Q):=by
 intro pins s σ H Q I h;obtain⟨f,fd,ps,sp,hs,hk,hb,F,h⟩:=h;refine Qt (thn (BR hN hv hd hcd pins s σ H (λv H1=>v=.ref f/\H1=H) I ⟨_,hs,rfl,rfl⟩) λu s1 ⟨w,H1,I1,rw',ew,eH⟩=>?_);subst ew eH;obtain rfl:u=Value.ref f:=rw';refine VC (h₀:=X.base) I1.ok.mod.kin hk (thn (ha pos pins s1 σ H1 _ I1 h) λus s2 ⟨vs,H2,I2,r,q⟩=>⟨I2.kIn,?_⟩) he hpl;exact Cj F hr hb .nil hx I2 r q
theorem Ck{st:Stmt}(D:Df X.K X.mg x st)(hg:Gl X x:=by exact rfl)(hd:(x==("__debug__":Str))=false:=by decide):RE X WE (.Name x pos) (xFn x):=by
 obtain⟨f,fd,F,hm⟩:=D;exact Mx hg hm hd
theorem l5[n:NS e](G:zy X.prog X.w X.K X.mg j tb)(hr:cP j X.A)(ha:RA X WE (e::es) ts)(hN:X.N[i]?=some x:=by exact rfl)(hv:Vis X.env.scope x:=by first |exact Or.inl rfl |exact Or.inr (Or.inl rfl) |exact Or.inr (Or.inr rfl))
  (hd:(x==("__debug__":Str))=false:=by decide) (hcd:(x==("__classdict__":Str))=false:=by decide) (hpl:(backTo pos (starEach es X.env)).any (·.1)=false:=by rfl):RE X WE (.Call (.Name x p) (e::es) [] pos) (f_ tb i ts):=
 ⟨(D3 hr hN hv hd hcd EX ha.h (n.eq es X.env) hpl).weak λσ H Q ⟨μ,S,τ,hr,sr,p⟩=>by
  unfold f_ at p;split at p
  ·rename_i nm e1;split at p
   ·rename_i F e2;obtain⟨v,hs,f,hm,rfl⟩:=sr.get _ _ e1;obtain⟨ps,f',fd,hm',hk,hb,G'⟩:=G nm F e2;obtain rfl:f'=f:=T4 (OV (hm'.symm.trans hm));exact⟨f',fd,ps,_,hs,hk,.all hb,G' X.base,μ,S,τ,hr,sr,p.bind λvs xs S1 μ1 H1 st1 r1 p1=>by
     rw[Qp];exact⟨μ1,S1,xs,st1.hr,r1,p1.noX⟩⟩
   ·exact p.elim
  ·exact p.elim⟩
end
theorem zM(h1:τ[i]?=some (some (.fn nm)))(h2:tb.lookup nm=some F):f_ tb i as τ S=ai F as τ S:=by
 unfold f_;rw[h1];dsimp only;rw[h2]
noncomputable def dk:D->Option Key
 | .int i=>some (.inl i)
 | .str x=>some (.inr x)
 |_=>none
noncomputable def kD:Key->D
 | .inl i=>.int i
 | .inr x=>.str x
noncomputable def e_(x:Vl)(S:Sto):Option (List (Key×D)):=match x with
 | .fd kvs=>some kvs
 | .r n=>(match S[n]? with
  |some (.dct kvs)=>some kvs
  |_=>none)
 |_=>none
noncomputable def cY(kvs:List (Key×D))(k:Key):Option D:=(kvs.find? λkv=>decide (kv.1=k)).map (·.2)
noncomputable def putD(kvs:List (Key×D))(k:Key)(v:D):List (Key×D):=
 if(kvs.any λkv=>decide (kv.1=k))=true then kvs.map (λkv=>if kv.1=k then(kv.1,v)else kv)else kvs++[(k,v)]
section
variable{G:Hp}
theorem fb(e:p.1=k):cY (p::r) k=some p.2:=by simp[cY,Py,e]
theorem dX(e:¬p.1=k):cY (p::r) k=cY r k:=by simp[cY,Py,e]
theorem pV(k:Key):∀{kvs:List (Key×D)}{vs:List V},ak G vs (kvs.map (·.2))->(cY kvs k=none/\ig ((kvs.map (·.1)).zip vs) k=none)\/∃d v,cY kvs k=some d/\ig ((kvs.map (·.1)).zip vs) k=some v/\Rep G v d
 | [],_,.nil=>.inl ⟨rfl,rfl⟩
 |p::r,_,.cons (v:=v) (vs:=vs) h t=>by
  by_cases e:p.1=k
  ·exact .inr ⟨p.2,v,fb e,ma (p:=(p.1,v)) e,h⟩
  ·rcases pV k (kvs:=r) t with⟨h1,h2⟩ |⟨d,u,h1,h2,h3⟩
   ·exact .inl ⟨by rw[dX e];exact h1,(jl (p:=(p.1,v)) e).trans h2⟩
   ·exact .inr ⟨d,u,by rw[dX e];exact h1,(jl (p:=(p.1,v)) e).trans h2,h3⟩
theorem Bm(k:Key):∀{kvs:List (Key×D)}{vs:List V},ak G vs (kvs.map (·.2))->(((kvs.map (·.1)).zip vs).any λkv=>decide (kv.1=k))=kvs.any λkv=>decide (kv.1=k)
 | [],_,.nil=>rfl
 |p::r,_,.cons h t=>by
  rw[Oq,Ra,Q4,Q4,Bm k (kvs:=r) t]
theorem A5(k:Key)(rv:Rep G v d):∀{kvs:List (Key×D)}{vs:List V},ak G vs (kvs.map (·.2))->∃ws,ws.length=kvs.length /\
  ((kvs.map (·.1)).zip vs).map (λkv=>if kv.1=k then(kv.1,v)else kv)=((kvs.map λkv=>if kv.1=k then(kv.1,d)else kv).map (·.1)).zip ws/\ak G ws ((kvs.map λkv=>if kv.1=k then(kv.1,d)else kv).map (·.2))
 | [],_,.nil=>⟨[],rfl,rfl,.nil⟩
 |p::r,_,.cons (v:=u) (vs:=us) h t=>by
  obtain⟨ws,l,e,rs⟩:=A5 k rv (kvs:=r) t;by_cases q:p.1=k
  ·refine⟨v::ws,by simp[l],?_,?_⟩
   ·rw[Oq,Ra,Oq,e,Oq,Oq,Ra,Oe q,Oe q]
   ·rw[Oq,Oq,Oe q];exact .cons rv rs
  ·refine⟨u::ws,by simp[l],?_,?_⟩
   ·rw[Oq,Ra,Oq,e,Oq,Oq,Ra,Ot q,Ot q]
   ·rw[Oq,Oq,Ot q];exact .cons h rs
theorem z6(k:Key)(rv:Rep G v d)(rs:ak G vs (kvs.map (·.2))):∃ws,ws.length=(putD kvs k d).length /\
  putK ((kvs.map (·.1)).zip vs) k v=((putD kvs k d).map (·.1)).zip ws/\ak G ws ((putD kvs k d).map (·.2)):=by
 unfold putK putD;rw[Bm k rs];by_cases a:(kvs.any λkv=>decide (kv.1=k))=true
 ·rw[Oe a,Oe a];obtain⟨ws,l,e,r⟩:=A5 k rv rs;exact⟨ws,by simp[l],e,r⟩
 ·rw[Ot a,Ot a];have lv:vs.length=kvs.length:=by have:=rs.length;simpa using this
  refine⟨vs++[v],by simp[lv],?_,?_⟩
  ·rw[OX,List.zip_append (by simp[lv])];rfl
  ·rw[OX];exact rs.append (.cons rv .nil)
theorem gq(r:Rep G v x)(e:dk x=some k):v=kV k:=by
 unfold dk at e;split at e
 ·cases e;cases r;rfl
 ·cases e;cases r;rfl
 ·cases e
theorem Am(k:Key):Rep G (kV k) (kD k):=by
 cases k with
 |inl i=>exact Rep.int i
 |inr x=>exact Rep.str x
end
section
variable{K:Oh}{mg:Str->Option Value}{μ:Nat->Addr}{S:Sto}{H:Hp}{v:V}{x:Vl}{kvs:List (Key×D)}{WE:WX}{Q:VK}
theorem qp(hr:HR μ S H)(r:aF K mg μ S H v x)(e:e_ x S=some kvs):∃a vs,v=.ref a/\Rd H a (.dK ((kvs.map (·.1)).zip vs))/\ak (vh μ S H) vs (kvs.map (·.2)):=by
 unfold e_ at e;split at e
 ·cases e;obtain⟨a,vs,o,rfl,l,h,rs⟩:=r;exact⟨a,vs,rfl,.inr ⟨o,(aH h).2⟩,rs⟩
 ·split at e
  ·rename_i q;cases e;obtain⟨rfl,hn⟩:=r;obtain⟨vs,l,h,rs⟩:=hr.ob _ _ q;exact⟨_,vs,rfl,.inl h,rs⟩
  ·cases e
 ·cases e
end
noncomputable def oDx(x y:Vl)(S:Sto):R Vl:=match y with
 | .d yd=>(match dk yd,e_ x S with
  |some k,some kvs=>(match cY kvs k with
   |some z=>.ok (.d z) S
   |none=>.bad)
  |_,_=>.bad)
 |_=>.bad
noncomputable def lC(x y:Vl)(S:Sto):Option Bool:=match x with
 | .d xd=>(match dk xd,e_ y S with
  |some k,some kvs=>some (cY kvs k).isSome
  |_,_=>none)
 |_=>none
noncomputable def kf(x y:Vl)(S:Sto):R Vl:=match lC x y S with
 |some b=>.ok (.d (.bl b)) S
 |none=>.bad
noncomputable def pR(x y:Vl)(S:Sto):R Vl:=match lC x y S with
 |some b=>.ok (.d (.bl (!b))) S
 |none=>.bad
noncomputable def f7:XE:=λ_ S=>.ok (.r S.length) (S++[.dct []])
noncomputable def eG(o i e:XE):XS:=λτ S=>(e τ S).bind λz S1=>(o τ S1).bind λx S2=>(i τ S2).bind λy S3=>match x,y,z with
 | .r n,.d yd,.d zd=>(match dk yd,S3[n]? with
  |some k,some (.dct kvs)=>if kvs.length<100000 then .ok (.nx,τ) (S3.set n (.dct (putD kvs k zd)))else .bad
  |_,_=>.bad)
 |_,_,_=>.bad
noncomputable def ox(d k e:XE):XE:=λτ S=>(d τ S).bind λx S1=>if(e_ x S1).isSome=true then(k τ S1).bind λy S2=>(e τ S2).bind λz S3=>(match y,z with
 | .d yd,.d zd=>(match dk yd,e_ x S3 with
  |some k,some kvs=>.ok (.d ((cY kvs k).getD zd)) S3
  |_,_=>.bad)
 |_,_=>.bad)else .bad
noncomputable def i_(e:XE):XI:=λτ S=>(e τ S).bind λz S1=>match z with
 | .fd kvs=>.ok ⟨kvs.map λkv=>Vl.d (kD kv.1),none⟩ S1
 |_=>.bad
section
variable{X:Cx}{WE:WX}{a b c e:Expr}{xa xb xc xe:XE}{pos:Pos}
theorem md(hu:X.A.units+64<cLine)(ha:RE X WE a xa)(hb:RE X WE b xb)(hs:DC b:=by exactλ_ _=>rfl):RE X WE (.Subscript a b pos) (xOp oDx xa xb):=
 ⟨(G7 ⋯ ha.h hb.h hs).weak λσ H Q h=>by
  refine(two (X:=X) (r:=λx y H2 Q=>∃a v,x=.ref a/\l8 H2 a y (some v)/\Q v H2) ?_ h:_);intro WE μ S H v w x y Q hr rx ry p;unfold oDx at p;split at p
  ·split at p
   ·rename_i k kvs hk hd;obtain⟨a,vs,rfl,rd,rs⟩:=qp hr rx hd;split at p
    ·rename_i z hz;rcases pV k rs with⟨h1,_⟩ |⟨d,u,h1,h2,h3⟩
     ·rw[h1]at hz;cases hz
     ·rw[h1]at hz;cases hz;rw[gq ry hk];exact⟨a,u,rfl,.inl ⟨_,k,rd,rfl,h2.symm⟩,p.here hr h3⟩
    ·exact p.elim
   ·exact p.elim
  ·exact p.elim⟩
noncomputable def wx(neg:Bool):R2:=λy x H Q=>∃a o,x=.ref a/\l8 H a y o/\Q (.bl (if neg then !o.isSome else o.isSome)) H
theorem qv(hu:X.A.units+64<cLine):OpR X (compareOp .In) (wx false):=by
 intro pins s σ H x y u v Q I rx ry ⟨a,o,e,g,q⟩;subst e;obtain rfl:v=Value.ref a:=ry;exact NP ⋯ I g rx λs' I'=>⟨_,H,I',(show RelV (.bl _) _ from rfl),q⟩
theorem Gv(hu:X.A.units+64<cLine):OpR X (compareOp .NotIn) (wx true):=by
 intro pins s σ H x y u v Q I rx ry ⟨a,o,e,g,q⟩;subst e;obtain rfl:v=Value.ref a:=ry;exact G_ ⋯ I g rx λs' I'=>⟨_,H,I',(show RelV (.bl _) _ from rfl),q⟩
theorem Cd{K:Oh}{mg:Str->Option Value}{μ:Nat->Addr}{S:Sto}{H:Hp}{v w:V}{x y:Vl}{k neg:Bool}{Q:VK}(hr:HR μ S H)(rx:aF K mg μ S H v x)(ry:aF K mg μ S H w y)(e:lC x y S=some k)(q:Q (.bl (if neg then !k else k)) H):wx neg v w H Q:=by
 unfold lC at e;split at e
 ·split at e
  ·rename_i key kvs hk hd;cases e;obtain⟨a,vs,rfl,rd,rs⟩:=qp hr ry hd;rw[gq rx hk];refine⟨a,_,rfl,.inl ⟨_,key,rd,rfl,rfl⟩,?_⟩;rcases pV key rs with⟨h1,h2⟩ |⟨d,u,h1,h2,_⟩
   ·rw[h2];rw[h1]at q;exact q
   ·rw[h2];rw[h1]at q;exact q
  ·cases e
 ·cases e
theorem og{K:Oh}{mg:Str->Option Value}:cz K mg (wx false) kf:=by
 intro WE μ S H v w x y Q hr rx ry p;unfold kf at p;split at p
 ·exact Cd hr rx ry ‹_› (p.here hr (Rep.bl _))
 ·exact p.elim
theorem Eu{K:Oh}{mg:Str->Option Value}:cz K mg (wx true) pR:=by
 intro WE μ S H v w x y Q hr rx ry p;unfold pR at p;split at p
 ·exact Cd hr rx ry ‹_› (p.here hr (Rep.bl _))
 ·exact p.elim
theorem ow:RE X WE (.Dict [] [] pos) f7:=
 ⟨Dx.weak λσ H Q ⟨μ,S,τ,hr,sr,p⟩ q hq=>p _ _ _ (Step.alloc hr hq (ob:=.dct []) ⟨[],rfl,rfl,.nil⟩) ⟨by rw[cw],by simp⟩⟩
theorem kO(hu:X.A.units+64<cLine)(ho:RE X WE a xa)(hi:RE X WE b xb)(hv:RE X WE c xc)(hs:swapsWith c (some (.Subscript a b pos')) pos.line X.env=pure false:=by rfl) :
  RS X WE (.Assign [.Subscript a b pos'] c pos) (eG xa xb xc):=
 ⟨(Ha ⋯ ho.h hi.h hv.h hs).weak λD σ H ⟨μ,S,τ,hr,sr,p⟩=>⟨μ,S,τ,hr,sr,p.bind λw z S1 μ1 H1 st1 r1 p1=>⟨μ1,S1,τ,st1.hr,sr.step st1,p1.bind λv x S2 μ2 H2 st2 r2 p2=>⟨μ2,S2,τ,st2.hr,sr.step (st1.trans st2),p2.bind λu y S3 μ3 H3 st3 r3 p3=>by
  have rw':=r1.step (st2.trans st3);have rv:=r2.step st3
  try dsimp only at p3
  split at p3
  ·split at p3
   ·rename_i k kvs hk e;split at p3
    ·rename_i hl;obtain⟨rfl,hn⟩:=rv;obtain⟨vs,l,h,rs⟩:=st3.hr.ob _ _ e;rw[gq r3 hk];obtain⟨ws,lw,e2,rs2⟩:=z6 k rw' rs;refine⟨_,_,rfl,vH.k h ?_,?_⟩
     ·rw[PZ,Oa,l,QV];exact ON hl (by rw[QT];decide)
     ·have st4:=Step.put st3.hr e (by simp) (ob:=.dct (putD kvs k _)) ⟨ws,lw,rfl,rs2⟩;rw[<-e2]at st4;exact(show Ends.at D (FlV.nx,σ) _ from p3 (FlV.nx,σ) _ _ st4 ⟨sr.step (st1.trans (st2.trans (st3.trans st4))),True.intro⟩)
    ·exact p3.elim
   ·exact p3.elim
  ·exact p3.elim⟩⟩⟩⟩
theorem GN(hu:X.A.units+64<cLine)(hd:RE X WE a xa)(hk:RE X WE b xb)(he:RE X WE c xc)
  (m:M2 X a "get" apos b c cpos:=by exact⟨rfl,rfl,rfl,rfl⟩):RE X WE (.Call (.Attribute a "get" apos) [b,c] [] cpos) (ox xa xb xc):=
 ⟨(Er ⋯ hd.h hk.h he.h m).weak λσ H Q ⟨μ,S,τ,hr,sr,p⟩=>⟨μ,S,τ,hr,sr,p.bind λv x S1 μ1 H1 st1 r1 p1=>by
  try dsimp only at p1
  split at p1
  ·rename_i hs;obtain⟨kvs,hd⟩:=Rw.mp hs;obtain⟨a,vs,rfl,rd,rs⟩:=qp st1.hr r1 hd;refine⟨a,rfl,.inl ⟨_,rd⟩,μ1,S1,τ,st1.hr,sr.step st1,p1.bind λu y S2 μ2 H2 st2 r2 p2=>⟨μ2,S2,τ,st2.hr,sr.step (st1.trans st2),p2.bind λw z S3 μ3 H3 st3 r3 p3=>?_⟩⟩
   try dsimp only at p3
   split at p3
   ·split at p3
    ·rename_i k kvs' hk hd';obtain⟨a',vs',ea,rd',rs'⟩:=qp st3.hr (r1.step (st2.trans st3)) hd';cases ea;rw[gq (r2.step st3) hk];refine⟨_,.inl ⟨_,k,rd',rfl,rfl⟩,?_⟩;rcases pV k rs' with⟨h1,h2⟩ |⟨d,u,h1,h2,h3⟩
     ·rw[h2];rw[h1]at p3;exact p3.here st3.hr r3
     ·rw[h2];rw[h1]at p3;exact p3.here st3.hr h3
    ·exact p3.elim
   ·exact p3.elim
  ·exact p1.elim⟩⟩
end
noncomputable def Itd(d:Addr)(o:Obj):It:=
 ⟨λi H=>∃kvs,H d=some (.frz o (.dK kvs))/\i<kvs.length,λi H x H'=>H'=H/\∀kvs,H d=some (.frz o (.dK kvs))->∃k v,kvs[i]?=some (k,v)/\x=kV k,λi H=>∃kvs,H d=some (.frz o (.dK kvs))/\kvs.length=i⟩
theorem uX(h:(aK P w).is k u=true):RelV (kV k) u:=by
 rcases bR h with⟨i,t,rfl,rfl⟩ |⟨x,t,rfl,rfl⟩
 ·exact⟨t,rfl⟩
 ·exact⟨t,rfl⟩
theorem KV.get{kvs:List (Key×V)}{vs:List (Key×Value)}(r:KV kvs vs){i:Nat}{k:Key}{x:Value}(e:vs[i]?=some (k,x)):∃v,kvs[i]?=some (k,v):=by
 unfold KV at r
 induction r generalizing i with
 |nil=>simp at e
 | @cons p q ps qs h t ih=>
  cases i with
  |zero=>simp at e;subst e;exact⟨p.2,by rw[show p=(k,p.2)from Y1 h.1 rfl];rfl⟩
  |succ i=>simpa using ih (by simpa using e)
theorem nX(ok:HOk P w H h)(hd:o.data=.dict es ep)(e:H d=some (.frz o (.dK kvs))) :
  (d==sysModules)=false/\kvs.length<=sizeLine/\kvs.length=es.size/\∃vs,KV kvs vs/\h.DictAt (aK P w) d vs ep:=by
 obtain⟨e1,z1,z2,vs,rel,o',es',ep',e2,c,hd',ks,ps,nd⟩:=ok d _ e;rw[e1]at e2;cases e2;rw[hd]at hd';cases hd';exact⟨z2,z1,by rw[rel.length,<-ps.length];simp,vs,rel,o,es,e1,c,hd,ks,ps,nd⟩
theorem AY{P:Program}{w:World}{K:Oh}{tg:Expr}(d it:Addr){o:Obj}{es:Array DictEntry}{ep:Nat}(hd:o.data=.dict es ep):Turn P w K tg (Itd d o) [it] it (λi h=>h.IsKeyIter it d i es.size ep)where
 mem:=by simp
 obj:=λi h st b hb=>by
  have e:b=it:=by simpa using hb
  subst e;obtain⟨o,e,c,d⟩:=st;exact⟨o,e,λv z=>by rw[d]at z;cases z⟩
 keep:=λi h h' st k=>st.at λo e=>k it (by simp) o e
 item:=by
  intro X hP hw hK hc i pins s σ H E I hf st hg;subst hP hw hK;obtain⟨kvs,hk,hi⟩:=hg;obtain⟨z2,z1,lk,vs,rel,da⟩:=nX I.hok hd hk;have lv:=rel.length;obtain⟨f0,f1,f2,f3,f4,f5⟩:=hf it (by simp);have hx:vs[i]?=some ((vs[i]'⋯).1,(vs[i]'⋯).2):=by rw[gV ⋯]
  refine wpAny_pyNext_dict_item (by rw[<-lv,lk];exact st) da hx λkey h' hkey st' sb=>?_;rw[<-lv,lk]at st';have I1:Inv X pins σ H { s with heap:=h' }:=I.turned (t':=s.toks) (λb o hb e=>(sb.2 b hb).trans e) f0 f1 f3 f4 f5;obtain⟨o2,e,c,d2⟩:=id st';obtain⟨v,hv⟩:=rel.get hx;refine⟨key,rfl,ux (s:={ s with heap:=h' }) e c d2 (by decide) ⟨kV _,H,I1,uX hkey,⟨rfl,λkvs' hy=>?_⟩,st',λb hb=>(hf b hb).1⟩⟩;rw[hk]at hy;cases hy;exact⟨_,v,hv,rfl⟩
 done:=by
  intro X hP hw hK hc i pins s σ H E I hf st hg;subst hP hw hK;obtain⟨kvs,hk,hi⟩:=hg;obtain⟨z2,z1,lk,vs,rel,da⟩:=nX I.hok hd hk;have lv:=rel.length;obtain⟨f0,f1,f2,f3,f4,f5⟩:=hf it (by simp);exact wpAny_pyNext_dict_end (I.ok.hd hc) (by rw[<-lv,lk];exact st) da (by simp;omega) λh' eb=>⟨rfl,I.turned (t':=s.toks) (λb o hb e=>eb b o hb e) f0 f1 f3 f4 f5⟩
 self:=λ_ _ _ _ _ st h=>wpAny_pyIter_keyiter st h
section
variable{X:Cx}{WE:WX}{tg l:Expr}{xl:XE}
theorem nC(hl:RE X WE l xl):RI X WE tg l (i_ xl):=⟨by
 intro pins s σ H Rr I h;obtain⟨μ,S,τ,hr,sr,p⟩:=h;refine thn (hl.h pins s σ H _ I ⟨μ,S,τ,hr,sr,p.bind (Q:=λv H1=>∃μ1 S1 z,HR μ1 S1 H1/\aF X.K X.mg μ1 S1 H1 v z/\aE (jr X.K X.mg) WE μ1 S1 H1 (match z with
   | .fd kvs=>.ok ⟨kvs.map λkv=>Vl.d (kD kv.1),none⟩ S1
   |_=>.bad) Rr) λv x S1 μ1 H1 st1 r1 p1=>⟨μ1,S1,x,st1.hr,r1,p1⟩⟩) λv s1 ⟨u,H1,I1,ru,μ1,S1,z,hr1,r1,p1⟩=>?_
 split at p1
 ·rename_i kvs;obtain⟨a,vs,o,rfl,l,h,rs⟩:=r1;have hH:=(aH h).2;cases ru;obtain⟨_,_,_,ws,rel,o',es,ep,e2,c,hd,rest⟩:=I1.hok a _ hH;have e1:s1.heap.get? a=some o:=(I1.hok a _ hH).1;rw[e1]at e2;cases e2;obtain⟨z2,z1,lk,ws,rel,da⟩:=nX I1.hok hd hH;have lv:=rel.length;refine wpAny_pyIter_dict z2 da ?_;refine⟨s1.heap.objs.size,[s1.heap.objs.size],_,_,H1,rfl,I1.kept (t':=s1.toks) λb o e=>Od _ e,AY a _ hd,⟨_,OA _ rfl,rfl,by rw[<-lv,lk];rfl⟩,λb hb=>?_,?_⟩
  ·rw[Og.mp hb];exact I1.lQ (Oj _) (I1.hok.fresh (Oj _))
  ·refine p1.here hr1 ⟨True.intro,?_,?_,?_,?_⟩
   ·have:((kvs.map (·.1)).zip vs).length=kvs.length:=by rw[PZ,Oa,l,QV]
    simp only[Oa];omega
   ·intro i z μ' S' H' st _ e;have hi:=(Ol.mp e).1;exact⟨_,(aH (st.vis _ _ h)).2,by rw[PZ,Oa,l,QV];simpa using hi⟩
   ·intro i z μ' S' H' x H2 st _ e y;obtain⟨rfl,y⟩:=y;obtain⟨k,v,e3,rfl⟩:=y _ (aH (st.vis _ _ h)).2;have hi:=(Ol.mp e).1;simp only[Oa]at hi;rw[Ox,gV hi]at e;cases e;have e4:kvs[i].1=k:=by
     rw[gV (by rw[PZ,Oa,l,QV];exact hi),Wx]at e3;simp only[YZ,Xt,Wy]at e3;exact e3.1
    rw[<-e4];exact⟨Step.refl st.hr,Am _⟩
   ·intro i μ' S' H' st _ hi;exact⟨_,(aH (st.vis _ _ h)).2,by rw[PZ,Oa,l,QV];simpa using hi⟩
 ·exact p1.elim⟩
end
section
variable{X:Cx}
def vi(N:Nat):List V->Hp->VK->Prop:=λvs H Q=>∃(p:Addr)(o:Obj)(kvs:List (Key×V))(ns:List Int),vs=[.ref p]/\H p=some (.frz o (.dK kvs))/\kvs.map (·.1)=ns.map Sum.inl/\ns.length<N/\∀(l:Addr)(ms:List Int),H l=none->List.Perm ms ns->ms.Pairwise (·<=·)->Q (.ref l) (upd H l (.lst (ms.map V.int)))
theorem pT:∀{vs:List Value}{ns:List Int},vs.length=ns.length->(∀(i:Nat)(v:Value)(n:Int),vs[i]?=some v->ns[i]?=some n->∃t,v=Value.int n t)->IntsAre vs ns
 | [],[],_,_=>.nil
 |v::vs,n::ns,l,h=>by
  obtain⟨t,rfl⟩:=h 0 v n rfl rfl;exact .cons n t (pT (by simpa using l) λi v' n' a b=>h (i+1) v' n' (by simpa using a) (by simpa using b))
theorem yz(T:nQ N)(hN:N<=301)(hc:X.calm=true):aX X (.builtin "sorted") (vi N):=by
 intro pins s σ H xs us Q I r h;obtain⟨p,o,kvs,ns,rfl,hH,hk,hl,q⟩:=h;obtain⟨u,rfl,rx⟩:=vals1 r;cases rx;have hh:=I.ok.hd hc;obtain⟨e1,_,_,_,_,o',es,ep,e2,_,hd,_⟩:=I.hok p _ hH;rw[e1]at e2;cases e2;obtain⟨z2,z1,lk,vs,rel,da⟩:=nX I.hok hd hH;have lv:=rel.length;have ln:kvs.length=ns.length:=by have:=Pq TF hk;simpa using this
 refine Sx Wl VS VT (VU _) ?_;unfold W8;refine ar ?_;unfold checkCount;refine Om rfl (Om rfl (Om rfl (C0 ?_)));refine ar (Vv (Wz (knd:=aK X.prog X.w) (kvs:=vs) (ep:=ep) z2) hh da ⋯ λh1 tk acc hkp hacc=>?_);have i1:IntsAre acc.toList ns:=by
  refine pT (by rw[OM,hacc.1];omega) λi v n hv hn=>?_;obtain⟨k,x,hx,hi⟩:=hacc.2 i v (by simpa using hv);obtain⟨w,hw⟩:=rel.get hx;have e3:(kvs.map (·.1))[i]?=some k:=by rw[Ox,hw];rfl
  rw[hk,Ox,hn]at e3;have e4:k=Sum.inl n:=(OV e3).symm;subst e4;exact uX (P:=X.prog) (w:=X.w) hi
 have l0:acc.toList.length=ns.length:=by rw[OM,hacc.1];omega
 refine ar (T3 ?_ (by rw[l0];exact Qb (dg ⋯)));refine ar (OO ?_);have hat:(h1.push (seqObj "list" acc.toList.toArray 0)).get? h1.objs.size=some (seqObj "list" acc.toList.toArray 0):=OA _ rfl;refine Pe U_ ⟨_,hat,rfl⟩ UI ?_ (Va _);refine T hat i1 ⋯ λout ms r1 r2 r3=>⟨_,rfl,C0 ⟨_,rfl,?_⟩⟩;obtain⟨c,hc2⟩:=Xq (out:=out) hat;have I1:Inv X pins σ H { s with heap:=h1,toks:=tk }:=I.kept (t':=tk) hkp;refine⟨.ref h1.objs.size,_,I1.laid (t':=tk) (a:=h1.objs.size) (o:=.lst (ms.map V.int)) (λb ob qb=>?_) (Oj _) ?_,rfl,q _ ms (I1.hok.fresh (Oj _)) r2 r3⟩
 ·have hb:b<h1.objs.size:=Ou qb;rw[W9 (OE hb) (by rw[Qz];exact Rn hb)];exact Od _ qb
 ·have hlm:ms.length=ns.length:=r2.length_eq;exact⟨by rw[Oa];have:(301:Nat)<=sizeLine:=(by decide);omega,out.toList,c,fq r1,by simpa using hc2⟩
theorem qy(hc:X.calm=true):aX X (.builtin "sorted") (vi 64):=yz Ao (by decide) hc
end
noncomputable def eD:List (Key×D)->Option (List Int)
 | []=>some []
 |(.inl i,_)::r=>(eD r).map (i::·)
 |_=>none
theorem qh:∀{kvs:List (Key×D)}{ns:List Int},eD kvs=some ns->kvs.map (·.1)=ns.map Sum.inl
 | [],_,e=>by cases e;rfl
 |(.inl i,_)::r,ns,e=>by
  simp only[eD,PB]at e;obtain⟨ms,e1,rfl⟩:=e;rw[Oq,Oq,qh e1]
 |(.inr _,_)::r,_,e=>by simp[eD]at e
noncomputable def nv(N:Nat)(xs:List Vl)(S:Sto):R Vl:=match xs with
 | [.fd kvs]=>(match eD kvs with
  |some ns=>if ns.length<N then .ok (.d (.lst ((sortI ns).map D.int))) S else .bad
  |none=>.bad)
 |_=>.bad
noncomputable abbrev i7:=nv 64
theorem rn{N:Nat}{K:Oh}{mg:Str->Option Value}:fU K mg (vi N) (nv N):=by
 intro WE μ S H vs xs Q hr rs p;unfold nv at p;split at p
 ·obtain⟨v,rfl,r⟩:=rs.one;split at p
  ·rename_i ns e;split at p
   ·rename_i hb;obtain⟨a,us,o,rfl,l,h,rr⟩:=r;refine⟨a,o,_,ns,rfl,(aH h).2,?_,hb,λl ms hl h1 h2=>?_⟩
    ·rw[WA (by simp[l])];exact qh e
    ·rw[pq h1 h2];exact p.l_ hr (ak.ints _) l hl
   ·exact p.elim
  ·exact p.elim
 ·exact p.elim
noncomputable def nD:List (XE×XE)->Nv->Sto->R (List (Vl×Vl))
 | [],_,S=>.ok [] S
 |(k,v)::r,τ,S=>(k τ S).bind λx S1=>(v τ S1).bind λy S2=>(nD r τ S2).bind λps S3=>.ok ((x,y)::ps) S3
noncomputable def iX:List (Vl×Vl)->Option (List (Key×D))
 | []=>some []
 |(.d x,.d y)::r=>(match dk x,iX r with
  |some k,some l=>some ((k,y)::l)
  |_,_=>none)
 |_=>none
noncomputable def cu(kvs more:List (Key×D)):List (Key×D):=more.foldl (λacc kv=>putD acc kv.1 kv.2) kvs
noncomputable def uz(ms:List (XE×XE)):XE:=λτ S=>(nD ms τ (S++[.dct []])).bind λps S2=>match iX ps,S2[S.length]? with
 |some l,some (.dct [])=>if l.length<=15 then .ok (.r S.length) (S2.set S.length (.dct (cu [] l)))else .bad
 |_,_=>.bad
noncomputable def trP(K:Oh)(mg:Str->Option Value)(WE:WX)(ms:List (XE×XE)):List (TE×TE):=ms.map λm=>(trE K mg WE m.1,trE K mg WE m.2)
structure RP(X:Cx)(WE:WX)(pos:Pos)(ks:List (Option Expr))(vs:List Expr)(ms:List (XE×XE)):Prop where
 h:PPs X pos ks vs (trP X.K X.mg WE ms)
section
variable{X:Cx}{WE:WX}{pos:Pos}
theorem Ie:RP X WE pos [] [] []:=⟨Gb⟩
theorem GZ(hk:RE X WE k xk)(hv:RE X WE v xv)(hr:RP X WE pos ks vs ms):RP X WE pos (some k::ks) (v::vs) ((xk,xv)::ms):=⟨DJ hk.h hv.h hr.h⟩
inductive qS(K:Oh)(mg:Str->Option Value)(μ:Nat->Addr)(S:Sto)(H:Hp):List (V×V)->List (Vl×Vl)->Prop
 |nil:qS K mg μ S H [] []
 |cons {v w:V} {x y:Vl} {vs:List (V×V)} {xs:List (Vl×Vl)}:aF K mg μ S H v x->aF K mg μ S H w y->qS K mg μ S H vs xs->qS K mg μ S H ((v,w)::vs) ((x,y)::xs)
theorem vS{K:Oh}{mg:Str->Option Value}:∀{ms:List (XE×XE)}{μ:Nat->Addr}{S:Sto}{H:Hp}{σ:St}{τ:Nv}{Q:List (V×V)->Hp->Prop},HR μ S H->bV K mg μ S H σ τ->aE (qS K mg) WE μ S H (nD ms τ S) Q->qw (trP K mg WE ms) σ H Q
 | [],μ,S,H,σ,τ,Q,hr,sr,p=>p.here hr .nil
 |(k,v)::r,μ,S,H,σ,τ,Q,hr,sr,p=>by
  refine⟨μ,S,τ,hr,sr,aE.bind (f:=λx S1=>(v τ S1).bind λy S2=>(nD r τ S2).bind λps S3=>.ok ((x,y)::ps) S3) p λa x S1 μ1 H1 st1 r1 p1=>⟨μ1,S1,τ,st1.hr,sr.step st1,p1.bind λb y S2 μ2 H2 st2 r2 p2=>?_⟩⟩;refine vS (ms:=r) st2.hr (sr.step (st1.trans st2)) (p2.bind λps zs S3 μ3 H3 st3 r3 p3=>?_);exact p3.here st3.hr (.cons (r1.step (st2.trans st3)) (r2.step st3) r3)
theorem tO{K:Oh}{mg:Str->Option Value}{μ:Nat->Addr}{S:Sto}{H:Hp}:∀{ps:List (V×V)}{zs:List (Vl×Vl)}{l:List (Key×D)},qS K mg μ S H ps zs->iX zs=some l->∃vs:List V,vs.length=l.length/\ps=((l.map (·.1)).zip vs).map (λkv=>(kV kv.1,kv.2))/\ak (vh μ S H) vs (l.map (·.2))
 |_,_,_,.nil,e=>by cases e;exact⟨[],rfl,rfl,.nil⟩
 |_,_,l,.cons (v:=v) (w:=w) (x:=x) (y:=y) r q t,e=>by
  cases x with
  |d x=>
   cases y with
   |d y=>
    simp only[iX]at e;split at e
    ·rename_i k l' hk hl;cases e;obtain⟨vs,l1,e1,rs⟩:=tO t hl;exact⟨w::vs,by simp[l1],by rw[e1,gq r hk];rfl,.cons q rs⟩
    ·cases e
   |_=>simp[iX]at e
  |_=>simp[iX]at e
theorem lH:∀{l kvs:List (Key×D)}{vs ws:List V},ak G vs (l.map (·.2))->ak G ws (kvs.map (·.2))->∃us,us.length=(cu kvs l).length/\bH ((kvs.map (·.1)).zip ws) ((l.map (·.1)).zip vs)=((cu kvs l).map (·.1)).zip us/\ak G us ((cu kvs l).map (·.2))
 | [],kvs,_,ws,.nil,r=>⟨ws,by have:=r.length;simpa[cu]using this,rfl,r⟩
 |p::l,kvs,_,ws,.cons (v:=v) (vs:=vs) h t,r=>by
  obtain⟨us,lu,eu,ru⟩:=z6 p.1 h r;obtain⟨us2,l2,e2,r2⟩:=lH (l:=l) (kvs:=putD kvs p.1 p.2) t ru;refine⟨us2,l2,?_,r2⟩;rw[<-eu]at e2;exact e2
theorem GC(h:RP X WE pos ks vs ms)(hall:ks.all (·.isSome)=true:=by rfl)(hl:ks.length=vs.length:=by rfl)(h0:ks≠[]:=by exact List.cons_ne_nil _ _)(h15:ks.length<=15:=by decide):RE X WE (.Dict ks vs pos) (uz ms):=
 ⟨(Gs h.h hall hl h0 h15).weak λσ H Q ⟨μ,S,τ,hr,sr,p⟩ a ha=>by
  have st0:Step μ S H (ext μ S.length a) (S++[.dct []]) (upd H a (.dK [])):=Step.alloc hr ha (ob:=.dct []) ⟨[],rfl,rfl,.nil⟩;refine vS (WE:=WE) st0.hr (sr.step st0) ((p.shift st0).bind λps zs S2 μ2 H2 st2 r2 p2=>?_)
  try dsimp only at p2
  split at p2
  ·rename_i l e1 e2;split at p2
   ·rename_i hl;have hμ:μ2 S.length=a:=by rw[st2.ag S.length (by simp),cw]
    obtain⟨ws,lw,e3,rs⟩:=st2.hr.ob _ _ e2;rw[hμ]at e3;obtain⟨vs,lv,rfl,rv⟩:=tO r2 e1;obtain⟨us,lu,eu,ru⟩:=lH (kvs:=[]) (ws:=[]) rv (ak.nil (H:=vh μ2 S2 H2));refine⟨by simpa using e3,_,rfl,?_,?_⟩
    ·rw[PZ,Oa,lv,QV];exact hl
    ·have st3:=Step.put st2.hr e2 (by simp) (ob:=.dct (cu [] l)) ⟨us,lu,rfl,ru⟩;rw[hμ,<-eu]at st3;exact p2 _ _ _ st3 ⟨by rw[hμ],by rw[PJ];have:=st2.le;simp at this;omega⟩
   ·exact p2.elim
  ·exact p2.elim⟩
end
noncomputable def mkP(xs:List Vl)(S:Sto):R Vl:=match xs with
 | [.d x,.r n]=>(match S[n]? with
  |some (.lst _)=>.ok (.pr x n) S
  |_=>.bad)
 |xs=>mkT xs S
noncomputable def dn(x y:Vl)(S:Sto):R Vl:=match x,y with
 | .pr d _,.d (.int 0)=>.ok (.d d) S
 | .pr _ n,.d (.int 1)=>.ok (.r n) S
 |x,y=>oIx x y S
section
variable{X:Cx}{WE:WX}{e:Expr}{es:List Expr}{pos:Pos}{K:Oh}{mg:Str->Option Value}
theorem xB(h:RA X WE es ts):RE X WE (.Tuple es k pos) (xN mkP ts):=
 ⟨(By h.h).weak λσ H Q ⟨μ,S,τ,hr,sr,p⟩=>⟨μ,S,τ,hr,sr,p.bind λvs xs S1 μ1 H1 st1 r1 p1=>by
  unfold mkP at p1;split at p1
  ·split at p1
   ·rename_i x n _ ys e;cases r1 with
    | @cons u0 _ _ _ a r1=>cases r1 with
     |cons b r1=>
      cases r1;obtain⟨rfl,hn⟩:=b;refine⟨by show 2<=sizeLine;decide,λq hq=>?_⟩;have st:=Step.new st1.hr hq (.tup [u0,.ref (μ1 n)]);exact p1 _ μ1 _ st ⟨q,_,rfl,bB ba (st1.hr.nal hq),Rep.mono st.vis a,hn⟩
   ·exact p1.elim
  ·unfold mkT at p1;split at p1
   ·rename_i ds e;split at p1
    ·have rs:=fR r1 e;refine⟨kh (by rw[rs.length];assumption),λq hq=>p1.sA st1.hr rs q hq⟩
    ·exact p1.elim
   ·exact p1.elim⟩⟩
theorem G6:cz K mg CU dn:=by
 intro WE μ S H v w x y Q hr rx ry p;unfold dn at p;split at p
 ·obtain⟨a,u,rfl,h,ru,hn⟩:=rx;rw[aM ry];exact⟨a,_,_,u,rfl,rfl,wL (aH h).2,rfl,p.here hr ru⟩
 ·obtain⟨a,u,rfl,h,ru,hn⟩:=rx;rw[aM ry];exact⟨a,_,_,_,rfl,rfl,wL (aH h).2,rfl,p.here hr ⟨rfl,hn⟩⟩
 ·exact Bl WE μ S H v w x y Q hr rx ry p
theorem Iu(ha:RE X WE a xa)(hb:RE X WE b xb)(hs:rQ b:=by exactλ_ _=>rfl):RE X WE (.Subscript a b pos) (xOp dn xa xb):=⟨(FI K2 ha.h hb.h hs).weak λ_ _ _ h=>two (X:=X) G6 h⟩
end
set_option maxRecDepth 100000
theorem BC(l:Addr)(items:Array Value):Meets (Builtin.«enumerate.__new__» ⟨[.type "enumerate",.ref l],[]⟩) (λ_ R s=>(∃o,s.heap.get? l=some o/\o.cls=.type "tuple"/\∃n,o.data=.seq items n) /\
   R (.ok (.ret (.ref (zT s.heap l).objs.size))) { s with heap:=(zT s.heap l).push { cls:=.type "enumerate",data:=.fields #[.none,.bool false,.ref s.heap.objs.size,rawInt 0,.none,.none] } }):=
 .of_wp λprog w A R s h=>by
  obtain⟨hp,g,d,tk,os⟩:=s;obtain⟨⟨⟨c,dct,dt,sl⟩,hl,hc,n,hd⟩,h⟩:=h
  replace hc:c=.type "tuple":=hc
  replace hd:dt=.seq items n:=hd
  subst hc hd;have hsub:=sub_enumerate;have hL:Ul (Wj ⟨hp,g,d,tk,os⟩) l items:=⟨_,hl,rfl,n,rfl⟩
  wp_walk using RD hl
  refine wpAny_stack_any λst=>C0 ?_;split
  ·rename_i c _ _ _ _ _;cases(c==Value.type "enumerate")
   ·wp_walk using RD hl,QN hL
    exact⟨_,rfl,h⟩
   ·wp_walk using RD hl,QN hL
    exact⟨_,rfl,h⟩
  ·wp_walk using RD hl,QN hL
   exact⟨_,rfl,h⟩
section
variable{prog:Program}{w:World}{A:Around}{E:Value->Shared->Prop}{s:Shared}
theorem yU(hL:s.heap.IsTuple l items)
  (h:∀h',IsEnum h' (s.heap.objs.size+1) s.heap.objs.size 0 .none->h'.IsTupleIter s.heap.objs.size l 0->(∀b o,s.heap.get? b=some o->h'.get? b=some o)->Q (.ref (s.heap.objs.size+1)) { s with heap:=h' }) :
  wpAny (model prog w) A (call (.type "enumerate") [.ref l]) Q E s:=by
 refine callType_new F.called_enumerate (by decide) (F.typeCall_enumerate_1 _) (F.newCall_enumerate_1 _) (λobj=>F.args_object_init_2 obj _) F.entry_enumerate_new (BC l items) ⟨hL,?_⟩;have hz:(zT s.heap l).objs.size=s.heap.objs.size+1:=Qz ..;have he:((zT s.heap l).push { cls:=.type "enumerate",data:=.fields #[.none,.bool false,.ref s.heap.objs.size,rawInt 0,.none,.none] }).get? (zT s.heap l).objs.size=some { cls:=.type "enumerate",data:=.fields #[.none,.bool false,.ref s.heap.objs.size,rawInt 0,.none,.none] }:=OA _ rfl;show _/\_;rw[hz]at he ⊢;exact⟨⟨_,he,rfl⟩,h _ he ⟨_,Od _ (OA _ rfl),rfl,rfl⟩ λb o e=>Od _ (Od _ e)⟩
end
noncomputable def Ip(t:Addr):It:=
 ⟨λi H=>∃xs x,H t=some (.tup xs)/\xs[i]?=some x,λi H x H'=>∃p y,H p=none/\x=.ref p/\H'=upd H p (.tup [.int i,y])/\∀xs,H t=some (.tup xs)->xs[i]?=some y,λi H=>∃xs,H t=some (.tup xs)/\xs.length=i⟩
theorem yH{P:Program}{w:World}{K:Oh}{es:List Expr}{kk:Nat}{tp:Pos}(l e it:Addr)(hne:e≠it)(hle:l≠e)(hli:l≠it) :
  Turn P w K (.Tuple es kk tp) (Ip l) [e,it] e (λi h=>(∃old,IsEnum h e it ((i:Nat):Int) old)/\h.IsTupleIter it l i)where
 mem:=by simp
 obj:=λi h st b hb=>by
  obtain⟨⟨old,he⟩,hit⟩:=st;rcases Ow.mp hb with z |z
  ·subst z;exact⟨_,he,λv z=>by
    have z':Data.fields _=Data.cell v:=z;cases z'⟩
  ·have z:b=it:=Og.mp z;subst z;obtain⟨o,q,_,d⟩:=hit;exact⟨o,q,λv z=>by rw[d]at z;cases z⟩
 keep:=λi h h' st k=>by
  obtain⟨⟨old,he⟩,hit⟩:=st;exact⟨⟨old,k e (by simp) _ he⟩,hit.at λo q=>k it (by simp) o q⟩
 item:=by
  intro X hP hw hK hc i pins s σ H E I hf st hg;subst hP hw hK;obtain⟨⟨old,he⟩,hit⟩:=st;obtain⟨xs,x,hq,hx⟩:=hg;obtain⟨its,rv,p,hz⟩:=I.tuple (SqT.of (K:=X.K) hq);obtain⟨u,hu,ru⟩:=rv.get hx;have hit':i<its.toArray.size:=by have:=(Ol.mp hu).1;simpa using this
  refine wpAny_pyNext_enum_itemD (kK (prog:=X.prog) (w:=X.w) (A:=X.A.in1) (I.ok.hd hc) it l hli its.toArray) he ⟨hit,p⟩ hit' hne (by simp[hne,Qg hle]) λu' h1 tk hu' ho1 st1 ht1 hz1 hk1=>?_;have e0:u'=u:=by
   have a1:its[i]?=some u':=by simpa using hu'
   rw[hu]at a1;exact(OV a1).symm
  subst e0;refine⟨_,rfl,TV (s:={ s with heap:=h1,toks:=tk+1 }) ho1 λh2 he2 hs2=>?_⟩;have helt:e<s.heap.objs.size:=Ou he;have ht2:h2.get? s.heap.objs.size=some { cls:=.type "tuple",data:=.seq #[.int i tk,u'] }:=hs2.extBut _ _ (Qc helt) ht1;have k2:∀b o,b∉[e,it]->s.heap.get? b=some o->h2.get? b=some o:=λb o hb q=>by
   have hb1:b≠e:=λz=>hb (by simp[z]);have hb2:b≠it:=λz=>hb (by simp[z]);exact hs2.extBut b o hb1 (hk1 b o hb1 hb2 q)
  have I2:Inv X pins σ (upd H s.heap.objs.size (.tup [.int i,x])) { s with heap:=h2,toks:=tk+1 }:=by
   refine I.vy (fp:=[e,it]) (Oj _) k2 hf ?_;exact⟨by show 2<=sizeLine;decide,[.int i tk,u'],.cons ⟨_,rfl⟩ (.cons ru .nil),⟨_,ht2,rfl,_,rfl⟩⟩
  refine⟨.ref s.heap.objs.size,_,I2,rfl,⟨s.heap.objs.size,x,I.hok.fresh (Oj _),rfl,rfl,λys hy=>by rw[hq]at hy;cases hy;exact hx⟩,⟨⟨_,by simpa using he2⟩,?_⟩,λb hb=>?_⟩
  ·exact st1.1.extBut hs2.extBut (Qg hne)
  ·have hlt:b<s.heap.objs.size:=by
    rcases Ow.mp hb with z |z
    ·rw[z];exact helt
    ·have z:b=it:=Og.mp z;subst z;obtain⟨o,q,_⟩:=hit;exact Ou q
   rw[aw (OE hlt)];exact(hf b hb).1
 done:=by
  intro X hP hw hK hc i pins s σ H E I hf st hg;subst hP hw hK;obtain⟨⟨old,he⟩,hit⟩:=st;obtain⟨xs,hq,hx⟩:=hg;obtain⟨its,rv,p,hz⟩:=I.tuple (SqT.of (K:=X.K) hq);have hl:=rv.length;obtain⟨f0,f1,f2,f3,f4,f5⟩:=hf it (by simp);exact wpAny_pyNext_enum_endD (kK (prog:=X.prog) (w:=X.w) (A:=X.A.in1) (I.ok.hd hc) it l hli its.toArray) he ⟨by rw[Ov,<-hl,hx];exact hit,p⟩ λh' eb=>⟨rfl,I.turned (t':=s.toks) (λb o hb e=>eb b o hb e) f0 f1 f3 f4 f5⟩
 self:=λ_ _ _ _ _ st h=>by
  obtain⟨⟨old,he⟩,_⟩:=st;exact SQ he h
noncomputable def yZ(e:XE):XI:=λτ S=>(e τ S).bind λz S1=>match z with
 | .d (.tup xs)=>.ok ⟨cB 0 xs,none⟩ S1
 |_=>.bad
section
variable{X:Cx}{WE:WX}{K:Oh}{mg:Str->Option Value}{μ:Nat->Addr}{S:Sto}{H:Hp}
theorem Dd(g:vh μ S H a=some (.tup vs))(rs:ak (vh μ S H) vs xs)(hz:vs.length<=sizeLine):jr K mg μ S H (Ip a) ⟨cB 0 xs,none⟩where
 ok:=True.intro
 len:=by simp only[gX];rw[<-rs.length];exact hz
 go:=λi z μ' S' H' st _ e=>by
  rw[di]at e;cases q:xs[i]? with
  |none=>rw[q]at e;cases e
  |some x=>
   obtain⟨u,e2,_⟩:=rs.get' q;exact⟨vs,u,(aH (st.vis _ _ g)).2,e2⟩
 yld:=λi z μ' S' H' u H2 st _ e y=>by
  obtain⟨p,w,hp,rfl,rfl,y⟩:=y;rw[di]at e;cases q:xs[i]? with
  |none=>rw[q]at e;cases e
  |some x=>
   rw[q]at e;cases e;have e2:=y vs (aH (st.vis _ _ g)).2;obtain⟨x',e3,r⟩:=rs.get e2;rw[q]at e3;cases e3;have st2:=Step.new st.hr hp (.tup [.int i,w]);refine⟨st2,Rep.tup (bB ba (st.hr.nal hp)) (.cons ?_ (.cons (Rep.mono (st.trans st2).vis r) .nil))⟩;rw[To];exact .int _
 stop:=λi μ' S' H' st _ hi=>⟨vs,(aH (st.vis _ _ g)).2,by rw[rs.length];rw[gX]at hi;exact hi⟩
end
section
variable{X:Cx}{WE:WX}
theorem Ez{es:List Expr}{kk:Nat}{tp:Pos}{l:Expr}{xl:XE}{p pos:Pos}(hg:Gl X "enumerate")(hm:X.mg "enumerate"=none)(hl:RE X WE l xl)(hb:bootBuiltins "enumerate"=some (.type "enumerate"):=by decide+kernel)
  (hs:starEach [l] X.env=[(false,eval l X.env)]:=by rfl):RI X WE (.Tuple es kk tp) (.Call (.Name "enumerate" p) [l] [] pos) (yZ xl):=⟨by
 intro pins s σ H R I h;obtain⟨μ,S,τ,hr,sr,pp⟩:=h;refine UB (cv I hg hm hb (O6 (thn ((eC hl.h h8 hs) pos pins s σ H (λvs H1=>∃x,vs=[x]/\∃μ1 S1 z,HR μ1 S1 H1/\aF X.K X.mg μ1 S1 H1 x z/\aE (jr X.K X.mg) WE μ1 S1 H1 (match z with
   | .d (.tup xs)=>.ok ⟨cB 0 xs,none⟩ S1
   |_=>.bad) R) I ?_) λus s1 ⟨vs,H1,I1,r1,q1⟩=>?_) hs rfl))
 ·exact⟨μ,S,τ,hr,sr,pp.bind λv x S1 μ1 H1 st1 r1 p1=>⟨v,rfl,μ1,S1,x,st1.hr,r1,p1⟩⟩
 ·obtain⟨x,e,μ1,S1,z,hr1,rz,p1⟩:=q1;subst e;obtain⟨u,rfl,ru⟩:=vals1 r1;split at p1
  ·obtain⟨a,us,rfl,h0,g,rs⟩:=fX rz;cases ru;obtain⟨its,rv,pl,hz⟩:=I1.tuple (SqT.of (K:=X.K) h0);have q:=p1.here hr1 (Dd g rs hz);have hlt:a<s1.heap.objs.size:=pl.lt;refine yU (show s1.heap.IsTuple a its.toArray from pl) λh' he hit hk=>?_;refine SQ (s:={ s1 with heap:=h' }) he ?_;have I2:Inv X pins σ H1 { s1 with heap:=h' }:=I1.kept (t':=s1.toks) hk;refine⟨s1.heap.objs.size+1,[s1.heap.objs.size+1,s1.heap.objs.size],_,_,H1,rfl,I2,yH a _ _ (Ww _) (OE (Rn hlt)) (OE hlt),⟨⟨_,he⟩,hit⟩,λb hb=>?_,q⟩;have hle:s1.heap.objs.size<=b:=by
    rcases Ow.mp hb with z |z
    ·rw[z];exact So _
    ·rw[Og.mp z];exact Oj _
   exact I1.lQ hle (I1.hok.fresh hle)
  ·exact p1.elim⟩
end
section
variable{prog:Program}{w:World}{A:Around}{E:Value->Shared->Prop}{s:Shared}{z TI TO i1 i2:Addr}{fp1 fp2:List Addr}{n1 n2 k:Nat}{P1 P2:Nat->Value->Prop}{S1 S2:Nat->Heap->Prop}
abbrev rp(h:Heap)(z TI TO T:Addr)(b:Bool):Prop:=h.get? z=some { cls:=.type "zip",dict:=none,data:=.fields #[rawInt T,.bool b,.bool false,.ref TI,.ref TO],slots:=#[] }
theorem Ai{T:Addr}{fl:Bool}{Q:Value->Shared->Prop}(D:cq z TI TO i1 i2 fp1 fp2)(D1:Draws prog w A i1 fp1 n1 P1 S1)(D2:Draws prog w A i2 fp2 n2 P2 S2)(hz:rp s.heap z TI TO T fl)(hT:∃o,s.heap.get? T=some o)(hTI:IsPair s.heap TI (.ref i1) (.ref i2))
  (h1:S1 k s.heap) (h2:S2 k s.heap) (l1:k<n1) (l2:k<n2)
  (hQ:∀x y h' tk,P1 k x->P2 k y->rp h' z TI TO T true->IsPair h' TI (.ref i1) (.ref i2)->S1 (k+1) h'->S2 (k+1) h'->IsPair h' s.heap.objs.size x y ->
   (∀c o,c≠z->c≠i1->c≠i2->s.heap.get? c=some o->h'.get? c=some o)->Q (.ref s.heap.objs.size) { s with heap:=h',toks:=tk }) :
  wpAny (model prog w) A (Builtin.«zip.__next__» ⟨[.ref z],[]⟩) (λfin s'=>∃v,fin=.done (.ret v)/\Q v s') E s:=by
 refine(show wpAny _ _ (field (.ref z) 2>>=_) _ _ _ from ar (O9 hz rfl (x:=.bool false) rfl ?_));refine(show wpAny _ _ (field (.ref z) 3>>=_) _ _ _ from ar (O9 hz rfl (x:=.ref TI) rfl ?_));refine ar (PU hTI rfl ?_);refine(show wpAny _ _ (Pa (.ref z)>>=_) _ _ _ from ar ?_);unfold Pa;refine ar (O9 hz rfl (x:=rawInt T) rfl ?_);refine(show wpAny _ _ (loadIfAlive ((T:Int)).toNat>>=_) _ _ _ from ar (eL ?_));rw[O0];obtain⟨oT,hoT⟩:=hT;rw[hoT];refine Om (by rfl) ?_;refine ar (O9 hz rfl (x:=.bool fl) rfl ?_);have sb:OR z s.heap s.heap:=⟨rfl,λ_ _=>rfl⟩;cases fl with
 |true=>
  refine Om (by rfl) (C0 ?_);refine Om (by rfl) ?_;simp only[<-Q_,Rf,R7];have hz0:=hz
  let g0:=s.heap
  have e0:OR z s.heap g0:=sb;have q1:S1 k g0:=D1.frame _ _ _ h1 λc hc o q=>e0.extBut c o (λy=>D.z1 (y▸hc)) q;have q2:S2 k g0:=D2.frame _ _ _ h2 λc hc o q=>e0.extBut c o (λy=>D.z2 (y▸hc)) q;refine ar (ar (ar (OO ?_)));refine(show wpAny _ _ (OL (.ref i1)>>=_) _ _ _ from ar (D1.item k _ _ _ l1 q1 λx g2 t2 p1 q1' e2=>C0 (C0 ?_)))
  replace e2:OR i1 g0 g2:=e2
  refine ar (ar (OO ?_));have r2:S2 k g2:=D2.frame _ _ _ q2 λc hc o q=>e2.extBut c o (λy=>D.i12 (y▸hc)) q;refine(show wpAny _ _ (OL (.ref i2)>>=_) _ _ _ from ar (D2.item k _ _ _ l2 r2 λy g4 t4 p2 r2' e4=>C0 (C0 (C0 ?_))))
  replace e4:OR i2 g2 g4:=e4
  refine ar (U3 ?_ (by show 2<=sizeLine;decide));have hsz:g4.objs.size=s.heap.objs.size:=by rw[e4.1,e2.1,e0.1]
  refine C0 ⟨_,rfl,?_⟩;show Q (.ref g4.objs.size) _;rw[hsz];have up:∀c o,g4.get? c=some o->(g4.push { cls:=.type "tuple",data:=.seq #[x,y] }).get? c=some o:=λc o q=>Od _ q;refine hQ x y _ _ p1 p2 (up _ _ (e4.extBut _ _ D.i2z.symm (e2.extBut _ _ D.i1z.symm hz0))) (up _ _ (e4.extBut _ _ D.TI2 (e2.extBut _ _ D.TI1 (e0.extBut _ _ D.TIz hTI)))) ?_ ?_ ?_ λc o c1 c3 c4 q=>up _ _ (e4.extBut _ _ c4 (e2.extBut _ _ c3 (e0.extBut _ _ c1 q)))
  ·exact D1.frame _ _ _ q1' λc hc o q=>up _ _ (e4.extBut c o (λy=>D.i21 (y▸hc)) q)
  ·exact D2.frame _ _ _ r2' λc hc o q=>up _ _ q
  ·rw[<-hsz];exact OA _ rfl
 |false=>
  refine PH (by rfl) (ar (PX hz (by simp) λg0 hz0 e0=>C0 ?_));refine Om (by rfl) ?_;simp only[<-Q_,Rf,R7];have q1:S1 k g0:=D1.frame _ _ _ h1 λc hc o q=>e0.extBut c o (λy=>D.z1 (y▸hc)) q;have q2:S2 k g0:=D2.frame _ _ _ h2 λc hc o q=>e0.extBut c o (λy=>D.z2 (y▸hc)) q;refine ar (ar (ar (OO ?_)));refine(show wpAny _ _ (OL (.ref i1)>>=_) _ _ _ from ar (D1.item k _ _ _ l1 q1 λx g2 t2 p1 q1' e2=>C0 (C0 ?_)))
  replace e2:OR i1 g0 g2:=e2
  refine ar (ar (OO ?_));have r2:S2 k g2:=D2.frame _ _ _ q2 λc hc o q=>e2.extBut c o (λy=>D.i12 (y▸hc)) q;refine(show wpAny _ _ (OL (.ref i2)>>=_) _ _ _ from ar (D2.item k _ _ _ l2 r2 λy g4 t4 p2 r2' e4=>C0 (C0 (C0 ?_))))
  replace e4:OR i2 g2 g4:=e4
  refine ar (U3 ?_ (by show 2<=sizeLine;decide));have hsz:g4.objs.size=s.heap.objs.size:=by rw[e4.1,e2.1,e0.1]
  refine C0 ⟨_,rfl,?_⟩;show Q (.ref g4.objs.size) _;rw[hsz];have up:∀c o,g4.get? c=some o->(g4.push { cls:=.type "tuple",data:=.seq #[x,y] }).get? c=some o:=λc o q=>Od _ q;refine hQ x y _ _ p1 p2 (up _ _ (e4.extBut _ _ D.i2z.symm (e2.extBut _ _ D.i1z.symm hz0))) (up _ _ (e4.extBut _ _ D.TI2 (e2.extBut _ _ D.TI1 (e0.extBut _ _ D.TIz hTI)))) ?_ ?_ ?_ λc o c1 c3 c4 q=>up _ _ (e4.extBut _ _ c4 (e2.extBut _ _ c3 (e0.extBut _ _ c1 q)))
  ·exact D1.frame _ _ _ q1' λc hc o q=>up _ _ (e4.extBut c o (λy=>D.i21 (y▸hc)) q)
  ·exact D2.frame _ _ _ r2' λc hc o q=>up _ _ q
  ·rw[<-hsz];exact OA _ rfl
theorem Ds(D:cq z TI TO i1 i2 fp1 fp2)(D1:Draws prog w A i1 fp1 n1 P1 S1)(D2:Draws prog w A i2 fp2 n2 P2 S2)(hz:rp s.heap z TI TO T fl)(hT:∃o,s.heap.get? T=some o)(hTI:IsPair s.heap TI (.ref i1) (.ref i2))
  (h1:S1 k s.heap) (h2:S2 k s.heap) (hend:k=n1\/(k<n1/\k=n2))
  (hE:∀h' e tk,(∀c o,c≠z->c≠TO->c≠i1->c≠i2->s.heap.get? c=some o->h'.get? c=some o)->(∃o,h'.get? e=some o/\o.cls=.type "StopIteration")->E (.ref e) { s with heap:=h',toks:=tk }) :
  wpAny (model prog w) A (Builtin.«zip.__next__» ⟨[.ref z],[]⟩) Q E s:=by
 refine(show wpAny _ _ (field (.ref z) 2>>=_) _ _ _ from ar (O9 hz rfl (x:=.bool false) rfl ?_));refine(show wpAny _ _ (field (.ref z) 3>>=_) _ _ _ from ar (O9 hz rfl (x:=.ref TI) rfl ?_));refine ar (PU hTI rfl ?_);refine(show wpAny _ _ (Pa (.ref z)>>=_) _ _ _ from ar ?_);unfold Pa;refine ar (O9 hz rfl (x:=rawInt T) rfl ?_);refine(show wpAny _ _ (loadIfAlive ((T:Int)).toNat>>=_) _ _ _ from ar (eL ?_));rw[O0];obtain⟨oT,hoT⟩:=hT;rw[hoT];refine Om (by rfl) ?_;refine ar (O9 hz rfl (x:=.bool fl) rfl ?_);have sb:OR z s.heap s.heap:=⟨rfl,λ_ _=>rfl⟩;cases fl with
 |true=>
  refine Om (by rfl) (C0 ?_);refine Om (by rfl) ?_;simp only[<-Q_,Rf,R7];have hz0:=hz
  let g0:=s.heap
  have e0:OR z s.heap g0:=sb;have q1:S1 k g0:=D1.frame _ _ _ h1 λc hc o q=>e0.extBut c o (λy=>D.z1 (y▸hc)) q;have q2:S2 k g0:=D2.frame _ _ _ h2 λc hc o q=>e0.extBut c o (λy=>D.z2 (y▸hc)) q;refine ar (ar (ar (OO ?_)));rcases hend with hk |⟨hk,hk2⟩
  ·subst hk;refine(show wpAny _ _ (OL (.ref i1)>>=_) _ _ _ from ar (D1.done _ _ _ q1 λg2 e e2 he=>?_))
   replace e2:RU i1 g0 g2:=e2
   exact hE g2 e _ (λc o c1 _ c3 _ q=>e2 _ _ c3 (e0.extBut _ _ c1 q)) he
  ·subst hk2;refine(show wpAny _ _ (OL (.ref i1)>>=_) _ _ _ from ar (D1.item k _ _ _ hk q1 λx g2 t2 p1 q1' e2=>C0 (C0 ?_)))
   replace e2:OR i1 g0 g2:=e2
   refine ar (ar (OO ?_));have r2:S2 k g2:=D2.frame _ _ _ q2 λc hc o q=>e2.extBut c o (λy=>D.i12 (y▸hc)) q;refine(show wpAny _ _ (OL (.ref i2)>>=_) _ _ _ from ar (D2.done _ _ _ r2 λg4 e e4 he=>?_))
   replace e4:RU i2 g2 g4:=e4
   exact hE g4 e _ (λc o c1 _ c3 c4 q=>e4 _ _ c4 (e2.extBut _ _ c3 (e0.extBut _ _ c1 q))) he
 |false=>
  refine PH (by rfl) (ar (PX hz (by simp) λg0 hz0 e0=>C0 ?_));refine Om (by rfl) ?_;simp only[<-Q_,Rf,R7];have q1:S1 k g0:=D1.frame _ _ _ h1 λc hc o q=>e0.extBut c o (λy=>D.z1 (y▸hc)) q;have q2:S2 k g0:=D2.frame _ _ _ h2 λc hc o q=>e0.extBut c o (λy=>D.z2 (y▸hc)) q;refine ar (ar (ar (OO ?_)));rcases hend with hk |⟨hk,hk2⟩
  ·subst hk;refine(show wpAny _ _ (OL (.ref i1)>>=_) _ _ _ from ar (D1.done _ _ _ q1 λg2 e e2 he=>?_))
   replace e2:RU i1 g0 g2:=e2
   exact hE g2 e _ (λc o c1 _ c3 _ q=>e2 _ _ c3 (e0.extBut _ _ c1 q)) he
  ·subst hk2;refine(show wpAny _ _ (OL (.ref i1)>>=_) _ _ _ from ar (D1.item k _ _ _ hk q1 λx g2 t2 p1 q1' e2=>C0 (C0 ?_)))
   replace e2:OR i1 g0 g2:=e2
   refine ar (ar (OO ?_));have r2:S2 k g2:=D2.frame _ _ _ q2 λc hc o q=>e2.extBut c o (λy=>D.i12 (y▸hc)) q;refine(show wpAny _ _ (OL (.ref i2)>>=_) _ _ _ from ar (D2.done _ _ _ r2 λg4 e e4 he=>?_))
   replace e4:RU i2 g2 g4:=e4
   exact hE g4 e _ (λc o c1 _ c3 c4 q=>e4 _ _ c4 (e2.extBut _ _ c3 (e0.extBut _ _ c1 q))) he
end
set_option maxRecDepth 100000
theorem ik:entryFor table "dict.update.loop"=some Builtin.«dict.update.loop»:=Wt (by rfl)
theorem cZ:plainId "dict.update.loop"=true:=by decide+kernel
structure yC(prog:Program)(w:World)(A:Around)(I d:Addr)(wr:List Addr)(ps:List (Key×V))(St:Nat->Heap->Prop):Prop where
 nd:d∉wr
 frame:∀i h h',St i h->(∀b o,b≠d->h.get? b=some o->h'.get? b=some o)->St i h'
 item:∀i(s:Shared)(Q:Option Value->Shared->Prop)(E:Value->Shared->Prop),i<ps.length->St i s.heap->d<s.heap.objs.size ->
  (∀T k v x y h' tk,ps[i]?=some (k,v)->(aK prog w).is k x=true->RelV v y->h'.IsTuple T #[x,y]->St (i+1) h'->(∀b o,b∉wr->s.heap.get? b=some o->h'.get? b=some o)->Q (some (.ref T)) { s with heap:=h',toks:=tk }) ->
  wpAny (model prog w) A (pyNext (.ref I)) Q E s
 done:∀(s:Shared)(Q:Option Value->Shared->Prop)(E:Value->Shared->Prop),St ps.length s.heap->(∀h' tk,(∀b o,b∉wr->s.heap.get? b=some o->h'.get? b=some o)->Q none { s with heap:=h',toks:=tk })->wpAny (model prog w) A (pyNext (.ref I)) Q E s
theorem xp(kvs:List (Key×V))(ps:List (Key×V))(k:Key)(v:V):bH kvs (ps++[(k,v)])=putK (bH kvs ps) k v:=by simp[bH,Rp]
theorem wZ{prog:Program}{w:World}{A:Around}{I d:Addr}{wr:List Addr}{ps:List (Key×V)}{St:Nat->Heap->Prop}{R:Result->Shared->Prop}(W:yC prog w A.in1 I d wr ps St)(hn:ps.length<=100000)(res:Value) :
  ∀(k i:Nat)(t:Tok)(s:Shared)(kvs:List (Key×Value)),ps.length-i=k->i<=ps.length->St i s.heap->s.heap.DictOf (aK prog w) d kvs->KV (bH [] (ps.take i)) kvs ->
  (∀h' tk kvs',h'.DictOf (aK prog w) d kvs'->KV (bH [] ps) kvs'->(∀b o,b≠d->b∉wr->s.heap.get? b=some o->h'.get? b=some o)->R (.ok (.ret res)) { s with heap:=h',toks:=tk }) ->
  codeAny (model prog w) A (.builtin "dict.update.loop" ⟨[.ref d,.ref I,.int i t,res],[]⟩) R s:=by
 intro k
 induction k with
 |zero=>
  intro i t s kvs hk hi hst hd hkv hR;have hin:i=ps.length:=by omega
  subst hin;rw[OD]at hkv;refine Qr ik ?_;rw[QA cZ _];show wpAny _ A.in1 (pyNext (.ref I)>>=_) _ _ s;refine ar (W.done s _ _ hst λh' tk hkp=>?_);refine ar (C0 (C0 ?_));obtain⟨o,es,ep,ho,r⟩:=hd;exact hR h' tk kvs ⟨o,es,ep,hkp d o W.nd ho,r⟩ hkv λb o _ hb e=>hkp b o hb e
 |succ k ih=>
  intro i t s kvs hk hi hst hd hkv hR;have hlt:i<ps.length:=by omega
  refine Qr ik ?_;rw[QA cZ _];show wpAny _ A.in1 (pyNext (.ref I)>>=_) _ _ s;have hdl:d<s.heap.objs.size:=by obtain⟨o,es,ep,ho,r⟩:=hd;exact Ou ho
  refine ar (W.item i s _ _ hlt hst hdl λT key v x y h' tk hps hkey hv hT hst' hkp=>?_);have hd':h'.DictOf (aK prog w) d kvs:=by obtain⟨o,es,ep,ho,r⟩:=hd;exact⟨o,es,ep,hkp d o W.nd ho,r⟩
  have htk:ps.take (i+1)=ps.take i++[(key,v)]:=by rw[R1,hps];rfl
  have hkv':KV (bH [] (ps.take (i+1))) (stored kvs key y):=by
   rw[htk,xp];exact hkv.put key hv
  obtain⟨oT,hoT,hcT,nT,hdT⟩:=hT;refine ar (OO (ar (wpAny_tryCatch ?_)));unfold Yk;refine ar (Qd (T:="tuple") ⟨oT,hoT,hcT⟩ ?_);refine PH (by rfl) ?_;refine ar (PU hoT hdT (C0 ?_));have lk:kvs.length<=sizeLine:=by
   have l1:=hkv.length;have l2:=dA (ps.take i) [];rw[Pd,Qf]at l2;rw[QT];omega
  refine OO (wpAny_dictSet_pairs (knd:=aK prog w) (hsz:=lk) hkey hd' λh2 hd2 hs2=>?_);refine C0 ⟨Sn cZ _,?_⟩;refine ih (i+1) _ _ _ ⋯ hlt (W.frame _ _ _ hst' λb o hb e=>(hs2.2 b hb).trans e) hd2 hkv' λh3 tk3 kvs3 a b c=>hR h3 tk3 kvs3 a b λb' o hb hw e=>c b' o hb hw ((hs2.2 b' hb).trans (hkp b' o hw e))
theorem u_:entryFor table "zip.__getattribute__"=some Builtin.«object.__getattribute__»:=U8 (id':="object.__getattribute__") (by rfl) (by decide+kernel) (by decide+kernel) (by rfl)
theorem wW:typeLookup (.type "zip") "keys"=pure none:=by rw[Sv,Rg];rfl
theorem sk:typeLookup (.type "zip") "__getattr__"=pure none:=by rw[Sv,Rg];rfl
theorem vf:typeLookup (.type "list") "keys"=pure none:=by rw[Sv,Rg];rfl
theorem Dr(a:Addr)(vs:Array Value)(u:Tok):Meets (Builtin.«object.__getattribute__» ⟨[.ref a,.str "keys" u],[]⟩) (λA R s=>s.heap.get? a=some { cls:=.type "zip",dict:=none,data:=.fields vs,slots:=#[] }/\raisesAttr (.ref a) "keys" A R s):=
 Meets.of_wp λprog w A R s hs=>by
  obtain⟨hp,g,d,tk,os⟩:=s;obtain⟨hx,hs⟩:=hs;have hT:(⟨hp,g,d,tk,os⟩:Shared).TypeIs (.ref a) "zip":=⟨_,hx,rfl⟩;have hmiss:=wW;unfold Builtin.«object.__getattribute__»
  repeat (any_goals (first |assumption |wp_step))
  exact wpAny_raiseAttrError hs.1 hs.2 (attrMsg_fits (by decide+kernel) (by decide+kernel))
theorem C_(hx:s.heap.get? a=some { cls:=.type "zip",dict:=none,data:=.fields vs,slots:=#[] })(hA:A.handled=none)
  (h:∀h' tk,(∀b o,s.heap.get? b=some o->h'.get? b=some o)->Q none { s with heap:=h',toks:=tk }):wpAny (model prog w) A (getAttr? (.ref a) "keys") Q E s:=by
 obtain⟨hp,g,d,tk,os⟩:=s;have hT:∀tk',(⟨hp,g,d,tk',os⟩:Shared).TypeIs (.ref a) "zip":=λ_=>⟨_,hx,rfl⟩;have f1:=VY;have f3:=SN.lookup;have f4:=SN.bind (.ref a);have f5:=sk;unfold getAttr? getAttrBy? getAttrBy
 repeat (any_goals (first |assumption |exact hT _ |((with_reducible show wpAny _ _ (call (Value.builtin "zip.__getattribute__") _ _) _ _ _);refine Ua SN (hT _) u_ (F.args_zip_getattribute_2 _ _) (Dr a vs _) ⟨hx,hA,λh' tk' e hx'=>?_⟩) |wp_step))
 obtain⟨t',u',he⟩:=hx'.there;show wpAny _ _ (getattributeRaised _ _ _ _ _ _ _) _ _ _;unfold getattributeRaised
 repeat (any_goals (first |assumption |wp_step))
 exact h _ _ hx'.keeps
theorem BO(hx:s.heap.get? a=some { cls:=.type "list",dict:=none,data:=.seq xs k,slots:=#[] })(hA:A.handled=none)
  (h:∀h' tk,(∀b o,s.heap.get? b=some o->h'.get? b=some o)->Q none { s with heap:=h',toks:=tk }):wpAny (model prog w) A (getAttr? (.ref a) "keys") Q E s:=by
 obtain⟨hp,g,d,tk,os⟩:=s;have hT:∀tk',(⟨hp,g,d,tk',os⟩:Shared).TypeIs (.ref a) "list":=λ_=>⟨_,hx,rfl⟩;have f1:=VY;have f3:=SE.lookup;have f4:=SE.bind (.ref a);have f5:=am_list_getattr_none;unfold getAttr? getAttrBy? getAttrBy
 repeat (any_goals (first |assumption |exact hT _ |((with_reducible show wpAny _ _ (call (Value.builtin "list.__getattribute__") _ _) _ _ _);refine Ua SE (hT _) am_entry_list_getattribute (F.args_list_getattribute_2 _ _) (meets_getattribute_miss_list a xs k #[] "keys" _ vf (by decide+kernel) (by decide+kernel)) ⟨hx,hA,λh' tk' e hx'=>?_⟩) |wp_step))
 obtain⟨t',u',he⟩:=hx'.there;show wpAny _ _ (getattributeRaised _ _ _ _ _ _ _) _ _ _;unfold getattributeRaised
 repeat (any_goals (first |assumption |wp_step))
 exact h _ _ hx'.keeps
set_option maxRecDepth 100000
section
variable{prog:Program}{w:World}{A:Around}{E:Value->Shared->Prop}{s:Shared}
theorem pf{src:Addr}{ps:List (Key×V)}{T:String}{wr0:List Addr}{Q:Value->Shared->Prop}(hh:A.handled=none)(hn:ps.length<=100000)(hT:∀s':Shared,(∀b o,s.heap.get? b=some o->s'.heap.get? b=some o)->s'.TypeIs (.ref src) T)(hne:(Value.type T==Value.type "dict")=false)
  (hkeys:∀(s':Shared)(A':Around)(E':Value->Shared->Prop)(Q':Option Value->Shared->Prop),(∀b o,s.heap.get? b=some o->s'.heap.get? b=some o)->A'.handled=none->(∀h' tk,(∀b o,s'.heap.get? b=some o->h'.get? b=some o)->Q' none { s' with heap:=h',toks:=tk })->wpAny (model prog w) A' (getAttr? (.ref src) "keys") Q' E' s')
  (hit:∀(s':Shared)(A':Around)(E':Value->Shared->Prop)(Q':Value->Shared->Prop),(∀b o,s.heap.get? b=some o->s'.heap.get? b=some o)->s.heap.objs.size<s'.heap.objs.size->(∀(I:Addr)(wr:List Addr)(St:Nat->Heap->Prop) h' tk,(∀b o,s'.heap.get? b=some o->h'.get? b=some o)->St 0 h'->(∀b o,b∉wr0->s.heap.get? b=some o->b∉wr)->(∀A'':Around,A''.handled=none->yC prog w A'' I s.heap.objs.size wr ps St)->Q' (.ref I) { s' with heap:=h',toks:=tk })->wpAny (model prog w) A' (pyIter (.ref src)) Q' E' s')
  (h:∀h' tk kvs',h'.DictOf (aK prog w) s.heap.objs.size kvs'->KV (bH [] ps) kvs'->(∀b o,b∉wr0->s.heap.get? b=some o->h'.get? b=some o)->Q (.ref s.heap.objs.size) { s with heap:=h',toks:=tk }) :
  wpAny (model prog w) A (call (.type "dict") [.ref src]) Q E s:=by
 refine callType_codes (Q₁:=λobj s1=>obj=.ref s.heap.objs.size/\s1={ s with heap:=s.heap.push { cls:=.type "dict",data:=.dict #[] } }) F.kt_called_dict (F.kt_typeCall_dict_1 _) F.entry_dict_init (kt_code_dict_new _ ⟨rfl,rfl⟩) ?_;rintro obj s1 ⟨rfl,rfl⟩;have hnew:(s.heap.push { cls:=.type "dict",data:=.dict #[] }).DictOf (aK prog w) s.heap.objs.size []:=WT s.heap;have up:∀b o,s.heap.get? b=some o->(s.heap.push { cls:=.type "dict",data:=.dict #[] }).get? b=some o:=λb o e=>Od _ e;refine⟨hnew.typeIs,F.args_dict_init_2 _ _,?_⟩;unfold Builtin.«dict.__init__»;refine ar ?_;unfold Yd;refine ar (wpAny_notOrdered_dict hnew.typeIs ?_);show wpAny _ _ (pure (s.heap.objs.size,[Value.ref src])) _ _ _;refine C0 ?_;show wpAny _ _ (Uy "dict.__init__" s.heap.objs.size (.ref src) [] .none) _ _ _;unfold Uy;refine ar (Qd (hT _ up) ?_);refine PH (by show decide ((Value.type T != Value.type "dict")=true)=true;simp[bne,hne]) ?_;refine ar (hkeys _ _ _ _ up hh λh1 t1 k1=>?_);refine PH rfl (ar (Tc (ar ?_)));refine hit _ _ _ _ (λb o e=>k1 b o (up b o e)) ?_ λI wr St h2 t2 k2 st2 hw W=>C0 ⟨Sn cZ _,?_⟩
 ·have e0:(s.heap.push { cls:=.type "dict",data:=.dict #[] }).get? s.heap.objs.size=some _:=OA _ rfl;exact Ou (k1 _ _ e0)
 ·have hd2:h2.DictOf (aK prog w) s.heap.objs.size []:=by
   obtain⟨o,es,ep,ho,r⟩:=hnew;exact⟨o,es,ep,k2 _ _ (k1 _ _ ho),r⟩
  refine wZ (W A.in1.in1 hh) hn .none ps.length 0 _ _ [] rfl (QF _) st2 hd2 .nil λh3 t3 kvs3 d3 r3 k3=>⟨rfl,h h3 t3 kvs3 d3 r3 λb o hb e=>k3 b o (OE (Ou e)) (hw b o hb e) (k2 b o (k1 b o (up b o e)))⟩
end
def StZ(d z TI TO i1 i2:Addr)(S1 S2:Nat->Heap->Prop)(i:Nat)(h:Heap):Prop:=IsPair h TI (.ref i1) (.ref i2)/\S1 i h/\S2 i h/\((IsZip h z TI TO .none/\∃a b,IsPair h TO a b)\/∃T fl,T∉[d,z,TO,i1,i2]/\rp h z TI TO T fl/\∃o,h.get? T=some o)
theorem FQ{prog:Program}{w:World}{A:Around}{d z TI TO i1 i2 t u:Addr}{xs ys:Array Value}{ks:List Key}{vs:List V}(hh:A.handled=none)(D:cq z TI TO i1 i2 [i1,t] [i2,u])(n1:t≠i1)(n2:u≠i2)(hd:d∉[z,TI,TO,i1,i2,t,u])
  (rk:Vals (ks.map kV) xs.toList) (rv:Vals vs ys.toList):yC prog w A z d [z,TO,i1,i2] (ks.zip vs) (StZ d z TI TO i1 i2 (λi h=>h.IsTupleIter i1 t i/\h.IsTuple t xs) (λi h=>h.IsTupleIter i2 u i/\h.IsTuple u ys))where
 nd:=λh=>hd (by simp only[Ow,P4,Rz]at h ⊢;rcases h with h |h |h |h<;>simp[h])
 frame:=λi h h' st k=>by
  simp only[Ow,P4,Rz,not_or]at hd;obtain⟨d1,d2,d3,d4,d5,d6,d7⟩:=hd;obtain⟨a,⟨b1,b2⟩,⟨c1,c2⟩,e⟩:=st;refine⟨k _ _ (Qg d2) a,⟨b1.at λo q=>k _ o (Qg d4) q,b2.at λo q=>k _ o (Qg d6) q⟩,⟨c1.at λo q=>k _ o (Qg d5) q,c2.at λo q=>k _ o (Qg d7) q⟩,?_⟩;rcases e with⟨e1,x,y,e2⟩ |⟨T,fl,e1,e2,o,e3⟩
  ·exact .inl ⟨k _ _ (Qg d1) e1,x,y,k _ _ (Qg d3) e2⟩
  ·exact .inr ⟨T,fl,e1,k _ _ (Qg d1) e2,o,k _ _ (λz=>e1 (by simp[z])) e3⟩
 item:=λi s Q E hi st hlt hQ=>by
  obtain⟨a,b,c,e⟩:=st;have lk:ks.length=xs.size:=by have:=rk.length;simpa using this
  have lv:vs.length=ys.size:=by have:=rv.length;simpa using this
  rw[PZ]at hi;have l1:i<xs.size:=by omega
  have l2:i<ys.size:=by omega
  have dw1:=kK (prog:=prog) (w:=w) (A:=A.in1) hh i1 t n1 xs;have dw2:=kK (prog:=prog) (w:=w) (A:=A.in1) hh i2 u n2 ys;have get:∀x y,xs[i]?=some x->ys[i]?=some y->∃k v,(ks.zip vs)[i]?=some (k,v)/\(aK prog w).is k x=true/\RelV v y:=λx y hx hy=>by
   have hk:ks[i]?=some (ks[i]'⋯):=gV _;have hv:vs[i]?=some (vs[i]'⋯):=gV _;obtain⟨x',e1,r1⟩:=rk.get (x:=kV (ks[i]'⋯)) (by rw[Ox,hk];rfl);obtain⟨y',e2,r2⟩:=rv.get hv;rw[PF,hx]at e1;rw[PF,hy]at e2;cases e1;cases e2;exact⟨_,_,by rw[Ub];exact⟨hk,hv⟩,iI r1,r2⟩
  rcases e with⟨e1,x0,y0,e2⟩ |⟨T,fl,e1,e2,e3⟩
  ·refine A_ D dw1 dw2 e1 (.inl rfl) a e2 b c l1 l2 λx y h' tk px py g1 g2 g3 g4 g5 g6 g7 g8=>?_;obtain⟨k,v,q1,q2,q3⟩:=get x y px py;refine hQ _ k v x y h' tk q1 q2 q3 ⟨_,g6,rfl,_,rfl⟩ ⟨g2,g4,g5,.inr ⟨_,false,?_,g1,_,g6⟩⟩ λb' o hb q=>g8 b' o (λz=>hb (by simp[z])) (λz=>hb (by simp[z])) (λz=>hb (by simp[z])) (λz=>hb (by simp[z])) q;obtain⟨⟨o1,b1,_⟩,_⟩:=b;obtain⟨⟨o2,c1,_⟩,_⟩:=c;have:=Ou b1;have:=Ou c1;have:=Ou e1;have:=Ou e2;simp only[Ow,P4,Rz,not_or];exact⟨Qc hlt,Qc (Ou e1),Qc (Ou e2),Qc (Ou b1),Qc (Ou c1)⟩
  ·have hT:s.TypeIs (.ref z) "zip":=⟨_,e2,rfl⟩;unfold pyNext;refine ar (Sm (Pc (name:=OS "__next__") hT QW (Pe QW hT SX (Ai D dw1 dw2 e2 e3 a b c l1 l2 λx y h' tk px py g1 g2 g4 g5 g6 g8=>C0 ?_) (SR _))));obtain⟨k,v,q1,q2,q3⟩:=get x y px py;obtain⟨oT,hoT⟩:=e3;refine hQ _ k v x y h' tk q1 q2 q3 ⟨_,g6,rfl,_,rfl⟩ ⟨g2,g4,g5,?_⟩ λb' o hb q=>g8 b' o (λz=>hb (by simp[z])) (λz=>hb (by simp[z])) (λz=>hb (by simp[z])) q;have e1':=e1;simp only[Ow,P4,Rz,not_or]at e1';exact .inr ⟨T,true,e1,g1,oT,g8 T oT e1'.2.1 e1'.2.2.2.1 e1'.2.2.2.2 hoT⟩
 done:=λs Q E st hQ=>by
  obtain⟨a,b,c,e⟩:=st;have lk:ks.length=xs.size:=by have:=rk.length;simpa using this
  have lv:vs.length=ys.size:=by have:=rv.length;simpa using this
  have dw1:=kK (prog:=prog) (w:=w) (A:=A.in1) hh i1 t n1 xs;have dw2:=kK (prog:=prog) (w:=w) (A:=A.in1) hh i2 u n2 ys;have hend:(ks.zip vs).length=xs.size\/((ks.zip vs).length<xs.size/\(ks.zip vs).length=ys.size):=by rw[PZ];omega
  have kp:∀{h':Heap},(∀c o,c≠z->c≠TO->c≠i1->c≠i2->s.heap.get? c=some o->h'.get? c=some o)->∀b o,b∉[z,TO,i1,i2]->s.heap.get? b=some o->h'.get? b=some o:=λk b' o hb q=>k b' o (λz=>hb (by simp[z])) (λz=>hb (by simp[z])) (λz=>hb (by simp[z])) (λz=>hb (by simp[z])) q;rcases e with⟨e1,x0,y0,e2⟩ |⟨T,fl,e1,e2,e3⟩
  ·exact DI D dw1 dw2 e1 (.inl rfl) a e2 b c hend λh' tk k=>hQ h' tk (kp k)
  ·have hT:s.TypeIs (.ref z) "zip":=⟨_,e2,rfl⟩;unfold pyNext;refine ar (Sm (Pc (name:=OS "__next__") hT QW (Pe QW hT SX (Ds D dw1 dw2 e2 e3 a b c hend λh' e tk k he=>?_) (SR _))));obtain⟨o,ho,hc⟩:=he;exact ar (Qu (T:="StopIteration") (b:=true) ⟨o,ho,hc⟩ U4 (C0 (hQ _ tk (kp k))))
noncomputable def tDZ(ta:TA):TE:=λσ H Q=>ta σ H λvs H1=>∃t u ks ys,vs=[.ref t,.ref u]/\H1 t=some (.tup (Ye kV ks))/\H1 u=some (.tup ys)/\(ks.zip ys).length<=100000/\∀p,H1 p=none->Q (.ref p) (upd H1 p (.dK (bH [] (ks.zip ys))))
section
variable{X:Cx}
theorem zS{a b:Expr}{ta:TA}{p1 p2 pos1 pos2:Pos}(hc:X.calm=true)(hgd:Gl X "dict")(hmd:X.mg "dict"=none)(hgz:Gl X "zip")(hmz:X.mg "zip"=none)(hbd:bootBuiltins "dict"=some (.type "dict"))(hbz:bootBuiltins "zip"=some (.type "zip"))(ha:PA X [a,b] ta)
  (hs:starEach [a,b] X.env=[(false,eval a X.env),(false,eval b X.env)]:=by rfl) (hs2:starEach [b] X.env=[(false,eval b X.env)]:=by rfl)
  (hs3:starEach [Expr.Call (.Name "zip" p2) [a,b] [] pos2] X.env=(false,eval (Expr.Call (.Name "zip" p2) [a,b] [] pos2) X.env)::starEach [] X.env:=by rfl) :
  PE X (.Call (.Name "dict" p1) [.Call (.Name "zip" p2) [a,b] [] pos2] [] pos1) (tDZ ta):=by
 intro pins s σ H Q I h;refine UB (cv I hgd hmd hbd (O6 ?_ hs3 rfl));rw[hs3];show wpAny _ _ (spliced ((false,eval (Expr.Call (.Name "zip" p2) [a,b] [] pos2) X.env)::backTo pos1 (starEach [] X.env))) _ _ s;refine QK ?_;refine UB (cv I hgz hmz hbz (O6 (thn (ha pos2 pins s σ H _ I h) λus s1 ⟨vs,H1,I1,r1,t,u,ks,ys,ev,ht,hu,hl,q⟩=>?_) (by rw[hs,hs2]) (by rw[hs2];rfl)));subst ev;obtain⟨ut,uu,rfl,rt,ru⟩:=r1.two;cases rt;cases ru;obtain⟨xs,rx,px,hzx⟩:=I1.tuple (SqT.of (K:=X.K) ht);obtain⟨zs,rz,pz,hzz⟩:=I1.tuple (SqT.of (K:=X.K) hu);have hh:X.A.handled=none:=I.ok.hd hc;have lt:=px.lt;have lu:=pz.lt;refine AE (show s1.heap.IsTuple t xs.toArray from px) (show s1.heap.IsTuple u zs.toArray from pz) λh1 z1 z2 z3 z4 z5 k1=>?_;refine C0 ?_;generalize hN:s1.heap.objs.size=N at *;have ht':∀c∈[N+4,N+2,N+3,N,N+1],t≠c:=λc hc e=>by
  simp only[Ow,P4,Rz]at hc;have:N<=c:=by rcases hc with z |z |z |z |z<;>(rw[z];first |exact Oj _ |exact RF _ _)
  exact Pt _ (ON lt (e▸this))
 have hu':∀c∈[N+4,N+2,N+3,N,N+1],u≠c:=λc hc e=>by
  simp only[Ow,P4,Rz]at hc;have:N<=c:=by rcases hc with z |z |z |z |z<;>(rw[z];first |exact Oj _ |exact RF _ _)
  exact Pt _ (ON lu (e▸this))
 have I2:Inv X pins σ H1 { s1 with heap:=h1 }:=I1.kept (t':=s1.toks) k1;have big:N+4<h1.objs.size:=Ou z1;have t1:h1.IsTuple t xs.toArray:=by obtain⟨o,e,r⟩:=px;exact⟨o,k1 _ _ e,r⟩
 have u1:h1.IsTuple u zs.toArray:=by obtain⟨o,e,r⟩:=pz;exact⟨o,k1 _ _ e,r⟩
 have up:∀{g:Heap}{s':Shared},(∀b o,h1.get? b=some o->s'.heap.get? b=some o)->StZ h1.objs.size (N+4) (N+2) (N+3) N (N+1) (λi h=>h.IsTupleIter N t i/\h.IsTuple t xs.toArray) (λi h=>h.IsTupleIter (N+1) u i/\h.IsTuple u zs.toArray) 0 s'.heap:=λk=>
  ⟨k _ _ z2,⟨z4.at λo e=>k _ o e,t1.at λo e=>k _ o e⟩,⟨z5.at λo e=>k _ o e,u1.at λo e=>k _ o e⟩,.inl ⟨k _ _ z1,_,_,k _ _ z3⟩⟩
 have hd:h1.objs.size∉[N+4,N+2,N+3,N,N+1,t,u]:=λh=>by
  simp only[Ow,P4,Rz]at h;have:=t1;obtain⟨o,e,_⟩:=t1;obtain⟨o2,e2,_⟩:=u1;have a1:=Ou e;have a2:=Ou e2;have a3:=Ou z2;have a4:=Ou z3;obtain⟨o3,e3,_⟩:=z4;obtain⟨o4,e4,_⟩:=z5;have a5:=Ou e3;have a6:=Ou e4;rcases h with z |z |z |z |z |z |z
  ·rw[<-z]at big;exact Pt _ big
  ·rw[<-z]at a3;exact Pt _ a3
  ·rw[<-z]at a4;exact Pt _ a4
  ·rw[<-z]at a5;exact Pt _ a5
  ·rw[<-z]at a6;exact Pt _ a6
  ·rw[<-z]at a1;exact Pt _ a1
  ·rw[<-z]at a2;exact Pt _ a2
 refine pf (s:={ s1 with heap:=h1 }) (T:="zip") hh hl (λs' k=>⟨_,k _ _ z1,rfl⟩) (by decide) (λs' A' E' Q' k hA hQ'=>C_ (k _ _ z1) hA hQ') (λs' A' E' Q' k _ hQ'=>wpAny_pyIter_zip (k _ _ z1) (hQ' (N+4) [N+4,N+3,N,N+1] _ s'.heap s'.toks (λ_ _ e=>e) (up (g:=h1) k) (λb o hb _=>hb)
  (λA' hA=>FQ hA (HG ht' hu') (ht' N (by simp)) (hu' (N+1) (by simp)) hd (by simpa using rx) (by simpa using rz)))) λh3 t3 kvs3 d3 r3 k3=>?_
 have hw:∀b o,s1.heap.get? b=some o->b∉[N+4,N+3,N,N+1]:=λb o e hb=>by
  have lb:=Ou e;rw[hN]at lb;simp only[Ow,P4,Rz]at hb;rcases hb with z |z |z |z<;>rw[z]at lb
  ·exact absurd lb (Us (RF _ _))
  ·exact absurd lb (Us (RF _ _))
  ·exact Pt _ lb
  ·exact absurd lb (Us (RF _ _))
 have sz:(bH [] (ks.zip ys)).length<=sizeLine:=by
  have:=dA (ks.zip ys) [];rw[Qf]at this;rw[QT];omega
 have hle:s1.heap.objs.size<=h1.objs.size:=by rw[hN];exact Qb (VL (RF _ _) big)
 exact⟨.ref h1.objs.size,_,I1.laid (t':=t3) (a:=h1.objs.size) (o:=.dK (bH [] (ks.zip ys))) (λb o e=>k3 b o (hw b o e) (k1 b o e)) hle (rG sz (QE.mpr (Qg (OE (ON I1.big hle)))) r3 d3),rfl,q _ (I1.hok.fresh hle)⟩
end
noncomputable def oj:List D->Option (List Key)
 | []=>some []
 |x::r=>(match dk x,oj r with
  |some k,some l=>some (k::l)
  |_,_=>none)
noncomputable def fDZ(zs:List Vl)(S:Sto):R Vl:=match zs with
 | [.d (.tup xs),.d (.tup ys)]=>(match oj xs with
  |some ks=>if(ks.zip ys).length<=100000 then .ok (.r S.length) (S++[.dct (cu [] (ks.zip ys))])else .bad
  |none=>.bad)
 |_=>.bad
theorem uV:∀{vs:List V}{xs:List D}{ks:List Key},ak G vs xs->oj xs=some ks->vs=ks.map kV/\ks.length=xs.length
 |_,_,_,.nil,e=>by cases e;exact⟨rfl,rfl⟩
 |_,_,ks,.cons r t,e=>by
  simp only[oj]at e;split at e
  ·rename_i k l hk hl;cases e;obtain⟨h1,h2⟩:=uV t hl;exact⟨by rw[Oq,gq r hk,h1],by simp[h2]⟩
  ·cases e
theorem vx:∀(ks:List Key){vs:List V}{ys:List D},ak G vs ys->∃us,us.length=(ks.zip ys).length/\ks.zip vs=((ks.zip ys).map (·.1)).zip us/\ak G us ((ks.zip ys).map (·.2))
 | [],_,_,_=>⟨[],rfl,rfl,.nil⟩
 |_::_,_,_,.nil=>⟨[],rfl,rfl,.nil⟩
 |k::ks,_,_,.cons (v:=v) r t=>by
  obtain⟨us,l,e,rs⟩:=vx ks t;exact⟨v::us,by simp[l],by simp[e],.cons r rs⟩
section
variable{X:Cx}{WE:WX}
theorem zp{a b:Expr}{ts:XA}{p1 p2 pos1 pos2:Pos}(hc:X.calm=true)(hgd:Gl X "dict")(hmd:X.mg "dict"=none)(hgz:Gl X "zip")(hmz:X.mg "zip"=none)(hbd:bootBuiltins "dict"=some (.type "dict"))(hbz:bootBuiltins "zip"=some (.type "zip"))(ha:RA X WE [a,b] ts)
  (hs:starEach [a,b] X.env=[(false,eval a X.env),(false,eval b X.env)]:=by rfl) (hs2:starEach [b] X.env=[(false,eval b X.env)]:=by rfl)
  (hs3:starEach [Expr.Call (.Name "zip" p2) [a,b] [] pos2] X.env=(false,eval (Expr.Call (.Name "zip" p2) [a,b] [] pos2) X.env)::starEach [] X.env:=by rfl) :
  RE X WE (.Call (.Name "dict" p1) [.Call (.Name "zip" p2) [a,b] [] pos2] [] pos1) (xN fDZ ts):=
 ⟨(zS hc hgd hmd hgz hmz hbd hbz ha.h hs hs2 hs3).weak λσ H Q ⟨μ,S,τ,hr,sr,p⟩=>⟨μ,S,τ,hr,sr,p.bind λvs zs S1 μ1 H1 st1 r1 p1=>by
  unfold fDZ at p1;split at p1
  ·rename_i xs ys;split at p1
   ·rename_i ks hk;split at p1
    ·rename_i hl;cases r1 with
     |cons ra r1=>cases r1 with
      |cons rb r1=>
       cases r1;obtain⟨a1,us,rfl,h1,g1,rs1⟩:=fX ra;obtain⟨a2,ws,rfl,h2,g2,rs2⟩:=fX rb;obtain⟨ek,lk⟩:=uV rs1 hk;subst ek;have lw:=rs2.length;refine⟨a1,a2,ks,ws,rfl,h1,h2,?_,λq hq=>?_⟩
       ·rw[PZ]at hl ⊢;omega
       ·obtain⟨vs2,l2,e2,r2⟩:=vx ks rs2;obtain⟨us3,l3,e3,r3⟩:=lH (kvs:=[]) (ws:=[]) r2 ak.nil;have e4:bH [] (ks.zip ws)=((cu [] (ks.zip ys)).map (·.1)).zip us3:=by rw[e2];exact e3
        rw[e4];exact p1 _ _ _ (Step.alloc st1.hr hq (ob:=.dct (cu [] (ks.zip ys))) ⟨us3,l3,rfl,r3⟩) ⟨by rw[cw],by simp⟩
    ·exact p1.elim
   ·exact p1.elim
  ·exact p1.elim⟩⟩
end
set_option maxRecDepth 100000
inductive ck(H:Hp):List V->List (Key×V)->Prop
 |nil:ck H [] []
 |cons {T:Addr} {k:Key} {v:V} {vs:List V} {ps:List (Key×V)}:H T=some (.tup [kV k,v])->ck H vs ps->ck H (.ref T::vs) ((k,v)::ps)
theorem ck.length:∀{vs:List V}{ps:List (Key×V)},ck H vs ps->vs.length=ps.length
 |_,_,.nil=>rfl
 |_,_,.cons _ t=>by simp[ck.length t]
def rDL:List V->Hp->VK->Prop:=λvs H Q=>∃(a:Addr)(us:List V)(ps:List (Key×V)),vs=[.ref a]/\H a=some (.lst us)/\ck H us ps/\ps.length<=100000/\∀p,H p=none->Q (.ref p) (upd H p (.dK (bH [] ps)))
def StL(l I:Addr)(its:Array Value)(tl:List (Addr×Array Value))(i:Nat)(h:Heap):Prop:=h.IsListIter I l i/\h.IsList l its/\∀p∈tl,h.IsTuple p.1 p.2
theorem src_list(hh:A.handled=none)(hI:I≠l)(dI:d≠I)(dl:d≠l)(hd:∀p∈tl,p.1≠d/\p.1≠I)(hl:its.size=ps.length)
  (hp:∀i,i<ps.length->∃T k v x y,its[i]?=some (.ref T)/\ps[i]?=some (k,v)/\(T,#[x,y])∈tl/\(aK prog w).is k x=true/\RelV v y):yC prog w A I d [I] ps (StL l I its tl)where
 nd:=by simpa using dI
 frame:=λi h h' st k=>⟨st.1.at λo e=>k _ o (Qg dI) e,st.2.1.at λo e=>k _ o (Qg dl) e,λp hpp=>(st.2.2 p hpp).at λo e=>k _ o (hd p hpp).1 e⟩
 item:=λi s Q E hi st hlt hQ=>by
  obtain⟨T,k,v,x,y,h1,h2,h3,h4,h5⟩:=hp i hi;obtain⟨a,b,c⟩:=st;refine UL a b h1 λh' a' sb=>?_;have kp:∀b o,b≠I->s.heap.get? b=some o->h'.get? b=some o:=λb o hb e=>(sb.2 b hb).trans e;refine hQ T k v x y h' s.toks h2 h4 h5 ((c _ h3).at λo e=>kp _ o (hd _ h3).2 e) ⟨a',b.at λo e=>kp _ o (Qg hI) e,λp hpp=>(c p hpp).at λo e=>kp _ o (hd p hpp).2 e⟩ λb' o hb e=>kp b' o (λz=>hb (by simp[z])) e
 done:=λs Q E st hQ=>by
  obtain⟨a,b,c⟩:=st;exact UY hh a b (by simp[hl]) λh' eb=>hQ h' s.toks λb' o hb e=>eb b' o (λz=>hb (by simp[z])) e
theorem sS(I:Inv X pins σ H s):∀{us:List V}{ps:List (Key×V)}{its:List Value},ck H us ps->Vals us its ->
  ∃tl:List (Addr×Array Value),(∀p∈tl,s.heap.IsTuple p.1 p.2)/\∀i,i<ps.length->∃T k v x y,its[i]?=some (.ref T)/\ps[i]?=some (k,v)/\(T,#[x,y])∈tl/\(aK X.prog X.w).is k x=true/\RelV v y
 |_,_,_,.nil,_=>⟨[],by simp,λi hi=>by simp at hi⟩
 |_,_,_,@ck.cons _ T k v vs ps hT t,.cons r rs=>by
  cases r;obtain⟨tl,h1,h2⟩:=sS I t rs;obtain⟨xs,rx,px,hz⟩:=I.tuple (SqT.of (K:=X.K) hT);cases rx with
  |cons r1 rx=>cases rx with
   |cons r2 rx=>
    cases rx;rename_i x y;refine⟨(T,#[x,y])::tl,λp hp=>?_,λi hi=>?_⟩
    ·rcases Ow.mp hp with z |z
     ·rw[z];exact px
     ·exact h1 p z
    ·cases i with
     |zero=>exact⟨T,k,v,x,y,rfl,rfl,by simp,iI r1,r2⟩
     |succ i=>
      obtain⟨T',k',v',x',y',a,b,c,d,e⟩:=h2 i (by simpa using hi);exact⟨T',k',v',x',y',by simpa using a,by simpa using b,by simp[c],d,e⟩
theorem zx(hc:X.calm=true):aX X (.type "dict") rDL:=by
 intro pins s σ H xs us Q I r h;obtain⟨a,vs,ps,rfl,hH,hp,hl,q⟩:=h;obtain⟨u,rfl,rx⟩:=vals1 r;cases rx;have hh:X.A.handled=none:=I.ok.hd hc;obtain⟨its,rv,pl,hz⟩:=I.list (SqL.of (K:=X.K) hH);obtain⟨zz,its',n,rv',g1⟩:=(show aV X.prog X.w H s.heap a (.lst vs)from I.hok a _ hH);obtain⟨tl,t1,t2⟩:=sS I hp rv';have lp:=hp.length;have lv:=rv'.length;have hil:s.heap.IsList a its'.toArray:=⟨_,g1,rfl,n,rfl⟩;have lta:a<s.heap.objs.size:=Ou g1;refine pf (T:="list") (wr0:=[]) hh hl (λs' k=>⟨_,k _ _ g1,rfl⟩) (by decide) (λs' A' E' Q' k hA hQ'=>BO (k _ _ g1) hA hQ') (λs' A' E' Q' k hlt hQ'=>?_) λh3 t3 kvs3 d3 r3 k3=>?_
 ·refine Ro (hil.at λo e=>k _ o e) ?_;have up:∀b o,s'.heap.get? b=some o->(s'.heap.push { cls:=.type "list_iterator",data:=.fields #[.ref a,.int 0 0] }).get? b=some o:=λb o e=>Od _ e;refine hQ' s'.heap.objs.size [s'.heap.objs.size] (StL a s'.heap.objs.size its'.toArray tl) _ s'.toks up ⟨⟨_,OA _ rfl,rfl,rfl⟩,hil.at λo e=>up _ _ (k _ o e),λp hpp=>(t1 p hpp).at λo e=>up _ _ (k _ o e)⟩ (λb o _ e=>?_) λA'' hA=>?_
  ·have:=Ou (k b o e);simpa using OE this
  ·refine src_list hA (Qc (VX lta hlt)) (OE hlt) (Qc lta) (λp hpp=>?_) (by simp;omega) (λi hi=>?_)
   ·obtain⟨o,e,_⟩:=t1 p hpp;have:=Ou e;exact⟨OE this,OE (VX this hlt)⟩
   ·obtain⟨T,k',v,x,y,b1,b2,b3,b4,b5⟩:=t2 i hi;exact⟨T,k',v,x,y,by simpa using b1,b2,b3,b4,b5⟩
 ·have sz:(bH [] ps).length<=sizeLine:=by
   have:=dA ps [];rw[Qf]at this;rw[QT];omega
  exact⟨.ref s.heap.objs.size,_,I.laid (t':=t3) (a:=s.heap.objs.size) (o:=.dK (bH [] ps)) (λb o e=>k3 b o (by simp) e) (Oj _) (rG sz (QE.mpr (Qg (OE I.big))) r3 d3),rfl,q _ (I.hok.fresh (Oj _))⟩
noncomputable def fh:List D->Option (List (Key×D))
 | []=>some []
 | .tup [x,y]::r=>(match dk x,fh r with
  |some k,some l=>some ((k,y)::l)
  |_,_=>none)
 |_=>none
theorem oU:∀{vs:List V}{ds:List D}{l:List (Key×D)},ak G vs ds->fh ds=some l->∃us:List V,us.length=l.length/\ck G vs ((l.map (·.1)).zip us)/\ak G us (l.map (·.2))
 |_,_,_,.nil,e=>by cases e;exact⟨[],rfl,.nil,.nil⟩
 |_,_,l,@ak.cons _ v d vs ds r t,e=>by
  unfold fh at e;split at e
  ·cases ‹_=[]›
  ·rename_i x y r' heq;cases heq;split at e
   ·rename_i k l' hk hl';cases e;obtain⟨us,h1,h2,h3⟩:=oU t hl';cases r with
    |tup h rs=>cases rs with
     |cons ra rs=>cases rs with
      |cons rb rs=>
       cases rs;rw[gq ra hk]at h;exact⟨_::us,by simp[h1],.cons h h2,.cons rb h3⟩
   ·cases e
  ·cases e
theorem ck.mono(k:dy H H'):∀{vs:List V}{ps:List (Key×V)},ck H vs ps->ck H' vs ps
 |_,_,.nil=>.nil
 |_,_,.cons h t=>.cons (k _ _ h) (ck.mono k t)
noncomputable def fDL(xs:List Vl)(S:Sto):R Vl:=match xs with
 | [x]=>(match(bX x S).bind fh with
  |some l=>if l.length<=100000 then .ok (.r S.length) (S++[.dct (cu [] l)])else .bad
  |none=>.bad)
 |_=>.bad
theorem yB{K:Oh}{mg:Str->Option Value}:fU K mg rDL fDL:=by
 intro WE μ S H vs xs Q hr rs p;unfold fDL at p;split at p
 ·obtain⟨v,rfl,r⟩:=rs.one;split at p
  ·rename_i l e;split at p
   ·rename_i hl;obtain⟨ds,e1,e2⟩:=Qi.mp e;obtain⟨a,us,rfl,ha,rr⟩:=dB hr r e1;obtain⟨ws,lw,pa,rw'⟩:=oU rr e2;obtain⟨us3,l3,e3,r3⟩:=lH (kvs:=[]) (ws:=[]) rw' ak.nil;refine⟨a,us,_,rfl,ha,pa.mono fK,by rw[PZ,Oa,lw,QV];exact hl,λq hq=>?_⟩;have e4:bH [] ((l.map (·.1)).zip ws)=((cu [] l).map (·.1)).zip us3:=e3;rw[e4];exact p _ _ _ (Step.alloc hr hq (ob:=.dct (cu [] l)) ⟨us3,l3,rfl,r3⟩) ⟨by rw[cw],by simp⟩
   ·exact p.elim
  ·exact p.elim
 ·exact p.elim
def AA:List V->Hp->VK->Prop:=λvs H Q=>∃(p:Addr)(o:Obj)(kvs:List (Key×V)),vs=[.ref p]/\H p=some (.frz o (.dK kvs))/\∀l:Addr,H l=none->Q (.ref l) (upd H l (.lst (kvs.map λkv=>kV kv.1)))
theorem rh(hc:X.calm=true):aX X (.type "list") AA:=by
 intro pins s σ H xs us Q I r h;obtain⟨p,o,kvs,rfl,hH,q⟩:=h;obtain⟨u,rfl,rx⟩:=vals1 r;cases rx;have hh:=I.ok.hd hc;obtain⟨e1,_,_,_,_,o',es,ep,e2,_,hd,_⟩:=I.hok p _ hH;rw[e1]at e2;cases e2;obtain⟨z2,z1,lk,vs,rel,da⟩:=nX I.hok hd hH;have lv:=rel.length;refine PySem.W.kdl_call (Wz (knd:=aK X.prog X.w) (kvs:=vs) (ep:=ep) z2) hh da ⋯ λh' tk acc c hkp hS hacc=>?_;refine⟨.ref s.heap.objs.size,_,I.laid (t':=tk) (a:=s.heap.objs.size) (o:=.lst (kvs.map λkv=>kV kv.1)) hkp (Oj _) ⟨by rw[Oa];exact z1,acc.toList,c,?_,by simpa using hS⟩,rfl,q _ (I.hok.fresh (Oj _))⟩;have all:∀(n:Nat)(ys:List Value)(ks:List (Key×V)),ys.length=ks.length->(∀(j:Nat)(v:Value),ys[j]?=some v->∃k x,ks[j]?=some (k,x)/\RelV (kV k) v)->Vals (ks.map λkv=>kV kv.1) ys:=by
  intro n ys
  induction ys with
  |nil=>intro ks hl _;cases ks with
   |nil=>exact .nil
   |cons _ _=>simp at hl
  |cons y ys ih=>
   intro ks hl hj;cases ks with
   |nil=>simp at hl
   |cons k ks=>
    obtain⟨k',x',e,r⟩:=hj 0 y rfl;simp at e;subst e;exact .cons r (ih ks (by simpa using hl) λj v hv=>by simpa using hj (j+1) v (by simpa using hv))
 refine all 0 _ _ (by rw[OM,hacc.1];omega) λj v hv=>?_;obtain⟨k,x,hx,hi⟩:=hacc.2 j v (by simpa using hv);obtain⟨w,hw⟩:=rel.get hx;exact⟨k,w,hw,uX (P:=X.prog) (w:=X.w) hi⟩
noncomputable def eP(xs:List Vl)(S:Sto):R Vl:=match xs with
 | [.fd kvs]=>.ok (.d (.lst (kvs.map λkv=>kD kv.1))) S
 |_=>.bad
theorem rq{K:Oh}{mg:Str->Option Value}:fU K mg AA eP:=by
 intro WE μ S H vs xs Q hr rs p;unfold eP at p;split at p
 ·obtain⟨v,rfl,r⟩:=rs.one;rename_i kvs;obtain⟨a,us,o,rfl,l,h,rr⟩:=r;refine⟨a,o,_,rfl,(aH h).2,λl' hl=>?_⟩;have e:(((kvs.map (·.1)).zip us).map λkv=>kV kv.1)=kvs.map λkv=>kV kv.1:=by
   have h1:((kvs.map (·.1)).zip us).map Prod.fst=kvs.map (·.1):=WA (by simp[l]);have h2:=Pq (Ye kV) h1;rw[Oz,Oz]at h2;exact h2
  rw[e];have rk:∀ks:List (Key×D),ak (vh μ S H) (ks.map λkv=>kV kv.1) (ks.map λkv=>kD kv.1):=λks=>by
   induction ks with
   |nil=>exact .nil
   |cons k ks ih=>exact .cons (Am k.1) ih
  exact p.l_ hr (rk kvs) l' hl
 ·exact p.elim
mutual
theorem Rep.ix(et:∀b xs,G b=some (.tup xs)->G' b=some (.tup xs))(el:∀b xs,G b=some (.lst xs)->G' b=some (.lst xs)):∀{v:V}{d:D},Rep G v d->Rep G' v d
 |_,_,.non=>.non
 |_,_,.bl b=>.bl b
 |_,_,.int i=>.int i
 |_,_,.str x=>.str x
 |_,_,.tup h r=>.tup (et _ _ h) (ak.ix et el r)
 |_,_,.lst h r=>.lst (el _ _ h) (ak.ix et el r)
theorem ak.ix(et:∀b xs,G b=some (.tup xs)->G' b=some (.tup xs))(el:∀b xs,G b=some (.lst xs)->G' b=some (.lst xs)):∀{vs:List V}{ds:List D},ak G vs ds->ak G' vs ds
 |_,_,.nil=>.nil
 |_,_,.cons r t=>.cons (Rep.ix et el r) (ak.ix et el t)
end
section
variable{μ μ1:Nat->Addr}{S S1:Sto}{H H1:Hp}
theorem om(hn:n<S1.length)(ha:μ1 n=a)(hf:H1 a=some (.frz o u))(hx:∀o' w,x≠.frz o' w)(h:vh μ1 S1 H1 b=some x):vh μ1 (S1.set n (.dct kvs)) (upd H1 a u') b=some x:=by
 obtain⟨na,hb⟩:=aH h;have ne:b≠a:=λz=>by rw[z,hf]at hb;cases hb;exact hx _ _ rfl
 refine bB (by rw[aw ne];exact hb) ?_;rintro⟨m,w,e,d,q⟩;rcases cR hn e with⟨rfl,rfl⟩ |⟨_,e'⟩
 ·exact ne (by rw[<-q,ha])
 ·exact na ⟨m,w,e',d,q⟩
theorem Step.EE(hr:HR μ S H)(e:S[n]?=some (.dct kvs))(l:vs.length=kvs.length)(h:H (μ n)=some (.dK ((kvs.map (·.1)).zip vs)))(rs:ak (vh μ S H) vs (kvs.map (·.2)))
  (st0:Step μ S H μ (S.set n .dead) (upd H (μ n) (.frz o (.dK ((kvs.map (·.1)).zip vs))))) (na:¬Al μ (S.set n .dead) (μ n))
  (st1:Step μ (S.set n .dead) (upd H (μ n) (.frz o (.dK ((kvs.map (·.1)).zip vs)))) μ1 S1 H1) :
  H1 (μ n)=some (.frz o (.dK ((kvs.map (·.1)).zip vs)))/\Step μ S H μ1 (S1.set n (.dct kvs)) (upd H1 (μ n) (.dK ((kvs.map (·.1)).zip vs))):=by
 have hn:n<S.length:=(Ol.mp e).1;have hl:(S.set n .dead).length=S.length:=PJ;have hn1:n<S1.length:=by have:=st1.le;omega
 have hμ:μ1 n=μ n:=st1.ag n ⋯;have hf:H1 (μ n)=some (.frz o (.dK ((kvs.map (·.1)).zip vs))):=st1.ko _ _ ba na;have al0:Al μ S (μ n):=⟨n,_,e,by simp,rfl⟩;have live:∀m u,S1[m]?=some u->u≠.dead->μ1 m≠μ n:=λm u em d q=>by
  obtain⟨x,hx,hxl⟩:=st1.hr.get em d;rw[q,hf]at hx;cases hx;cases u with
  |lst xs=>obtain⟨_,z,_⟩:=hxl;cases z
  |dct ks=>obtain⟨_,_,z,_⟩:=hxl;cases z
  |dead=>exact d rfl
 have et:∀b xs,vh μ1 S1 H1 b=some (.tup xs)->vh μ1 (S1.set n (.dct kvs)) (upd H1 (μ n) (.dK ((kvs.map (·.1)).zip vs))) b=some (.tup xs):=λb xs q=>om hn1 hμ hf (λ_ _ z=>by cases z) q;have el:∀b xs,vh μ1 S1 H1 b=some (.lst xs)->vh μ1 (S1.set n (.dct kvs)) (upd H1 (μ n) (.dK ((kvs.map (·.1)).zip vs))) b=some (.lst xs):=λb xs q=>om hn1 hμ hf (λ_ _ z=>by cases z) q;refine⟨hf,⟨λm hm=>st1.ag m ⋯,by rw[PJ];have:=st1.le;omega,⟨λm u em=>?_,λm m' u u' e1 e2 d1 d2 q=>?_⟩,λm em=>?_,λm u hm em d=>?_,λb u q z=>?_,λb u q=>?_⟩⟩
 ·rcases cR hn1 em with⟨rfl,rfl⟩ |⟨ne,em⟩
  ·exact⟨vs,l,by rw[hμ];exact ba,ak.ix et el ((rs.mono st0.vis).mono st1.vis)⟩
  ·cases u with
   |lst xs=>
    obtain⟨ws,q,r⟩:=st1.hr.ob m _ em;exact⟨ws,by rw[aw (live m _ em (by simp))];exact q,ak.ix et el r⟩
   |dct ks=>
    obtain⟨ws,l',q,r⟩:=st1.hr.ob m _ em;exact⟨ws,l',by rw[aw (live m _ em (by simp))];exact q,ak.ix et el r⟩
   |dead=>exact True.intro
 ·rcases cR hn1 e1 with⟨j1,_⟩ |⟨_,k1⟩
  ·rcases cR hn1 e2 with⟨j2,_⟩ |⟨_,k2⟩
   ·rw[j1,j2]
   ·exact absurd (by rw[<-q,j1,hμ]) (live m' u' k2 d2)
  ·rcases cR hn1 e2 with⟨j2,_⟩ |⟨_,k2⟩
   ·exact absurd (by rw[q,j2,hμ]) (live m u k1 d1)
   ·exact st1.hr.inj m m' u u' k1 k2 d1 d2 q
 ·have ne:m≠n:=λz=>by rw[z,e]at em;cases em
  rw[O_ (λz=>ne z.symm)];exact st1.dd m (st0.dd m em)
 ·have ne:m≠n:=by omega
  rw[O_ (λz=>ne z.symm)]at em;have:=st1.nw m u ⋯ em d;rw[aw (live m u em d)]at this;exact this
 ·have ne:b≠μ n:=λc=>z (by rw[c];exact al0);rw[aw ne];have:=aH (st1.vis b u (st0.vis b u (bB q z)));exact this.2
 ·by_cases z:b=μ n
  ·exact⟨_,by rw[z];exact ba⟩
  ·obtain⟨w,hw⟩:=st0.dm b u q;obtain⟨w2,hw2⟩:=st1.dm b w hw;exact⟨w2,by rw[aw z];exact hw2⟩
end
theorem Inv.EE(I0:Inv X pins σ0 H0 s0)(h0:H0 a=some (.dK w))(I:Inv X pins σ H s)(hf:H a=some (.frz o (.dK w))):Inv X pins σ (upd H a (.dK w)) s:=by
 have nn:∀b,H b=none->b≠a:=λb q z=>by rw[z,hf]at q;cases q
 refine⟨I.ok,I.os,I.bare,⟨I.base.keep,I.base.slot,λb ob q n hx=>?_,I.base.there,λb xs q=>?_,λb ob u q=>?_,λb ps q=>?_⟩,I.loc,I.cell,?_,λx c q=>?_,λp hp=>?_,λb ob q=>?_,I.len⟩
 ·have:=I.base.free b ob q n hx;rw[aw (nn b this)];exact this
 ·have:=I.base.tups b xs q;rw[aw (λz=>by rw[z,hf]at this;cases this)];exact this
 ·have z0:=I0.base.frzs b ob u q;rw[aw (λz=>by rw[z,h0]at z0;cases z0)];exact I.base.frzs b ob u q
 ·obtain⟨more,q⟩:=I.base.tbls b ps q;exact⟨more,by rw[aw (λz=>by rw[z,hf]at q;cases q)];exact q⟩
 ·rw[aw (nn _ I.free)];exact I.free
 ·have:=I.freeC x c q;rw[aw (nn _ this)];exact this
 ·obtain⟨p1,p2,p3⟩:=I.pin p hp;exact⟨p1,by rw[aw (nn _ p2)];exact p2,p3⟩
 ·have own:∀c d,H c=some (.own d)->upd H a (.dK w) c=some (.own d):=λc d q=>by
   rw[aw (λz=>by rw[z,hf]at q;cases q)];exact q
  have tup:∀c xs,H c=some (.tup xs)->upd H a (.dK w) c=some (.tup xs):=λc xs q=>by
   rw[aw (λz=>by rw[z,hf]at q;cases q)];exact q
  by_cases z:b=a
  ·subst z;rw[ba]at q;cases q;have ok:_/\aV X.prog X.w H s.heap b (.dK w):=I.hok b _ hf;exact ok.2.gD (λ_ _ _ r=>r) (λc r=>own c b r) tup
  ·rw[aw z]at q;exact(I.hok b ob q).gD (λ_ _ _ r=>r) (λc r=>own c b r) tup
noncomputable def kj(i:Nat)(a:XE):XE:=λτ S=>match τ[i]? with
 |some (some (.r n))=>(match S[n]? with
  |some (.dct kvs)=>(a (τ.set i (some (.fd kvs))) (S.set n .dead)).bind λz S1=>(match z with
   | .d x=>.ok (.d x) (S1.set n (.dct kvs))
   |_=>.bad)
  |_=>.bad)
 |_=>.bad
theorem mQ(i:Nat)(ha:RE X WE a xa):RE X WE a (kj i xa):=
 ⟨λpins s σ H Q I ⟨μ,S,τ,hr,sr,p⟩=>by
  unfold kj at p;split at p
  ·rename_i n et;split at p
   ·rename_i kvs e;obtain⟨v0,ev,rfl,hn⟩:=sr.get i _ et;obtain⟨vs,l,h,rs⟩:=hr.ob _ _ e;have ok:aV X.prog X.w H s.heap (μ n) (.dK ((kvs.map (·.1)).zip vs)):=I.hok _ _ h;obtain⟨z1,z2,ws,rel,o,es,ep,ho,r⟩:=ok;obtain⟨st0,na⟩:=Step.vU hr (.frz o (.dK ((kvs.map (·.1)).zip vs))) e (by simp);have I':=I.write (o:=.frz o (.dK ((kvs.map (·.1)).zip vs))) (h':=s.heap) (x:=μ n) (e:=μ n) (t':=s.toks) (by rw[h];exact True.intro) (.inl rfl) (λb q _ hq=>hq) ⟨o,ho⟩ (show _/\_ from⟨ho,z1,z2,ws,rel,o,es,ep,ho,r⟩);have rv:aF X.K X.mg μ (S.set n .dead) (upd H (μ n) (.frz o (.dK ((kvs.map (·.1)).zip vs)))) (.ref (μ n)) (.fd kvs):=⟨_,vs,o,rfl,l,bB ba na,rs.mono st0.vis⟩;have sr':bV X.K X.mg μ (S.set n .dead) (upd H (μ n) (.frz o (.dK ((kvs.map (·.1)).zip vs)))) σ (τ.set i (some (.fd kvs))):=by
     have:=(sr.step st0).set i rv;have hi:i<σ.length:=(Ol.mp ev).1;rwa[show σ.set i (some (V.ref (μ n)))=σ from by
      apply Qo;intro j;rw[Qa];split
      ·rename_i q;subst q;rw[ev]
      ·rfl]at this
    refine thn (ha.h pins s σ _ (λv H1=>∃μ1 S1 x,Step μ (S.set n .dead) (upd H (μ n) (.frz o (.dK ((kvs.map (·.1)).zip vs)))) μ1 S1 H1/\aF X.K X.mg μ1 S1 H1 v x/\aE (aF X.K X.mg) WE μ S H (match x with
     | .d x=>.ok (.d x) (S1.set n (.dct kvs))
     |_=>.bad) Q) I' ⟨μ,_,_,st0.hr,sr',p.uA st0 λv x S1 μ1 H1 st1 r1 p1=>⟨μ1,S1,x,st1,r1,p1⟩⟩) λu s1 ⟨v,H1,I1,ru,μ1,S1,x,st1,r1,p1⟩=>?_
    cases x with
    |d x=>
     obtain⟨hf,stF⟩:=Step.EE hr e l h rs st0 na st1;have hl:(S.set n .dead).length=S.length:=PJ;have hn1:n<S1.length:=by have:=st1.le;omega
     have hμ:μ1 n=μ n:=st1.ag n ⋯;exact⟨v,_,Inv.EE I h I1 hf,ru,p1 v μ1 _ stF (Rep.ix (λb xs q=>om hn1 hμ hf (λ_ _ z=>by cases z) q) (λb xs q=>om hn1 hμ hf (λ_ _ z=>by cases z) q) r1)⟩
    |_=>exact p1.elim
   ·exact p.elim
  ·exact p.elim⟩
noncomputable def least(ns:List Int)(n:Int):Int:=ns.foldl (λm k=>if k<m then k else m) n
theorem kM{n d k:Nat}:HT.sIx n d (some (k:Int))=min k n:=by
 unfold HT.sIx
 first |(dsimp only;split<;>omega) |(simp;omega) |omega
theorem pK:HT.sIx n d none=d:=rfl
theorem Kf{xs:List D}{k:Nat}:dW xs none (some (k:Int))=xs.take k:=by
 unfold dW;rw[pK,kM,List.drop_zero,Nat.sub_zero];by_cases h:k<=xs.length
 ·rw[Tq h]
 ·rw[S7 ⋯,P0 (Oj _),P0 ⋯]
theorem DW{xs:List D}{k:Nat}:dW xs (some (k:Int)) none=xs.drop k:=by
 unfold dW;rw[pK,kM];by_cases h:k<=xs.length
 ·rw[Tq h,P0 (by simp)]
 ·rw[S7 ⋯,RY (Oj _),RY ⋯];simp
theorem JM{xs:List D}{a b:Nat}:dW xs (some (a:Int)) (some (b:Int))=(xs.drop a).take (b-a):=by
 unfold dW;rw[kM,kM];by_cases h:a<=xs.length
 ·rw[Tq h];by_cases hb:b<=xs.length
  ·rw[Tq hb]
  ·rw[S7 ⋯,P0 (by simp),P0 (by simp;omega)]
 ·rw[S7 (show xs.length<=a by omega),RY (Oj _),RY ⋯];simp
theorem lW{xs:List D}{i:Nat}{z:D}(h:xs[i]?=some z):atI xs (i:Int)=some z:=by
 have hi:=(Ol.mp h).1;unfold atI;rw[zW ⋯ ⋯];show xs[((i:Nat):Int).toNat]?=_;rw[O0];exact h
noncomputable def lf2(f:List D->D->Sto->R Vl)(xs:List D)(r:R Vl):R Vl:=r.bind λy S2=>match y with
 | .d z=>f xs z S2
 |_=>.bad
noncomputable def lf1(f:List D->D->Sto->R Vl)(r:R Vl)(e:XE)(τ:Nv):R Vl:=r.bind λx S1=>match x with
 | .d (.lst xs)=>lf2 f xs (e τ S1)
 |_=>.bad
theorem ME:xLf f o e τ S=lf1 f (o τ S) e τ:=bu rfl
theorem Nh:lf1 f (.ok (.d (.lst xs)) S) e τ=lf2 f xs (e τ S):=bu rfl
theorem MI:lf2 f xs (.ok (.d z) S)=f xs z S:=bu rfl
theorem LR{ns:List Int}:v8 (ns.map D.int) (.int k) S=.ok (.d (.int (ns.count k:Nat))) S:=by
 unfold v8;rw[show intsOf (ns.map D.int)=some ns by rw[ji (λx=>x) ns];simp]
noncomputable def zp1(r:R (List Vl)):R Its:=r.bind Jp
theorem L4:iZp as τ S=zp1 (as τ S):=bu rfl
theorem MB:zp1 (.ok [.d (.tup xs),.d (.tup ys)] S)=.ok ⟨DY xs ys,none⟩ S:=bu rfl
theorem Mr:zp1 (.ok [.d (.lst xs),.d (.tup ys)] S)=.ok ⟨DY xs ys,none⟩ S:=bu rfl
theorem FN(e:bK x S=some (ns.map D.int))(h:ns.length<=300):oLX x S=.ok (.d (.int (aS ns).length)) S:=by
 unfold oLX;rw[e];dsimp only;rw[show intsOf (ns.map D.int)=some ns by rw[ji (λx=>x) ns];simp];dsimp only;rw[Oe h]
theorem DK(e:bK x S=some (ts.map λt=>D.tup (t.map D.int)))(h:ts.length<=300):oLX x S=.ok (.d (.int (uq ts).length)) S:=by
 unfold oLX;rw[e];dsimp only;cases ts with
 |nil=>
  rw[show intsOf (([]:List (List Int)).map λt=>D.tup (t.map D.int))=some []from rfl];rfl
 |cons t ts=>
  rw[show intsOf ((t::ts).map λt=>D.tup (t.map D.int))=none from rfl,qz];dsimp only;rw[Oe h]
theorem FO{ts:List (List Int)}(e:bK x S=some (ts.map λt=>D.tup (t.map D.int)))(h:ts.length<=300)(h2:ts.Nodup):oLX x S=.ok (.d (.int ts.length)) S:=by
 rw[DK e h,A9.mpr h2]
end L2
set_option maxHeartbeats 4000000
namespace My
open PySem L2
noncomputable def tw:XS:=(bU (DG (xSl vO (aa 0) (lA (xC (.int 12))) (lA (xC (.int 63))))) (gTu 2 (gCo (gNm 2) (gCo (gNm 3) gN0))) (az (xOp bz (xOp oIx (aa 1) (xOp oMod (aa 2) (xC (.int 12)))) (aa 3)) (gSb (aa 1) (xOp oMod (aa 2) (xC (.int 12))) fg)))
noncomputable def tf:XS:=(aj (az (xN m_ (ab (xSl vO (aa 0) kN (lA (xC (.int 12)))) af)) (gNm 1))
 (aj tw
 (au (xN mkM (ab (xFz (aa 1)) (ab (xC (.int 0)) (ab (xC (.int 0)) af)))))))
noncomputable def lx:XF:=ay 1 4 tf
noncomputable def ph:XS:=(aj (xIf (aA (xOp oGe (aa 0) (xOp yG (xC (.int 10)) (xC (.int 18))))) (au (aa 0)) aB)
 (aj (az (xOp oMod (xOp bz (xOp bz (xOp i8 (xOp oMod (aa 0) (xC (.int 1000000007))) (xC (.int 69069))) (xOp i8 (aa 1) (xC (.int 40503)))) (xC (.int 977))) (xC (.int 2147483629))) (gNm 2))
 (aj (az (xOp oMod (xOp bz (xOp bz (xOp i8 (aa 2) (aa 2)) (xOp i8 (aa 1) (xC (.int 7919)))) (xOp oMod (aa 0) (xC (.int 65537)))) (xC (.int 2147483587))) (gNm 3))
 (aj (az (xOp oMod (xOp bz (xOp bz (xOp i8 (aa 3) (aa 3)) (xOp i8 (aa 2) (xC (.int 31)))) (xC (.int 5))) (xC (.int 2147483563))) (gNm 4))
 (au (xOp bz (xOp i8 (xOp bz (xOp i8 (aa 2) (xC (.int 2147483659))) (aa 3)) (xC (.int 2147483693))) (aa 4)))))))
noncomputable def fP:XF:=ay 2 5 ph
noncomputable def tI:XS:=(aj (xIf (aA (xOp oLt (xOp oIx (aa 0) (xC (.int 2))) (aa 1))) (aj (az (xOp oIx (aa 0) (xC (.int 1))) (gNm 2))
 (aj (az (xC (.int 0)) (gNm 3))
 (aj (xIf (aA (xOp oLt (aa 2) (xN aU (ab (xOp oIx (aa 0) (xC (.int 0))) af)))) (az (xOp oIx (xOp oIx (aa 0) (xC (.int 0))) (aa 2)) (gNm 3)) (xIf (aA (xOp oGt (xN aU (ab (xOp oIx (aa 0) (xC (.int 0))) af)) (xC (.int 0)))) (az (xOp oMod (xOp oIx (xOp oIx (aa 0) (xC (.int 0))) (xOp oMod (xOp bz (xOp i8 (aa 2) (xC (.int 5))) (xC (.int 3))) (xN aU (ab (xOp oIx (aa 0) (xC (.int 0))) af)))) (xOp bz (xOp yG (xC (.int 10)) (xC (.int 17))) (aa 2))) (gNm 3)) aB))
 (aj (az (xOp bz (aa 2) (xC (.int 1))) (gSb (aa 0) (xC (.int 1)) fg))
 (az (ai fP (ab (aa 3) (ab (aa 2) af))) (gSb (aa 0) (xC (.int 2)) fg)))))) aB)
 (aj (az (xOp oMod (xOp oIx (aa 0) (xC (.int 2))) (aa 1)) (gNm 4))
 (aj (az (xOp oDiv (xOp oIx (aa 0) (xC (.int 2))) (aa 1)) (gSb (aa 0) (xC (.int 2)) fg))
 (au (aa 4)))))
noncomputable def aP:XF:=ay 2 5 tI
noncomputable def oM:XS:=(bU (gu (ab (xOp bz (xC (.int 1)) (ai aP (ab (aa 0) (ab (aa 1) af)))) af)) (gNm 4) (aj (az (xOp bz (aa 2) (ai aP (ab (aa 0) (ab (xC (.int 5)) af)))) (gNm 5))
 (aj (xIf (aA (xOp oEq (ai aP (ab (aa 0) (ab (xC (.int 6)) af))) (xC (.int 0)))) (az (xOp vj (ai aP (ab (aa 0) (ab (xC (.int 19)) af))) (xC (.int 9))) (gNm 5)) aB)
 (xIf (aA (xOp ff (aa 5) (aa 3))) (cO (xLm ka (aa 3) (aa 5))) aB))))
noncomputable def oZ:XS:=(aj (az (xN mkM af) (gNm 3))
 (aj oM
 (au (xN cg (ab (xN iw (ab (aa 3) af)) af)))))
noncomputable def iK:XF:=ay 3 6 oZ
noncomputable def qP:XE:=(xLC (gu (ab (xOp bz (xC (.int 1)) (ai aP (ab (aa 0) (ab (aa 1) af)))) af)) 1 (gNm 0) (λ_ S=>.ok true S) (ai iK (ab (aa 1) (ab (aa 3) (ab (aa 4) af)))))
noncomputable def p7:XS:=(aj (az (xOp vj (ai aP (ab (aa 0) (ab (xC (.int 15)) af))) (xC (.int 9))) (gNm 3))
 (au (xN cg (ab qP af))))
noncomputable def jG:XF:=ay 3 4 p7
noncomputable def tJ:XS:=(aj (az (xC (.int 0)) (gSb (aa 0) (xC (.int 2)) fg))
 (au (aa 0)))
noncomputable def lG:XF:=ay 1 1 tJ
noncomputable def mH:XE:=(xLC (aR (aa 2)) 1 (gNm 0) (λ_ S=>.ok true S) (xOp bz (aa 5) (xN mkT (ab (aa 0) af))))
noncomputable def h9:XS:=(bU (aR (aa 1)) (gNm 4) (cO (xLm iH (aa 3) mH)))
noncomputable def mE:XS:=(bU (aR (aa 0)) (gNm 2) (aj (az (xN mkM af) (gNm 3))
 (aj h9
 (az (xFz (aa 3)) (gNm 1)))))
noncomputable def mG:XS:=(aj (az (xN mkL (ab (xN mkT af) af)) (gNm 1))
 (aj mE
 (au (aa 1))))
noncomputable def fA:XF:=ay 1 5 mG
noncomputable def fS:XE:=(xLC (gu (ab (aa 3) af)) 1 (gNm 0) (λ_ S=>.ok true S) (xLm vw (aa 3) (ai aP (ab (aa 1) (ab (xN aU (ab (aa 3) af)) af)))))
noncomputable def jO:XS:=(aj (az (xN (lrg Dq) (ab (xN aU (ab (aa 1) af)) af)) (gNm 2))
 (aj (az (xOp bz (xC (.int 1)) (ai aP (ab (aa 0) (ab (xN aU (ab (aa 2) af)) af)))) (gNm 3))
 (aj (xIf (aA (xOp oGt (ai aP (ab (aa 0) (ab (xC (.int 3)) af))) (xC (.int 0)))) (az (xN aU (ab (aa 2) af)) (gNm 3)) aB)
 (au (xN cg (ab fS af))))))
noncomputable def c7:XF:=ay 2 4 jO
noncomputable def jZ:XS:=(aj (xIf (aA (xOp oEq (ai aP (ab (aa 0) (ab (xC (.int 8)) af))) (xC (.int 0)))) (au (xOp vj (ai aP (ab (aa 0) (ab (xC (.int 19)) af))) (xC (.int 9)))) aB)
 (aj (az (xOp oIx (aa 1) (ai aP (ab (aa 0) (ab (xN aU (ab (aa 1) af)) af)))) (gNm 2))
 (aj (az (xOp bz (xOp oIx (aa 2) (ai aP (ab (aa 0) (ab (xN aU (ab (aa 2) af)) af)))) (xOp oIx (xN mkL (ab (xC (.int 0)) (ab (xC (.int 0)) (ab (xC (.int 0)) (ab (xC (.int 1)) (ab (xUn l4 (xC (.int 1))) af)))))) (ai aP (ab (aa 0) (ab (xC (.int 5)) af))))) (gNm 3))
 (au (xN zL (ab (xUn l4 (xC (.int 9))) (ab (xN zE (ab (xC (.int 9)) (ab (aa 3) af))) af)))))))
noncomputable def c_:XF:=ay 2 4 jZ
noncomputable def kF:XE:=(xLC (aR (aa 2)) 1 (gNm 0) (aA (xOp ff (aa 0) (aa 2))) (aa 0))
noncomputable def kR:XS:=(bU (aR (aa 0)) (gNm 2) (cO (xLm iH (aa 1) kF)))
noncomputable def kT:XS:=(aj (az (xN mkM af) (gNm 1))
 (aj kR
 (au (xN iw (ab (aa 1) af)))))
noncomputable def eW:XF:=ay 1 3 kT
noncomputable def mf:XE:=(xLC (aR (aa 1)) 1 (gNm 0) (λ_ S=>.ok true S) (xOp oIx (aa 1) (aa 0)))
noncomputable def ia:XS:=(bU (gu (ab (xOp bz (aa 3) (xC (.int 1))) af)) (gNm 6) (xIf (aA (xOp oNe (aa 5) (aa 2))) (cO (xLm ka (aa 4) (xN mkT (ab (aa 6) (ab (aa 5) (ab (aa 6) af)))))) (xIf (aA (xOp oLt (aa 6) (aa 3))) (cO (xLm ka (aa 4) (xN mkT (ab (aa 6) (ab (aa 5) (ab (xOp bz (aa 6) (xC (.int 1))) af)))))) aB)))
noncomputable def mr:XS:=(bU (aR (ai eW (ab mf af))) (gNm 5) ia)
noncomputable def mw:XS:=(aj (az (xN mkM af) (gNm 4))
 (aj mr
 (au (Ei (aA (xOp oLt (xN aU (ab (aa 4) af)) (xC (.int 13)))) (xN mkT (ab (xC (.str "row")) (ab (aa 1) (ab (xN cg (ab (aa 4) af)) (ab (xN mkT (ab (aa 3) af)) af))))) (xC .non)))))
noncomputable def fG:XF:=ay 4 7 mw
noncomputable def oV:XS:=(au (bq (xUn (fo "int") (aa 0)) (uD (xUn (fo "bool") (aa 0)))))
noncomputable def iz:XF:=ay 1 1 oV
noncomputable def nK:XS:=(au (bq (ai iz (ab (aa 0) af)) (fZ oLe oLe (aa 1) (aa 0) (aa 2))))
noncomputable def bQ:XF:=ay 3 3 nK
noncomputable def mK:XE:=(xLC (aR (aa 0)) 1 (gNm 0) (λ_ S=>.ok true S) (ai bQ (ab (aa 0) (ab (aa 2) (ab (aa 3) af)))))
noncomputable def mB:XS:=(au (bq (xUn (fo "tuple") (aa 0)) (xN dO (ab mK af))))
noncomputable def c5:XF:=ay 3 3 mB
noncomputable def ij:XS:=(au (xOp oEq (xUn oLX (aa 0)) (xN aU (ab (aa 0) af))))
noncomputable def cL:XF:=ay 1 1 ij
noncomputable def nI:XS:=(au (bq (ai c5 (ab (aa 0) (ab (xC (.int 0)) (ab (xC (.int 3)) af)))) (bq (fZ oLe oLe (xC (.int 1)) (xN aU (ab (aa 0) af)) (xC (.int 4))) (ai cL (ab (aa 0) af)))))
noncomputable def gQ:XF:=ay 1 1 nI
noncomputable def dE:XE:=(xLC (EG (ab (xC (.int 1)) (ab (xN aU (ab (aa 0) af)) af))) 1 (gNm 0) (λ_ S=>.ok true S) (xOp oLt (xOp oIx (aa 1) (xOp vj (aa 0) (xC (.int 1)))) (xOp oIx (aa 1) (aa 0))))
noncomputable def ie:XS:=(au (xN dO (ab dE af)))
noncomputable def bI:XF:=ay 1 1 ie
noncomputable def qE:XS:=(au (bq (ai bQ (ab (aa 0) (ab (aa 2) (ab (aa 3) af)))) (bq (ai bQ (ab (aa 1) (ab (aa 2) (ab (aa 3) af)))) (xOp oLe (aa 0) (aa 1)))))
noncomputable def jB:XF:=ay 4 4 qE
noncomputable def oW:XS:=(aj (xIf (xOr (cn (bF (xUn (fo "tuple") (aa 0)))) (aA (xOp oNe (xN aU (ab (aa 0) af)) (xC (.int 3))))) (au (xC (.bl false))) aB)
 (au (bq (ai bQ (ab (xOp oIx (aa 0) (xC (.int 0))) (ab (xUn l4 (xC (.int 9))) (ab (xC (.int 9)) af)))) (ai jB (ab (xOp oIx (aa 0) (xC (.int 1))) (ab (xOp oIx (aa 0) (xC (.int 2))) (ab (xC (.int 0)) (ab (xC (.int 4)) af))))))))
noncomputable def iF:XF:=ay 1 1 oW
noncomputable def mv:XE:=(xLC (aR (aa 0)) 1 (gNm 0) (λ_ S=>.ok true S) (ai iF (ab (aa 0) af)))
noncomputable def me:XE:=(xLC (aR (aa 0)) 1 (gNm 0) (λ_ S=>.ok true S) (xOp oIx (aa 0) (xC (.int 0))))
noncomputable def mF:XS:=(aj (xIf (xOr (cn (bF (xUn (fo "tuple") (aa 0)))) (aA (xOp oGt (xN aU (ab (aa 0) af)) (xC (.int 4))))) (au (xC (.bl false))) aB)
 (au (bq (xN dO (ab mv af)) (ai bI (ab me af)))))
noncomputable def f6:XF:=ay 1 1 mF
noncomputable def rJ:XS:=(au (bq (xOp oEq (xN aU (ab (aa 0) af)) (xC (.int 3))) (ai f6 (ab (xOp oIx (aa 0) (xC (.int 2))) af))))
noncomputable def jK:XF:=ay 1 1 rJ
noncomputable def qa:XS:=(aj (xIf (xOr (cn (bF (xUn (fo "tuple") (aa 0)))) (aA (xOp oNe (xN aU (ab (aa 0) af)) (xC (.int 3))))) (au (xC (.bl false))) aB)
 (au (bq (ai bQ (ab (xOp oIx (aa 0) (xC (.int 0))) (ab (xC (.int 0)) (ab (xC (.int 3)) af)))) (bq (ai bQ (ab (xOp oIx (aa 0) (xC (.int 1))) (ab (xUn l4 (xC (.int 9))) (ab (xC (.int 9)) af)))) (ai bQ (ab (xOp oIx (aa 0) (xC (.int 2))) (ab (xC (.int 0)) (ab (xC (.int 3)) af))))))))
noncomputable def j4:XF:=ay 1 1 qa
noncomputable def mZ:XE:=(xLC (aR (aa 0)) 1 (gNm 0) (λ_ S=>.ok true S) (ai j4 (ab (aa 0) af)))
noncomputable def nz:XS:=(aj (xIf (xOr (cn (bF (xUn (fo "tuple") (aa 0)))) (aA (xOp oGt (xN aU (ab (aa 0) af)) (xC (.int 12))))) (au (xC (.bl false))) aB)
 (au (bq (xN dO (ab mZ af)) (ai cL (ab (aa 0) af)))))
noncomputable def gG:XF:=ay 1 1 nz
noncomputable def tE:XS:=(au (bq (xOp oEq (xN aU (ab (aa 0) af)) (xC (.int 4))) (bq (ai gG (ab (xOp oIx (aa 0) (xC (.int 2))) af)) (bq (ai c5 (ab (xOp oIx (aa 0) (xC (.int 3))) (ab (xC (.int 0)) (ab (xC (.int 3)) af)))) (ai bI (ab (xOp oIx (aa 0) (xC (.int 3))) af))))))
noncomputable def lI:XF:=ay 1 1 tE
noncomputable def il:XS:=(aj (az (xOp oIx (aa 0) (xC (.int 0))) (gNm 1))
 (aj (xIf (aA (xOp oEq (aa 1) (xC (.str "unlike")))) b6 aB)
 (aj (xIf (aA (xOp oEq (aa 1) (xC (.str "many")))) (au (ai jK (ab (aa 0) af))) aB)
 (aj (xIf (aA (xOp oEq (aa 1) (xC (.str "sum")))) b6 aB)
 (aj (xIf (aA (xOp oEq (aa 1) (xC (.str "row")))) (au (ai lI (ab (aa 0) af))) aB)
 b6)))))
noncomputable def dr:XF:=ay 1 2 il
noncomputable def qc:XS:=(aj (xIf (xOr (cn (bF (xUn (fo "tuple") (aa 0)))) (aA (xOp oLt (xN aU (ab (aa 0) af)) (xC (.int 2))))) (au (xC (.bl false))) aB)
 (au (bq (ai gQ (ab (xOp oIx (aa 0) (xC (.int 1))) af)) (ai dr (ab (aa 0) af)))))
noncomputable def fw:XF:=ay 1 1 qc
noncomputable def C1_many_holds:XE:=(xLC (aR (aa 1)) 3 (gTu 3 (gCo (gNm 0) (gCo (gNm 1) (gCo (gNm 2) gN0)))) (λ_ S=>.ok true S) (fZ oLe oLe (aa 1) (xLf v8 (aa 3) (aa 0)) (aa 2)))
noncomputable def mD:XS:=(au (xN dO (ab C1_many_holds af)))
noncomputable def m_many_holds:XF:=ay 2 2 mD
noncomputable def C1_row_holds:XE:=(xLC (aR (aa 1)) 1 (gNm 0) (vo (aA (xOp oIn (xOp oIx (aa 0) (xC (.int 0))) (aa 4))) (aA (xOp oEq (xOp oIx (aa 0) (xC (.int 1))) (aa 5)))) (xOp oIx (aa 0) (xC (.int 2))))
noncomputable def L2_row_holds:XS:=(bU (aR (aa 0)) (gNm 4) (az C1_row_holds (gNm 3)))
noncomputable def C3_row_holds:XE:=(xLC (aR (aa 3)) 1 (gNm 0) (λ_ S=>.ok true S) (xOp oIn (aa 0) (aa 3)))
noncomputable def nB:XS:=(aj (az (xN mkL (ab (xC (.int 0)) af)) (gNm 3))
 (aj L2_row_holds
 (au (xN ki (ab C3_row_holds af)))))
noncomputable def m_row_holds:XF:=ay 3 5 nB
noncomputable def v_:XS:=(aj (az (xOp oIx (aa 0) (xC (.int 0))) (gNm 2))
 (aj (xIf (aA (xOp oEq (aa 2) (xC (.str "unlike")))) b6 aB)
 (aj (xIf (aA (xOp oEq (aa 2) (xC (.str "many")))) (au (ai m_many_holds (ab (aa 1) (ab (xOp oIx (aa 0) (xC (.int 2))) af)))) aB)
 (aj (xIf (aA (xOp oEq (aa 2) (xC (.str "sum")))) b6 aB)
 (aj (xIf (aA (xOp oEq (aa 2) (xC (.str "row")))) (au (ai m_row_holds (ab (aa 1) (ab (xOp oIx (aa 0) (xC (.int 2))) (ab (xOp oIx (aa 0) (xC (.int 3))) af))))) aB)
 b6)))))
noncomputable def m_holds:XF:=ay 2 3 v_
noncomputable def rF:XE:=(xLC (aR (xOp oIx (aa 0) (xC (.int 1)))) 1 (gNm 0) (λ_ S=>.ok true S) (xOp oIx (aa 2) (aa 0)))
noncomputable def qA:XS:=(au (ai m_holds (ab (aa 0) (ab rF af))))
noncomputable def cF:XF:=ay 2 2 qA
noncomputable def mn:XS:=(au (bq (ai c5 (ab (aa 0) (ab (xUn l4 (xC (.int 9))) (ab (xC (.int 9)) af)))) (bq (fZ oLe oLe (xC (.int 1)) (xN aU (ab (aa 0) af)) (xC (.int 4))) (ai bI (ab (aa 0) af)))))
noncomputable def gf:XF:=ay 1 1 mn
noncomputable def oK:XE:=(xLC (aR (aa 0)) 1 (gNm 0) (λ_ S=>.ok true S) (ai gf (ab (aa 0) af)))
noncomputable def o_:XS:=(aj (xIf (xOr (cn (bF (xUn (fo "tuple") (aa 0)))) (cn (aA (fZ oLe oLe (xC (.int 1)) (xN aU (ab (aa 0) af)) (xC (.int 4)))))) (au (xC (.bl false))) aB)
 (au (xN dO (ab oK af))))
noncomputable def iu:XF:=ay 1 1 o_
noncomputable def mx:XS:=(xIf (cn (bF (ai iu (ab (aa 0) af)))) b6 aB)
noncomputable def fC:XF:=ay 1 1 mx
noncomputable def mJ:XE:=(xLC (aR (xOp oIx (aa 1) (xC (.int 1)))) 1 (gNm 0) (λ_ S=>.ok true S) (xOp oLt (aa 0) (xN aU (ab (aa 1) af))))
noncomputable def mj:XS:=(au (bq (ai fw (ab (aa 1) af)) (xN dO (ab mJ af))))
noncomputable def f9:XF:=ay 2 2 mj
noncomputable def nu:XS:=(xIf (cn (bF (ai f9 (ab (aa 0) (ab (aa 1) af))))) b6 aB)
noncomputable def gR:XF:=ay 3 3 nu
noncomputable def yn:XS:=(aj (cO (ai fC (ab (aa 0) af)))
 (cO (ai gR (ab (aa 0) (ab (aa 1) (ab (xC (.int 0)) af))))))
noncomputable def qj:XF:=ay 2 2 yn
noncomputable def gi:XS:=(aj (cO (ai qj (ab (aa 0) (ab (aa 1) af))))
 (xIf (aA (xOp oNe (xOp oIx (aa 1) (xC (.int 0))) (aa 2))) b6 aB))
noncomputable def bJ:XF:=ay 3 3 gi
noncomputable def jD:XE:=(xLC (aR (xOp oIx (aa 0) (xC (.int 2)))) 1 (gNm 0) (vo (aA (xOp oEq (xOp oIx (aa 0) (xC (.int 0))) (aa 3))) (aA (xOp oEq (xOp oIx (aa 0) (xC (.int 1))) (aa 4)))) (xOp oIx (aa 0) (xC (.int 2))))
noncomputable def jY:XS:=(au jD)
noncomputable def b7:XF:=ay 4 4 jY
noncomputable def lD:XS:=(bU (aR (f_ [("doors_onward",b7)] 4 (ab (aa 1) (ab (aa 2) (ab (aa 6) (ab (aa 7) af)))))) (gNm 8) (eG (aa 5) (aa 8) (xOp bz (xOp oDx (aa 3) (aa 6)) (xN mkT (ab (aa 7) af)))))
noncomputable def lq:XS:=(bU (aR (xOp oIx (aa 0) (xOp oIx (xOp oIx (aa 1) (xC (.int 1))) (aa 2)))) (gNm 7) lD)
noncomputable def qJ:XS:=(bU (i_ (aa 3)) (gNm 6) lq)
noncomputable def rl:XS:=(aj (az f7 (gNm 5))
 (aj qJ
 (au (xFz (aa 5)))))
noncomputable def jW:XF:=ay 5 9 rl
noncomputable def ju:XS:=(au (xOp oIn (aa 1) (xOp oIx (aa 0) (xC (.int 3)))))
noncomputable def bG:XF:=ay 2 2 ju
noncomputable def cT:XE:=(xLC (yZ (aa 0)) 2 (gTu 2 (gCo (gNm 0) (gCo (gNm 1) gN0))) (λ_ S=>.ok true S) (ox (aa 3) (aa 0) (xOp oIx (aa 1) (xC (.int 0)))))
noncomputable def fB:XS:=(au (xN cg (ab cT af)))
noncomputable def bE:XF:=ay 2 2 fB
noncomputable def gO:XS:=(bU (gu (ab (xN aU (ab (xOp oIx (aa 1) (xC (.int 1))) af)) af)) (gNm 6) (aj (az (ai jW (ab (aa 0) (ab (aa 1) (ab (aa 6) (ab (aa 4) (ab (aa 2) af)))))) (gNm 4))
 (cO (xLm ka (aa 5) (xN cg (ab (xN i7 (ab (aa 4) af)) af))))))
noncomputable def eU:XS:=(bU (i_ (aa 4)) (gNm 7) (xIf (bF (f_ [("is_end_of_row",bG)] 3 (ab (aa 1) (ab (aa 7) af)))) (au (xN mkP (ab (xC (.str "can")) (ab (ai bE (ab (aa 0) (ab (xFz (xN fDZ (ab (xOp oIx (aa 1) (xC (.int 1))) (ab (xOp oDx (aa 4) (aa 7)) af)))) af))) af)))) aB))
noncomputable def oP:XS:=(aj (az (xFz (uz [((xC (.int 0)),(xN mkT af))])) (gNm 4))
 (aj (az (xN mkM (ab (xN mkT (ab (xC (.int 0)) af)) af)) (gNm 5))
 (aj gO
 (aj eU
 (au (xN mkP (ab (xC (.str "no")) (ab (aa 5) af))))))))
noncomputable def du:XF:=ay 4 8 oP
noncomputable def p8:XS:=(aj (cO (ai bJ (ab (aa 0) (ab (aa 1) (ab (xC (.str "row")) af)))))
 (au (ai du (ab (aa 0) (ab (aa 1) (ab (xFn "doors_onward") (ab (xFn "is_end_of_row") af)))))))
noncomputable def cV:XF:=ay 2 2 p8
noncomputable def i5:XE:=(xLC (i_ (aa 0)) 1 (gNm 0) (aA (xOp oEq (xOp oDx (aa 1) (aa 0)) (aa 2))) (aa 0))
noncomputable def nF:XS:=(au (kj 0 i5))
noncomputable def cE:XF:=ay 2 2 nF
noncomputable def oY:XS:=(au (DO (xOp pR (aa 0) (aa 1)) (xOp oLt (xN aU (ab (ai cE (ab (aa 2) (ab (aa 0) af))) af)) (xOp oDx (aa 1) (aa 0)))))
noncomputable def iB:XF:=ay 3 3 oY
noncomputable def ng(s_make_room s_find_seat:XF):XS:=(bU (aR (aa 5)) (gNm 6) (xIf (bF (ai s_find_seat (ab (aa 0) (ab (aa 6) (ab (aa 2) (ab (aa 3) (ab (aa 4) af))))))) (au (xC (.bl true))) aB))
noncomputable def nE(s_make_room s_find_seat:XF):XS:=(aj (az (ai cE (ab (aa 3) (ab (aa 1) af))) (gNm 5))
 (aj (ng s_make_room s_find_seat)
 (au (xC (.bl false)))))
noncomputable def nM(s_make_room s_find_seat:XF):XS:=(bU (aR (xOp oIx (aa 0) (aa 1))) (gNm 5) (aj (xIf (aA (xOp kf (aa 5) (aa 4))) uF aB)
 (aj (eG (aa 4) (aa 5) (xC (.bl true)))
 (xIf (xOr (bF (ai iB (ab (aa 5) (ab (aa 2) (ab (aa 3) af))))) (bF (ai s_make_room (ab (aa 0) (ab (aa 5) (ab (aa 2) (ab (aa 3) (ab (aa 4) af)))))))) (aj (eG (aa 3) (aa 1) (aa 5))
 (au (xC (.bl true)))) aB))))
noncomputable def nG(s_make_room s_find_seat:XF):XS:=(aj (nM s_make_room s_find_seat)
 (au (xC (.bl false))))
mutual
noncomputable def b9:Nat->XF
 |0=>ay 5 7 b6
 |n+1=>ay 5 7 (nE (b9 n) (bC n))
noncomputable def bC:Nat->XF
 |0=>ay 5 6 b6
 |n+1=>ay 5 6 (nG (b9 n) (bC n))
end
noncomputable def kd:XE:=(xLC (i_ (aa 3)) 1 (gNm 0) (aA (xOp kf (xOp oDx (aa 4) (aa 0)) (aa 6))) (aa 0))
noncomputable def pd:XS:=(bU (aR (aa 1)) (gNm 4) (aj (az f7 (gNm 5))
 (xIf (cn (bF (ai (bC 20) (ab (aa 0) (ab (aa 4) (ab (aa 2) (ab (aa 3) (ab (aa 5) af)))))))) (au (xN cg (ab (xN iw (ab (xOp bz (xN mkL (ab (aa 4) af)) (kj 3 kd)) af)) af))) aB)))
noncomputable def oN:XS:=(aj pd
 (au (xN mkT af)))
noncomputable def fE:XF:=ay 4 6 oN
noncomputable def km:XE:=(xLC (aR (aa 0)) 3 (gTu 3 (gCo (gNm 0) (gCo (gNm 1) (gCo (gNm 2) gN0)))) (λ_ S=>.ok true S) (xN mkT (ab (aa 0) (ab (aa 2) af))))
noncomputable def oJ:XS:=(au (xFz (xN fDL (ab km af))))
noncomputable def fN:XF:=ay 1 1 oJ
noncomputable def nq:XS:=(au (xOp oGt (xN aU (ab (ai cE (ab (aa 2) (ab (aa 0) af))) af)) (ox (aa 1) (aa 0) (xC (.int 0)))))
noncomputable def gP:XF:=ay 3 3 nq
noncomputable def n8(s_bring_one:XF):XS:=(bU (aR (kj 3 (xN eP (ab (aa 3) af)))) (gNm 5) (aj (az (xOp oDx (aa 3) (aa 5)) (gNm 6))
 (aj (xIf (xOr (aA (xOp ff (aa 1) (xOp oIx (aa 0) (aa 5)))) (aA (xOp kf (aa 6) (aa 4)))) uF aB)
 (xIf (xOr (bF (ai gP (ab (aa 6) (ab (aa 2) (ab (aa 3) af))))) (bF (ai s_bring_one (ab (aa 0) (ab (aa 6) (ab (aa 2) (ab (aa 3) (ab (aa 4) af)))))))) (aj (eG (aa 3) (aa 5) (aa 1))
 (au (xC (.bl true)))) aB))))
noncomputable def nV(s_bring_one:XF):XS:=(aj (eG (aa 4) (aa 1) (xC (.bl true)))
 (aj (n8 s_bring_one)
 (au (xC (.bl false)))))
noncomputable def cD:Nat->XF
 |0=>ay 5 7 b6
 |n+1=>ay 5 7 (nV (cD n))
noncomputable def iG:XS:=(de 1000 (aA (xOp oLt (xN aU (ab (ai cE (ab (aa 2) (ab (aa 3) af))) af)) (xOp oDx (aa 1) (aa 3)))) (aj (az f7 (gNm 4))
 (xIf (cn (bF (ai (cD 20) (ab (aa 0) (ab (aa 3) (ab (aa 1) (ab (aa 2) (ab (aa 4) af)))))))) (au (xN cg (ab (kj 4 (xN i7 (ab (aa 4) af))) af))) aB)))
noncomputable def qV:XS:=(bU (i_ (aa 1)) (gNm 3) iG)
noncomputable def pZ:XS:=(aj qV
 (au (xN mkT af)))
noncomputable def gS:XF:=ay 3 5 pZ
noncomputable def lJ:XE:=(xLC (aR (aa 0)) 3 (gTu 3 (gCo (gNm 0) (gCo (gNm 1) (gCo (gNm 2) gN0)))) (λ_ S=>.ok true S) (xN mkT (ab (aa 0) (ab (aa 1) af))))
noncomputable def qe:XS:=(au (xFz (xN fDL (ab lJ af))))
noncomputable def g_:XF:=ay 1 1 qe
noncomputable def o9:XS:=(aj (cO (ai bJ (ab (aa 0) (ab (aa 1) (ab (xC (.str "many")) af)))))
 (aj (az f7 (gNm 2))
 (aj (az (ai fE (ab (aa 0) (ab (xOp oIx (aa 1) (xC (.int 1))) (ab (ai fN (ab (xOp oIx (aa 1) (xC (.int 2))) af)) (ab (aa 2) af))))) (gNm 3))
 (aj (xIf (bF (aa 3)) (au (xN mkT (ab (xC (.str "no")) (ab (xN mkT (ab (xC (.str "names")) (ab (aa 3) af))) af)))) aB)
 (aj (az (ai gS (ab (aa 0) (ab (ai g_ (ab (xOp oIx (aa 1) (xC (.int 2))) af)) (ab (aa 2) af)))) (gNm 4))
 (aj (xIf (bF (aa 4)) (au (xN mkT (ab (xC (.str "no")) (ab (xN mkT (ab (xC (.str "worths")) (ab (aa 4) af))) af)))) aB)
 (au (xN mkT (ab (xC (.str "can")) (ab (kj 2 (ai bE (ab (aa 0) (ab (aa 2) af)))) af))))))))))
noncomputable def fJ:XF:=ay 2 5 o9
noncomputable def j6:XE:=(xLC (aR (f_ [("doors_onward",b7)] 4 (ab (aa 1) (ab (aa 2) (ab (aa 5) (ab (aa 6) af)))))) 1 (gNm 0) (λ_ S=>.ok true S) (xOp oIn (aa 0) (xOp oIx (aa 4) (xOp bz (aa 3) (xC (.int 1))))))
noncomputable def jJ:XS:=(bU (aR (xOp oIx (aa 0) (xOp oIx (xOp oIx (aa 1) (xC (.int 1))) (aa 2)))) (gNm 6) (xIf (cn (bF (xN dO (ab j6 af)))) (au (xC (.bl false))) aB))
noncomputable def jM:XS:=(bU (aR (xOp oIx (aa 3) (aa 2))) (gNm 5) jJ)
noncomputable def jP:XS:=(aj jM
 (au (xC (.bl true))))
noncomputable def eE:XF:=ay 5 7 jP
noncomputable def mC:XE:=(xLC (aR (aa 2)) 1 (gNm 0) (λ_ S=>.ok true S) (ai bI (ab (aa 0) af)))
noncomputable def mL:XE:=(xLC (gu (ab (aa 5) af)) 1 (gNm 0) (λ_ S=>.ok true S) (ai eE (ab (aa 1) (ab (aa 2) (ab (aa 0) (ab (aa 3) (ab (aa 4) af)))))))
noncomputable def mi:XE:=(xLC (aR (xOp oIx (aa 2) (aa 5))) 1 (gNm 0) (λ_ S=>.ok true S) (f_ [("is_end_of_row",bG)] 5 (ab (aa 2) (ab (aa 0) af))))
noncomputable def mh:XS:=(aj (az (xN aU (ab (xOp oIx (aa 1) (xC (.int 1))) af)) (gNm 5))
 (aj (xIf (xOr (cn (bF (xUn (fo "list") (aa 2)))) (aA (xOp oNe (xN aU (ab (aa 2) af)) (xOp bz (aa 5) (xC (.int 1)))))) (au (xC (.bl false))) aB)
 (aj (xIf (xOr (cn (bF (xN dO (ab mC af)))) (aA (xOp ff (xC (.int 0)) (xOp oIx (aa 2) (xC (.int 0)))))) (au (xC (.bl false))) aB)
 (aj (xIf (cn (bF (xN dO (ab mL af)))) (au (xC (.bl false))) aB)
 (au (uD (xN ki (ab mi af))))))))
noncomputable def fW:XF:=ay 5 6 mh
noncomputable def mU:XS:=(aj (cO (ai bJ (ab (aa 0) (ab (aa 1) (ab (xC (.str "row")) af)))))
 (au (ai fW (ab (aa 0) (ab (aa 1) (ab (aa 2) (ab (xFn "doors_onward") (ab (xFn "is_end_of_row") af))))))))
noncomputable def gJ:XF:=ay 3 3 mU
noncomputable def gz:XE:=(xLC (aR (aa 0)) 1 (gNm 0) (λ_ S=>.ok true S) (xOp oIn (aa 0) (aa 2)))
noncomputable def gk:XS:=(aj (xIf (xOr (cn (bF (xUn (fo "tuple") (aa 0)))) (aA (xOp oEq (xN aU (ab (aa 0) af)) (xC (.int 0))))) (au (xC (.bl false))) aB)
 (au (bq (xN dO (ab gz af)) (ai bI (ab (aa 0) af)))))
noncomputable def cm:XF:=ay 2 2 gk
noncomputable def mO:XS:=(bU (aR (aa 1)) (gNm 3) (cO (xLm iH (aa 2) (xOp oIx (aa 0) (aa 3)))))
noncomputable def nR:XS:=(aj (az (xN mkM af) (gNm 2))
 (aj mO
 (au (xUn oSS (aa 2)))))
noncomputable def gI:XF:=ay 2 4 nR
noncomputable def j7:XE:=(xLC (aR (aa 3)) 1 (gNm 0) (λ_ S=>.ok true S) (xOp kf (aa 0) (aa 3)))
noncomputable def jF:XE:=(xLC (aR (aa 3)) 1 (gNm 0) (λ_ S=>.ok true S) (xOp oDx (aa 3) (aa 0)))
noncomputable def jT:XS:=(aj (az (ai gI (ab (aa 0) (ab (aa 1) af))) (gNm 3))
 (aj (xIf (cn (bF (xN dO (ab j7 af)))) (au (xC (.bl false))) aB)
 (au (xOp oLt (xN sg (ab jF af)) (xN aU (ab (aa 1) af))))))
noncomputable def ez:XF:=ay 3 4 jT
noncomputable def eZ:XE:=(xLC (aR (xOp oIx (aa 0) (aa 1))) 1 (gNm 0) (λ_ S=>.ok true S) (xOp oIn (aa 0) (aa 3)))
noncomputable def mq:XS:=(au (xN ki (ab eZ af)))
noncomputable def fQ:XF:=ay 3 3 mq
noncomputable def iV:XE:=(xLC (aR (aa 1)) 1 (gNm 0) (bF (ai fQ (ab (aa 1) (ab (aa 0) (ab (aa 3) af))))) (aa 0))
noncomputable def jn:XE:=(xLC (aR (aa 2)) 1 (gNm 0) (λ_ S=>.ok true S) (xOp oDx (aa 4) (aa 0)))
noncomputable def iW:XS:=(aj (az iV (gNm 4))
 (au (xOp oGt (xN sg (ab jn af)) (xN aU (ab (aa 4) af)))))
noncomputable def dS:XF:=ay 4 5 iW
noncomputable def mm:XS:=(aj (cO (ai bJ (ab (aa 0) (ab (aa 1) (ab (xC (.str "many")) af)))))
 (aj (xIf (xOr (cn (bF (xUn (fo "tuple") (aa 2)))) (aA (xOp oNe (xN aU (ab (aa 2) af)) (xC (.int 2))))) (au (xC (.bl false))) aB)
 (aj (az (xOp oIx (aa 2) (xC (.int 1))) (gNm 3))
 (aj (xIf (aA (xOp oEq (xOp oIx (aa 2) (xC (.int 0))) (xC (.str "names")))) (au (bq (ai cm (ab (aa 3) (ab (xOp oIx (aa 1) (xC (.int 1))) af))) (ai ez (ab (aa 0) (ab (aa 3) (ab (ai fN (ab (xOp oIx (aa 1) (xC (.int 2))) af)) af)))))) aB)
 (aj (az (ai g_ (ab (xOp oIx (aa 1) (xC (.int 2))) af)) (gNm 4))
 (au (bq (xOp oEq (xOp oIx (aa 2) (xC (.int 0))) (xC (.str "worths"))) (bq (ai cm (ab (aa 3) (ab (xN eP (ab (aa 4) af)) af))) (ai dS (ab (aa 0) (ab (xOp oIx (aa 1) (xC (.int 1))) (ab (aa 3) (ab (aa 4) af)))))))))))))
noncomputable def gj:XF:=ay 3 5 mm
noncomputable def jz:XE:=(xLC (aR (aa 3)) 1 (gNm 0) (aA (xOp oNe (ai cF (ab (aa 2) (ab (aa 0) af))) (ai cF (ab (aa 3) (ab (aa 0) af))))) (xC (.int 1)))
noncomputable def jR:XS:=(aj (xIf (xOr (cn (bF (ai fw (ab (aa 1) af)))) (cn (bF (ai fw (ab (aa 2) af))))) (au (xC (.bl false))) aB)
 (aj (xIf (aA (xOp oNe jz (xN mkL af))) (au (xC (.bl false))) aB)
 (aj (az (ai cV (ab (aa 0) (ab (aa 1) af))) (gNm 4))
 (aj (az (ai fJ (ab (aa 0) (ab (aa 2) af))) (gNm 5))
 (aj (xIf (aA (xOp oNe (xOp dn (aa 4) (xC (.int 0))) (xOp oIx (aa 5) (xC (.int 0))))) (au (xC (.bl false))) aB)
 (aj (xIf (aA (xOp oEq (xOp dn (aa 4) (xC (.int 0))) (xC (.str "can")))) (au (bq (ai cF (ab (aa 2) (ab (xFz (xOp dn (aa 4) (xC (.int 1)))) af))) (ai cF (ab (aa 1) (ab (xOp oIx (aa 5) (xC (.int 1))) af))))) aB)
 (au (bq (xOp oIs (ai gJ (ab (aa 0) (ab (aa 1) (ab (xFz (xOp dn (aa 4) (xC (.int 1)))) af)))) (xC (.bl true))) (xOp oIs (ai gj (ab (aa 0) (ab (aa 2) (ab (xOp oIx (aa 5) (xC (.int 1))) af)))) (xC (.bl true)))))))))))
noncomputable def eB:XF:=ay 4 6 jR
noncomputable def qQ:XS:=(bU (gu (ab (ai aP (ab (aa 0) (ab (xC (.int 13)) af))) af)) (gNm 4) (aj (az (ai aP (ab (aa 0) (ab (aa 2) af))) (gNm 5))
 (aj (az (xN mkT (ab (aa 5) (ab (ai c_ (ab (aa 0) (ab (aa 1) af))) (ab (xOp oIx (xN mkL (ab (ai aP (ab (aa 0) (ab (aa 2) af))) (ab (xOp oMod (xOp bz (aa 5) (xC (.int 1))) (aa 2)) af))) (ai aP (ab (aa 0) (ab (xC (.int 2)) af)))) af)))) (gNm 6))
 (xIf (aA (xOp ff (aa 6) (aa 3))) (cO (xLm ka (aa 3) (aa 6))) aB))))
noncomputable def pW:XS:=(aj (az (xOp bz (xC (.int 2)) (ai aP (ab (aa 0) (ab (xC (.int 3)) af)))) (gNm 2))
 (aj (az (xN mkM af) (gNm 3))
 (aj qQ
 (au (xN cg (ab (aa 3) af))))))
noncomputable def jU:XF:=ay 2 7 pW
noncomputable def n4:XE:=(xLC (gu (ab (xC (.int 4)) af)) 1 (gNm 0) (aA (xOp oEq (ai aP (ab (aa 1) (ab (xC (.int 3)) af))) (xC (.int 0)))) (aa 0))
noncomputable def nP:XS:=(aj (az (ai c7 (ab (aa 0) (ab (aa 1) af))) (gNm 3))
 (aj (xIf (aA (xOp oEq (aa 2) (xC (.int 0)))) b6 aB)
 (aj (xIf (aA (xOp oEq (aa 2) (xC (.int 1)))) b6 aB)
 (aj (xIf (aA (xOp oEq (aa 2) (xC (.int 2)))) b6 aB)
 (aj (xIf (aA (xOp oEq (aa 2) (xC (.int 3)))) (aj (az (xN cg (ab n4 af)) (gNm 10))
 (au (xN mkT (ab (xC (.str "row")) (ab (aa 3) (ab (ai jU (ab (aa 0) (ab (aa 1) af))) (ab (aa 10) af))))))) aB)
 b6)))))
noncomputable def gH:XF:=ay 3 11 nP
noncomputable def jC:XE:=(xLC (aR (aa 2)) 1 (gNm 0) (aA (xOp oEq (xOp dn (ai cV (ab (aa 1) (ab (aa 0) af))) (xC (.int 0))) (xC (.str "can")))) (xC (.int 1)))
noncomputable def j5:XS:=(aj (az (xN mkL (ab (xN mkT (ab (xC (.str "row")) (ab (xOp oIx (aa 1) (xC (.int 1))) (ab (xSl oSl (xOp oIx (aa 1) (xC (.int 2))) (lA (xC (.int 1))) kN) (ab (xOp oIx (aa 1) (xC (.int 3))) af))))) (ab (xN mkT (ab (xC (.str "row")) (ab (xOp oIx (aa 1) (xC (.int 1))) (ab (xOp oIx (aa 1) (xC (.int 2))) (ab (xSl oSl (xOp oIx (aa 1) (xC (.int 3))) (lA (xC (.int 1))) kN) af))))) af))) (gNm 2))
 (aj (xIf (aA (xOp oEq (xOp dn (ai cV (ab (aa 0) (ab (aa 1) af))) (xC (.int 0))) (xC (.str "can")))) (au (xC (.bl true))) aB)
 (au (xOp oEq jC (xN mkL af)))))
noncomputable def eA:XF:=ay 2 3 j5
noncomputable def ip:XE:=(xLC (gu (ab (xC (.int 4)) af)) 1 (gNm 0) (λ_ S=>.ok true S) (xN mkT (ab (aa 0) (ab (aa 0) af))))
noncomputable def eO:XE:=(xLC (aR (xOp oIx (aa 1) (xC (.int 2)))) 3 (gTu 3 (gCo (gNm 0) (gCo (gNm 1) (gCo (gNm 2) gN0)))) (λ_ S=>.ok true S) (xN mkT (ab (xOp oDx (aa 7) (aa 2)) (ab (aa 1) (ab (xOp oDx (aa 7) (aa 0)) af)))))
noncomputable def iq:XE:=(xLC (aR (aa 2)) 1 (gNm 0) (aA (xOp oNe (ai cF (ab (aa 2) (ab (aa 0) af))) (ai cF (ab (aa 7) (ab (aa 0) af))))) (xC (.int 1)))
noncomputable def ir:XS:=(aj (xIf (aA (xOp oNe (xN aU (ab (xOp oIx (aa 1) (xC (.int 3))) af)) (xC (.int 1)))) (au (xC (.bl true))) aB)
 (aj (az (xOp oIx (xOp oIx (aa 1) (xC (.int 3))) (xC (.int 0))) (gNm 3))
 (aj (az (xFz (xN fDL (ab (xOp bz ip (xN mkL (ab (xN mkT (ab (xC (.int 0)) (ab (aa 3) af))) (ab (xN mkT (ab (aa 3) (ab (xC (.int 0)) af))) af)))) af))) (gNm 4))
 (aj (az (xN cg (ab eO af)) (gNm 5))
 (aj (az (xN mkT (ab (xC (.str "row")) (ab (xOp vZ (xOp oIx (aa 1) (xC (.int 1))) (xUn l4 (xC (.int 1)))) (ab (aa 5) (ab (xN mkT (ab (aa 3) af)) af))))) (gNm 6))
 (au (xOp oEq iq (xN mkL af))))))))
noncomputable def dw:XF:=ay 3 7 ir
noncomputable def wz:XS:=(bU (gu (ab (xC (.int 2)) af)) (gNm 10) (aj (az (ai gH (ab (aa 1) (ab (aa 3) (ab (xC (.int 3)) af)))) (gNm 11))
 (xIf (xOr (cn (bF (ai eA (ab (aa 3) (ab (aa 11) af))))) (cn (bF (ai dw (ab (aa 3) (ab (aa 11) (ab (aa 4) af))))))) (au (xC (.bl false))) aB)))
noncomputable def AQ:XS:=(bU (gu (ab (xC (.int 2)) af)) (gNm 2) (aj (az (ai jG (ab (ai lG (ab (aa 1) af)) (ab (xC (.int 4)) (ab (xC (.int 4)) af)))) (gNm 3))
 (aj (az (ai fA (ab (aa 3) af)) (gNm 4))
 (aj (az (ai c7 (ab (aa 1) (ab (aa 3) af))) (gNm 5))
 (aj (az (ai c_ (ab (aa 1) (ab (aa 3) af))) (gNm 6))
 (aj (az (ai aP (ab (aa 1) (ab (xC (.int 3)) af))) (gNm 7))
 (aj (az (ai fG (ab (aa 3) (ab (aa 5) (ab (aa 6) (ab (aa 7) af))))) (gNm 8))
 (aj (az (xN mkT (ab (xC (.str "many")) (ab (aa 5) (ab (xN mkT (ab (xN mkT (ab (aa 6) (ab (aa 7) (ab (aa 7) af)))) af)) af)))) (gNm 9))
 (aj (xIf (vo (aA (xOp iL (aa 8) (xC .non))) (cn (bF (ai eB (ab (aa 3) (ab (aa 8) (ab (aa 9) (ab (aa 4) af)))))))) (au (xC (.bl false))) aB)
 wz)))))))))
noncomputable def Bh:XS:=(aj (az (ai lx (ab (aa 0) af)) (gNm 1))
 (aj AQ
 (au (xC (.bl true)))))
noncomputable def zN:XF:=ay 1 12 Bh
local macro_rules | `(tactic| walk_at "mx") => do
 let a:=("ME Nh MI LR L4 MB Mr FF Ff IV Na MX JF JS MR Mq CS Mh MK JA KI FJ N1 IJ Mn MT MH L8 Mt Jt J_ IA Nf Lo MD La Kh FP GQ GP Jk KH Kp Gu Hz JT KW JO BJ xG FG Fq NB N9 yr Lc E6 Lw Mw Jd Ak Gk NM Mo LS Md L7 LB LX M3 Mf LF rL i9 lU Ml M4 MZ F9 Me Iq Mg FT GY D5 E2 JC vk jd uH ql oh Mu Lp MQ LZ E_ EO E3 yI pU uC mV Aq BZ Io Nd J0 Js Ks Lg N6 H_ LC M6 MO LA L5 L1 Lh Le JK Jg KJ J5 CL Dc EF Ee Lr kU Ic Ij KY JW K0 Hq Hj LK Ln FH LW Mj ET Lk N4 N7 NT NR IY HQ Kj HX JU Jm J9 J8 Ih Ju HI KQ JG fm D4 D6 DP EY Bv Mz".splitOn " ").toArray.map fun s=>VZ (Lean.Name.mkStr `L2 s)
 let b:=("List.getElem?_cons_zero List.getElem?_cons_succ List.set_cons_zero List.set_cons_succ List.map_cons List.map_nil List.length_cons List.length_nil List.cons_append List.nil_append List.replicate_succ List.replicate_zero List.append_nil Nat.reduceSub Nat.reduceAdd Nat.zero_add Bool.not_true Bool.not_false decide_true decide_false beq_self_eq_true if_true if_false Int.reduceNeg".splitOn " ").toArray.map fun s=>VZ s.toName
 `(tactic| simp only [$[$a:term],*,$[$b:term],*,↓reduceIte])
local macro_rules | `(tactic| walk_at "mo") => `(tactic| first
  | rw [FA (by first | decide | omega)]
  | rw [Mc (by first | exact LH (by decide) (by decide) | exact Or.inl ⟨by omega,by omega⟩ | exact Or.inr ⟨by omega,by omega⟩)]
  | rw [MW ⟨by first | decide | omega,by first | decide | omega⟩]
  | rw [zA ⟨by decide,by decide,by decide⟩]
  | rw [wg (by first | (simp only [OB,Qf,Oa];omega) | (simp;omega))]
  | rw [v7 (by first | (simp only [OB,Qf,Oa];omega) | (simp;omega))]
  | rw [yR ⋯]
  | rw [zm ⋯])
local macro_rules | `(tactic| walk_at "mm") => `(tactic| repeat (first | walk_at "mx" | walk_at "mo"))
local macro_rules | `(tactic| erw [$rs,*]) => `(tactic| (rw [$rs,*]; walk_at "mx"))
local macro_rules | `(tactic| simp? [$ls,*]) => `(tactic| repeat (first | walk_at "mx" | simp only [Pw, $ls,*]))
noncomputable def dP(cells:List Int)(at' pool:Int):Ob:=.lst [.lst (cells.map D.int),.int at',.int pool]
def Pen(o:Ob):Prop:=∃cells at' pool,o=dP cells at' pool/\cells.length<=63/\0<=at'/\0<=pool
theorem ao:leave S (.ok (.rt (.d x),τ) S)=.ok (.d x) S:=by rw[lK,fD,OD]
theorem eh{S R:Sto}:leave S (.ok (.rt (.d x),τ) (S++R))=.ok (.d x) S:=by rw[lK,fD,Sa]
theorem bh:leave S (.ok (.rt (.d x),τ) S')=.ok (.d x) (S'.take S.length):=by rw[lK,fD]
theorem B5(cell at':Int)(h:0<=at')(S:Sto):∃r:Int,0<=r/\fP [.d (.int cell),.d (.int at')] S=.ok (.d (.int r)) S:=by
 unfold fP;rw[bO];unfold ph;walk_at"mx";erw[zA ⟨by decide,by decide,by decide⟩];by_cases hc:(10:Int) ^ (18:Int).toNat<=cell
 ·rw[Oi hc];refine⟨cell,Yf (by decide) hc,?_⟩;walk_at"mx";exact ao
 ·rw[Oo hc];walk_at"mm";generalize hone:(cell % 1000000007*69069+at'*40503+977) % 2147483629=one;have o1:0<=one:=by rw[<-hone];exact Rh _ (by decide)
  have o2:one<2147483629:=by rw[<-hone];exact QO _ (by decide)
  walk_at"mm";generalize htwo:(one*one+at'*7919+cell % 65537) % 2147483587=two;have o3:0<=two:=by rw[<-htwo];exact Rh _ (by decide)
  have o4:two<2147483587:=by rw[<-htwo];exact QO _ (by decide)
  walk_at"mm";generalize hthree:(two*two+one*31+5) % 2147483563=three;have o5:0<=three:=by rw[<-hthree];exact Rh _ (by decide)
  walk_at"mm";exact⟨(one*2147483659+two)*2147483693+three,by omega,ao⟩
theorem rf{R:Sto}:oIx (.r 0) (.d (.int 0)) (dP cells at' pool::R)=.ok (.d (.lst (cells.map D.int))) (dP cells at' pool::R):=uy rfl rfl
theorem MY{R:Sto}:oIx (.r 0) (.d (.int 1)) (dP cells at' pool::R)=.ok (.d (.int at')) (dP cells at' pool::R):=uy rfl rfl
theorem zH{R:Sto}:oIx (.r 0) (.d (.int 2)) (dP cells at' pool::R)=.ok (.d (.int pool)) (dP cells at' pool::R):=uy rfl rfl
theorem JE{R:Sto}:fg (.r 0) (.d (.int 1)) (.d (.int v)) (dP cells at' pool::R)=.ok () (dP cells v pool::R):=bu rfl
theorem ve{R:Sto}:fg (.r 0) (.d (.int 2)) (.d (.int v)) (dP cells at' pool::R)=.ok () (dP cells at' v::R):=bu rfl
theorem iQ{ns:List Int}{i:Int}(h0:0<=i)(h1:i<ns.length):∃n,atI (ns.map D.int) i=some (.int n)/\n∈ns:=by
 have hk:i.toNat<ns.length:=by omega
 refine⟨ns[i.toNat],?_,O5 hk⟩;unfold atI;rw[zW h0 (by simpa using h1)];show(ns.map D.int)[i.toNat]?=_;rw[Ox,gV hk];rfl
theorem gv{R:Sto}:(o'::R).take (o::R).length=o'::R:=by rw[show(o::R).length=(o'::R).length from rfl,OD]
theorem aZ{o:Ob}{R:Sto}{m:Int}(hp:Pen o)(h0:0<m)(h1:m<1073741824):∃(k:Int)(o':Ob),0<=k/\k<m/\Pen o'/\aP [.r 0,.d (.int m)] (o::R)=.ok (.d (.int k)) (o'::R):=by
 obtain⟨cells,at',pool,rfl,hl,ha,hq⟩:=hp;unfold aP;rw[bO];unfold tI;have tail:∀(at2 pool2:Int)(o2 o3:Option Vl),0<=at2->0<=pool2->∃(k:Int)(o':Ob),0<=k/\k<m/\Pen o' /\
   leave (dP cells at' pool::R) ((aj (az (xOp oMod (xOp oIx (aa 0) (xC (.int 2))) (aa 1)) (gNm 4)) (aj (az (xOp oDiv (xOp oIx (aa 0) (xC (.int 2))) (aa 1)) (gSb (aa 0) (xC (.int 2)) fg)) (au (aa 4)))) [some (.r 0),some (.d (.int m)),o2,o3,none] (dP cells at2 pool2::R))=.ok (.d (.int k)) (o'::R):=by
  intro at2 pool2 o2 o3 g1 g2;walk_at"mx";rw[zH];walk_at"mm";rw[zH];walk_at"mm";rw[ve];walk_at"mm";exact⟨pool2 % m,_,Rh _ ⋯,QO _ h0,⟨cells,at2,pool2 / m,rfl,hl,g1,Int.ediv_nonneg g2 ⋯⟩,by rw[bh,gv]⟩
 erw[i9,E2];rw[zH];walk_at"mm";by_cases hc:pool<m
 ·erw[Oi hc];rw[MY];walk_at"mm";rw[rf];walk_at"mm";have fin:∀cell:Int,∃(k:Int)(o':Ob),0<=k/\k<m/\Pen o'/\leave (dP cells at' pool::R) (sq1 ((aj (az (xOp bz (aa 2) (xC (.int 1))) (gSb (aa 0) (xC (.int 1)) fg)) (az (ai fP (ab (aa 3) (ab (aa 2) af))) (gSb (aa 0) (xC (.int 2)) fg))) [some (.r 0),some (.d (.int m)),some (.d (.int at')),some (.d (.int cell)),none] (dP cells at' pool::R))
    (aj (az (xOp oMod (xOp oIx (aa 0) (xC (.int 2))) (aa 1)) (gNm 4)) (aj (az (xOp oDiv (xOp oIx (aa 0) (xC (.int 2))) (aa 1)) (gSb (aa 0) (xC (.int 2)) fg)) (au (aa 4)))))=.ok (.d (.int k)) (o'::R):=by
   intro cell;erw[i9,jd];rw[JE];rw[yI,ql,lU,jd,yr];obtain⟨r,hr,er⟩:=B5 cell at' ha (dP cells (at'+1) pool::R);simp only[xG,BJ,Ff,FF,FG,Fq,Lc,er,E6,uH,E_,EO,E3,IV,ve,yI,ql,lU];exact tail (at'+1) r _ _ ⋯ hr
  by_cases hin:at'<((cells.map D.int).length:Int)
  ·erw[Oi hin];rw[rf];obtain⟨n,en,_⟩:=iQ (ns:=cells) ha (by simpa using hin);walk_at"mx";rw[jX en];rw[uH,oh,ql,lU];exact fin n
  ·erw[Oo hin];rw[rf];walk_at"mm";by_cases hpos:(0:Int)<((cells.map D.int).length:Int)
   ·erw[Oi hpos];rw[rf];walk_at"mm";rw[rf];walk_at"mm";obtain⟨n,en,_⟩:=iQ (ns:=cells) (i:=(at'*5+3) % ((cells.map D.int).length:Int)) (Rh _ ⋯) (by have:=QO (at'*5+3) hpos;simpa using this);erw[jX en];erw[zA ⟨by decide,by decide,by decide⟩];rw[FA (by have:(0:Int)<10 ^ (17:Int).toNat:=(by decide);omega)];rw[uH,oh,ql,lU];exact fin _
   ·rw[Oo hpos];rw[vk,rL,lU];exact fin 0
 ·rw[Oo hc];rw[vk,rL,lU];exact tail at' pool _ _ ha hq
structure GoodW(m:Int)(ws:List Int):Prop where
 rise:ws.Pairwise (· <·)
 lim:∀w∈ws,-9<=w/\w<=9
 pos:1<=ws.length
 le:(ws.length:Int)<=m
noncomputable def ae(ns:List Int):D:=.tup (ns.map D.int)
theorem B_{R:Sto}(hp:Pen o)(h0:0<most)(h1:most<=50)(n0:-9<=near)(n1:near<=5):∃(ws:List Int)(o':Ob),GoodW most ws/\Pen o'/\iK [.r 0,.d (.int most),.d (.int near)] (o::R)=.ok (.d (ae ws)) (o'::R):=by
 unfold iK;rw[bZ];unfold oZ;walk_at"mx";obtain⟨k,o1,k0,k1,hp1,e1⟩:=aZ (R:=R++[.lst []]) hp h0 ⋯;obtain⟨τ',S',e2,o2,ws,x4,x5,hp2,rfl,rfl,nd,lim,le,pos⟩:=cx (show _=oM [some (.r 0),some (.d (.int most)),some (.d (.int near)),some (.r (R.length+1)),none,none] (o::(R++[.lst []]))from rfl)
  (S1:=o1::(R++[.lst []])) (gd:=none) (items:=(Oy (1+k).toNat).map λi=>Vl.d (.int (i:Nat))) (by walk_at"mx";rw[e1];walk_at"mm")
  (λi τ S=>∃(o':Ob)(ws:List Int)(x4 x5:Option Vl),Pen o'/\τ=[some (.r 0),some (.d (.int most)),some (.d (.int near)),some (.r (R.length+1)),x4,x5]/\S=o'::(R++[.lst (ws.map D.int)])/\ws.Nodup/\(∀w∈ws,-9<=w/\w<=9)/\ws.length<=i/\(0<i->0<ws.length))
  ⟨o1,[],none,none,hp1,rfl,rfl,QB,by simp,Oj _,by omega⟩ (by
   rintro i z τ S hz ⟨o',ws,x4,x5,hp',rfl,rfl,nd,lim,le,pos⟩;have hi:i<(1+k).toNat:=by simpa using(Ol.mp hz).1
   obtain⟨a,oa,a0,a1,hpa,ea⟩:=aZ (R:=R++[.lst (ws.map D.int)]) (m:=5) hp' (by decide) (by decide);obtain⟨b,ob,b0,b1,hpb,eb⟩:=aZ (R:=R++[.lst (ws.map D.int)]) (m:=6) hpa (by decide) (by decide);obtain⟨c,oc,c0,c1,hpc,ec⟩:=aZ (R:=R++[.lst (ws.map D.int)]) (m:=19) hpb (by decide) (by decide);have fin:∀(v:Int)(q:Ob)(x5':Option Vl),-9<=v->v<=9->Pen q->x5'=some (.d (.int v))->∃fl τ2 S2,(xIf (aA (xOp ff (aa 5) (aa 3))) (cO (xLm ka (aa 3) (aa 5))) aB) [some (.r 0),some (.d (.int most)),some (.d (.int near)),some (.r (R.length+1)),some z,x5'] (q::(R++[.lst (ws.map D.int)]))=.ok (fl,τ2) S2/\(fl=.nx\/fl=.ct) /\
     ∃(o':Ob)(ws:List Int)(x4 x5:Option Vl),Pen o'/\τ2=[some (.r 0),some (.d (.int most)),some (.d (.int near)),some (.r (R.length+1)),x4,x5]/\S2=o'::(R++[.lst (ws.map D.int)])/\ws.Nodup/\(∀w∈ws,-9<=w/\w<=9)/\ws.length<=i+1/\(0<i+1->0<ws.length):=by
    rintro v q _ v0 v1 hq rfl;walk_at"mx";rw[Bu (ns:=ws) oz];by_cases hm:v∈ws
    ·erw[Oi hm];exact⟨_,_,_,rfl,.inl rfl,q,ws,_,_,hq,rfl,rfl,nd,lim,by omega,λ_=>Q9 hm⟩
    ·erw[Oo hm];erw[qI (by rw[Oa];omega)];refine⟨_,_,_,rfl,.inl rfl,q,ws++[v],_,_,hq,rfl,by rw[OX];rfl,?_,?_,by simp;omega,λ_=>by simp⟩
     ·rw[QC];refine⟨nd,by simp,λx hx y hy=>?_⟩;rw[Og.mp hy];rintro rfl;exact hm hx
     ·intro w hw;rcases OI.mp hw with e |e
      ·exact lim w e
      ·rw[Og.mp e];omega
   by_cases hb:b=0
   ·subst hb;obtain⟨fl,τ2,S2,f1,f2,f3⟩:=fin (c-9) oc _ ⋯ ⋯ hpc rfl;refine⟨_,_,fl,τ2,S2,oh,?_,f2,True.intro,f3⟩;walk_at"mx";erw[ea];erw[eb];erw[ec];erw[<-f1]
   ·obtain⟨fl,τ2,S2,f1,f2,f3⟩:=fin (near+a) ob _ ⋯ ⋯ hpb rfl;refine⟨_,_,fl,τ2,S2,oh,?_,f2,True.intro,f3⟩;walk_at"mx";erw[ea];erw[eb];erw[Oo hb];rw[<-f1];walk_at"mx")
 erw[e2];rw[iS]at le pos;erw[yf oz ⋯];refine⟨sortI ws,o2,⟨fe nd,λw hw=>lim w ((cC ws w).mp hw),by rw[cW];exact pos ⋯,by rw[cW];omega⟩,hp2,?_⟩;rw[bh];simp[ae]
structure br(n m:Int)(wss:List (List Int)):Prop where
 pos:1<=wss.length
 le:(wss.length:Int)<=n
 all:∀ws∈wss,GoodW m ws
noncomputable def ah(wss:List (List Int)):D:=.tup (wss.map ae)
theorem CN{R:Sto}(hp:Pen o)(h0:0<names)(h1:names<=50)(m0:0<most)(m1:most<=50):∃(wss:List (List Int))(o':Ob),br names most wss/\Pen o'/\jG [.r 0,.d (.int names),.d (.int most)] (o::R)=.ok (.d (ah wss)) (o'::R):=by
 unfold jG;rw[bZ];unfold p7;walk_at"mx";obtain⟨k,o1,k0,k1,hp1,e1⟩:=aZ (R:=R) (m:=15) hp (by decide) (by decide);erw[e1];obtain⟨j,o2,j0,j1,hp2,e2⟩:=aZ (R:=R) hp1 h0 ⋯;obtain⟨acc,Q,e4,hl,o3,wss,hp3,rfl,rfl,hw,hg⟩:=Bx (show _=qP [some (.r 0),some (.d (.int names)),some (.d (.int most)),some (.d (.int (k-9)))] (o1::R)from rfl) (S1:=o2::R) (items:=(Oy (1+j).toNat).map λi=>Vl.d (.int (i:Nat))) (by walk_at"mx";rw[e2];walk_at"mm")
  (λi acc Q=>∃(o':Ob)(wss:List (List Int)),Pen o'/\acc=wss.map ae/\Q=o'::R/\wss.length=i/\∀ws∈wss,GoodW most ws) ⟨o2,[],hp2,rfl,rfl,rfl,by simp⟩ (by
   rintro i z acc Q hz ⟨o',wss,hp',rfl,rfl,hw,hg⟩ _;obtain⟨hi,rfl⟩:=gE hz;obtain⟨ws,o3,gw,hp3,e3⟩:=B_ (R:=R++[.lst (wss.map ae)]) (near:=k-9) hp' m0 m1 ⋯ ⋯;refine⟨ae ws,o3::R,?_,rfl,o3,wss++[ws],hp3,k_.symm,rfl,by simp[hw],λx hx=>?_⟩
   ·walk_at"mx";erw[e3]
   ·rcases OI.mp hx with e |e
    ·exact hg x e
    ·rw[Og.mp e];exact gw)
 erw[e4];rw[iS]at hw;exact⟨wss,o3,⟨by omega,by omega,hg⟩,hp3,by rw[bh,gv];rfl⟩
theorem Gq{R:Sto}(hp:Pen o):∃o',Pen o'/\lG [.r 0] (o::R)=.ok (.r 0) (o'::R):=by
 obtain⟨cells,at',pool,rfl,hl,ha,hq⟩:=hp;unfold lG;rw[bf];unfold tJ;walk_at"mx";erw[ve];refine⟨dP cells at' 0,⟨cells,at',0,rfl,hl,ha,UW 0⟩,?_⟩;rw[lK];unfold out;dsimp only;rw[Oe (by simp),gv]
theorem fc{xs:List D}{i:Nat}{z:Vl}(h:(cB 0 xs)[i]?=some z):∃x,xs[i]?=some x/\z=.d (.tup [.int i,x]):=by
 rw[di]at h;cases q:xs[i]? with
 |none=>rw[q]at h;cases h
 |some x=>rw[q]at h;cases h;exact⟨x,rfl,by rw[To]⟩
theorem GJ(ns:List Int):∃o,Pen o/\lx [.sc ns] []=.ok (.r 0) [o]:=by
 unfold lx;rw[bf];unfold tf;walk_at"mx";rw[show(12:Int)=((12:Nat):Int)from rfl,Kf,<-Xm];obtain⟨τ',S',e2,cs,x2,x3,rfl,rfl,hl⟩:=cx (show _=tw [some (.sc ns),some (.r 0),none,none] [.lst ((ns.take 12).map D.int)]from rfl)
  (S1:=[.lst ((ns.take 12).map D.int)]) (gd:=none) (items:=cB 0 (((ns.map D.int).drop 12).take (63-12))) (by
   walk_at"mx";rw[show(12:Int)=((12:Nat):Int)from rfl,show(63:Int)=((63:Nat):Int)from rfl,JM])
  (λi τ S=>∃(cs:List Int)(x2 x3:Option Vl),τ=[some (.sc ns),some (.r 0),x2,x3]/\S=[.lst (cs.map D.int)]/\cs.length=(ns.take 12).length) ⟨_,none,none,rfl,rfl,rfl⟩ (by
   rintro i z τ S hz ⟨cs,x2,x3,rfl,rfl,hl⟩;obtain⟨x,ex,rfl⟩:=fc hz;have hx:x∈ns.map D.int:=Sg (Rv (OG ex));obtain⟨v,_,rfl⟩:=Of.mp hx;have hlen:12<ns.length:=by
    have:=(Ol.mp ex).1;simp at this;omega
   have hcs:cs.length=12:=by rw[hl];simp;omega
   have h0:0<=((i:Nat):Int) % 12:=Rh _ (by decide);have h1:((i:Nat):Int) % 12<12:=QO _ (by decide);obtain⟨c,ec,_⟩:=iQ (ns:=cs) (i:=((i:Nat):Int) % 12) h0 ⋯;have hix:ixN (cs.map D.int).length (((i:Nat):Int) % 12)=some (((i:Nat):Int) % 12).toNat:=zW h0 (by rw[Oa];omega);refine⟨_,_,.nx,_,_,by walk_at"mm";rfl,by
    walk_at"mm";rw[uy (xs:=cs.map D.int) rfl ec];walk_at"mm";rw[show fg (.r 0) (.d (.int (((i:Nat):Int) % 12))) (.d (.int (c+v))) [Ob.lst (cs.map D.int)]=.ok () [.lst ((cs.map D.int).set (((i:Nat):Int) % 12).toNat (.int (c+v)))] by
     unfold fg;simp only[SI,hix];rfl]
    walk_at"mx";rfl,.inl rfl,True.intro,cs.set (((i:Nat):Int) % 12).toNat (c+v),_,_,rfl,by rw[List.map_set],by rw[PJ];exact hl⟩)
 erw[e2];refine⟨dP cs 0 0,⟨cs,0,0,rfl,by rw[hl];simp;omega,UW 0,UW 0⟩,?_⟩;rfl
theorem sY(f:α->y):∀(l:List α)(k:Nat),(l.eraseIdx k).map f=(l.map f).eraseIdx k
 | [],_=>rfl
 |_::_,0=>rfl
 |x::l,k+1=>by
  rw[SJ,Oq,Oq,SJ,sY f l k]
structure cj(k:Nat)(ns:List Int):Prop where
 dom:∀n∈ns,0<=n/\n<(k:Int)
 pos:1<=ns.length
 le:ns.length<=k
 nd:ns.Nodup
theorem ml{R:Sto}(hp:Pen o)(h0:1<=wss.length)(h1:wss.length<=50):∃(ns:List Int)(o':Ob),cj wss.length ns/\Pen o'/\c7 [.r 0,.d (ah wss)] (o::R)=.ok (.d (ae ns)) (o'::R):=by
 unfold c7;rw[bO];unfold jO ah;walk_at"mx";erw[Oa,IG ⋯];have hr:(Oy ((wss.length:Nat):Int).toNat).map (λi=>D.int ((i:Nat):Int))=((Oy wss.length).map λi=>((i:Nat):Int)).map D.int:=by rw[O0,Oz];rfl
 rw[hr];generalize hL:((Oy wss.length).map λi=>((i:Nat):Int))=L0;have lL:L0.length=wss.length:=by rw[<-hL];simp
 have dL:∀n∈L0,0<=n/\n<(wss.length:Int):=by
  intro n hn;rw[<-hL]at hn;obtain⟨i,hi,rfl⟩:=Of.mp hn;have:=O3.mp hi;omega
 have nL:L0.Nodup:=by
  rw[<-hL];exact Y0 _ (λa b(h:a≠b)=>by omega) SY
 rw[qt (xs:=L0.map D.int) (by walk_at"mx"),Oa,lL];obtain⟨a,o1,a0,a1,hp1,e1⟩:=aZ (R:=R++[.lst (L0.map D.int)]) (m:=(wss.length:Int)) hp ⋯ ⋯;walk_at"mx";erw[e1];obtain⟨b,o2,b0,b1,hp2,e2⟩:=aZ (R:=R++[.lst (L0.map D.int)]) (m:=3) hp1 (by decide) (by decide);erw[e2];have fin:∀(many:Int),1<=many->many<=wss.length->∃(ns left:List Int)(o':Ob),cj wss.length ns/\Pen o' /\
   fS [some (.r 0),some (.d (.tup (wss.map ae))),some (.r (R.length+1)),some (.d (.int many))] (o2::(R++[.lst (L0.map D.int)]))=.ok (.d (.lst (ns.map D.int))) (o'::(R++[.lst (left.map D.int)])):=by
  intro many m0 m1;obtain⟨acc,Q,e4,hl,o3,ns,left,hp3,rfl,rfl,hw,hlen,hmem,hnd⟩:=Bx (show _=fS [some (.r 0),some (.d (.tup (wss.map ae))),some (.r (R.length+1)),some (.d (.int many))] (o2::(R++[.lst (L0.map D.int)]))from rfl) (S1:=o2::(R++[.lst (L0.map D.int)])) (items:=(Oy many.toNat).map λi=>Vl.d (.int (i:Nat))) (by walk_at"mm")
   (λi acc Q=>∃(o':Ob)(ns left:List Int),Pen o'/\acc=ns.map D.int/\Q=o'::(R++[.lst (left.map D.int)])/\ns.length=i/\left.length+i=wss.length/\(∀n,n∈ns++left->0<=n/\n<(wss.length:Int))/\(ns++left).Nodup) ⟨o2,[],L0,hp2,rfl,rfl,rfl,by omega,by simpa using dL,by simpa using nL⟩ (by
    rintro i z acc Q hz ⟨o',ns,left,hp',rfl,rfl,hw,hlen,hmem,hnd⟩ _;obtain⟨hi,rfl⟩:=gE hz;obtain⟨c,o3,c0,c1,hp3,e3⟩:=aZ (R:=R++[.lst (left.map D.int),.lst (ns.map D.int)]) (m:=(left.length:Int)) hp' ⋯ ⋯;have hc:c.toNat<left.length:=by omega
    have hge:(left.map D.int)[c.toNat]?=some (.int left[c.toNat]):=by rw[Ox,gV hc];rfl
    have pe:(left[c.toNat]::left.eraseIdx c.toNat).Perm left:=l6 left c.toNat hc;have pa:((ns++[left[c.toNat]])++left.eraseIdx c.toNat).Perm (ns++left):=by
     rw[QZ];exact U9 ns pe
    refine⟨.int left[c.toNat],o3::(R++[.lst ((left.eraseIdx c.toNat).map D.int)]),?_,by simp,o3,ns++[left[c.toNat]],left.eraseIdx c.toNat,hp3,k_.symm,rfl,by simp[hw],?_,λn hn=>hmem n (pa.mem_iff.mp hn),pa.nodup_iff.mpr hnd⟩
    ·walk_at"mx";erw[show(R++[Ob.lst (left.map D.int)]++[Ob.lst (ns.map D.int)])=R++[.lst (left.map D.int),.lst (ns.map D.int)] by simp];erw[qt (xs:=left.map D.int) (by walk_at"mx"),Oa];erw[e3];erw[Ly ⋯ hge];rw[sY];simp
    ·rw[T2 hc];omega)
  rw[iS]at hw hlen;exact⟨ns,left,o3,⟨λn hn=>hmem n (OZ _ hn),by omega,by omega,(QC.mp hnd).1⟩,hp3,e4⟩
 by_cases hb:0<b
 ·erw[Oi hb];erw[qt (xs:=L0.map D.int) (by walk_at"mx"),Oa,lL];obtain⟨ns,left,o3,gn,hp3,e4⟩:=fin (wss.length:Int) ⋯ ⋯;erw[e4];refine⟨ns,o3,gn,hp3,?_⟩;rw[bh];simp[ae]
 ·erw[Oo hb];obtain⟨ns,left,o3,gn,hp3,e4⟩:=fin (1+a) ⋯ ⋯;erw[e4];refine⟨ns,o3,gn,hp3,?_⟩;rw[bh];simp[ae]
theorem ints_get{ps:List Int}{i:Nat}{z:Vl}(h:((ps.map D.int).map Vl.d)[i]?=some z):∃p,ps[i]?=some p/\z=.d (.int p):=by
 rw[Ox,Ox]at h;cases q:ps[i]? with
 |none=>rw[q]at h;cases h
 |some p=>rw[q]at h;cases h;exact⟨p,rfl,rfl⟩
theorem take_snoc{α:Type}{ps:List α}{i:Nat}{p:α}(h:ps[i]?=some p):ps.take (i+1)=ps.take i++[p]:=by
 rw[R1,h];rfl
theorem B3(e:S[n]?=some (.lst xs)):cg [.r n] S=.ok (.d (.tup xs)) S:=by
 unfold cg;dsimp only;rw[qk e]
theorem xP{R:Sto}(hp:Pen o)(g:br n m wss)(hn:n<=50)(hm:m<=50):∃(w:Int)(o':Ob),(-9<=w/\w<=9)/\Pen o'/\c_ [.r 0,.d (ah wss)] (o::R)=.ok (.d (.int w)) (o'::R):=by
 have g0:=g.pos;have g1:=g.le;unfold c_;rw[bO];unfold jZ;obtain⟨a,o1,a0,a1,hp1,e1⟩:=aZ (R:=R) (m:=8) hp (by decide) (by decide);walk_at"mx";erw[e1];by_cases ha:a=0
 ·rw[Oi ha];obtain⟨b,o2,b0,b1,hp2,e2⟩:=aZ (R:=R) (m:=19) hp1 (by decide) (by decide);walk_at"mx";erw[e2];exact⟨b-9,o2,by omega,hp2,by rw[bh,gv]⟩
 ·rw[Oo ha];obtain⟨b,o2,b0,b1,hp2,e2⟩:=aZ (R:=R) (m:=(wss.length:Int)) hp1 ⋯ ⋯;unfold ah;walk_at"mx";erw[Oa,e2];have hb:b.toNat<wss.length:=by omega
  have hat:atI (wss.map ae) b=some (ae wss[b.toNat]):=by
   obtain⟨k,rfl⟩:=Q6 b0;exact lW (by rw[Ox,gV (by simpa using hb)];rfl)
  have gw:=g.all _ (O5 hb);generalize wss[b.toNat]=ws at hat gw;have w0:=gw.pos;have w1:=gw.le;erw[aL hat];obtain⟨c,o3,c0,c1,hp3,e3⟩:=aZ (R:=R) (m:=(ws.length:Int)) hp2 ⋯ ⋯;erw[show ae ws=.tup (ws.map D.int)from rfl];erw[Oa,e3];obtain⟨v,ev,_⟩:=iQ (ns:=ws) (i:=c) c0 c1;rw[aL ev];obtain⟨d,o4,d0,d1,hp4,e4⟩:=aZ (R:=R) (m:=5) hp3 (by decide) (by decide);walk_at"mx";erw[e4];obtain⟨u,eu,_⟩:=iQ (ns:=[0,0,0,1,-1]) (i:=d) d0 (by simpa using d1);erw[jX (show atI [D.int 0,D.int 0,D.int 0,D.int 1,D.int (-1)] d=some (.int u)from eu)];refine⟨_,o4,?_,hp4,by rw[bh,gv]⟩;split<;>split at *<;>omega
noncomputable abbrev Tri:=Int×Int×Int
noncomputable def av(t:Tri):D:=.tup [.int t.1,.int t.2.1,.int t.2.2]
structure bT(bs:List Tri):Prop where
 le:bs.length<=4
 rise:(bs.map (·.1)).Pairwise (· <·)
 lim:∀b∈bs,(-9<=b.1/\b.1<=9)/\0<=b.2.1/\b.2.1<=b.2.2/\b.2.2<=4
structure qg(ds:List Tri):Prop where
 le:ds.length<=12
 nd:ds.Nodup
 lim:∀d∈ds,(0<=d.1/\d.1<=3)/\(-9<=d.2.1/\d.2.1<=9)/\0<=d.2.2/\d.2.2<=3
theorem Gj(a b:Tri):D.eqv (av a) (av b)=decide (a=b):=by
 obtain⟨a1,a2,a3⟩:=a;obtain⟨b1,b2,b3⟩:=b;simp only[av,D.eqv,D.dN,Qk];rw[Ph];simp only[OQ,PY,O7,Xt]
theorem rE:∀ds:List Tri,D.cU (ds.map av)<=1
 | []=>by simp[D.cU]
 |d::ds=>by
  have:=rE ds;rw[Oq,D.cU,show D.depth (av d)=1 from rfl];omega
theorem FU(z:Tri)(ds:List Tri):inD (av z) (ds.map av)=decide (z∈ds):=by
 unfold inD;rw[Tp,Ph,O8,O7];constructor
 ·rintro⟨x,hx,e⟩;have e':D.eqv (av x) (av z)=true:=e;rw[Gj,O7]at e';rw[<-e'];exact hx
 ·intro h;exact⟨z,h,by show D.eqv (av z) (av z)=true;exact D.eqv_refl _⟩
theorem Aa{ds:List Tri}(e:S[n]?=some (.lst (ds.map av))):ff (.d (av z)) (.r n) S=.ok (.d (.bl (!decide (z∈ds)))) S:=by
 have hd:=rE ds;unfold ff inX;dsimp only;rw[qk e];dsimp only;rw[show D.flat (av z)=false from rfl,Ot (by simp),L6 e];dsimp only;rw[Oe ⋯,FU]
theorem CJ{o:Ob}{R:Sto}{wss:List (List Int)}{n m:Int}(hp:Pen o)(g:br n m wss)(hn:n<=50)(hm:m<=50):∃(ds:List Tri)(o':Ob),qg ds/\Pen o'/\jU [.r 0,.d (ah wss)] (o::R)=.ok (.d (.tup (ds.map av))) (o'::R):=by
 unfold jU;rw[bO];unfold pW;obtain⟨s,o0,s0,s1,hp0,e0⟩:=aZ (R:=R) (m:=3) hp (by decide) (by decide);walk_at"mx";erw[e0];obtain⟨a,o1,a0,a1,hp1,e1⟩:=aZ (R:=R++[.lst []]) (m:=13) hp0 (by decide) (by decide);obtain⟨τ',S',e2,o2,ds,x4,x5,x6,hp2,rfl,rfl,nd,lim,le⟩:=cx (show _=qQ [some (.r 0),some (.d (ah wss)),some (.d (.int (2+s))),some (.r (R.length+1)),none,none,none] (o0::(R++[.lst []]))from rfl)
  (S1:=o1::(R++[.lst []])) (gd:=none) (items:=(Oy a.toNat).map λi=>Vl.d (.int (i:Nat))) (by
   walk_at"mx";rw[e1];walk_at"mm")
  (λi τ S=>∃(o':Ob)(ds:List Tri)(x4 x5 x6:Option Vl),Pen o'/\τ=[some (.r 0),some (.d (ah wss)),some (.d (.int (2+s))),some (.r (R.length+1)),x4,x5,x6]/\S=o'::(R++[.lst (ds.map av)])/\ds.Nodup/\(∀d∈ds,(0<=d.1/\d.1<=3)/\(-9<=d.2.1/\d.2.1<=9)/\0<=d.2.2/\d.2.2<=3)/\ds.length<=i) ⟨o1,[],none,none,none,hp1,rfl,rfl,QB,λ_ h=>(by cases h),Oj 0⟩ (by
   rintro i z τ S hz ⟨o',ds,x4,x5,x6,hp',rfl,rfl,nd,lim,le⟩;obtain⟨hi,rfl⟩:=gE hz;obtain⟨q,o3,q0,q1,hp3,e3⟩:=aZ (R:=R++[.lst (ds.map av)]) (m:=2+s) hp' ⋯ ⋯;obtain⟨w,o4,hw,hp4,e4⟩:=xP (R:=R++[.lst (ds.map av)]) hp3 g hn hm;obtain⟨b,o5,b0,b1,hp5,e5⟩:=aZ (R:=R++[.lst (ds.map av)]) (m:=2+s) hp4 ⋯ ⋯;obtain⟨c,o6,c0,c1,hp6,e6⟩:=aZ (R:=R++[.lst (ds.map av)]) (m:=2) hp5 (by decide) (by decide);have hq0:0<=(q+1) % (2+s):=Rh _ ⋯;have hq1:(q+1) % (2+s)<2+s:=QO _ ⋯;obtain⟨p,ep,mp⟩:=iQ (ns:=[b,(q+1) % (2+s)]) (i:=c) c0 (by simpa using c1);have hp3':0<=p/\p<=3:=by
    simp only[Ow,P4,Rz]at mp;omega
   have pre:∀(k:XS),True:=λ_=>True.intro;by_cases hin:((q,w,p):Tri)∈ds
   ·refine⟨_,_,.nx,_,_,by walk_at"mx";rfl,by
     walk_at"mx";erw[e3];erw[e4];rw[e5];walk_at"mm";erw[e6];erw[jX (show atI [D.int b,D.int ((q+1) % (2+s))] c=some (.int p)from ep)];erw[show D.tup [D.int q,D.int w,D.int p]=av (q,w,p)from rfl,Aa (ds:=ds) oz,Oi hin];rfl,.inl rfl,True.intro,o6,ds,_,_,_,hp6,rfl,rfl,nd,lim,by omega⟩
   ·refine⟨_,_,.nx,_,_,by walk_at"mx";rfl,by
     walk_at"mx";erw[e3];erw[e4];rw[e5];walk_at"mm";erw[e6];erw[jX (show atI [D.int b,D.int ((q+1) % (2+s))] c=some (.int p)from ep)];erw[show D.tup [D.int q,D.int w,D.int p]=av (q,w,p)from rfl,Aa (ds:=ds) oz,Oo hin];erw[qI (by rw[Oa];omega)];rfl,.inl rfl,True.intro,o6,ds++[(q,w,p)],_,_,_,hp6,rfl,by rw[k_],?_,?_,by simp;omega⟩
    ·exact QC.mpr ⟨nd,by simp,λx hx y hy=>by rw[Og.mp hy];exactλe=>hin (e▸hx)⟩
    ·intro x hx;rcases OI.mp hx with z |z
     ·exact lim x z
     ·rw[Og.mp z];exact⟨by dsimp only;omega,hw,hp3'⟩)
 rw[iS]at le;erw[e2];erw[B3 (xs:=ds.map av) (by simp)];refine⟨ds,o2,⟨by omega,nd,lim⟩,hp2,?_⟩;rw[bh];simp
inductive Wi where
 |man (ns:List Int) (bs:List Tri) |row (ns:List Int) (ds:List Tri) (es:List Int)
noncomputable def Wi.names:Wi->List Int
 | .man ns _=>ns
 | .row ns _ _=>ns
noncomputable def wiD:Wi->D
 | .man ns bs=>.tup [.str "many",ae ns,.tup (bs.map av)]
 | .row ns ds es=>.tup [.str "row",ae ns,.tup (ds.map av),ae es]
def bx(k:Nat):Wi->Prop
 | .man ns bs=>cj k ns/\bT bs
 | .row ns ds es=>cj k ns/\qg ds/\es.Pairwise (· <·)/\(∀e∈es,0<=e/\e<=3)/\es.length<=4
theorem fi{wss:List (List Int)}{p:Int}(h0:0<=p)(h1:p<wss.length):atI (wss.map ae) p=some (ae (wss.getD p.toNat [])):=by
 obtain⟨k,rfl⟩:=Q6 h0;have hk:k<wss.length:=by omega
 exact lW (by rw[Ox,gV hk,O0,Oc,gV hk];rfl)
theorem jA{wss:List (List Int)}{p:Int}(h0:0<=p)(h1:p<wss.length):wss.getD p.toNat []∈wss:=by
 have hk:p.toNat<wss.length:=by omega
 rw[Oc,gV hk];exact O5 hk
theorem CO{o:Ob}{R:Sto}(hp:Pen o)(g:br n m wss)(hn:n<=50)(hm:m<=50):∃(ns:List Int)(ds:List Tri)(es:List Int)(o':Ob),bx wss.length (.row ns ds es)/\Pen o'/\gH [.r 0,.d (ah wss),.d (.int 3)] (o::R)=.ok (.d (wiD (.row ns ds es))) (o'::R):=by
 have g0:=g.pos;have g1:=g.le;obtain⟨ns,o1,gn,hp1,e1⟩:=ml (R:=R) (wss:=wss) hp g0 ⋯;have gl:=gn.le;unfold gH;rw[bZ];unfold nP;walk_at"mx";erw[e1];erw[show decide ((3:Int)=0)=false from rfl];erw[show decide ((3:Int)=1)=false from rfl];erw[show decide ((3:Int)=2)=false from rfl];obtain⟨acc,Q,e4,hl,o3,es,hp3,rfl,rfl,hr,hlim,hle⟩:=qZ (show _=n4 [some (.r 0),some (.d (ah wss)),some (.d (.int 3)),some (.d (ae ns)),none,none,none,none,none,none,none] (o1::R)from rfl) (S1:=o1::R) (items:=(Oy 4).map λi=>Vl.d (.int (i:Nat))) (by walk_at"mm";rfl)
  (λi acc Q=>∃(o':Ob)(es:List Int),Pen o'/\acc=es.map D.int/\Q=o'::R/\es.Pairwise (· <·)/\(∀e∈es,0<=e/\e<i)/\es.length<=i) ⟨o1,[],hp1,rfl,rfl,.nil,λ_ h=>(by cases h),Oj 0⟩ (by
   rintro i z acc Q hz ⟨o',es,hp',rfl,rfl,hr,hlim,hle⟩ _;obtain⟨hi,rfl⟩:=gE hz;obtain⟨c,o3,c0,c1,hp3,e3⟩:=aZ (R:=R++[.lst (es.map D.int)]) (m:=3) hp' (by decide) (by decide);refine⟨decide (c=0),o3::R,?_,rfl,λ_=>⟨.int i,o3::R,by walk_at"mx",rfl,o3,es++[(i:Int)],hp3,k_.symm,rfl,?_,?_,by simp;omega⟩,λ_=>⟨o3,es,hp3,rfl,rfl,hr,λe he=>by have:=hlim e he;omega,by omega⟩⟩
   ·walk_at"mx";erw[e3]
   ·refine Tf.mpr ⟨hr,by simp,λx hx y hy=>?_⟩;rw[Og.mp hy];exact(hlim x hx).2
   ·intro e he;rcases OI.mp he with q |q
    ·have:=hlim e q;omega
    ·rw[Og.mp q];omega)
 rw[iS]at hlim hle;erw[e4];obtain⟨ds,o5,gd,hp5,e5⟩:=CJ (R:=R) hp3 g hn hm;erw[e5];exact⟨ns,ds,es,o5,⟨gn,gd,hr,λe he=>by have:=hlim e he;omega,hle⟩,hp5,by rw[bh,gv];rfl⟩
theorem xf:iz [.d (.int v)] S=.ok (.d (.bl true)) S:=by
 unfold iz;rw[bf];unfold oV;walk_at"mx";erw[show isT "int" (.int v)=true from rfl];erw[show isT "bool" (.int v)=false from rfl];rw[ao]
theorem cN(h:lo<=v/\v<=hi):bQ [.d (.int v),.d (.int lo),.d (.int hi)] S=.ok (.d (.bl true)) S:=by
 unfold bQ;rw[bZ];unfold nK;walk_at"mx";erw[xf];erw[Oi h.1];rw[Oi h.2];rw[ao]
theorem all_true{α:Type}{l:List α}:dO [.d (.lst (l.map λ_=>D.bl true))] S=.ok (.d (.bl true)) S:=by
 rw[eV (f:=λ_=>true)];simp
theorem iT:isT "tuple" (.tup xs)=true:=rfl
theorem ic(h:∀v∈ns,lo<=v/\v<=hi):c5 [.d (ae ns),.d (.int lo),.d (.int hi)] S=.ok (.d (.bl true)) S:=by
 unfold c5;rw[bZ];unfold mB ae;walk_at"mx";erw[iT];rw[cI (show _=mK [some (.d (.tup (ns.map D.int))),some (.d (.int lo)),some (.d (.int hi))] S from rfl) (xs:=ns.map D.int) (S1:=S) (by walk_at"mx") (λ_=>.bl true) (by
  intro x hx S;obtain⟨v,hv,rfl⟩:=Of.mp hx;walk_at"mx";rw[cN (h v hv)];walk_at"mx")]
 walk_at"mx";erw[all_true];rw[ao]
theorem Gz{ns:List Int}(h:∀k,k+1<ns.length->ns.getD k 0<ns.getD (k+1) 0):ns.Pairwise (· <·):=by
 rw[QQ];have key:∀d i,(hd:i+d+1<ns.length)->ns.getD i 0<ns.getD (i+d+1) 0:=by
  intro d
  induction d with
  |zero=>intro i hd;exact h i hd
  |succ d ih=>
   intro i hd;have a:=ih i ⋯;have b:=h (i+d+1) ⋯;rw[show i+(d+1)+1=i+d+1+1 by omega];omega
 intro i j hi hj hij;have:=key (j-i-1) i ⋯;rw[show i+(j-i-1)+1=j by omega,Oc,Oc,gV hi,gV hj]at this;simpa using this
theorem Hy{ns:List Int}(h:ns.Pairwise (· <·))(hk:k+1<ns.length):ns.getD k 0<ns.getD (k+1) 0:=by
 rw[QQ]at h;have:=h k (k+1) ⋯ hk ⋯;rw[Oc,Oc,gV hk,gV ⋯];simpa using this
theorem vG{ns:List Int}:((Oy (ns.length-1)).all λk=>decide (ns.getD k 0<ns.getD (k+1) 0))=decide (ns.Pairwise (· <·)):=by
 rw[Ph,Pf,RQ];constructor
 ·intro h;exact Gz λk hk=>by simpa using h k (O3.mpr ⋯)
 ·intro h k hk;have:=O3.mp hk;exact Oi (Hy h ⋯)
noncomputable def nbL(ns:List Int):Vl->D
 | .d (.int j)=>.bl (decide (ns.getD (j.toNat-1) 0<ns.getD j.toNat 0))
 |_=>.non
theorem pA{ns:List Int}(h:i<ns.length):atI (ns.map D.int) (i:Int)=some (.int (ns.getD i 0)):=lW (by rw[Ox,gV h,Oc,gV h];rfl)
theorem dD{ns:List Int}(h:ns.length<=1000):bI [.d (ae ns)] S=.ok (.d (.bl (decide (ns.Pairwise (· <·))))) S:=by
 unfold bI;rw[bf];unfold ie ae;walk_at"mx";have key:dE [some (.d (.tup (ns.map D.int)))] S=.ok (.d (.lst ((Oy (ns.length-1)).map λk=>.bl (decide (ns.getD k 0<ns.getD (k+1) 0))))) S:=by
  unfold dE;rw[rm (items:=(Oy ((ns.length:Int)-1).toNat).map λk=>Vl.d (.int (1+(k:Nat)))) (S1:=S) (by walk_at"mx";rw[Oa,zm ⋯]) (nbL ns) (by
   intro z hz S;obtain⟨k,hk,rfl⟩:=Of.mp hz;have hk:=O3.mp hk;walk_at"mx";erw[show(1:Int)+(k:Nat)-1=(k:Nat) by omega,show(1:Int)+(k:Nat)=((k+1:Nat):Int) by omega,aL (pA ⋯)];erw[aL (pA ⋯)];rfl)]
  rw[Oz,show((ns.length:Int)-1).toNat=ns.length-1 by omega];congr 3;refine P8 λk hk=>?_;show nbL ns (.d (.int (1+(k:Nat))))=_;rw[show(1:Int)+(k:Nat)=((k+1:Nat):Int) by omega];rfl
 erw[key];erw[eV,vG];rw[ao]
theorem ue(g:GoodW m ws)(hm:m<=4):gf [.d (ae ws)] S=.ok (.d (.bl true)) S:=by
 have h1:=g.pos;have h2:=g.le;unfold gf;rw[bf];unfold mn;walk_at"mx";erw[ic g.lim];rw[show ae ws=.tup (ws.map D.int)from rfl]
 try walk_at"mx"
 erw[Oa,Oi (show(1:Int)<=(ws.length:Int) by omega)];erw[Oi (show(ws.length:Int)<=4 by omega)];erw[show D.tup (ws.map D.int)=ae ws from rfl,dD ⋯,Oi g.rise];rw[ao]
theorem xq(g:br n m wss)(hn:n<=4)(hm:m<=4):iu [.d (ah wss)] S=.ok (.d (.bl true)) S:=by
 have h1:=g.pos;have h2:=g.le;unfold iu;rw[bf];unfold o_ ah;walk_at"mx";erw[iT];erw[Oa,Oi (show(1:Int)<=(wss.length:Int) by omega)];erw[Oi (show(wss.length:Int)<=4 by omega)];rw[cI (show _=oK [some (.d (.tup (wss.map ae)))] S from rfl) (xs:=wss.map ae) (S1:=S) (by walk_at"mx") (λ_=>.bl true) (by
  intro x hx S;obtain⟨ws,hv,rfl⟩:=Of.mp hx;walk_at"mx";rw[ue (g.all ws hv) hm];walk_at"mx")]
 walk_at"mx";erw[all_true];rw[ao]
theorem uv(g:br n m wss)(hn:n<=4)(hm:m<=4):fC [.d (ah wss)] S=.ok (.d .non) S:=by
 unfold fC;rw[bf];unfold mx;walk_at"mx";erw[xq g hn hm];rw[gx,fD,OD]
theorem pJ(h:ns.Nodup):(aS ns).length=ns.length:=by
 rw[<-vF (xs:=ns) (λz=>cC ns z) (fe h),cW]
theorem t8(h:ns.Nodup)(hl:ns.length<=60):cL [.d (ae ns)] S=.ok (.d (.bl true)) S:=by
 unfold cL;rw[bf];unfold ij ae;walk_at"mx";erw[FN (ns:=ns) rfl ⋯];erw[Oa,pJ h];rw[ao]
theorem vc(g:cj k ns)(hk:k<=4):gQ [.d (ae ns)] S=.ok (.d (.bl true)) S:=by
 have h1:=g.pos;have h2:=g.le;unfold gQ;rw[bf];unfold nI;walk_at"mx";erw[ic (λv hv=>by have:=g.dom v hv;omega)];rw[show ae ns=.tup (ns.map D.int)from rfl]
 try walk_at"mx"
 erw[Oa,Oi (show(1:Int)<=(ns.length:Int) by omega)];erw[Oi (show(ns.length:Int)<=4 by omega)];erw[show D.tup (ns.map D.int)=ae ns from rfl,t8 g.nd ⋯];rw[ao]
theorem qW{α d:Type}{f:α->d}:∀{l:List α},l.Nodup->(∀x∈l,∀y∈l,f x=f y->x=y)->(l.map f).Nodup
 | [],_,_=>QB
 |a::l,h,k=>by
  rw[OW]at h;rw[Oq,OW];refine⟨λhm=>?_,qW h.2 λx hx y hy=>k x (OJ _ hx) y (OJ _ hy)⟩;obtain⟨y,hy,e⟩:=Of.mp hm;have:=k a (OY ..) y (OJ _ hy) e.symm;exact h.1 (this▸hy)
theorem uL(g:qg ds):cL [.d (.tup (ds.map av))] S=.ok (.d (.bl true)) S:=by
 have hl:=g.le;unfold cL;rw[bf];unfold ij;walk_at"mx";rw[FO (ts:=ds.map λd=>[d.1,d.2.1,d.2.2]) (by rw[Oz];rfl) (by rw[Oa];omega) (qW g.nd λx _ y _ e=>by
  obtain⟨a,b,c⟩:=x;obtain⟨a',b',c'⟩:=y;simpa using e)]
 walk_at"mx";erw[Oa,Oa];rw[ao]
theorem sj{ns:List Int}{S:Sto}(h:ns.length<=1000):bI [.d (.lst (ns.map D.int))] S=.ok (.d (.bl (decide (ns.Pairwise (· <·))))) S:=by
 unfold bI;rw[bf];unfold ie;walk_at"mx";have key:dE [some (.d (.lst (ns.map D.int)))] S=.ok (.d (.lst ((Oy (ns.length-1)).map λk=>.bl (decide (ns.getD k 0<ns.getD (k+1) 0))))) S:=by
  unfold dE;rw[rm (items:=(Oy ((ns.length:Int)-1).toNat).map λk=>Vl.d (.int (1+(k:Nat)))) (S1:=S) (by walk_at"mx";rw[Oa,zm ⋯]) (nbL ns) (by
   intro z hz S;obtain⟨k,hk,rfl⟩:=Of.mp hz;have hk:=O3.mp hk;walk_at"mx";erw[show(1:Int)+(k:Nat)-1=(k:Nat) by omega,show(1:Int)+(k:Nat)=((k+1:Nat):Int) by omega,jX (pA ⋯)];erw[jX (pA ⋯)];rfl)]
  rw[Oz,show((ns.length:Int)-1).toNat=ns.length-1 by omega];congr 3;refine P8 λk hk=>?_;show nbL ns (.d (.int (1+(k:Nat))))=_;rw[show(1:Int)+(k:Nat)=((k+1:Nat):Int) by omega];rfl
 erw[key];erw[eV,vG];rw[ao]
theorem qL{t:Tri}{S:Sto}:oIx (.d (av t)) (.d (.int 0)) S=.ok (.d (.int t.1)) S:=aL rfl
theorem uE{t:Tri}{S:Sto}:oIx (.d (av t)) (.d (.int 1)) S=.ok (.d (.int t.2.1)) S:=aL rfl
theorem uJ{t:Tri}{S:Sto}:oIx (.d (av t)) (.d (.int 2)) S=.ok (.d (.int t.2.2)) S:=aL rfl
theorem xx{t:Tri}{S:Sto}:aU [.d (av t)] S=.ok (.d (.int 3)) S:=kU
theorem yg{t:Tri}:isT "tuple" (av t)=true:=rfl
theorem zr{a b lo hi:Int}{S:Sto}(h:lo<=a/\a<=b/\b<=hi):jB [.d (.int a),.d (.int b),.d (.int lo),.d (.int hi)] S=.ok (.d (.bl true)) S:=by
 unfold jB;rw[je];unfold qE;walk_at"mx";erw[cN ⋯];erw[cN ⋯];rw[Oi h.2.1,ao]
theorem xm{t:Tri}{S:Sto}(h:(-9<=t.1/\t.1<=9)/\0<=t.2.1/\t.2.1<=t.2.2/\t.2.2<=4):iF [.d (av t)] S=.ok (.d (.bl true)) S:=by
 unfold iF;rw[bf];unfold oW;walk_at"mx";erw[yg];erw[xx];erw[qL];erw[cN h.1];erw[uE];erw[uJ];erw[zr ⋯];rw[ao]
theorem uk{bs:List Tri}{S:Sto}(g:bT bs):f6 [.d (.tup (bs.map av))] S=.ok (.d (.bl true)) S:=by
 have hl:=g.le;unfold f6;rw[bf];unfold mF;walk_at"mx";erw[iT];erw[Oa,Oo ⋯];rw[cI (show _=mv [some (.d (.tup (bs.map av)))] S from rfl) (xs:=bs.map av) (S1:=S) (by walk_at"mx") (λ_=>.bl true) (by
  intro x hx S;obtain⟨b,hb,rfl⟩:=Of.mp hx;walk_at"mx";rw[xm (g.lim b hb)];walk_at"mx")]
 walk_at"mx";erw[all_true];rw[cI (show _=me [some (.d (.tup (bs.map av)))] S from rfl) (xs:=bs.map av) (S1:=S) (by walk_at"mx") (λx=>match x with | .tup (y::_)=>y |z=>z) (by
  intro x hx S;obtain⟨b,hb,rfl⟩:=Of.mp hx;walk_at"mx";rw[qL];rfl)]
 walk_at"mx";erw[Oz,show((λx:D=>(match x with | .tup (y::_)=>y |z=>z))∘av)=λb:Tri=>D.int b.1 from rfl,show(bs.map λb:Tri=>D.int b.1)=(bs.map (·.1)).map D.int by rw[Oz];rfl,sj (by rw[Oa];omega),Oi g.rise];rw[ao]
theorem zY{t:Tri}{S:Sto}(h:(0<=t.1/\t.1<=3)/\(-9<=t.2.1/\t.2.1<=9)/\0<=t.2.2/\t.2.2<=3):j4 [.d (av t)] S=.ok (.d (.bl true)) S:=by
 unfold j4;rw[bf];unfold qa;walk_at"mx";erw[yg];erw[xx];erw[qL];erw[cN h.1];erw[uE];erw[cN h.2.1];erw[uJ];erw[cN h.2.2];rw[ao]
theorem wc{ds:List Tri}{S:Sto}(g:qg ds):gG [.d (.tup (ds.map av))] S=.ok (.d (.bl true)) S:=by
 have hl:=g.le;unfold gG;rw[bf];unfold nz;walk_at"mx";erw[iT];erw[Oa,Oo ⋯];rw[cI (show _=mZ [some (.d (.tup (ds.map av)))] S from rfl) (xs:=ds.map av) (S1:=S) (by walk_at"mx") (λ_=>.bl true) (by
  intro x hx S;obtain⟨b,hb,rfl⟩:=Of.mp hx;walk_at"mx";rw[zY (g.lim b hb)];walk_at"mx")]
 walk_at"mx";erw[all_true];erw[uL g];rw[ao]
theorem Ba:decide ((OS "many":Str)=OS "unlike")=false:=by decide+kernel
theorem Cm:decide ((OS "row":Str)=OS "unlike")=false:=by decide+kernel
theorem BU:decide ((OS "row":Str)=OS "many")=false:=by decide+kernel
theorem Cq:decide ((OS "row":Str)=OS "sum")=false:=by decide+kernel
theorem za{ns:List Int}{bs:List Tri}{S:Sto}(g:bT bs):jK [.d (wiD (.man ns bs))] S=.ok (.d (.bl true)) S:=by
 unfold jK;rw[bf];unfold rJ wiD;walk_at"mx";erw[show decide ((((0+1+1+1:Nat)):Int)=3)=true from rfl];erw[aL (z:=.tup (bs.map av)) rfl];erw[uk g];rw[ao]
theorem B7{ns:List Int}{ds:List Tri}{es:List Int}{S:Sto}(g:qg ds)(h1:es.Pairwise (· <·))(h2:∀e∈es,0<=e/\e<=3)(h3:es.length<=4):lI [.d (wiD (.row ns ds es))] S=.ok (.d (.bl true)) S:=by
 unfold lI;rw[bf];unfold tE wiD;walk_at"mx";erw[show decide ((((0+1+1+1+1:Nat)):Int)=4)=true from rfl];erw[aL (z:=.tup (ds.map av)) rfl];erw[wc g];erw[aL (z:=ae es) rfl];erw[ic h2];erw[aL (z:=ae es) rfl];erw[dD ⋯,Oi h1];rw[ao]
theorem yO{wi:Wi}{S:Sto}:oIx (.d (wiD wi)) (.d (.int 0)) S=.ok (.d (.str (match wi with | .man _ _=>"many" | .row _ _ _=>"row"))) S:=by
 cases wi<;>exact aL rfl
theorem EL{wi:Wi}{S:Sto}:oIx (.d (wiD wi)) (.d (.int 1)) S=.ok (.d (ae wi.names)) S:=by
 cases wi<;>exact aL rfl
theorem G2{wi:Wi}{k:Nat}{S:Sto}(g:bx k wi):dr [.d (wiD wi)] S=.ok (.d (.bl true)) S:=by
 unfold dr;rw[bf];unfold il;walk_at"mx";rw[yO];cases wi with
 |man ns bs=>
  walk_at"mx";erw[Ba];erw[za g.2];rw[ao]
 |row ns ds es=>
  walk_at"mx";erw[Cm];erw[BU];erw[Cq];erw[B7 g.2.1 g.2.2.1 g.2.2.2.1 g.2.2.2.2];rw[ao]
theorem gp{wi:Wi}{k:Nat}(g:bx k wi):cj k wi.names:=by
 cases wi with
 |man _ _=>exact g.1
 |row _ _ _=>exact g.1
theorem II{wi:Wi}:isT "tuple" (wiD wi)=true:=by cases wi<;>rfl
theorem HZ{wi:Wi}{S:Sto}:∃n:Int,2<=n/\aU [.d (wiD wi)] S=.ok (.d (.int n)) S:=by
 cases wi
 ·exact⟨3,by decide,kU⟩
 ·exact⟨4,by decide,kU⟩
theorem k9{wi:Wi}{k:Nat}{S:Sto}(g:bx k wi)(hk:k<=4):fw [.d (wiD wi)] S=.ok (.d (.bl true)) S:=by
 unfold fw;rw[bf];unfold qc;walk_at"mx";erw[II];obtain⟨n,hn,en⟩:=HZ (wi:=wi) (S:=S);erw[en];erw[Oo ⋯];erw[EL];erw[vc (gp g) hk];erw[G2 g];rw[ao]
theorem uo{wss:List (List Int)}{wi:Wi}{S:Sto}(g:bx wss.length wi)(hk:wss.length<=4):f9 [.d (ah wss),.d (wiD wi)] S=.ok (.d (.bl true)) S:=by
 unfold f9;rw[bO];unfold mj;walk_at"mx";erw[k9 g hk];rw[cI (show _=mJ [some (.d (ah wss)),some (.d (wiD wi))] S from rfl) (xs:=wi.names.map D.int) (S1:=S) (by walk_at"mx";rw[EL];rfl) (λ_=>.bl true) (by
  intro x hx S;obtain⟨v,hv,rfl⟩:=Of.mp hx;have:=(gp g).dom v hv;unfold ah;walk_at"mx";rw[Oa,Oi this.2])]
 walk_at"mx";erw[all_true];rw[ao]
theorem uR{wss:List (List Int)}{wi:Wi}{x:Vl}{S:Sto}(g:bx wss.length wi)(hk:wss.length<=4):gR [.d (ah wss),.d (wiD wi),x] S=.ok (.d .non) S:=by
 unfold gR;rw[bZ];unfold nu;walk_at"mx";erw[uo g hk];rw[gx,fD,OD]
noncomputable def grow(found:List (List Int))(ws:List Int):List (List Int):=found.flatMap λf=>ws.map λw=>f++[w]
noncomputable def aW(wss:List (List Int)):List (List Int):=wss.foldl grow [[]]
theorem j8:aW (wss++[ws])=grow (aW wss) ws:=by unfold aW;rw[Rp];rfl
theorem Ct:grow (found++[f]) ws=grow found ws++ws.map λw=>f++[w]:=by simp[grow]
theorem pG:∀found:List (List Int),(grow found ws).length=found.length*ws.length
 | []=>by simp[grow]
 |f::found=>by
  have:=pG (ws:=ws) found;rw[show grow (f::found) ws=(ws.map λw=>f++[w])++grow found ws from rfl,Pj,this,Oa,OB,Yg];omega
theorem la{wss:List (List Int)}:∀(n:Nat),n<=wss.length->∀f∈aW (wss.take n),f.length=n/\∀i,i<n->f.getD i 0∈wss.getD i []:=by
 intro n
 induction n with
 |zero=>
  intro _ f hf;have:f=[]:=by simpa[aW]using hf
  subst this;exact⟨rfl,λi hi=>by omega⟩
 |succ n ih=>
  intro hn f hf;have hlt:n<wss.length:=by omega
  rw[take_snoc (gV hlt),j8]at hf;unfold grow at hf;obtain⟨g,hg,hm⟩:=QJ.mp hf;obtain⟨w,hw,rfl⟩:=Of.mp hm;obtain⟨g1,g2⟩:=ih ⋯ g hg;refine⟨by simp[g1],λi hi=>?_⟩;by_cases hin:i<n
  ·have e:(g++[w]).getD i 0=g.getD i 0:=by
    rw[Oc,Oc,OC (show i<g.length by omega)]
   rw[e];exact g2 i hin
  ·have:i=n:=by omega
   subst this;have e:(g++[w]).getD i 0=w:=by
    rw[Oc,OP (show g.length<=i by omega),g1];simp
   rw[e,Oc,gV hlt];exact hw
theorem CA{wss:List (List Int)}(h:∀ws∈wss,ws.length<=4):∀(n:Nat),n<=wss.length->(aW (wss.take n)).length<=4 ^ n:=by
 intro n
 induction n with
 |zero=>intro _;simp[aW]
 |succ n ih=>
  intro hn;have hlt:n<wss.length:=by omega
  rw[take_snoc (gV hlt),j8,pG,X7];exact TC (ih ⋯) (h _ (O5 hlt))
theorem nj{ps:List (List Int)}{i:Nat}{z:Vl}(h:((ps.map ae).map Vl.d)[i]?=some z):∃p,ps[i]?=some p/\z=.d (ae p):=by
 rw[Ox,Ox]at h;cases q:ps[i]? with
 |none=>rw[q]at h;cases h
 |some p=>rw[q]at h;cases h;exact⟨p,rfl,rfl⟩
noncomputable def addW(f:List Int):D->D
 | .int w=>ae (f++[w])
 |z=>z
theorem Fc(e:S[n]?=some (.lst xs)):frz (.r n) S=.ok (.d (.lst xs)) (S.set n .dead):=by
 unfold frz;dsimp only;rw[e]
theorem t9{wss:List (List Int)}{S:Sto}(h:∀ws∈wss,ws.length<=4)(hl:wss.length<=4):fA [.d (ah wss)] S=.ok (.d (.lst ((aW wss).map ae))) S:=by
 unfold fA;rw[bf];unfold mG ah;walk_at"mx";obtain⟨τ',S',e,x2,x3,x4,Z,rfl,rfl⟩:=cx (show _=mE [some (.d (.tup (wss.map ae))),some (.d (.lst [.tup []])),none,none,none] S from rfl) (S1:=S) (items:=(wss.map ae).map Vl.d) (gd:=none) (by walk_at"mx")
  (λi τ S'=>∃x2 x3 x4 Z,τ=[some (.d (.tup (wss.map ae))),some (.d (.lst ((aW (wss.take i)).map ae))),x2,x3,x4]/\S'=S++Z) ⟨none,none,none,[],rfl,by simp⟩ (by
   rintro i z τ S' hz ⟨x2,x3,x4,Z,rfl,rfl⟩;obtain⟨ws,ew,rfl⟩:=nj hz;have hi:=(Ol.mp ew).1;have hw:=h ws (OG ew);have hfl:=CA h i ⋯;have h44:4 ^ i<=4 ^ 4:=Nat.pow_le_pow_right (by decide) ⋯;generalize hF:aW (wss.take i)=F at hfl;generalize hSZ:S++Z=SZ;have inner:∃x4',h9 [some (.d (.tup (wss.map ae))),some (.d (.lst (F.map ae))),some (.d (ae ws)),some (.r SZ.length),x4] (SZ++[.lst []])=.ok (.nx,[some (.d (.tup (wss.map ae))),some (.d (.lst (F.map ae))),some (.d (ae ws)),some (.r SZ.length),x4']) (SZ++[.lst ((grow F ws).map ae)]):=by
    obtain⟨τ',S',e,x4',rfl,rfl⟩:=cx (show _=h9 [some (.d (.tup (wss.map ae))),some (.d (.lst (F.map ae))),some (.d (ae ws)),some (.r SZ.length),x4] (SZ++[.lst []])from rfl) (S1:=SZ++[.lst []]) (items:=(F.map ae).map Vl.d) (gd:=none) (by walk_at"mx")
     (λj τ S'=>∃x4',τ=[some (.d (.tup (wss.map ae))),some (.d (.lst (F.map ae))),some (.d (ae ws)),some (.r SZ.length),x4']/\S'=SZ++[.lst ((grow (F.take j) ws).map ae)]) ⟨x4,rfl,rfl⟩ (by
      rintro j z τ S' hz ⟨x4',rfl,rfl⟩;obtain⟨f,ef,rfl⟩:=nj hz;have hj:=(Ol.mp ef).1;have hgl:=pG (ws:=ws) (F.take j);have hgl2:(F.take j).length*ws.length<=256*4:=TC (by simp;omega) hw;have hff:f.length<=4:=((by have:=(la (wss:=wss) i ⋯ f (by rw[hF];exact OG ef)).1;omega):f.length<=4);refine⟨_,_,.nx,_,_,by walk_at"mx";rfl,by
       walk_at"mx";rw[cI (show _=mH [some (.d (.tup (wss.map ae))),some (.d (.lst (F.map ae))),some (.d (ae ws)),some (.r SZ.length),some (.d (ae f))] (SZ++[.lst ((grow (F.take j) ws).map ae)])from rfl) (xs:=ws.map D.int) (S1:=SZ++[.lst ((grow (F.take j) ws).map ae)]) (by walk_at"mx";rfl) (addW f) (by
        intro x hx S;obtain⟨w,hw,rfl⟩:=Of.mp hx;unfold addW ae;walk_at"mx";rw[wg (by simp;omega),OX];rfl)]
       walk_at"mx";erw[Cp (by simp only[Oa];omega)];rfl,.inl rfl,True.intro,some (.d (ae f)),rfl,?_⟩
      rw[take_snoc ef,Ct,OX,Oz,Oz];rfl)
    rw[show((F.map ae).map Vl.d).length=F.length by simp,OD]at e;exact⟨x4',e⟩
   obtain⟨x4',e⟩:=inner;refine⟨_,_,.nx,_,_,by walk_at"mx";rfl,by
    walk_at"mx";erw[e];erw[Fc fm];rfl,.inl rfl,True.intro,some (.d (ae ws)),some (.r SZ.length),x4',Z++[.dead],?_,?_⟩
   ·rw[take_snoc ew,j8,hF]
   ·rw[<-hSZ];simp)
 rw[e];erw[show((wss.map ae).map Vl.d).length=wss.length by simp,OD];rw[eh]
noncomputable def vls(f ns:List Int):List Int:=ns.map λn=>f.getD n.toNat 0
theorem HF{f:List Int}{n:Int}{k:Nat}{S:Sto}(hf:f.length=k)(h:0<=n/\n<(k:Int)):oIx (.d (ae f)) (.d (.int n)) S=.ok (.d (.int (f.getD n.toNat 0))) S:=by
 obtain⟨j,rfl⟩:=Q6 h.1;exact aL (pA ⋯)
noncomputable def atF(f:List Int):D->D
 | .int n=>.int (f.getD n.toNat 0)
 |z=>z
theorem Hv{f ns:List Int}:(ns.map D.int).map (atF f)=(vls f ns).map D.int:=by rw[Oz,vls,Oz];rfl
theorem c9{it:XI}{t:XT}{e:XE}{τ:Nv}{S S1:Sto}{r:R Vl}(hC:xLC it 1 (gNm 0) t e τ S=r){α:Type}{d g:α->D}{xs:List α}(hit:it τ S=.ok ⟨xs.map λx=>Vl.d (d x),none⟩ S1)(p:α->Bool)(ht:∀x∈xs,∀S:Sto,t (some (.d (d x))::τ) S=.ok (p x) S)(he:∀x∈xs,p x=true->∀S:Sto,e (some (.d (d x))::τ) S=.ok (.d (g x)) S):r=.ok (.d (.lst ((xs.filter p).map g))) S1:=by
 obtain⟨acc,Q,e1,hl,rfl,rfl⟩:=qZ hC hit (λi acc Q=>acc=((xs.take i).filter p).map g/\Q=S1) ⟨by simp,rfl⟩ (by
  rintro i z acc Q hz ⟨rfl,rfl⟩ _;rw[Ox]at hz;cases q:xs[i]? with
  |none=>rw[q]at hz;cases hz
  |some x=>
   rw[q]at hz;cases hz;have hx:=OG q;refine⟨p x,Q,ht x hx _,rfl,λhb=>⟨g x,Q,he x hx hb _,rfl,?_,rfl⟩,λhb=>⟨?_,rfl⟩⟩
   ·rw[take_snoc q,Rb,OX];simp[hb]
   ·rw[take_snoc q,Rb];simp[hb])
 rw[e1,Oa,OD]
theorem fT{ws:List Int}:(ws.map D.int).map Vl.d=ws.map λx=>Vl.d (.int x):=by rw[Oz];rfl
noncomputable def inB(ws:List Int)(b:Tri):Bool:=decide (b.2.1<=(ws.count b.1:Int))&&decide ((ws.count b.1:Int)<=b.2.2)
theorem jS{bs:List Tri}:(bs.map av).map Vl.d=bs.map λb=>Vl.d (av b):=by rw[Oz];rfl
theorem lcG(hit:it τ S=.ok ⟨items,none⟩ S1)(own:Vl->Nv)(f:Vl->D)(p:Vl->Bool)(hown:∀z∈items,(own z).length=k)(hg:∀z∈items,∀m:Nv,m.length=k->∀S:Sto,g z (m++τ) S=.ok (own z++τ) S)
  (ht:∀z∈items,∀S:Sto,t (own z++τ) S=.ok (p z) S) (he:∀z∈items,p z=true->∀S:Sto,e (own z++τ) S=.ok (.d (f z)) S):xLC it k g t e τ S=.ok (.d (.lst ((items.filter p).map f))) S1:=by
 have key:∀(zs:List Vl)(acc:List D)(m:Nv),(∀z∈zs,z∈items)->m.length=k->eM g t e S1.length none zs acc (m++τ) (S1++[.lst acc])=.ok (acc++(zs.filter p).map f) (S1++[.lst (acc++(zs.filter p).map f)]):=by
  intro zs
  induction zs with
  |nil=>
   intro acc m _ _;rw[eM,Oe (by simp)];simp
  |cons z zs ih=>
   intro acc m hz hl;have hm:=hz z (OY ..);rw[eM,hg z hm m hl,aC,ht z hm,aC];by_cases hp:p z=true
   ·rw[Oe hp,he z hm hp,aC];dsimp only;rw[Oe ⟨by simp,True.intro⟩];rw[show(S1++[Ob.lst acc]).set S1.length (.lst (acc++[f z]))=S1++[.lst (acc++[f z])] by simp];rw[ih (acc++[f z]) (own z) (λy hy=>hz y (OJ _ hy)) (hown z hm),List.filter_cons_of_pos hp,Oq,QZ];rfl
   ·rw[Ot hp,Oe (show gok none (S1++[Ob.lst acc])from True.intro),ih acc (own z) (λy hy=>hz y (OJ _ hy)) (hown z hm),List.filter_cons_of_neg hp]
 show(it τ S).bind _=_;rw[hit,aC];dsimp only;rw[key items [] (Pm k none) (λ_ h=>h) (by simp),aC];unfold lE;rw[Oe (by simp),Sa];simp
theorem ui{ws:List Int}{bs:List Tri}:m_many_holds [.d (.lst (ws.map D.int)),.d (.tup (bs.map av))] S=.ok (.d (.bl (bs.all (inB ws)))) S:=by
 unfold m_many_holds;rw[bO];unfold mD;have e:C1_many_holds [some (.d (.lst (ws.map D.int))),some (.d (.tup (bs.map av)))] S=.ok (.d (.lst (bs.map λb=>.bl (inB ws b)))) S:=by
  unfold C1_many_holds;rw[lcG (items:=(bs.map av).map Vl.d) (S1:=S) (by walk_at"mx") (λz=>match z with | .d (.tup [a,b,c])=>[some (.d a),some (.d b),some (.d c)] |_=>[none,none,none]) (λz=>match z with | .d (.tup [.int a,.int b,.int c])=>.bl (inB ws (a,b,c)) |_=>.non) (λ_=>true) ?_ ?_ ?_ ?_]
  ·rw[PQ.mpr (λ_ _=>rfl),Oz,Oz];rfl
  ·intro z hz;obtain⟨x,hx,rfl⟩:=Of.mp hz;obtain⟨b,hb,rfl⟩:=Of.mp hx;rfl
  ·intro z hz y hρ S;obtain⟨x,hx,rfl⟩:=Of.mp hz;obtain⟨b,hb,rfl⟩:=Of.mp hx
   match y,hρ with
   | [_,_,_],_=>
    unfold av;walk_at"mx"
  ·intro z hz S;rfl
  ·intro z hz _ S;obtain⟨x,hx,rfl⟩:=Of.mp hz;obtain⟨b,hb,rfl⟩:=Of.mp hx;unfold av;dsimp only;walk_at"mx";by_cases h:b.2.1<=(ws.count b.1:Int)
   ·erw[Oi h];unfold inB;rw[Oi h];rfl
   ·erw[Oo h];unfold inB;rw[Oo h];rfl
 walk_at"mx";erw[e];erw[eV];rw[ao]
noncomputable def iN(ds:List Tri)(w:Int)(r:List Int):List Int:=(ds.filter λd=>decide (d.1∈r)&&decide (d.2.1=w)).map (·.2.2)
noncomputable def cb(ds:List Tri)(ws:List Int):List Int:=ws.foldl (λr w=>iN ds w r) [0]
theorem lj:cb ds (ws++[w])=iN ds w (cb ds ws):=by unfold cb;rw[Rp];rfl
theorem vA:m_row_holds [.d (.lst (ws.map D.int)),.d (.tup (ds.map av)),.d (ae es)] S=.ok (.d (.bl ((cb ds ws).any λp=>decide (p∈es)))) S:=by
 unfold m_row_holds;rw[bZ];unfold nB;walk_at"mx";obtain⟨τ',S',e,x4,rfl,rfl⟩:=cx (show _=L2_row_holds [some (.d (.lst (ws.map D.int))),some (.d (.tup (ds.map av))),some (.d (ae es)),some (.d (.lst [.int 0])),none] S from rfl) (S1:=S) (items:=(ws.map D.int).map Vl.d) (gd:=none) (by walk_at"mx")
  (λi τ S'=>∃x4,τ=[some (.d (.lst (ws.map D.int))),some (.d (.tup (ds.map av))),some (.d (ae es)),some (.d (.lst ((cb ds (ws.take i)).map D.int))),x4]/\S'=S) ⟨none,rfl,rfl⟩ (by
   rintro i z τ S' hz ⟨x4,rfl,rfl⟩;obtain⟨w,ew,rfl⟩:=ints_get hz;generalize hr:cb ds (ws.take i)=r;have e:=c9 (show _=C1_row_holds [some (.d (.lst (ws.map D.int))),some (.d (.tup (ds.map av))),some (.d (ae es)),some (.d (.lst (r.map D.int))),some (.d (.int w))] S' from rfl) (d:=av) (g:=λd=>.int d.2.2) (xs:=ds) (S1:=S') (by walk_at"mx";rw[jS]) (λd=>decide (d.1∈r)&&decide (d.2.1=w)) (λd _ S=>by
     walk_at"mx";erw[qL];by_cases h:d.1∈r
     ·erw[Oi h];erw[uE];simp
     ·erw[Oo h];simp) (λd _ _ S=>by
     walk_at"mx";rw[uJ])
   refine⟨_,_,.nx,_,_,by walk_at"mx";rfl,by
    walk_at"mx";erw[e];rfl,.inl rfl,True.intro,some (.d (.int w)),?_,rfl⟩
   rw[take_snoc ew,lj,hr];unfold iN;rw[Oz];rfl)
 rw[e];erw[show((ws.map D.int).map Vl.d).length=ws.length by simp,OD];rw[sP (show _=C3_row_holds [some (.d (.lst (ws.map D.int))),some (.d (.tup (ds.map av))),some (.d (ae es)),some (.d (.lst ((cb ds ws).map D.int))),x4] S' from rfl) (xs:=(cb ds ws).map D.int) (S1:=S') (by walk_at"mx") (λx=>match x with | .int p=>.bl (decide (p∈es)) |_=>.non) (by
  intro x hx S;obtain⟨v,hv,rfl⟩:=Of.mp hx;unfold ae;walk_at"mx")]
 walk_at"mx";erw[Oz,show((λx:D=>(match x with | .int p=>D.bl (decide (p∈es)) |_=>.non))∘D.int)=λp:Int=>D.bl (decide (p∈es))from rfl,vY];rw[ao]
theorem EH{ns:List Int}(h:i<ns.length):oIx (.d (ae ns)) (.d (.int (i:Int))) S=.ok (.d (.int (ns.getD i 0))) S:=aL (pA h)
noncomputable def d8(f:List Int)(wi:Wi):Bool:=match wi with
 | .man ns bs=>bs.all (inB (vls f ns))
 | .row ns ds es=>(cb ds (vls f ns)).any λp=>decide (p∈es)
theorem xO{f ns:List Int}:(vls f ns).length=ns.length:=by simp[vls]
theorem CY{wi:Wi}{k:Nat}{f:List Int}{S:Sto}(g:bx k wi)(hk:k<=4)(hv:∀v∈vls f wi.names,-9<=v/\v<=9):m_holds [.d (wiD wi),.d (.lst ((vls f wi.names).map D.int))] S=.ok (.d (.bl (d8 f wi))) S:=by
 have gn:=gp g;have gl:=gn.le;have vl:(vls f wi.names).length=wi.names.length:=xO;unfold m_holds;rw[bO];unfold v_;walk_at"mx";rw[yO];cases wi with
 |man ns bs=>
  walk_at"mx";erw[Ba];erw[show oIx (.d (wiD (.man ns bs))) (.d (.int 2)) S=.ok (.d (.tup (bs.map av))) S from aL rfl];erw[ui];rw[ao];rfl
 |row ns ds es=>
  walk_at"mx";erw[Cm];erw[BU];erw[Cq];erw[show oIx (.d (wiD (.row ns ds es))) (.d (.int 2)) S=.ok (.d (.tup (ds.map av))) S from aL rfl];erw[show oIx (.d (wiD (.row ns ds es))) (.d (.int 3)) S=.ok (.d (ae es)) S from aL rfl];erw[vA];rw[ao];rfl
theorem yT{τ:Nv}{it:XI}{f ns:List Int}{k:Nat}{S:Sto}(hf:f.length=k)(hn:∀n∈ns,0<=n/\n<(k:Int)):∀x∈ns.map D.int,∀(a:Option Vl)(S:Sto)(r:Nv),(xOp oIx (aa 2) (aa 0)) (some (.d x)::a::some (.d (ae f))::r) S=.ok (.d (atF f x)) S:=by
 intro x hx a S r;obtain⟨n,hm,rfl⟩:=Of.mp hx;walk_at"mx";rw[HF hf (hn n hm)];rfl
theorem zg{wi:Wi}{k:Nat}{f:List Int}{S:Sto}(g:bx k wi)(hk:k<=4)(hf:f.length=k)(hv:∀v∈vls f wi.names,-9<=v/\v<=9):cF [.d (wiD wi),.d (ae f)] S=.ok (.d (.bl (d8 f wi))) S:=by
 have gn:=gp g;unfold cF;rw[bO];unfold qA;have e:=cI (show _=rF [some (.d (wiD wi)),some (.d (ae f))] S from rfl) (xs:=wi.names.map D.int) (S1:=S) (by walk_at"mx";rw[EL];rfl) (atF f) (λx hx S=>yT (it:=λ_ S=>.ok ⟨[],none⟩ S) (τ:=[]) (S:=S) hf gn.dom x hx _ S _);rw[Hv]at e;walk_at"mx";erw[e];erw[CY g hk hv];rw[ao]
noncomputable def iA(wss:List (List Int))(wis:List Wi):List (List Int):=(aW wss).filter λf=>wis.all (d8 f)
theorem b8:aU [.d (ae ns)] S=.ok (.d (.int ns.length)) S:=by unfold ae;rw[kU,Oa]
theorem cG:oIn (.d (.int v)) (.d (ae ns)) S=.ok (.d (.bl (decide (v∈ns)))) S:=EY
theorem bw:ff (.d (.int v)) (.d (ae ns)) S=.ok (.d (.bl (!decide (v∈ns)))) S:=Bv
theorem IF:if1 (.ok (!b) S) (au (xC (.bl false))) aB τ=.ok ((if b then .nx else .rt (.d (.bl false))),τ) S:=by cases b<;>rfl
theorem vm{g:XG}{b:XS}{S:Sto}{α:Type}{d:α->Vl}{ok:α->Bool}{J:Nv->Prop}:∀(xs:List α)(τ:Nv),J τ->(∀x∈xs,∀τ,J τ->∃τ1 τ2,g (d x) τ S=.ok τ1 S/\J τ2/\b τ1 S=.ok ((if ok x then .nx else .rt (.d (.bl false))),τ2) S) ->
  ∃τ',J τ'/\cc g b none (xs.map d) τ S=.ok ((if xs.all ok then .nx else .rt (.d (.bl false))),τ') S
 | [],τ,h,_=>⟨τ,h,rfl⟩
 |x::xs,τ,h,hs=>by
  obtain⟨τ1,τ2,e1,h2,e2⟩:=hs x OY τ h;cases q:ok x with
  |false=>
   refine⟨τ2,h2,?_⟩;rw[Oq,cc,e1,aC,e2,q,aC,QG,q];rfl
  |true=>
   obtain⟨τ',h',e'⟩:=vm xs τ2 h2 (λy hy=>hs y (OJ _ hy));refine⟨τ',h',?_⟩;rw[Oq,cc,e1,aC,e2,q,aC,QG,q,QH,<-e'];exact Oe True.intro
theorem yj{it:XI}{g:XG}{b:XS}{τ:Nv}{S:Sto}{r:R (Fl×Nv)}(hL:bU it g b τ S=r){α:Type}{d:α->Vl}{xs:List α}(hit:it τ S=.ok ⟨xs.map d,none⟩ S)(ok:α->Bool)(J:Nv->Prop)(h0:J τ)
  (hs:∀x∈xs,∀τ,J τ->∃τ1 τ2,g (d x) τ S=.ok τ1 S/\J τ2/\b τ1 S=.ok ((if ok x then .nx else .rt (.d (.bl false))),τ2) S):∃τ',J τ'/\r=.ok ((if xs.all ok then .nx else .rt (.d (.bl false))),τ') S:=by
 obtain⟨τ',h',e⟩:=vm xs τ h0 hs;refine⟨τ',h',?_⟩;rw[<-hL,pU,hit,uC];exact e
local macro_rules | `(tactic| walk_at "my") => `(tactic| repeat (first | walk_at "mx" | simp only [b8, cG, bw, Oa]))
theorem rD{p:List (List Int)}(h:i<p.length):oIx (.d (.lst (p.map ae))) (.d (.int (i:Int))) S=.ok (.d (ae (p.getD i []))) S:=jX (lW (by rw[Ox,gV h,Oc,gV h];rfl))
noncomputable def onD(ds:List Tri)(q w:Int):List Tri:=ds.filter λd=>decide (d.1=q)&&decide (d.2.1=w)
noncomputable def FD(ds:List Tri)(W a b:List Int):Bool:=a.all λq=>W.all λw=>(onD ds q w).all λd=>decide (d.2.2∈b)
noncomputable def kZ(ds:List Tri)(W a b:List Int):Bool:=ds.all λd=>!(decide (d.1∈a)&&(decide (d.2.1∈W) && !decide (d.2.2∈b)))
theorem BY:FD ds W a b=kZ ds W a b:=by
 unfold FD kZ onD;rw[Ph];simp only[Pf,OH,OQ,O7,Q0,Vc,Qj,V0];constructor
 ·intro h d hd;by_cases h1:d.1∈a
  ·by_cases h2:d.2.1∈W
   ·exact .inr (.inr (h _ h1 _ h2 d ⟨hd,rfl,rfl⟩))
   ·exact .inr (.inl h2)
  ·exact .inl h1
 ·rintro h q hq w hw d ⟨hd,rfl,rfl⟩;rcases h d hd with h |h |h
  ·exact absurd hq h
  ·exact absurd hw h
  ·exact h
theorem LM:oIx (.d (wiD (.row ns ds es))) (.d (.int 2)) S=.ok (.d (.tup (ds.map av))) S:=aL rfl
theorem MF:oIx (.d (wiD (.row ns ds es))) (.d (.int 3)) S=.ok (.d (ae es)) S:=aL rfl
theorem pP:oIx (.d (wiD (.row ns ds es))) (.d (.int 1)) S=.ok (.d (ae ns)) S:=aL rfl
theorem tP:b7 [.d (wiD (.row ns ds es)),x,.d (.int q),.d (.int w)] S=.ok (.d (.lst ((onD ds q w).map λd=>D.int d.2.2))) S:=by
 unfold b7;rw[je];unfold jY;walk_at"mx";rw[c9 (show _=jD [some (.d (wiD (.row ns ds es))),some x,some (.d (.int q)),some (.d (.int w))] S from rfl) (d:=av) (g:=λd=>.int d.2.2) (xs:=ds) (S1:=S) (by walk_at"mx";rw[LM];walk_at"mx";rw[jS]) (λd=>decide (d.1=q)&&decide (d.2.1=w)) (λd _ S=>by
  walk_at"mx";erw[qL];by_cases h:d.1=q
  ·erw[Oi h];erw[uE];rw[QH]
  ·erw[Oo h];rw[Qx]) (λd _ _ S=>by
  walk_at"mx";rw[uJ])]
 walk_at"mx";rw[ao];rfl
theorem CW{wss:List (List Int)}{ns es:List Int}{p:List (List Int)}(hi:i+1<p.length)(hn:i<ns.length)(hd:∀n∈ns,0<=n/\n<(wss.length:Int)) :
  eE [.d (ah wss),.d (wiD (.row ns ds es)),.d (.int (i:Int)),.d (.lst (p.map ae)),.fn "doors_onward"] S=.ok (.d (.bl (kZ ds (wss.getD (ns.getD i 0).toNat []) (p.getD i []) (p.getD (i+1) [])))) S:=by
 have hnm:ns.getD i 0∈ns:=by rw[Oc,gV hn];exact O5 hn
 have hdn:=hd _ hnm;generalize hW:wss.getD (ns.getD i 0).toNat []=W;unfold eE;rw[kE];unfold jP;obtain⟨τ',_,e⟩:=yj (show _=jM [some (.d (ah wss)),some (.d (wiD (.row ns ds es))),some (.d (.int (i:Int))),some (.d (.lst (p.map ae))),some (.fn "doors_onward"),none,none] S from rfl) (d:=λq:Int=>Vl.d (.int q)) (xs:=p.getD i []) (by
   walk_at"mx";rw[rD ⋯];unfold ae;walk_at"mx";rw[fT]) (λq=>W.all λw=>(onD ds q w).all λd=>decide (d.2.2∈p.getD (i+1) []))
  (λτ=>∃x5 x6,τ=[some (.d (ah wss)),some (.d (wiD (.row ns ds es))),some (.d (.int (i:Int))),some (.d (.lst (p.map ae))),some (.fn "doors_onward"),x5,x6]) ⟨none,none,rfl⟩ (by
   rintro q hq τ ⟨x5,x6,rfl⟩;obtain⟨τ',⟨y6,rfl⟩,e⟩:=yj (show _=jJ [some (.d (ah wss)),some (.d (wiD (.row ns ds es))),some (.d (.int (i:Int))),some (.d (.lst (p.map ae))),some (.fn "doors_onward"),some (.d (.int q)),x6] S from rfl) (d:=λw:Int=>Vl.d (.int w)) (xs:=W) (by
     walk_at"mx";erw[pP];rw[EH hn];unfold ah;walk_at"mx";rw[aL (fi hdn.1 hdn.2),hW];unfold ae;walk_at"mx";rw[fT]) (λw=>(onD ds q w).all λd=>decide (d.2.2∈p.getD (i+1) []))
    (λτ=>∃x6,τ=[some (.d (ah wss)),some (.d (wiD (.row ns ds es))),some (.d (.int (i:Int))),some (.d (.lst (p.map ae))),some (.fn "doors_onward"),some (.d (.int q)),x6]) ⟨x6,rfl⟩ (by
     rintro w hw τ ⟨x6,rfl⟩;refine⟨[some (.d (ah wss)),some (.d (wiD (.row ns ds es))),some (.d (.int (i:Int))),some (.d (.lst (p.map ae))),some (.fn "doors_onward"),some (.d (.int q)),some (.d (.int w))],[some (.d (ah wss)),some (.d (wiD (.row ns ds es))),some (.d (.int (i:Int))),some (.d (.lst (p.map ae))),some (.fn "doors_onward"),some (.d (.int q)),some (.d (.int w))],by walk_at"mx",⟨_,rfl⟩,?_⟩;have ec:=c9 (show _=j6 [some (.d (ah wss)),some (.d (wiD (.row ns ds es))),some (.d (.int (i:Int))),some (.d (.lst (p.map ae))),some (.fn "doors_onward"),some (.d (.int q)),some (.d (.int w))] S from rfl) (d:=λd:Tri=>D.int d.2.2) (g:=λd=>.bl (decide (d.2.2∈p.getD (i+1) []))) (xs:=onD ds q w) (S1:=S) (by
       erw[mV,zM (nm:="doors_onward") (F:=b7) rfl Sb];erw[tP];rw[Oz];rfl) (λ_=>true) (λ_ _ _=>rfl) (λd _ _ S=>by
       walk_at"mx";erw[show((i:Int)+1)=((i+1:Nat):Int) by omega,rD hi];rw[cG])
     rw[PQ.mpr (λ_ _=>rfl)]at ec;walk_at"mx";erw[ec];erw[eV];rw[IF])
   exact⟨_,_,by walk_at"mx",⟨_,_,rfl⟩,e⟩)
 walk_at"mx";rw[e];rw[<-BY];show _=L2.R.ok (Vl.d (D.bl ((p.getD i []).all λq=>W.all λw=>(onD ds q w).all λd=>decide (d.2.2∈p.getD (i+1) [])))) S;generalize((p.getD i []).all λq=>W.all λw=>(onD ds q w).all λd=>decide (d.2.2∈p.getD (i+1) []))=bb;cases bb with
 |false=>
  erw[Ot (by decide)];rw[ao]
 |true=>
  erw[Oe rfl];rw[ao]
noncomputable def eR(wss:List (List Int))(ns:List Int)(ds:List Tri)(es:List Int)(p:List (List Int)):Bool:=decide (p.length=ns.length+1)&&(decide (0∈p.getD 0 [])&&(((p.getD ns.length []).all λe=>!decide (e∈es))&&((p.all λs=>decide (s.Pairwise (· <·)))&&(Oy ns.length).all λi=>kZ ds (wss.getD (ns.getD i 0).toNat []) (p.getD i []) (p.getD (i+1) []))))
theorem L9{p:List (List Int)}(h:0<p.length):oIx (.d (.lst (p.map ae))) (.d (.int 0)) S=.ok (.d (ae (p.getD 0 []))) S:=rD (i:=0) h
theorem BL:bG [.d (wiD (.row ns ds es)),.d (.int e)] S=.ok (.d (.bl (decide (e∈es)))) S:=by
 unfold bG;rw[bO];unfold ju;walk_at"mx";rw[MF];walk_at"my";rw[ao]
theorem Hu(hs:∀s∈p,s.length<=60)(hd:∀n∈ns,0<=n/\n<(wss.length:Int))(h4:ns.length<=60) :
  fW [.d (ah wss),.d (wiD (.row ns ds es)),.d (.lst (p.map ae)),.fn "doors_onward",.fn "is_end_of_row"] S=.ok (.d (.bl (eR wss ns ds es p))) S:=by
 unfold fW;rw[kE];unfold mh;walk_at"mx";rw[pP];walk_at"my";rw[show isT "list" (.lst (p.map ae))=true from rfl];walk_at"my";by_cases hl:p.length=ns.length+1
 ·have hp0:0<p.length:=by omega
  erw[Oi (show((p.length:Nat):Int)=(ns.length:Int)+1 by omega)];have e1:=c9 (show _=mC [some (.d (ah wss)),some (.d (wiD (.row ns ds es))),some (.d (.lst (p.map ae))),some (.fn "doors_onward"),some (.fn "is_end_of_row"),some (.d (.int (ns.length:Nat)))] S from rfl) (d:=ae) (g:=λs=>.bl (decide (s.Pairwise (· <·)))) (xs:=p) (S1:=S) (by
   walk_at"mx";rw[Oz];rfl) (λ_=>true) (λ_ _ _=>rfl) (λs hm _ S=>by
   walk_at"mx";have:=hs s hm;rw[dD ⋯];walk_at"mx")
  rw[PQ.mpr (λ_ _=>rfl)]at e1;erw[e1];erw[eV];cases q2:(p.all λs=>decide (s.Pairwise (· <·)))with
  |false=>
   walk_at"mx";rw[ao];unfold eR;rw[q2];simp
  |true=>
   walk_at"mx";rw[L9 hp0];walk_at"my";by_cases h0:(0:Int)∈p.getD 0 []
   ·erw[Oi h0];have e2:=c9 (show _=mL [some (.d (ah wss)),some (.d (wiD (.row ns ds es))),some (.d (.lst (p.map ae))),some (.fn "doors_onward"),some (.fn "is_end_of_row"),some (.d (.int (ns.length:Nat)))] S from rfl) (d:=λi:Nat=>D.int (i:Nat)) (g:=λi=>.bl (kZ ds (wss.getD (ns.getD i 0).toNat []) (p.getD i []) (p.getD (i+1) []))) (xs:=Oy ns.length) (S1:=S) (by
     walk_at"mx";rw[yR ⋯,O0]) (λ_=>true) (λ_ _ _=>rfl) (λi hi _ S=>by
     have hin:=O3.mp hi;walk_at"mx";rw[CW ⋯ hin hd];walk_at"mx")
    rw[PQ.mpr (λ_ _=>rfl)]at e2;erw[e2];erw[eV];cases q3:((Oy ns.length).all λi=>kZ ds (wss.getD (ns.getD i 0).toNat []) (p.getD i []) (p.getD (i+1) []))with
    |false=>
     walk_at"mx";rw[ao];unfold eR;rw[q3];simp
    |true=>
     walk_at"mx";have e3:=c9 (show _=mi [some (.d (ah wss)),some (.d (wiD (.row ns ds es))),some (.d (.lst (p.map ae))),some (.fn "doors_onward"),some (.fn "is_end_of_row"),some (.d (.int (ns.length:Nat)))] S from rfl) (d:=D.int) (g:=λe=>.bl (decide (e∈es))) (xs:=p.getD ns.length []) (S1:=S) (by
      walk_at"mx";rw[rD ⋯];unfold ae;walk_at"mx";rw[fT]) (λ_=>true) (λ_ _ _=>rfl) (λe _ _ S=>by
      erw[zM (nm:="is_end_of_row") (F:=bG) rfl Sb];rw[BL];walk_at"mx")
     rw[PQ.mpr (λ_ _=>rfl)]at e3;erw[e3];erw[vY];rw[ao];unfold eR;rw[q2,q3,Oi hl,Oi h0,<-List.not_any_eq_all_not];simp
   ·erw[Oo h0];rw[ao];unfold eR;rw[Oo h0];simp
 ·erw[Oo (show¬((p.length:Nat):Int)=(ns.length:Int)+1 by omega)];rw[ao];unfold eR;rw[Oo hl];simp
theorem sx(gs:br n m wss)(hn:n<=4)(hm:m<=4)(g:bx wss.length wi):qj [.d (ah wss),.d (wiD wi)] S=.ok (.d .non) S:=by
 have h4:=gs.le;unfold qj;rw[bO];unfold yn;walk_at"mx";erw[uv gs hn hm];erw[uR g ⋯];rw[gx,fD,OD]
theorem wK(gs:br n m wss)(hn:n<=4)(hm:m<=4)(g:bx wss.length (.row ns ds es))(hs:∀s∈p,s.length<=60) :
  gJ [.d (ah wss),.d (wiD (.row ns ds es)),.d (.lst (p.map ae))] S=.ok (.d (.bl (eR wss ns ds es p))) S:=by
 have h4:=gs.le;have gn:cj wss.length ns:=gp g;have gl:=gn.le;have nk:bJ [.d (ah wss),.d (wiD (.row ns ds es)),.d (.str "row")] S=.ok (.d .non) S:=by
  unfold bJ;rw[bZ];unfold gi;walk_at"mx";erw[sx gs hn hm g];erw[yO];rw[gx,fD,OD]
 unfold gJ;rw[bZ];unfold mU;walk_at"mx";erw[nk];erw[Hu hs gn.dom ⋯];rw[ao]
noncomputable abbrev Way:=Int×List Int
noncomputable def wyD(x:Way):Key×D:=(.inl x.1,ae x.2)
noncomputable def ke(W:List Way)(q:Int)(f:List Int):List Way:=if(W.any λx=>decide (x.1=q))=true then W.map (λx=>if x.1=q then(x.1,f)else x)else W++[(q,f)]
theorem Ib:decide ((Sum.inl a:Key)=Sum.inl b)=decide (a=b):=by
 by_cases h:a=b
 ·subst h;simp
 ·rw[Oo h,Oo (λz=>h (Qm z))]
theorem Ia:putD (W.map wyD) (.inl q) (ae f)=(ke W q f).map wyD:=by
 unfold putD ke;rw[Tp];have e:((λkv:Key×D=>decide (kv.1=Sum.inl q))∘wyD)=λx:Way=>decide (x.1=q):=by funext x;exact Ib
 rw[e];by_cases h:(W.any λx=>decide (x.1=q))=true
 ·rw[Oe h,Oe h,Oz,Oz];refine P8 λx _=>?_;show(if(wyD x).1=Sum.inl q then((wyD x).1,ae f)else wyD x)=wyD (if x.1=q then(x.1,f)else x);by_cases hx:x.1=q
  ·rw[Oe (show(wyD x).1=Sum.inl q by rw[<-hx];rfl),Oe hx];rfl
  ·rw[Ot (show¬(wyD x).1=Sum.inl q fromλz=>hx (Qm z)),Ot hx]
 ·rw[Ot h,Ot h,OX];rfl
theorem Dh(h:x∈ke W q f):x∈W\/x=(q,f):=by
 unfold ke at h;split at h
 ·obtain⟨y,hy,e⟩:=Of.mp h;split at e
  ·rename_i hq;exact .inr (by rw[<-e,hq])
  ·exact .inl (by rw[<-e];exact hy)
 ·rcases OI.mp h with h |h
  ·exact .inl h
  ·exact .inr (Og.mp h)
noncomputable def aD(W:List Way):List Int:=W.map (·.1)
theorem tU:aD (ke W q f)=if q∈aD W then aD W else aD W++[q]:=by
 have hm:(W.any λx=>decide (x.1=q))=true↔q∈aD W:=by simp[aD]
 unfold ke;by_cases h:q∈aD W
 ·rw[Oe (hm.mpr h),Oe h];unfold aD;rw[Oz];refine P8 λx _=>?_;simp only[Function.comp];split<;>rfl
 ·rw[Ot (λz=>h (hm.mp z)),Ot h];simp[aD]
theorem Hl(h:(aD W).Nodup):(aD (ke W q f)).Nodup:=by
 rw[tU];split
 ·exact h
 ·rename_i hq;refine QC.mpr ⟨h,by simp,λa ha b hb=>?_⟩;rw[Og.mp hb]
  exactλz=>hq (z▸ha)
theorem r_:z∈aD (ke W q f)↔z∈aD W\/z=q:=by
 rw[tU];split
 ·rename_i h;exact⟨.inl,λz=>z.elim id λe=>e▸h⟩
 ·simp
noncomputable def eF(f:List Int)(w:Int)(acc:List Way)(ps:List Int):List Way:=ps.foldl (λa p=>ke a p (f++[w])) acc
noncomputable def jH(ds:List Tri)(q:Int)(f:List Int)(acc:List Way)(ws:List Int):List Way:=ws.foldl (λa w=>eF f w a ((onD ds q w).map (·.2.2))) acc
noncomputable def iJ(ds:List Tri)(ws:List Int)(acc:List Way)(W:List Way):List Way:=W.foldl (λa x=>jH ds x.1 x.2 a ws) acc
theorem cX{α y:Type}(P:y->Prop){f:y->α->y}:∀(l:List α)(b:y),P b->(∀b,∀a∈l,P b->P (f b a))->P (l.foldl f b)
 | [],_,h,_=>h
 |x::l,b,h,hs=>cX P l (f b x) (hs b x (by simp) h) λb a ha=>hs b a (by simp[ha])
theorem lS{α d:Type}(P:d->Prop){f:d->α->d}(hm:∀b a,P b->P (f b a)){x:α}(hx:∀b,P (f b x)):∀(l:List α)(b:d),x∈l->P (l.foldl f b)
 |y::l,b,h=>by
  rcases Ow.mp h with rfl |h
  ·exact cX P l _ (hx b) λb a _=>hm b a
  ·exact lS P hm hx l _ h
theorem tq(P:Way->Prop)(h0:∀x∈acc,P x)(h:∀p∈ps,P (p,f++[w])):∀x∈eF f w acc ps,P x:=
 cX (λa=>∀x∈a,P x) ps acc h0 λa p hp ha x hx=>(Dh hx).elim (ha x) λe=>e▸h p hp
theorem tX(P:Way->Prop)(h0:∀x∈acc,P x)(h:∀w∈ws,∀d∈onD ds q w,P (d.2.2,f++[w])):∀x∈jH ds q f acc ws,P x:=
 cX (λa=>∀x∈a,P x) ws acc h0 λa w hw ha=>tq P ha λp hp=>by
  obtain⟨d,hd,rfl⟩:=Of.mp hp;exact h w hw d hd
theorem tM(P:Way->Prop)(h0:∀x∈acc,P x)(h:∀x∈W,∀w∈ws,∀d∈onD ds x.1 w,P (d.2.2,x.2++[w])):∀x∈iJ ds ws acc W,P x:=
 cX (λa=>∀x∈a,P x) W acc h0 λa x hx ha=>tX P ha (h x hx)
theorem wF(h:(aD acc).Nodup):(aD (eF f w acc ps)).Nodup:=cX (λa=>(aD a).Nodup) ps acc h λ_ _ _ h=>Hl h
theorem u6(h:(aD acc).Nodup):(aD (jH ds q f acc ws)).Nodup:=cX (λa=>(aD a).Nodup) ws acc h λ_ _ _ h=>wF h
theorem uZ(h:(aD acc).Nodup):(aD (iJ ds ws acc W)).Nodup:=cX (λa=>(aD a).Nodup) W acc h λ_ _ _ h=>u6 h
theorem tu(hx:x∈W)(hw:w∈ws)(hd:d∈onD ds x.1 w):d.2.2∈aD (iJ ds ws acc W):=by
 have m3:∀(f:List Int)(w:Int)(a:List Way)(ps:List Int)(z:Int),z∈aD a->z∈aD (eF f w a ps):=λf w a ps z hz=>cX (λa=>z∈aD a) ps a hz λ_ _ _ h=>r_.mpr (.inl h);have m2:∀(q:Int)(f:List Int)(a:List Way)(z:Int),z∈aD a->z∈aD (jH ds q f a ws):=λq f a z hz=>cX (λa=>z∈aD a) ws a hz λ_ _ _ h=>m3 _ _ _ _ z h;refine lS (λa=>d.2.2∈aD a) (λa y h=>m2 _ _ _ _ h) (x:=x) (λa=>?_) W acc hx;refine lS (λa=>d.2.2∈aD a) (λa y h=>m3 _ _ _ _ _ h) (x:=w) (λa=>?_) ws a hw;exact lS (f:=λa p=>ke a p (x.2++[w])) (λa=>d.2.2∈aD a) (λa y h=>r_.mpr (.inl h)) (x:=d.2.2) (λa=>r_.mpr (.inr rfl)) ((onD ds x.1 w).map λd=>d.2.2) a (Of.mpr ⟨d,hd,rfl⟩)
noncomputable def bt(ds:List Tri)(wss:List (List Int))(ns:List Int):Nat->List Way
 |0=>[(0,[])]
 |i+1=>iJ ds (wss.getD (ns.getD i 0).toNat []) [] (bt ds wss ns i)
noncomputable def mS(ds:List Tri)(wss:List (List Int))(ns:List Int)(i:Nat):List Int:=sortI (aD (bt ds wss ns i))
structure MV(ds:List Tri)(wss:List (List Int))(ns:List Int)(i:Nat)(x:Way):Prop where
 len:x.2.length=i
 mem:∀j,j<i->x.2.getD j 0∈wss.getD (ns.getD j 0).toNat []
 led:x.1∈cb ds x.2
 lim:0<=x.1/\x.1<=3
theorem d_(hd:∀d∈ds,0<=d.2.2/\d.2.2<=3):∀i,(∀x∈bt ds wss ns i,MV ds wss ns i x)/\(aD (bt ds wss ns i)).Nodup
 |0=>⟨λx hx=>by
   rw[Og.mp hx];exact⟨rfl,λj hj=>by omega,by simp[cb],by decide⟩,by simp[bt,aD]⟩
 |i+1=>by
  obtain⟨ih,_⟩:=d_ (wss:=wss) (ns:=ns) hd i;refine⟨tM _ (by simp) λx hx w hw d hdd=>?_,uZ (by simp[aD])⟩;obtain⟨h1,h2,h3,h4⟩:=ih x hx;obtain⟨hd1,hd2⟩:=OH.mp hdd;simp only[OQ,O7]at hd2;refine⟨by simp[h1],λj hj=>?_,?_,hd d hd1⟩
  ·by_cases q:j<i
   ·have:=h2 j q;simp only[Oc]at this ⊢;rw[OC ⋯];exact this
   ·have e:j=i:=by omega
    subst e;simp only[Oc];rw[OP ⋯,h1,Ti];exact hw
  ·show d.2.2∈cb ds (x.2++[w]);rw[lj];refine Of.mpr ⟨d,OH.mpr ⟨hd1,?_⟩,rfl⟩;simp only[OQ,O7];exact⟨hd2.1▸h3,hd2.2⟩
theorem vW:∀(i:Nat)(f:List Int),f.length=i->(∀j,j<i->f.getD j 0∈wss.getD (ns.getD j 0).toNat [])->∀q∈cb ds f,q∈aD (bt ds wss ns i)
 |0,f,hl,_,q,hq=>by
  have:f=[]:=Q5 hl;subst this;simpa[cb,bt,aD]using hq
 |i+1,f,hl,hf,q,hq=>by
  obtain⟨g,w,rfl⟩:∃g w,f=g++[w]:=⟨f.dropLast,f.getLast (by intro z;rw[z]at hl;simp at hl),(List.dropLast_concat_getLast _).symm⟩;have lg:g.length=i:=by simpa using hl
  rw[lj]at hq;obtain⟨d,hd,rfl⟩:=Of.mp hq;obtain⟨hd1,hd2⟩:=OH.mp hd;simp only[OQ,O7]at hd2;have ih:=vW (wss:=wss) (ns:=ns) i g lg (λj hj=>by
   have:=hf j ⋯;simp only[Oc]at this ⊢;rw[OC ⋯]at this;exact this) d.1 hd2.1
  obtain⟨x,hx,hx1⟩:=Of.mp ih;refine tu hx (w:=w) ?_ (OH.mpr ⟨hd1,?_⟩)
  ·have:=hf i ⋯;simp only[Oc]at this ⊢;rw[OP ⋯,lg,Ti]at this;simpa using this
  ·simp only[OQ,O7];exact⟨hx1.symm,hd2.2⟩
theorem pB:∀{l:List Int}{a:Int},l.Pairwise (· <·)->(∀x∈l,a<=x/\x<=b)->(l.length:Int)<=max 0 (b+1-a)
 | [],_,_,_=>by simp;omega
 |x::l,a,h,hb=>by
  obtain⟨h1,h2⟩:=PD.mp h;have:=pB (a:=x+1) h2 λy hy=>⟨by have:=h1 y hy;omega,(hb y (by simp[hy])).2⟩;have:=hb x (by simp);rw[OB];omega
theorem vV{l:List Int}(h:l.Nodup)(hb:∀x∈l,0<=x/\x<=3):l.length<=4:=by
 have:=pB (a:=0) (b:=3) (fe h) λx hx=>hb x ((cC l x).mp hx);rw[cW]at this;omega
theorem JY(h1:e τ S=.ok (.d zd) S1)(h2:o τ S1=.ok (.r n) S2)(h3:i τ S2=.ok (.d yd) S3)(hk:dk yd=some k)(hn:S3[n]?=some (.dct kvs))(hl:kvs.length<100000):eG o i e τ S=.ok (.nx,τ) (S3.set n (.dct (putD kvs k zd))):=by
 unfold eG;rw[h1,aC,h2,aC,h3,aC];dsimp only;rw[hk,hn];dsimp only;rw[Oe hl]
theorem pk(hk:dk yd=some k)(hv:cY kvs k=some z):oDx (.fd kvs) (.d yd) S=.ok (.d z) S:=by
 unfold oDx;dsimp only;rw[hk];simp only[e_,hv]
theorem Bz(hnd:(aD W).Nodup)(h:(q,f)∈W):cY (W.map wyD) (.inl q)=some (ae f):=by
 induction W with
 |nil=>cases h
 |cons x W ih=>
  rw[Oq];obtain⟨h1,h2⟩:=OW.mp hnd;rcases Ow.mp h with rfl |h
  ·exact fb rfl
  ·rw[dX]
   ·exact ih h2 h
   ·intro z;have e:x.1=q:=Qm z;exact h1 (Of.mpr ⟨_,h,e.symm⟩)
theorem n6:(S++[x])[S.length]?=some x:=by simp
theorem iO:(S++[x]).set S.length y=S++[y]:=by simp
theorem Ef(hnd:(aD W).Nodup)(hq:(q,f)∈W)(ha:(aD acc).Nodup)(hb:∀z∈aD acc,0<=z/\z<=3)(hd:∀d∈ds,0<=d.2.2/\d.2.2<=3)(hf:f.length<=60) :
  ∃y8,lD [some (.d (ah wss)),some (.d (wiD (.row ns ds es))),some (.d (.int at')),some (.fd (W.map wyD)),some (.fn "doors_onward"),some (.r S.length),some (.d (.int q)),some (.d (.int w)),x8] (S++[.dct (acc.map wyD)])=.ok (.nx,[some (.d (ah wss)),some (.d (wiD (.row ns ds es))),some (.d (.int at')),some (.fd (W.map wyD)),some (.fn "doors_onward"),some (.r S.length),some (.d (.int q)),some (.d (.int w)),y8]) (S++[.dct ((eF f w acc ((onD ds q w).map (·.2.2))).map wyD)]):=by
 obtain⟨τ',S',e,y8,rfl,rfl⟩:=cx (show _=lD [some (.d (ah wss)),some (.d (wiD (.row ns ds es))),some (.d (.int at')),some (.fd (W.map wyD)),some (.fn "doors_onward"),some (.r S.length),some (.d (.int q)),some (.d (.int w)),x8] (S++[.dct (acc.map wyD)])from rfl) (S1:=S++[.dct (acc.map wyD)]) (items:=((onD ds q w).map (·.2.2)).map λp=>Vl.d (.int p)) (gd:=none) (by
   erw[mV,zM (nm:="doors_onward") (F:=b7) rfl Sb];erw[tP];rw[Oz,Oz];rfl)
  (λi τ S'=>∃y8,τ=[some (.d (ah wss)),some (.d (wiD (.row ns ds es))),some (.d (.int at')),some (.fd (W.map wyD)),some (.fn "doors_onward"),some (.r S.length),some (.d (.int q)),some (.d (.int w)),y8]/\S'=S++[.dct ((eF f w acc (((onD ds q w).map (·.2.2)).take i)).map wyD)]) ⟨x8,rfl,rfl⟩ (by
   rintro i z τ S' hz ⟨y8,rfl,rfl⟩;rw[Ox]at hz;cases hp:((onD ds q w).map (·.2.2))[i]? with
   |none=>rw[hp]at hz;cases hz
   |some p=>
    rw[hp]at hz;cases hz;have hlim:∀z∈aD (eF f w acc (((onD ds q w).map (·.2.2)).take i)),0<=z/\z<=3:=λz hz=>by
     obtain⟨x,hx,rfl⟩:=Of.mp hz;refine tq (λx=>0<=x.1/\x.1<=3) (λx hx=>hb x.1 (Vw hx)) (λp hp=>?_) x hx;obtain⟨d,hdd,rfl⟩:=Of.mp (Rv hp);exact hd d (OH.mp hdd).1
    have hl4:=vV (wF ha) hlim;refine⟨[some (.d (ah wss)),some (.d (wiD (.row ns ds es))),some (.d (.int at')),some (.fd (W.map wyD)),some (.fn "doors_onward"),some (.r S.length),some (.d (.int q)),some (.d (.int w)),some (.d (.int p))],S++[.dct ((eF f w acc (((onD ds q w).map (·.2.2)).take i)).map wyD)],.nx,_,_,by walk_at"mx",JY (S1:=S++[.dct ((eF f w acc (((onD ds q w).map (·.2.2)).take i)).map wyD)]) (S2:=S++[.dct ((eF f w acc (((onD ds q w).map (·.2.2)).take i)).map wyD)]) (S3:=S++[.dct ((eF f w acc (((onD ds q w).map (·.2.2)).take i)).map wyD)]) (zd:=ae (f++[w])) (yd:=.int p) (k:=.inl p) (n:=S.length) (kvs:=(eF f w acc (((onD ds q w).map (·.2.2)).take i)).map wyD) (by
     walk_at"mx";erw[pk (k:=.inl q) rfl (Bz hnd hq)];unfold ae;rw[wg (by simp;omega)];rw[show [D.int w]=[w].map D.int from rfl,<-OX]) (by walk_at"mx") (by walk_at"mx") rfl n6 (by rw[Oa];unfold aD at hl4;rw[Oa]at hl4;omega),.inl rfl,True.intro,_,rfl,?_⟩
    rw[iO,Ia,take_snoc hp];unfold eF;rw[Rp];rfl)
 refine⟨y8,?_⟩;rw[e,Oa,OD]
theorem D7(hk:k<ns.length)(hdm:∀n∈ns,0<=n/\n<(wss.length:Int))(hnd:(aD W).Nodup)(hq:(q,f)∈W)(ha:(aD acc).Nodup)(hb:∀z∈aD acc,0<=z/\z<=3)(hd:∀d∈ds,0<=d.2.2/\d.2.2<=3)(hf:f.length<=60) :
  ∃y7 y8,lq [some (.d (ah wss)),some (.d (wiD (.row ns ds es))),some (.d (.int (k:Nat))),some (.fd (W.map wyD)),some (.fn "doors_onward"),some (.r S.length),some (.d (.int q)),x7,x8] (S++[.dct (acc.map wyD)])=.ok (.nx,[some (.d (ah wss)),some (.d (wiD (.row ns ds es))),some (.d (.int (k:Nat))),some (.fd (W.map wyD)),some (.fn "doors_onward"),some (.r S.length),some (.d (.int q)),y7,y8]) (S++[.dct ((jH ds q f acc (wss.getD (ns.getD k 0).toNat [])).map wyD)]):=by
 have hnm:ns.getD k 0∈ns:=by rw[Oc,gV hk];exact O5 hk
 have hdn:=hdm _ hnm;generalize hW:wss.getD (ns.getD k 0).toNat []=ws;obtain⟨τ',S',e,y7,y8,rfl,rfl⟩:=cx (show _=lq [some (.d (ah wss)),some (.d (wiD (.row ns ds es))),some (.d (.int (k:Nat))),some (.fd (W.map wyD)),some (.fn "doors_onward"),some (.r S.length),some (.d (.int q)),x7,x8] (S++[.dct (acc.map wyD)])from rfl) (S1:=S++[.dct (acc.map wyD)]) (items:=ws.map λw=>Vl.d (.int w)) (gd:=none) (by
   walk_at"mx";erw[pP];rw[EH hk];unfold ah;walk_at"mx";rw[aL (fi hdn.1 hdn.2),hW];unfold ae;walk_at"mx";rw[fT])
  (λi τ S'=>∃y7 y8,τ=[some (.d (ah wss)),some (.d (wiD (.row ns ds es))),some (.d (.int (k:Nat))),some (.fd (W.map wyD)),some (.fn "doors_onward"),some (.r S.length),some (.d (.int q)),y7,y8]/\S'=S++[.dct ((jH ds q f acc (ws.take i)).map wyD)]) ⟨x7,x8,rfl,rfl⟩ (by
   rintro i z τ S' hz ⟨y7,y8,rfl,rfl⟩;rw[Ox]at hz;cases hp:ws[i]? with
   |none=>rw[hp]at hz;cases hz
   |some w=>
    rw[hp]at hz;cases hz;have hlim:∀z∈aD (jH ds q f acc (ws.take i)),0<=z/\z<=3:=λz hz=>by
     obtain⟨x,hx,rfl⟩:=Of.mp hz;exact tX (λx=>0<=x.1/\x.1<=3) (λx hx=>hb x.1 (Vw hx)) (λw _ d hdd=>hd d (OH.mp hdd).1) x hx
    obtain⟨y8',e3⟩:=Ef (wss:=wss) (ns:=ns) (es:=es) (S:=S) (at':=(k:Nat)) (w:=w) (x8:=y8) hnd hq (u6 (ds:=ds) (q:=q) (f:=f) (ws:=ws.take i) ha) hlim hd hf;refine⟨_,_,.nx,_,_,by walk_at"mx",e3,.inl rfl,True.intro,some (.d (.int w)),y8',rfl,?_⟩;rw[take_snoc hp];unfold jH;rw[Rp];rfl)
 refine⟨y7,y8,?_⟩;rw[e,Oa,OD]
theorem Ka:f7 τ S=.ok (.r S.length) (S++[.dct []]):=bu rfl
theorem ou{S R:Sto}:frz (.r S.length) (S++[.dct kvs])=.ok (.fd kvs) (S++[.dead]):=by
 unfold frz;simp
theorem wJ{S R:Sto}:leave S (.ok (.rt (.fd kvs),τ) (S++R))=.ok (.fd kvs) S:=by
 unfold leave out;simp
theorem zk(hk:k<ns.length)(hdm:∀n∈ns,0<=n/\n<(wss.length:Int))(hnd:(aD W).Nodup)(hd:∀d∈ds,0<=d.2.2/\d.2.2<=3)(hf:∀x∈W,x.2.length<=60) :
  jW [.d (ah wss),.d (wiD (.row ns ds es)),.d (.int (k:Nat)),.fd (W.map wyD),.fn "doors_onward"] S=.ok (.fd ((iJ ds (wss.getD (ns.getD k 0).toNat []) [] W).map wyD)) S:=by
 unfold jW;rw[kE];unfold rl;generalize hW:wss.getD (ns.getD k 0).toNat []=ws;obtain⟨τ',S',e,y6,y7,y8,rfl,rfl⟩:=cx (show _=qJ [some (.d (ah wss)),some (.d (wiD (.row ns ds es))),some (.d (.int (k:Nat))),some (.fd (W.map wyD)),some (.fn "doors_onward"),some (.r S.length),none,none,none] (S++[.dct []])from rfl) (S1:=S++[.dct []]) (items:=W.map λx=>Vl.d (.int x.1)) (gd:=none) (by
   unfold i_;rw[show aa 3 [some (Vl.d (ah wss)),some (.d (wiD (.row ns ds es))),some (.d (.int (k:Nat))),some (.fd (W.map wyD)),some (.fn "doors_onward"),some (.r S.length),none,none,none] (S++[.dct []])=.ok (.fd (W.map wyD)) (S++[.dct []])from rfl,aC];dsimp only;rw[Oz];rfl)
  (λi τ S'=>∃y6 y7 y8,τ=[some (.d (ah wss)),some (.d (wiD (.row ns ds es))),some (.d (.int (k:Nat))),some (.fd (W.map wyD)),some (.fn "doors_onward"),some (.r S.length),y6,y7,y8]/\S'=S++[.dct ((iJ ds ws [] (W.take i)).map wyD)]) ⟨none,none,none,rfl,rfl⟩ (by
   rintro i z τ S' hz ⟨y6,y7,y8,rfl,rfl⟩;rw[Ox]at hz;cases hp:W[i]? with
   |none=>rw[hp]at hz;cases hz
   |some x=>
    rw[hp]at hz;cases hz;have hx:=OG hp;have hlim:∀z∈aD (iJ ds ws [] (W.take i)),0<=z/\z<=3:=λz hz=>by
     obtain⟨x,hx,rfl⟩:=Of.mp hz;exact tM (λx=>0<=x.1/\x.1<=3) (by simp) (λx _ w _ d hdd=>hd d (OH.mp hdd).1) x hx
    obtain⟨y7',y8',e3⟩:=D7 (wss:=wss) (ns:=ns) (es:=es) (S:=S) (k:=k) (q:=x.1) (f:=x.2) (x7:=y7) (x8:=y8) hk hdm hnd hx (uZ (ds:=ds) (ws:=ws) (W:=W.take i) (by simp[aD])) hlim hd (hf x hx);rw[hW]at e3;refine⟨_,_,.nx,_,_,by walk_at"mx",e3,.inl rfl,True.intro,_,_,_,rfl,?_⟩;rw[take_snoc hp];unfold iJ;rw[Rp];rfl)
 rw[Oa,OD]at e;walk_at"mx";erw[Ka];erw[e];erw[ou (R:=[])];rw[wJ]
noncomputable def lkW(ns f:List Int)(k:Int):Option Int:=((ns.zip f).find? λx=>decide (x.1=k)).map (·.2)
noncomputable def pairD(x:Int×Int):Key×D:=(.inl x.1,.int x.2)
noncomputable def dU(wss:List (List Int))(ns f:List Int):List Int:=(Oy wss.length).map λk=>(lkW ns f (k:Nat)).getD ((wss.getD k []).getD 0 0)
theorem wN(h:k∉kvs.map (·.1)):putD kvs k v=kvs++[(k,v)]:=by
 unfold putD;rw[Ot];intro z;obtain⟨x,hx,hk⟩:=O8.mp z;exact h (Of.mpr ⟨x,hx,by simpa using hk⟩)
theorem nr:∀{l kvs:List (Key×D)},(l.map (·.1)).Nodup->(∀k∈l.map (·.1),k∉kvs.map (·.1))->cu kvs l=kvs++l
 | [],kvs,_,_=>by simp[cu]
 |p::l,kvs,hn,hd=>by
  rw[Oq]at hn hd;obtain⟨h1,h2⟩:=OW.mp hn;show cu (putD kvs p.1 p.2) l=_;rw[wN (hd p.1 (by simp)),nr h2,QZ]
  ·rfl
  ·intro k hk z;rw[OX]at z;rcases OI.mp z with z |z
   ·exact hd k (by simp[hk]) z
   ·rw[Oq,Tb,Og]at z;exact h1 (z▸hk)
theorem v9:∀{ns f:List Int},((ns.zip f).map (·.1)).Sublist ns
 | [],_=>by simp
 |_::_,[]=>by simp
 |n::ns,a::f=>by simpa using(v9 (ns:=ns) (f:=f)).cons₂ n
theorem yX{ns:List Int}:oj (ns.map D.int)=some (ns.map Sum.inl):=by
 induction ns with
 |nil=>rfl
 |cons n ns ih=>simp only[Oq,oj,ih,dk]
theorem MP(hn:ns.Nodup)(hl:ns.length<=60):fDZ [.d (ae ns),.d (ae f)] S=.ok (.r S.length) (S++[.dct ((ns.zip f).map pairD)]):=by
 unfold fDZ ae;dsimp only;rw[yX];dsimp only;have e:(ns.map Sum.inl).zip (f.map D.int)=(ns.zip f).map pairD:=by
  rw[List.zip_map];rfl
 rw[e,Oe (by rw[Oa,PZ];omega),nr]
 ·rfl
 ·rw[Oz];have:((ns.zip f).map ((λx=>x.1)∘pairD))=((ns.zip f).map (·.1)).map Sum.inl:=by rw[Oz];rfl
  rw[this];exact qW (hn.sublist v9) λx _ y _ z=>Qm z
 ·simp
theorem Cw:cY ((ns.zip f).map pairD) (.inl k)=(lkW ns f k).map D.int:=by
 unfold lkW;generalize ns.zip f=l
 induction l with
 |nil=>rfl
 |cons x l ih=>
  rw[Oq];by_cases h:x.1=k
  ·rw[fb (show(pairD x).1=.inl k by rw[<-h];rfl)];simp[Py,h,pairD]
  ·rw[dX (show¬(pairD x).1=.inl k fromλz=>h (Qm z)),ih];simp[Py,h]
theorem Cg(h1:d τ S=.ok (.fd kvs) S1)(h2:k τ S1=.ok (.d yd) S2)(h3:e τ S2=.ok (.d zd) S3)(hk:dk yd=some key):ox d k e τ S=.ok (.d ((cY kvs key).getD zd)) S3:=by
 unfold ox;rw[h1,aC];rw[Oe (show(e_ (.fd kvs) S1).isSome=true from rfl),h2,aC,h3,aC];dsimp only;rw[hk];rfl
theorem pX(gs:br n m wss):bE [.d (ah wss),.fd ((ns.zip f).map pairD)] S=.ok (.d (ae (dU wss ns f))) S:=by
 unfold bE;rw[bO];unfold fB;have e:cT [some (.d (ah wss)),some (.fd ((ns.zip f).map pairD))] S=.ok (.d (.lst ((dU wss ns f).map D.int))) S:=by
  unfold cT;rw[lcG (items:=cB 0 (wss.map ae)) (S1:=S) (by unfold yZ;rfl) (λz=>match z with | .d (.tup [a,b])=>[some (.d a),some (.d b)] |_=>[none,none]) (λz=>match z with | .d (.tup [.int k,_])=>.int ((lkW ns f k).getD ((wss.getD k.toNat []).getD 0 0)) |_=>.non) (λ_=>true) ?_ ?_ ?_ ?_]
  ·rw[PQ.mpr (λ_ _=>rfl)];congr 3;refine Qo λi=>?_;rw[Ox,di,Ox];unfold dU;rw[Ox,Ox];by_cases hi:i<wss.length
   ·rw[gV hi,PN hi];simp
   ·rw[O2 ⋯,O2 (by simp;omega)];rfl
  ·intro z hz;obtain⟨i,hi,rfl⟩:=O1.mp hz;obtain⟨x,_,e⟩:=fc (gV hi);rw[e];rfl
  ·intro z hz y hρ S;obtain⟨i,hi,rfl⟩:=O1.mp hz;obtain⟨x,_,e⟩:=fc (gV hi);rw[e]
   match y,hρ with
   | [_,_],_=>walk_at"mx"
  ·intro z hz S;rfl
  ·intro z hz _ S;obtain⟨i,hi,rfl⟩:=O1.mp hz;obtain⟨x,hx,e⟩:=fc (gV hi);rw[e];rw[Ox]at hx;cases q:wss[i]? with
   |none=>rw[q]at hx;cases hx
   |some ws=>
    rw[q]at hx;cases hx;have hws:=gs.all ws (OG q);have hpos:0<ws.length:=hws.pos;dsimp only;rw[Cg (S1:=S) (S2:=S) (S3:=S) (kvs:=(ns.zip f).map pairD) (yd:=.int (i:Nat)) (key:=.inl (i:Nat)) (zd:=.int (ws.getD 0 0)) (by walk_at"mx") (by walk_at"mx") (by
     walk_at"mx";exact EH (i:=0) hpos) rfl,Cw]
    rw[O0,show wss.getD i []=ws by rw[Oc,q];rfl];cases lkW ns f (i:Nat)<;>rfl
 walk_at"mx";erw[e];rw[ao];rfl
theorem M_:uz [(xC (.int 0),xN mkT af)] τ S=.ok (.r S.length) (S++[.dct ([((0:Int),([]:List Int))].map wyD)]):=by
 unfold uz;rw[show nD [(xC (.int 0),xN mkT af)] τ (S++[.dct []])=.ok [(.d (.int 0),.d (.tup []))] (S++[.dct []])from rfl,aC];rw[show iX [(Vl.d (.int 0),.d (.tup []))]=some [(Sum.inl 0,.tup [])]from rfl,n6];dsimp only;rw[Oe (by decide),iO];rfl
theorem BH:eD (W.map wyD)=some (aD W):=by
 induction W with
 |nil=>rfl
 |cons x W ih=>
  rw[Oq];show(eD (W.map wyD)).map (x.1::·)=_;rw[ih];rfl
theorem Hk(h:(aD W).length<64):i7 [.fd (W.map wyD)] S=.ok (.d (.lst ((sortI (aD W)).map D.int))) S:=by
 unfold i7 nv;dsimp only;rw[BH];dsimp only;rw[Oe h]
theorem vQ(hd:∀d∈ds,0<=d.2.2/\d.2.2<=3)(i:Nat):(aD (bt ds wss ns i)).length<=4:=by
 obtain⟨h1,h2⟩:=d_ (wss:=wss) (ns:=ns) hd i;refine vV h2 λx hx=>?_;obtain⟨y,hy,rfl⟩:=Of.mp hx;exact(h1 y hy).lim
noncomputable def bo(ds:List Tri)(wss:List (List Int))(ns:List Int)(n:Nat):List (List Int):=(Oy n).map (mS ds wss ns)
theorem yF:bo ds wss ns (n+1)=bo ds wss ns n++[mS ds wss ns n]:=by unfold bo;rw[Te,OX];rfl
theorem Dp(hdm:∀n∈ns,0<=n/\n<(wss.length:Int))(hd:∀d∈ds,0<=d.2.2/\d.2.2<=3)(h4:ns.length<=60) :
  ∃y6,gO [some (.d (ah wss)),some (.d (wiD (.row ns ds es))),some (.fn "doors_onward"),some (.fn "is_end_of_row"),some (.fd ((bt ds wss ns 0).map wyD)),some (.r S.length),x6,x7] (S++[.lst ((bo ds wss ns 1).map ae)])=.ok (.nx,[some (.d (ah wss)),some (.d (wiD (.row ns ds es))),some (.fn "doors_onward"),some (.fn "is_end_of_row"),some (.fd ((bt ds wss ns ns.length).map wyD)),some (.r S.length),y6,x7]) (S++[.lst ((bo ds wss ns (ns.length+1)).map ae)]):=by
 obtain⟨τ',S',e,y6,rfl,rfl⟩:=cx (show _=gO [some (.d (ah wss)),some (.d (wiD (.row ns ds es))),some (.fn "doors_onward"),some (.fn "is_end_of_row"),some (.fd ((bt ds wss ns 0).map wyD)),some (.r S.length),x6,x7] (S++[.lst ((bo ds wss ns 1).map ae)])from rfl) (S1:=S++[.lst ((bo ds wss ns 1).map ae)]) (items:=(Oy ns.length).map λi=>Vl.d (.int (i:Nat))) (gd:=none) (by
   walk_at"mx";rw[pP];walk_at"my";rw[yR ⋯,O0])
  (λi τ S'=>∃y6,τ=[some (.d (ah wss)),some (.d (wiD (.row ns ds es))),some (.fn "doors_onward"),some (.fn "is_end_of_row"),some (.fd ((bt ds wss ns i).map wyD)),some (.r S.length),y6,x7]/\S'=S++[.lst ((bo ds wss ns (i+1)).map ae)]) ⟨x6,rfl,rfl⟩ (by
   rintro i z τ S' hz ⟨y6,rfl,rfl⟩;obtain⟨hi,rfl⟩:=gE hz;obtain⟨g1,g2⟩:=d_ (wss:=wss) (ns:=ns) hd i;have hlen:(bo ds wss ns (i+1)).length=i+1:=by simp[bo]
   have hf4:=vQ (wss:=wss) (ns:=ns) hd (i+1);refine⟨_,_,.nx,_,_,by walk_at"mx";rfl,by
    walk_at"mx";erw[zk hi hdm g2 hd (λx hx=>by have:=(g1 x hx).len;omega)];erw[show iJ ds (wss.getD (ns.getD i 0).toNat []) [] (bt ds wss ns i)=bt ds wss ns (i+1)from rfl,Hk ⋯];erw[qI (by rw[Oa];omega)];rfl,.inl rfl,True.intro,_,rfl,?_⟩
   rw[yF (n:=i+1),OX];rfl)
 refine⟨y6,?_⟩;rw[e,iS]
theorem FV:mkP [.d a,.d b] S=.ok (.d (.tup [a,b])) S:=bu rfl
theorem Eo(gs:br n m wss)(hnd:ns.Nodup)(hd:∀d∈ds,0<=d.2.2/\d.2.2<=3)(h4:ns.length<=60) :
  (∃y7,(∀x∈bt ds wss ns ns.length,x.1∉es)/\eU [some (.d (ah wss)),some (.d (wiD (.row ns ds es))),some (.fn "doors_onward"),some (.fn "is_end_of_row"),some (.fd ((bt ds wss ns ns.length).map wyD)),some (.r S.length),x6,x7] (S++[.lst ((bo ds wss ns (ns.length+1)).map ae)])=.ok (.nx,[some (.d (ah wss)),some (.d (wiD (.row ns ds es))),some (.fn "doors_onward"),some (.fn "is_end_of_row"),some (.fd ((bt ds wss ns ns.length).map wyD)),some (.r S.length),x6,y7]) (S++[.lst ((bo ds wss ns (ns.length+1)).map ae)])) \/
  ∃x τ' R,x∈bt ds wss ns ns.length/\x.1∈es/\eU [some (.d (ah wss)),some (.d (wiD (.row ns ds es))),some (.fn "doors_onward"),some (.fn "is_end_of_row"),some (.fd ((bt ds wss ns ns.length).map wyD)),some (.r S.length),x6,x7] (S++[.lst ((bo ds wss ns (ns.length+1)).map ae)])=.ok (.rt (.d (.tup [.str "can",ae (dU wss ns x.2)])),τ') (S++R):=by
 obtain⟨g1,g2⟩:=d_ (wss:=wss) (ns:=ns) hd ns.length;generalize hP:(bo ds wss ns (ns.length+1)).map ae=P;generalize hW:bt ds wss ns ns.length=W at g1 g2;rcases iU (show _=eU [some (.d (ah wss)),some (.d (wiD (.row ns ds es))),some (.fn "doors_onward"),some (.fn "is_end_of_row"),some (.fd (W.map wyD)),some (.r S.length),x6,x7] (S++[.lst P])from rfl) (λv S'=>∃x R,x∈W/\x.1∈es/\v=.d (.tup [.str "can",ae (dU wss ns x.2)])/\S'=S++R) (S1:=S++[.lst P]) (items:=W.map λx=>Vl.d (.int x.1)) (gd:=none) (by
   unfold i_;rw[show aa 4 [some (Vl.d (ah wss)),some (.d (wiD (.row ns ds es))),some (.fn "doors_onward"),some (.fn "is_end_of_row"),some (.fd (W.map wyD)),some (.r S.length),x6,x7] (S++[.lst P])=.ok (.fd (W.map wyD)) (S++[.lst P])from rfl,aC];dsimp only;rw[Oz];rfl)
  (λi τ S'=>∃y7,(∀x∈W.take i,x.1∉es)/\τ=[some (.d (ah wss)),some (.d (wiD (.row ns ds es))),some (.fn "doors_onward"),some (.fn "is_end_of_row"),some (.fd (W.map wyD)),some (.r S.length),x6,y7]/\S'=S++[.lst P]) ⟨x7,by simp,rfl,rfl⟩ (by
   rintro i z τ S' hz ⟨y7,hno,rfl,rfl⟩;rw[Ox]at hz;cases hp:W[i]? with
   |none=>rw[hp]at hz;cases hz
   |some x=>
    rw[hp]at hz;cases hz;have hx:=OG hp;have ec:f_ [("is_end_of_row",bG)] 3 (ab (aa 1) (ab (aa 7) af)) [some (.d (ah wss)),some (.d (wiD (.row ns ds es))),some (.fn "doors_onward"),some (.fn "is_end_of_row"),some (.fd (W.map wyD)),some (.r S.length),x6,some (.d (.int x.1))] (S++[.lst P])=.ok (.d (.bl (decide (x.1∈es)))) (S++[.lst P]):=by
     erw[zM (nm:="is_end_of_row") (F:=bG) rfl Sb];erw[BL]
    by_cases he:x.1∈es
    ·rw[Oi he]at ec;refine⟨[some (.d (ah wss)),some (.d (wiD (.row ns ds es))),some (.fn "doors_onward"),some (.fn "is_end_of_row"),some (.fd (W.map wyD)),some (.r S.length),x6,some (.d (.int x.1))],S++[.lst P],.rt (.d (.tup [.str "can",ae (dU wss ns x.2)])),_,S++[.lst P]++[.dead],by walk_at"mx",by
      walk_at"mx";erw[ec];erw[pP];erw[pk (k:=.inl x.1) rfl (Bz g2 (show(x.1,x.2)∈W from hx))];erw[MP hnd h4];rw[show(S++[Ob.lst P]++[Ob.dct ((ns.zip x.2).map pairD)])=(S++[Ob.lst P])++[Ob.dct ((ns.zip x.2).map pairD)]from rfl];erw[ou (S:=S++[Ob.lst P]) (R:=[])];erw[pX gs];erw[FV];rfl,.inr ⟨_,rfl,x,[.lst P,.dead],hx,he,rfl,by simp⟩⟩
    ·rw[Oo he]at ec;refine⟨_,_,.nx,_,_,by walk_at"mx";rfl,by
      walk_at"mx";erw[ec];rfl,.inl ⟨.inl rfl,True.intro,_,?_,rfl,rfl⟩⟩
     intro y hy;rw[take_snoc hp]at hy;rcases OI.mp hy with q |q
     ·exact hno y q
     ·rw[Og.mp q];exact he)with⟨τ',S',e,y7,hno,rfl,rfl⟩ |⟨v,τ',S',e,x,R,hx,he,rfl,rfl⟩
 ·rw[Oa,OD]at hno;exact .inl ⟨y7,hno,e⟩
 ·exact .inr ⟨x,τ',R,hx,he,e⟩
theorem Ki:mkP [.d (.str "no"),.r (S.length+1)] (S++[.dead]++[.lst P])=.ok (.pr (.str "no") (S.length+1)) (S++[.dead]++[.lst P]):=by
 unfold mkP;simp
theorem Jh:leave S (.ok (.rt (.pr (.str "no") (S.length+1)),τ) (S++[.dead]++[.lst P]))=.ok (.pr (.str "no") S.length) (S++[.lst P]):=by
 unfold leave out;simp
theorem oX(gs:br n m wss)(hnd:ns.Nodup)(hdm:∀n∈ns,0<=n/\n<(wss.length:Int))(hd:∀d∈ds,0<=d.2.2/\d.2.2<=3)(h4:ns.length<=60) :
  ((∀x∈bt ds wss ns ns.length,x.1∉es)/\du [.d (ah wss),.d (wiD (.row ns ds es)),.fn "doors_onward",.fn "is_end_of_row"] S=.ok (.pr (.str "no") S.length) (S++[.lst ((bo ds wss ns (ns.length+1)).map ae)])) \/
  ∃x,x∈bt ds wss ns ns.length/\x.1∈es/\du [.d (ah wss),.d (wiD (.row ns ds es)),.fn "doors_onward",.fn "is_end_of_row"] S=.ok (.d (.tup [.str "can",ae (dU wss ns x.2)])) S:=by
 have e0:du [.d (ah wss),.d (wiD (.row ns ds es)),.fn "doors_onward",.fn "is_end_of_row"] S=leave S (aj gO (aj eU (au (xN mkP (ab (xC (.str "no")) (ab (aa 5) af))))) [some (.d (ah wss)),some (.d (wiD (.row ns ds es))),some (.fn "doors_onward"),some (.fn "is_end_of_row"),some (.fd ((bt ds wss ns 0).map wyD)),some (.r (S++[Ob.dead]).length),none,none] ((S++[Ob.dead])++[.lst ((bo ds wss ns 1).map ae)])):=by
  unfold du;rw[je];unfold oP;walk_at"mx";erw[M_];erw[ou (R:=[])];rfl
 obtain⟨y6,e1⟩:=Dp (wss:=wss) (ns:=ns) (es:=es) (ds:=ds) (S:=S++[.dead]) (x6:=none) (x7:=none) hdm hd h4;rcases Eo (wss:=wss) (ns:=ns) (es:=es) (ds:=ds) (S:=S++[.dead]) (x6:=y6) (x7:=none) gs hnd hd h4 with⟨y7,hno,e2⟩ |⟨x,q',R,hx,he,e2⟩
 ·refine .inl ⟨hno,?_⟩;erw[e0];erw[e1];erw[e2];erw[show(S++[Ob.dead]).length=S.length+1 by simp,Ki];rw[Jh]
 ·refine .inr ⟨x,hx,he,?_⟩;erw[e0];erw[e1];erw[e2];rw[bh,QZ,Sa]
theorem xZ(hl:f.length=wss.length)(hm:∀i,i<wss.length->f.getD i 0∈wss.getD i []):f∈aW wss:=by
 have key:∀n,n<=wss.length->f.take n∈aW (wss.take n):=by
  intro n
  induction n with
  |zero=>intro _;simp[aW]
  |succ n ih=>
   intro hn;have h1:n<wss.length:=by omega
   have h2:n<f.length:=by omega
   rw[take_snoc (gV h1),take_snoc (gV h2),j8];refine QJ.mpr ⟨_,ih ⋯,Of.mpr ⟨f[n],?_,rfl⟩⟩;have:=hm n h1;rw[Oc,Oc,gV h1,gV h2]at this;exact this
 have:=key wss.length (Oj _);rw[OD,P0 ⋯]at this;exact this
theorem ES:∀{ns f:List Int}{j:Nat},ns.Nodup->j<ns.length->f.length=ns.length->lkW ns f (ns.getD j 0)=some (f.getD j 0)
 | [],_,_,_,h,_=>by simp at h
 |n::ns,[],_,_,_,h=>by simp at h
 |n::ns,a::f,0,_,_,_=>by simp[lkW]
 |n::ns,a::f,j+1,hn,hj,hl=>by
  obtain⟨h1,h2⟩:=OW.mp hn;have hj':j<ns.length:=by simpa using hj
  have ih:=ES (ns:=ns) (f:=f) h2 hj' (by simpa using hl);have hne:¬n=ns.getD j 0:=λz=>h1 (by rw[z,Oc,gV hj'];exact O5 hj');unfold lkW at ih ⊢;rw[Vx,Vx,Ra,Py];simp only[Oo hne];exact ih
theorem KS(h:lkW ns f k=some v):∃j,j<ns.length/\j<f.length/\ns.getD j 0=k/\f.getD j 0=v:=by
 unfold lkW at h;obtain⟨x,hx,hv⟩:=PB.mp h;have hm:=QS hx;have hk:=Th hx;obtain⟨j,hj,e⟩:=O1.mp hm;rw[PZ]at hj;rw[Wx]at e;refine⟨j,by omega,by omega,?_,?_⟩
 ·rw[Oc,gV ⋯];have:x.1=k:=by simpa using hk
  rw[<-this,<-e];rfl
 ·rw[Oc,gV ⋯,<-hv,<-e];rfl
theorem C3(hn:ns.Nodup)(hd:∀n∈ns,0<=n/\n<(wss.length:Int))(hl:f.length=ns.length):vls (dU wss ns f) ns=f:=by
 unfold vls;refine List.ext_getElem (by simp[hl]) λj h1 h2=>?_;rw[Wy];have hj:j<ns.length:=by simpa using h1
 have hm:=hd _ (O5 hj);have:=ES hn hj hl;rw[Oc,gV hj]at this;unfold dU;rw[Oc,Ox,PN ⋯];simp only[Option.map_some,SW,Int.toNat_of_nonneg hm.1]at this ⊢;rw[this,SW,Oc,gV h2];rfl
theorem Ep(gs:br n m wss)(hl:f.length=ns.length)(hm:∀j,j<ns.length->f.getD j 0∈wss.getD (ns.getD j 0).toNat []):dU wss ns f∈aW wss:=by
 refine xZ (by simp[dU]) λi hi=>?_;have e0:(dU wss ns f).getD i 0=(lkW ns f (i:Nat)).getD ((wss.getD i []).getD 0 0):=by
  unfold dU;rw[Oc,Ox,PN hi];rfl
 rw[e0];cases q:lkW ns f (i:Nat)with
 |some v=>
  obtain⟨j,h1,h2,h3,h4⟩:=KS q;have:=hm j h1;rw[h3,h4,O0]at this;exact this
 |none=>
  have hw:wss.getD i []∈wss:=by rw[Oc,gV hi];exact O5 hi
  have hp:=(gs.all _ hw).pos;rw[Ug];generalize wss.getD i []=l at hp;rw[Oc,gV (show 0<l.length by omega)];exact O5 _
theorem EB(gs:br n m wss)(gn:cj wss.length ns)(hd:∀d∈ds,0<=d.2.2/\d.2.2<=3)(hx:x∈bt ds wss ns ns.length)(he:x.1∈es):dU wss ns x.2∈iA wss [.row ns ds es]:=by
 obtain⟨g1,_⟩:=d_ (wss:=wss) (ns:=ns) hd ns.length;obtain⟨h1,h2,h3,h4⟩:=g1 x hx;refine OH.mpr ⟨Ep gs h1 h2,?_⟩;simp only[QG,V1,Qk,d8];rw[C3 gn.nd gn.dom h1];exact O8.mpr ⟨x.1,h3,by simpa using he⟩
theorem G3(gn:cj wss.length ns)(hno:∀x∈bt ds wss ns ns.length,x.1∉es):iA wss [.row ns ds es]=[]:=by
 refine UX.mpr λf hf=>?_;simp only[QG,V1,Qk,d8];intro h;obtain⟨e,he,hee⟩:=O8.mp h;have hfm:=la (wss:=wss) wss.length (Oj _) f (by rw[OD];exact hf);have hk:=vW (ds:=ds) (wss:=wss) (ns:=ns) ns.length (vls f ns) xO (λj hj=>by
  have hm:=gn.dom _ (O5 hj);have h2:=hfm.2 (ns[j]).toNat ⋯;have e1:(vls f ns).getD j 0=f.getD (ns[j]).toNat 0:=by
   unfold vls;rw[Oc,Ox,gV hj];rfl
  have e2:ns.getD j 0=ns[j]:=by rw[Oc,gV hj];rfl
  rw[e1,e2];exact h2) e he
 obtain⟨x,hx,hx1⟩:=Of.mp hk;exact hno x hx (by rw[hx1];simpa using hee)
theorem oi(h:i<n):(bo ds wss ns n).getD i []=mS ds wss ns i:=by
 unfold bo;rw[Oc,Ox,PN h];rfl
theorem qH:z∈mS ds wss ns i↔∃x∈bt ds wss ns i,x.1=z:=by
 unfold mS;rw[cC];exact Of
theorem zR(hd:∀d∈ds,0<=d.2.2/\d.2.2<=3)(hno:∀x∈bt ds wss ns ns.length,x.1∉es):eR wss ns ds es (bo ds wss ns (ns.length+1))=true:=by
 unfold eR;simp only[OQ,O7,Pf];refine⟨by simp[bo],?_,?_,?_,?_⟩
 ·rw[oi ⋯];exact qH.mpr ⟨(0,[]),by simp[bt],rfl⟩
 ·rw[oi ⋯];intro e he;obtain⟨x,hx,rfl⟩:=qH.mp he;simpa using hno x hx
 ·intro s hs;obtain⟨i,_,rfl⟩:=Of.mp hs;exact fe (d_ (wss:=wss) (ns:=ns) hd i).2
 ·intro i hi;have hin:=O3.mp hi;rw[oi ⋯,oi ⋯];unfold kZ;rw[Pf];intro d hdd;simp only[Q0,Vc,V0,Qj,O7];by_cases a1:d.1∈mS ds wss ns i
  ·by_cases a2:d.2.1∈wss.getD (ns.getD i 0).toNat []
   ·refine .inr (.inr ?_);obtain⟨x,hx,hx1⟩:=qH.mp a1;unfold mS;rw[cC];exact tu hx a2 (OH.mpr ⟨hdd,by simp[hx1]⟩)
   ·exact .inr (.inl a2)
  ·exact .inl a1
theorem El(hd:∀d∈ds,0<=d.2.2/\d.2.2<=3):∀s∈bo ds wss ns n,s.length<=4/\∀v∈s,-9<=v/\v<=9:=by
 intro s hs;obtain⟨i,_,rfl⟩:=Of.mp hs;refine⟨by unfold mS;rw[cW];exact vQ hd i,λv hv=>?_⟩;obtain⟨x,hx,rfl⟩:=qH.mp hv;have:=((d_ (wss:=wss) (ns:=ns) hd i).1 x hx).lim;omega
theorem FW{S R:Sto}:leave S (.ok (.rt (.pr (.str "no") S.length),τ) (S++[.lst P]))=.ok (.pr (.str "no") S.length) (S++[.lst P]):=by
 unfold leave out;simp
theorem lV(gs:br 4 4 wss)(g:bx wss.length (.row ns ds es)) :
  (iA wss [.row ns ds es]=[]/\eR wss ns ds es (bo ds wss ns (ns.length+1))=true/\cV [.d (ah wss),.d (wiD (.row ns ds es))] S=.ok (.pr (.str "no") S.length) (S++[.lst ((bo ds wss ns (ns.length+1)).map ae)])) \/
  ∃f,f∈iA wss [.row ns ds es]/\cV [.d (ah wss),.d (wiD (.row ns ds es))] S=.ok (.d (.tup [.str "can",ae f])) S:=by
 have h4:=gs.le;obtain⟨gn,gd,_⟩:=id g;have gl:=gn.le;have hd:∀d∈ds,0<=d.2.2/\d.2.2<=3:=λd h=>(gd.lim d h).2.2;have nk:bJ [.d (ah wss),.d (wiD (.row ns ds es)),.d (.str "row")] S=.ok (.d .non) S:=by
  unfold bJ;rw[bZ];unfold gi;walk_at"mx";erw[sx gs (by decide) (by decide) g];erw[yO];rw[gx,fD,OD]
 have e0:cV [.d (ah wss),.d (wiD (.row ns ds es))] S=leave S (rt1 (du [.d (ah wss),.d (wiD (.row ns ds es)),.fn "doors_onward",.fn "is_end_of_row"] S) [some (.d (ah wss)),some (.d (wiD (.row ns ds es)))]):=by
  unfold cV;rw[bO];unfold p8;walk_at"mx";erw[nk];rcases oX (S:=S) (es:=es) gs gn.nd gn.dom hd ⋯with⟨_,e⟩ |⟨x,_,_,e⟩
  ·rw[e];rfl
  ·erw[e]
 rcases oX (S:=S) (es:=es) gs gn.nd gn.dom hd ⋯with⟨hno,e⟩ |⟨x,hx,he,e⟩
 ·refine .inl ⟨G3 gn hno,zR hd hno,?_⟩;erw[e0,e];rw[FW (R:=[])]
 ·refine .inr ⟨_,EB gs gn hd hx he,?_⟩;erw[e0,e];rw[ao]
noncomputable def aN(wss:List (List Int))(ps:List Int):List Int:=ps.flatMap λp=>wss.getD p.toNat []
theorem fM(hw:∀ws∈wss,ws.length<=m):∀ps:List Int,(aN wss ps).length<=m*ps.length
 | []=>by simp[aN]
 |p::ps=>by
  have:=fM hw ps;have h:(wss.getD p.toNat []).length<=m:=by
   rw[Oc];cases q:wss[p.toNat]? with
   |none=>simp
   |some ws=>simpa using hw ws (OG q)
  rw[show aN wss (p::ps)=wss.getD p.toNat []++aN wss ps from rfl,Pj,OB,Nat.mul_succ];omega
theorem um:aN wss (ps++[p])=aN wss ps++wss.getD p.toNat []:=by simp[aN]
theorem sF(hl:ps.length<=1000):cm [.d (ae ps),.d (ae ns)] S=.ok (.d (.bl (!decide (ps=[])&&(ps.all (λp=>decide (p∈ns))&&decide (ps.Pairwise (· <·)))))) S:=by
 unfold cm;rw[bO];unfold gk;walk_at"mx";erw[show ae ps=.tup (ps.map D.int)from rfl,iT];rw[Oa];by_cases h0:ps=[]
 ·erw[Oi (show(ps.length:Int)=0 by rw[h0];rfl),Oi h0];rw[ao];rfl
 ·erw[Oo (show¬(ps.length:Int)=0 by have:ps.length≠0:=λh=>h0 (Uz.mp h);omega),Oo h0];rw[cI (show _=gz [some (.d (.tup (ps.map D.int))),some (.d (ae ns))] S from rfl) (xs:=ps.map D.int) (S1:=S) (by walk_at"mx") (λx=>match x with | .int p=>.bl (decide (p∈ns)) |_=>.non) (by
   intro x hx S;obtain⟨v,hv,rfl⟩:=Of.mp hx;unfold ae;walk_at"mx")]
  walk_at"mx";rw[Oz,show((λx:D=>(match x with | .int p=>D.bl (decide (p∈ns)) |_=>.non))∘D.int)=λp:Int=>D.bl (decide (p∈ns))from rfl,eV];by_cases ha:ps.all (λp=>decide (p∈ns))=true
  ·erw[ha];erw[show D.tup (ps.map D.int)=ae ps from rfl,dD hl];rw[ao];simp
  ·erw[Qv _ |>.mp ha];rw[ao];simp
theorem uN(hw:∀ws∈wss,ws.length<=m)(hm:m<=4)(hn:∀n∈ps,0<=n/\n<(wss.length:Int))(hl:ps.length<=60)(hs:(aS (aN wss ps)).length<64) :
  gI [.d (ah wss),.d (ae ps)] S=.ok (.d (.lst ((aS (aN wss ps)).map D.int))) S:=by
 unfold gI;rw[bO];unfold nR;walk_at"mx";obtain⟨τ',S',e,x3,rfl,rfl⟩:=cx (show _=mO [some (.d (ah wss)),some (.d (ae ps)),some (.r S.length),none] (S++[.lst []])from rfl)
   (S1:=S++[.lst []]) (items:=(ps.map D.int).map Vl.d) (gd:=none) (by unfold ae;walk_at"mx")
   (λi τ S'=>∃x3,τ=[some (.d (ah wss)),some (.d (ae ps)),some (.r S.length),x3]/\S'=S++[.lst ((aN wss (ps.take i)).map D.int)]) ⟨none,rfl,rfl⟩ (by
    rintro i z τ S' hz ⟨x3,rfl,rfl⟩;obtain⟨p,ep,rfl⟩:=ints_get hz;have hi:=(Ol.mp ep).1;obtain⟨p0,p1⟩:=hn p (OG ep);have hb:=fM hw (ps.take i);have hb2:m*(ps.take i).length<=4*60:=TC hm (by simp;omega);have hb3:(wss.getD p.toNat []).length<=4:=by
     have:=fM hw [p];simp only[aN,R3,Ut,Qp,OB,Qf]at this;omega
    refine⟨_,_,.nx,_,_,by walk_at"mx";rfl,by
     walk_at"mx";unfold ah;erw[aL (fi p0 p1)];unfold ae;erw[Kr (by simp only[Oa];omega)];rfl,.inl rfl,True.intro,some (.d (.int p)),rfl,?_⟩
    rw[take_snoc ep,um,OX])
 rw[e];erw[show((ps.map D.int).map Vl.d).length=ps.length by simp,OD];have hb:=fM hw ps;have hb2:m*ps.length<=4*60:=TC hm hl;erw[Lf (qk fm) ⋯ hs];rw[eh]
theorem ni(l:List Int)(a b:Int)(h:a<=b)(hp:l.Pairwise (· <·))(hx:∀x∈l,a<=x/\x<b):(l.length:Int)<=b-a:=by
 have:=pB (b:=b-1) (a:=a) hp λx z=>by have:=hx x z;omega
 omega
noncomputable def gc(ns:List Int)(bs:List Tri):D:=.tup [.str "many",ae ns,.tup (bs.map av)]
theorem Lv:oIx (.d (gc ns bs)) (.d (.int 0)) S=.ok (.d (.str "many")) S:=aL rfl
theorem yW:oIx (.d (gc ns bs)) (.d (.int 1)) S=.ok (.d (ae ns)) S:=aL rfl
theorem uB:oIx (.d (gc ns bs)) (.d (.int 2)) S=.ok (.d (.tup (bs.map av))) S:=aL rfl
theorem qO(gs:br n m wss)(hn:n<=4)(hm:m<=4)(g:cj wss.length ns)(gb:bT bs):bJ [.d (ah wss),.d (gc ns bs),.d (.str "many")] S=.ok (.d .non) S:=by
 unfold bJ;rw[bZ];unfold gi;walk_at"mx";erw[show gc ns bs=wiD (.man ns bs)from rfl,sx gs hn hm (show bx _ (.man ns bs)from⟨g,gb⟩)];erw[show wiD (.man ns bs)=gc ns bs from rfl,Lv];rw[gx,fD,OD]
noncomputable def bS(b:Tri):Key×D:=(.inl b.1,.int b.2.1)
noncomputable def bg(b:Tri):Key×D:=(.inl b.1,.int b.2.2)
noncomputable def aG(bs:List Tri):List Int:=bs.map (·.1)
theorem vB(h:∀b,(g b).1=.inl b.1)(gb:bT bs):fDL [.d (.lst (bs.map λb=>D.tup [.int b.1,(g b).2]))] S=.ok (.r S.length) (S++[.dct (bs.map g)]):=by
 have e:fh (bs.map λb=>D.tup [.int b.1,(g b).2])=some (bs.map g):=by
  have:∀l:List Tri,fh (l.map λb=>D.tup [.int b.1,(g b).2])=some (l.map g):=λl=>by
   induction l with
   |nil=>rfl
   |cons b l ih=>
    rw[Oq,Oq,fh,ih];simp only[dk];rw[<-h b]
  exact this bs
 have hl:=gb.le;unfold fDL;dsimp only;rw[show bX (.d (.lst (bs.map λb=>D.tup [.int b.1,(g b).2]))) S=some (bs.map λb=>D.tup [.int b.1,(g b).2])from rfl,Sk,e];dsimp only;rw[Oe (by rw[Oa];omega),nr]
 ·rfl
 ·rw[Oz];have e2:(bs.map ((λx=>x.1)∘g))=(bs.map (·.1)).map Sum.inl:=by
   rw[Oz];exact P8 λb _=>h b
  rw[e2];exact qW (gb.rise.imp λz=>by omega) λx _ y _ z=>Qm z
 ·simp
theorem qr(gb:bT bs):g_ [.d (.tup (bs.map av))] S=.ok (.fd (bs.map bS)) S:=by
 unfold g_;rw[bf];unfold qe;have e:lJ [some (.d (.tup (bs.map av)))] S=.ok (.d (.lst (bs.map λb=>D.tup [.int b.1,(bS b).2]))) S:=by
  unfold lJ;rw[lcG (items:=bs.map λb=>Vl.d (av b)) (S1:=S) (by walk_at"mx";rw[jS]) (λz=>match z with | .d (.tup [a,b,c])=>[some (.d a),some (.d b),some (.d c)] |_=>[none,none,none]) (λz=>match z with | .d (.tup [a,b,c])=>.tup [a,b] |_=>.non) (λ_=>true) ?_ ?_ ?_ ?_]
  ·rw[PQ.mpr (λ_ _=>rfl),Oz];rfl
  ·intro z hz;obtain⟨b,_,rfl⟩:=Of.mp hz;rfl
  ·intro z hz y hρ S;obtain⟨b,_,rfl⟩:=Of.mp hz
   match y,hρ with
   | [_,_,_],_=>unfold av;walk_at"mx"
  ·intro z hz S;rfl
  ·intro z hz _ S;obtain⟨b,_,rfl⟩:=Of.mp hz;unfold av;dsimp only;walk_at"mx"
 walk_at"mx";erw[e];erw[vB (λ_=>rfl) gb];erw[ou (R:=[])];rw[wJ]
theorem oS(gb:bT bs):fN [.d (.tup (bs.map av))] S=.ok (.fd (bs.map bg)) S:=by
 unfold fN;rw[bf];unfold oJ;have e:km [some (.d (.tup (bs.map av)))] S=.ok (.d (.lst (bs.map λb=>D.tup [.int b.1,(bg b).2]))) S:=by
  unfold km;rw[lcG (items:=bs.map λb=>Vl.d (av b)) (S1:=S) (by walk_at"mx";rw[jS]) (λz=>match z with | .d (.tup [a,b,c])=>[some (.d a),some (.d b),some (.d c)] |_=>[none,none,none]) (λz=>match z with | .d (.tup [a,b,c])=>.tup [a,c] |_=>.non) (λ_=>true) ?_ ?_ ?_ ?_]
  ·rw[PQ.mpr (λ_ _=>rfl),Oz];rfl
  ·intro z hz;obtain⟨b,_,rfl⟩:=Of.mp hz;rfl
  ·intro z hz y hρ S;obtain⟨b,_,rfl⟩:=Of.mp hz
   match y,hρ with
   | [_,_,_],_=>unfold av;walk_at"mx"
  ·intro z hz S;rfl
  ·intro z hz _ S;obtain⟨b,_,rfl⟩:=Of.mp hz;unfold av;dsimp only;walk_at"mx"
 walk_at"mx";erw[e];erw[vB (λ_=>rfl) gb];erw[ou (R:=[])];rw[wJ]
noncomputable def bN(bs:List Tri)(w:Int):Tri:=(bs.find? λb=>decide (b.1=w)).getD (0,0,0)
theorem rO(h:w∈aG bs):bN bs w∈bs/\(bN bs w).1=w:=by
 obtain⟨b,hb,rfl⟩:=Of.mp h;have:(bs.find? λx=>decide (x.1=b.1)).isSome:=List.find?_isSome.mpr ⟨b,hb,by simp⟩;obtain⟨c,hc⟩:=Rw.mp this;unfold bN;rw[hc];exact⟨QS hc,by simpa using Th hc⟩
theorem ze(hg:∀b,(g b).1=.inl b.1):cY (bs.map g) (.inl w)=if w∈aG bs then some (g (bN bs w)).2 else none:=by
 induction bs with
 |nil=>rfl
 |cons b bs ih=>
  rw[Oq];by_cases h:b.1=w
  ·rw[fb (by rw[hg,h]),Oe (by simp[aG,h])];simp[bN,Py,h]
  ·rw[dX (λz=>h (by rw[hg]at z;exact Qm z)),ih];have e1:w∈aG (b::bs)↔w∈aG bs:=by
    simp only[aG,Oq,Ow];exact⟨λz=>z.resolve_left λq=>h q.symm,.inr⟩
   have e2:bN (b::bs) w=bN bs w:=by simp[bN,Py,h]
   rw[e2];by_cases q:w∈aG bs
   ·rw[Oe q,Oe (e1.mpr q)]
   ·rw[Ot q,Ot (λz=>q (e1.mp z))]
theorem NK(hg:∀b,(g b).1=.inl b.1):kf (.d (.int w)) (.fd (bs.map g)) S=.ok (.d (.bl (decide (w∈aG bs)))) S:=by
 unfold kf lC;dsimp only[dk,e_];rw[ze hg];by_cases h:w∈aG bs
 ·rw[Oe h,Oi h];rfl
 ·rw[Ot h,Oo h];rfl
theorem M5(hg:∀b,(g b).1=.inl b.1):pR (.d (.int w)) (.fd (bs.map g)) S=.ok (.d (.bl (!decide (w∈aG bs)))) S:=by
 unfold pR lC;dsimp only[dk,e_];rw[ze hg];by_cases h:w∈aG bs
 ·rw[Oe h,Oi h];rfl
 ·rw[Ot h,Oo h];rfl
theorem dxB(hg:∀b,(g b).1=.inl b.1)(h:w∈aG bs):oDx (.fd (bs.map g)) (.d (.int w)) S=.ok (.d (g (bN bs w)).2) S:=pk (k:=.inl w) rfl (by rw[ze hg,Oe h])
theorem Bt{α:Type}{f:α->Int}{l:List α}{S:Sto}(hl:l.length<=1000)(h:∀x∈l,-1000000<=f x/\f x<=1000000):sg [.d (.lst (l.map λx=>D.int (f x)))] S=.ok (.d (.int (l.map f).sum)) S:=by
 unfold sg;dsimp only;rw[show(bX (.d (.lst (l.map λx=>D.int (f x)))) S).bind intsOf=some (l.map f)from by
  show intsOf _=_;rw[ji f l]]
 dsimp only;rw[Oe ⟨by rw[Oa];exact hl,λn hn=>by obtain⟨x,hx,rfl⟩:=Of.mp hn;exact h x hx⟩]
noncomputable def tooMany(wss:List (List Int))(bs:List Tri)(ps:List Int):Bool:=((aS (aN wss ps)).all λw=>decide (w∈aG bs))&&decide (((aS (aN wss ps)).map λw=>(bN bs w).2.2).sum<(ps.length:Int))
noncomputable def qG(wss:List (List Int))(ns ps:List Int):List Int:=ns.filter λn=>(wss.getD n.toNat []).any λw=>decide (w∈ps)
noncomputable def lR(wss:List (List Int))(ns:List Int)(bs:List Tri)(ps:List Int):Bool:=decide (((qG wss ns ps).length:Int)<(ps.map λw=>(bN bs w).2.1).sum)
noncomputable def bY(wss:List (List Int))(ns:List Int)(bs:List Tri)(nm:Bool)(ps:List Int):Bool:=!decide (ps=[])&&(decide (ps.Pairwise (· <·))&&(if nm then ps.all (λp=>decide (p∈ns))&&tooMany wss bs ps else ps.all (λp=>decide (p∈aG bs))&&lR wss ns bs ps))
noncomputable def sI(nm:Bool)(ps:List Int):D:=.tup [.str (if nm then"names"else"worths"),ae ps]
theorem kx(gb:bT bs):(0<=(bN bs w).2.1/\(bN bs w).2.1<=4)/\0<=(bN bs w).2.2/\(bN bs w).2.2<=4:=by
 by_cases h:w∈aG bs
 ·have:=gb.lim _ (rO h).1;omega
 ·have:bs.find? (λb=>decide (b.1=w))=none:=RL.mpr λb hb z=>h (Of.mpr ⟨b,hb,by simpa using z⟩);unfold bN;rw[this];decide
theorem yJ(gs:br n m wss)(hn:∀p∈ps,0<=p/\p<(wss.length:Int)):(aS (aN wss ps)).length<64:=by
 have h1:∀x∈aS (aN wss ps),-9<=x/\x<10:=λx hx=>by
  rw[dh]at hx;obtain⟨p,hp,hx⟩:=QJ.mp hx;have:=hn p hp;have:=(gs.all _ (jA this.1 this.2)).lim x hx;omega
 have:=ni _ (-9) 10 (by decide) (cS (aN wss ps)) h1;omega
theorem w6(gs:br n m wss)(hm:m<=4)(gb:bT bs)(hn:∀p∈ps,0<=p/\p<(wss.length:Int))(hl:ps.length<=60):ez [.d (ah wss),.d (ae ps),.fd (bs.map bg)] S=.ok (.d (.bl (tooMany wss bs ps))) S:=by
 have hw:∀ws∈wss,ws.length<=4:=λws h=>by have:=(gs.all ws h).le;omega
 have hf:=yJ gs hn;unfold ez;rw[bZ];unfold jT;walk_at"mx";erw[uN hw (Oj 4) hn hl hf];unfold tooMany;generalize aS (aN wss ps)=U at hf;rw[sP (show _=j7 [some (.d (ah wss)),some (.d (ae ps)),some (.fd (bs.map bg)),some (.d (.lst (U.map D.int)))] S from rfl) (xs:=U.map D.int) (S1:=S) (by walk_at"mx") (λx=>match x with | .int w=>.bl (decide (w∈aG bs)) |_=>.non) (by
  intro x hx S;obtain⟨w,_,rfl⟩:=Of.mp hx;walk_at"mx";rw[NK (λ_=>rfl)])]
 walk_at"mx";erw[Oz,show((λx:D=>(match x with | .int w=>D.bl (decide (w∈aG bs)) |_=>.non))∘D.int)=λw:Int=>D.bl (decide (w∈aG bs))from rfl,eV];cases q:(U.all λw=>decide (w∈aG bs))with
 |false=>
  walk_at"mx";rw[ao];rfl
 |true=>
  walk_at"mx";have hq:=Pf.mp q;rw[sP (show _=jF [some (.d (ah wss)),some (.d (ae ps)),some (.fd (bs.map bg)),some (.d (.lst (U.map D.int)))] S from rfl) (xs:=U.map D.int) (S1:=S) (by walk_at"mx") (λx=>match x with | .int w=>.int (bN bs w).2.2 |_=>.non) (by
   intro x hx S;obtain⟨w,hw,rfl⟩:=Of.mp hx;walk_at"mx";rw[dxB (λ_=>rfl) (by simpa using hq w hw)];rfl)]
  walk_at"mx";rw[Oz,show((λx:D=>(match x with | .int w=>D.int (bN bs w).2.2 |_=>.non))∘D.int)=λw:Int=>D.int (bN bs w).2.2 from rfl,Bt ⋯ (λw _=>by have:=kx (w:=w) gb;omega)];walk_at"my";rw[ao];rfl
theorem zV(h0:0<=p)(h1:p<(wss.length:Int)):fQ [.d (ah wss),.d (.int p),.d (ae ps)] S=.ok (.d (.bl ((wss.getD p.toNat []).any λw=>decide (w∈ps)))) S:=by
 unfold fQ;rw[bZ];unfold mq;erw[show(au (xN ki (ab eZ af)))=(au (xN ki (ab eZ af)))from rfl];rw[cI (show _=eZ [some (.d (ah wss)),some (.d (.int p)),some (.d (ae ps))] S from rfl) (xs:=(wss.getD p.toNat []).map D.int) (S1:=S) (by
  unfold ah;walk_at"mx";rw[aL (fi h0 h1)];rfl) (λx=>match x with | .int w=>.bl (decide (w∈ps)) |_=>.non) (by
  intro x hx S;obtain⟨w,_,rfl⟩:=Of.mp hx;walk_at"my")]
 walk_at"mx";erw[Oz,show((λx:D=>(match x with | .int w=>D.bl (decide (w∈ps)) |_=>.non))∘D.int)=λw:Int=>D.bl (decide (w∈ps))from rfl,vY];rw[ao]
theorem vR(gb:bT bs)(hd:∀p∈ns,0<=p/\p<(wss.length:Int))(hk:∀p∈ps,p∈aG bs)(hl:ps.length<=60):dS [.d (ah wss),.d (ae ns),.d (ae ps),.fd (bs.map bS)] S=.ok (.d (.bl (lR wss ns bs ps))) S:=by
 unfold dS;rw[je];unfold iW;walk_at"mx";rw[c9 (show _=iV [some (.d (ah wss)),some (.d (ae ns)),some (.d (ae ps)),some (.fd (bs.map bS)),none] S from rfl) (d:=D.int) (g:=D.int) (xs:=ns) (S1:=S) (by
  unfold ae;walk_at"mx";rw[fT]) (λn=>(wss.getD n.toNat []).any λw=>decide (w∈ps)) (λn hn S=>by
  walk_at"mx";rw[zV (hd n hn).1 (hd n hn).2];walk_at"mx") (λn _ _ S=>by walk_at"mx")]
 walk_at"mx";rw[cI (show _=jn [some (.d (ah wss)),some (.d (ae ns)),some (.d (ae ps)),some (.fd (bs.map bS)),some (.d (.lst ((ns.filter λn=>(wss.getD n.toNat []).any λw=>decide (w∈ps)).map D.int)))] S from rfl) (xs:=ps.map D.int) (S1:=S) (by unfold ae;walk_at"mx") (λx=>match x with | .int w=>.int (bN bs w).2.1 |_=>.non) (by
  intro x hx S;obtain⟨w,hw,rfl⟩:=Of.mp hx;walk_at"mx";rw[dxB (λ_=>rfl) (hk w hw)];rfl)]
 walk_at"mx";rw[Oz,show((λx:D=>(match x with | .int w=>D.int (bN bs w).2.1 |_=>.non))∘D.int)=λw:Int=>D.int (bN bs w).2.1 from rfl,Bt ⋯ (λw _=>by have:=kx (w:=w) gb;omega)];walk_at"my";rw[ao];rfl
theorem Bn{ps ks:List Int}(hl:ps.length<=1000):cm [.d (ae ps),.d (.lst (ks.map D.int))] S=.ok (.d (.bl (!decide (ps=[])&&(ps.all (λp=>decide (p∈ks))&&decide (ps.Pairwise (· <·)))))) S:=by
 unfold cm;rw[bO];unfold gk;walk_at"mx";erw[show ae ps=.tup (ps.map D.int)from rfl,iT];rw[Oa];by_cases h0:ps=[]
 ·erw[Oi (show(ps.length:Int)=0 by rw[h0];rfl),Oi h0];rw[ao];rfl
 ·erw[Oo (show¬(ps.length:Int)=0 by have:ps.length≠0:=λh=>h0 (Uz.mp h);omega),Oo h0];rw[cI (show _=gz [some (.d (.tup (ps.map D.int))),some (.d (.lst (ks.map D.int)))] S from rfl) (xs:=ps.map D.int) (S1:=S) (by walk_at"mx") (λx=>match x with | .int p=>.bl (decide (p∈ks)) |_=>.non) (by
   intro x hx S;obtain⟨v,hv,rfl⟩:=Of.mp hx;walk_at"mx")]
  walk_at"mx";rw[Oz,show((λx:D=>(match x with | .int p=>D.bl (decide (p∈ks)) |_=>.non))∘D.int)=λp:Int=>D.bl (decide (p∈ks))from rfl,eV];by_cases ha:ps.all (λp=>decide (p∈ks))=true
  ·erw[ha];erw[show D.tup (ps.map D.int)=ae ps from rfl,dD hl];rw[ao];simp
  ·erw[Qv _ |>.mp ha];rw[ao];simp
theorem Bc:eP [.fd (bs.map bS)] S=.ok (.d (.lst ((aG bs).map D.int))) S:=by
 unfold eP aG;dsimp only;rw[Oz,Oz];rfl
theorem AO:oIx (.d (sI nm ps)) (.d (.int 0)) S=.ok (.d (.str (if nm then"names"else"worths"))) S:=aL rfl
theorem KO:oIx (.d (sI nm ps)) (.d (.int 1)) S=.ok (.d (ae ps)) S:=aL rfl
theorem Jq:decide ((OS "worths":Str)=OS "names")=false:=by decide+kernel
theorem ur{wss:List (List Int)}{ps:List Int}(gs:br n m wss)(hn:n<=4)(hm:m<=4)(g:cj wss.length ns)(gb:bT bs)(hl:ps.length<=60):gj [.d (ah wss),.d (gc ns bs),.d (sI nm ps)] S=.ok (.d (.bl (bY wss ns bs nm ps))) S:=by
 unfold gj;rw[bZ];unfold mm;walk_at"mx";erw[qO gs hn hm g gb];erw[show isT "tuple" (sI nm ps)=true from rfl];erw[show aU [.d (sI nm ps)] S=.ok (.d (.int 2)) S from kU];erw[KO];rw[AO];cases nm with
 |true=>
  erw[Oe rfl];erw[yW];rw[sF ⋯];unfold bY;rw[Oe rfl];by_cases h1:ps=[]
  ·rw[Oi h1];simp only[PK,Pz,Qx,QH,Qy,Qk];walk_at"mx";rw[ao]
  ·rw[Oo h1];by_cases h2:ps.all (λp=>decide (p∈ns))=true
   ·by_cases h3:ps.Pairwise (· <·)
    ·rw[h2,Oi h3];simp only[PK,Pz,Qx,QH,Qy,Qk];walk_at"mx";erw[uB];erw[oS gb];erw[w6 gs hm gb (λp hp=>g.dom p (by simpa using Pf.mp h2 p hp)) hl];rw[ao]
    ·rw[Oo h3];simp only[PK,Pz,Qx,QH,Qy,Qk];walk_at"mx";rw[ao]
   ·rw[Qv _ |>.mp h2];simp only[PK,Pz,Qx,QH,Qy,Qk];walk_at"mx";rw[ao]
 |false=>
  erw[Ot (by decide)];erw[Jq];erw[uB];erw[qr gb];erw[AO,Ot (by decide)];erw[Bc];rw[Bn ⋯];unfold bY;rw[Ot (by decide)];by_cases h1:ps=[]
  ·rw[Oi h1];simp only[PK,Pz,Qx,QH,Qy,Qk];walk_at"mx";rw[ao]
  ·rw[Oo h1];by_cases h2:ps.all (λp=>decide (p∈aG bs))=true
   ·by_cases h3:ps.Pairwise (· <·)
    ·rw[h2,Oi h3];simp only[PK,Pz,Qx,QH,Qy,Qk];walk_at"mx";erw[yW];erw[vR gb g.dom (λp hp=>by simpa using Pf.mp h2 p hp) hl];rw[ao]
    ·rw[Oo h3];simp only[PK,Pz,Qx,QH,Qy,Qk];walk_at"mx";rw[ao]
   ·rw[Qv _ |>.mp h2];simp only[PK,Pz,Qx,QH,Qy,Qk];walk_at"mx";rw[ao]
theorem pN{a b:List Int}(h:a.Perm b):a.sum=b.sum:=by
 induction h with
 |nil=>rfl
 |cons x _ ih=>rw[Qw,Qw,ih]
 |swap x y l=>simp only[Qw];omega
 |trans _ _ i j=>rw[i,j]
noncomputable abbrev Se:=List (Int×Int)
noncomputable def bA(wss:List (List Int))(n:Int):List Int:=wss.getD n.toNat []
noncomputable def bW(M:Se)(n w:Int):Se:=if(M.any λp=>decide (p.1=n))=true then M.map (λp=>if p.1=n then(n,w)else p)else M++[(n,w)]
theorem dq:p∈bW M n w↔p=(n,w)\/(p∈M/\p.1≠n):=by
 unfold bW;split
 ·rename_i h;obtain⟨q,hq,hn⟩:=O8.mp h;have hn:q.1=n:=by simpa using hn
  rw[Of];constructor
  ·rintro⟨r,hr,rfl⟩;by_cases e:r.1=n
   ·exact .inl (Oe e)
   ·rw[Ot e];exact .inr ⟨hr,e⟩
  ·rintro(rfl |⟨h1,h2⟩)
   ·exact⟨q,hq,Oe hn⟩
   ·exact⟨p,h1,Ot h2⟩
 ·rename_i h;have hno:∀q∈M,q.1≠n:=λq hq e=>h (O8.mpr ⟨q,hq,by simpa using e⟩);rw[OI,Og];constructor
  ·rintro(h1 |h1)
   ·exact .inr ⟨h1,hno p h1⟩
   ·exact .inl h1
  ·rintro(h1 |h1)
   ·exact .inr h1
   ·exact .inl h1.1
theorem mW:(bW M n w).map (·.1)=if n∈M.map (·.1)then M.map (·.1)else M.map (·.1)++[n]:=by
 have e:(M.any λp=>decide (p.1=n))=decide (n∈M.map (·.1)):=by
  rw[Ph,O8,RQ,Of];exact⟨λ⟨q,h1,h2⟩=>⟨q,h1,by simpa using h2⟩,λ⟨q,h1,h2⟩=>⟨q,h1,by simpa using h2⟩⟩
 unfold bW;rw[e];by_cases h:n∈M.map (·.1)
 ·rw[Oe h,Oi h,Oe rfl,Oz];refine P8 λp _=>?_;show(if p.1=n then(n,w)else p).1=p.1;split
  ·rename_i z;exact z.symm
  ·rfl
 ·rw[Ot h,Oo h,Ot (by decide),OX];rfl
theorem mY{α d:Type}{f:α->d}{l:List α}(h:(l.map f).Nodup){x y:α}(hx:x∈l)(hy:y∈l)(e:f x=f y):x=y:=by
 induction l with
 |nil=>cases hx
 |cons a l ih=>
  rw[Oq,OW]at h;rcases Ow.mp hx with ex |hx'
  ·rcases Ow.mp hy with ey |hy'
   ·rw[ex,ey]
   ·exact absurd (Of.mpr ⟨y,hy',by rw[<-e,ex]⟩) h.1
  ·rcases Ow.mp hy with ey |hy'
   ·exact absurd (Of.mpr ⟨x,hx',by rw[e,ey]⟩) h.1
   ·exact ih h.2 hx' hy'
theorem ye:x∈(bW M n w).map (·.1)↔x∈M.map (·.1)\/x=n:=by
 rw[mW];split
 ·rename_i h;exact⟨.inl,λz=>z.elim id λe=>e▸h⟩
 ·rw[OI,Og]
noncomputable def unA(M:Se)(A:List Int):Nat:=(M.filter λp=>!decide (p.2∈A)).length
theorem lX(h:∀x∈A,x∈B):unA M B<=unA M A:=by
 unfold unA
 induction M with
 |nil=>simp
 |cons p M ih=>
  simp only[P5];by_cases h1:p.2∈A
  ·simp only[h1,h _ h1,TH,PK,Pw,QI];exact ih
  ·by_cases h2:p.2∈B
   ·simp only[h1,h2,TH,Tr,PK,Pz,Pw,QI,QL,OB];omega
   ·simp only[h1,h2,Tr,Pz,QL,OB];omega
theorem uS(hs:(n,w)∈M)(ha:w∉A):unA M (A++[w])<unA M A:=by
 unfold unA
 induction M with
 |nil=>cases hs
 |cons p M ih=>
  simp only[P5];rcases Ow.mp hs with rfl |hs
  ·have:=lX (M:=M) (A:=A) (B:=A++[w]) λx hx=>OZ _ hx;unfold unA at this;simp only[ha,OI,Og,or_true,TH,Tr,PK,Pz,Pw,QI,QL,OB];simp only[OI,Og]at this;omega
  ·have:=ih hs;by_cases h1:p.2∈A
   ·simp only[h1,OI,true_or,TH,PK,Pw,QI];simp only[OI]at this;exact this
   ·by_cases h2:p.2=w
    ·simp only[h1,h2,ha,OI,Og,or_true,TH,Tr,PK,Pz,Pw,QI,QL,OB];simp only[OI,Og]at this;omega
    ·simp only[h1,h2,OI,Og,Rz,Tr,Pz,QL,OB];simp only[OI,Og]at this;omega
noncomputable def seD(p:Int×Int):Key×D:=(.inl p.1,.int p.2)
noncomputable def asD(w:Int):Key×D:=(.inl w,.bl true)
noncomputable def Zs(S:Sto)(a b:Nat)(M:Se)(A:List Int):Sto:=(S.set a (.dct (M.map seD))).set b (.dct (A.map asD))
section
variable{S:Sto}{a b:Nat}{M M':Se}{A A':List Int}
theorem dQ:(Zs S a b M A).length=S.length:=by unfold Zs;simp
theorem z_s(ha:a<S.length)(hab:a≠b):(Zs S a b M A)[a]?=some (.dct (M.map seD)):=by
 unfold Zs;rw[O_ (λz=>hab z.symm),Qa,Oe rfl,Oe ha]
theorem z_a(hb:b<S.length):(Zs S a b M A)[b]?=some (.dct (A.map asD)):=by
 unfold Zs;rw[Qa,Oe rfl,Oe (by simpa using hb)]
theorem Bo(hab:a≠b):(Zs S a b M A).set a (.dct (M'.map seD))=Zs S a b M' A:=by
 unfold Zs;rw[List.set_comm _ _ (λz=>hab z.symm),V2]
theorem AZ:(Zs S a b M A).set b (.dct (A'.map asD))=Zs S a b M A':=by unfold Zs;rw[V2]
theorem kW:(Zs S a b M A).take (Zs S a b N B).length=Zs S a b M A:=by
 rw[dQ,<-dQ (M:=M) (A:=A) (a:=a) (b:=b),OD]
end
theorem qC{M:Se}(h:(M.map (·.1)).Nodup){p:Int×Int}(hp:p∈M):cY (M.map seD) (.inl p.1)=some (.int p.2):=by
 induction M with
 |nil=>cases hp
 |cons q M ih=>
  rw[Oq,OW]at h;rw[Oq];rcases Ow.mp hp with e |hp'
  ·subst e;exact fb rfl
  ·rw[dX,ih h.2 hp'];intro z;exact h.1 (by rw[Qm (show(Sum.inl q.1:Key)=.inl p.1 from z)];exact Of.mpr ⟨p,hp',rfl⟩)
theorem Lm{α:Type}{f:α->Key×D}{g:α->Int}{l:List α}{w:Int}(hf:∀x,(f x).1=.inl (g x)):(cY (l.map f) (.inl w)).isSome=decide (w∈l.map g):=by
 induction l with
 |nil=>rfl
 |cons x l ih=>
  rw[Oq,Oq];by_cases h:g x=w
  ·rw[fb (by rw[hf,h]),Oi (by simp[h])];rfl
  ·rw[dX (λz=>h (by rw[hf]at z;exact Qm z)),ih];congr 1;rw[Ow,eq_iff_iff];exact⟨.inr,λz=>z.resolve_left λq=>h q.symm⟩
theorem iE{A:List Int}(e:S[n]?=some (.dct (A.map asD))):kf (.d (.int w)) (.r n) S=.ok (.d (.bl (decide (w∈A)))) S:=by
 unfold kf lC;dsimp only[dk,e_];rw[e];dsimp only;rw[Lm (g:=id) (λ_=>rfl),Wm]
theorem dput(he:e τ S=.ok (.d zd) S)(ho:o τ S=.ok (.r n) S)(hi:i τ S=.ok (.d (.int k)) S)(hk:S[n]?=some (.dct kvs))(hl:kvs.length<100000):eG o i e τ S=.ok (.nx,τ) (S.set n (.dct (putD kvs (.inl k) zd))):=by
 unfold eG;rw[he,aC,ho,aC,hi,aC];dsimp only[dk];rw[hk];dsimp only;rw[Oe hl]
theorem An:putD (M.map seD) (.inl n) (.int w)=(bW M n w).map seD:=by
 have e:((M.map seD).any λkv=>decide (kv.1=(.inl n:Key)))=M.any λp=>decide (p.1=n):=by
  rw[Tp];congr 1;funext p;show decide ((Sum.inl p.1:Key)=.inl n)=decide (p.1=n);exact Uu.mpr ⟨λz=>Qm z,λz=>by rw[z]⟩
 unfold putD bW;rw[e];split
 ·rw[Oz,Oz];refine P8 λp _=>?_;show(if(Sum.inl p.1:Key)=.inl n then((Sum.inl p.1:Key),D.int w)else seD p)=seD (if p.1=n then(n,w)else p);by_cases h:p.1=n
  ·rw[Oe h,Oe (by rw[h]),h];rfl
  ·rw[Ot h,Ot (λz=>h (Qm z))]
 ·rw[OX];rfl
theorem BW(h:w∉A):putD (A.map asD) (.inl w) (.bl true)=(A++[w]).map asD:=by
 rw[wN,OX]
 ·rfl
 ·intro z;rw[Oz]at z;obtain⟨x,hx,e⟩:=Of.mp z;exact h (by rw[<-Qm (show(Sum.inl x:Key)=.inl w from e)];exact hx)
theorem mN(h1:τ[i]?=some (some (.r n)))(h2:S[n]?=some (.dct kvs))(h3:a (τ.set i (some (.fd kvs))) (S.set n .dead)=.ok (.d x) (S.set n .dead)):kj i a τ S=.ok (.d x) S:=by
 unfold kj;rw[h1];dsimp only;rw[h2];dsimp only;rw[h3,aC];dsimp only;rw[V2];congr 1;apply Qo;intro j;rw[Qa];split
 ·rename_i q;subst q;rw[Oe (Ol.mp h2).1,h2]
 ·rfl
noncomputable def atW(M:Se)(w:Int):Se:=M.filter λp=>decide (p.2=w)
theorem j9{M:Se}(hn:S[n]?=some (.dct (M.map seD)))(hk:(M.map (·.1)).Nodup):cE [.r n,.d (.int w)] S=.ok (.d (.lst ((atW M w).map λp=>D.int p.1))) S:=by
 unfold cE;rw[bO];unfold nF;walk_at"mx";rw[mN (x:=.lst ((atW M w).map λp=>D.int p.1)) rfl hn (by
  show i5 [some (.fd (M.map seD)),some (.d (.int w))] (S.set n .dead)=_;rw[c9 (show _=i5 [some (.fd (M.map seD)),some (.d (.int w))] (S.set n .dead)from rfl) (d:=λp:Int×Int=>D.int p.1) (g:=λp=>D.int p.1) (xs:=M) (S1:=S.set n .dead) (by
   unfold i_;walk_at"mx";rw[aC];dsimp only;rw[Oz];rfl) (λp=>decide (p.2=w)) (λp hp S=>by
   walk_at"mx";rw[pk (k:=.inl p.1) rfl (qC hk hp)];walk_at"mx") (λp _ _ S=>by walk_at"mx")]
  rfl)]
 walk_at"mx";rw[ao]
structure AOk(A:List Int):Prop where
 nd:A.Nodup
 lim:∀x∈A,-9<=x/\x<10
theorem AOk.len(h:AOk A):A.length<=19:=by
 have:=ni _ (-9) 10 (by decide) (cS A) λx hx=>h.lim x ((dh x _).mp hx);rw[pJ h.nd]at this;omega
theorem AOk.snoc(h:AOk A)(hw:w∉A)(hl:-9<=w/\w<10):AOk (A++[w]):=
 ⟨QC.mpr ⟨h.nd,by simp,λa ha b hb e=>hw (by rw[<-Og.mp hb,<-e];exact ha)⟩,λx hx=>by
  rcases OI.mp hx with z |z
  ·exact h.lim x z
  ·rw[Og.mp z];exact hl⟩
theorem bL{α:Type}[DecidableEq α]:∀{l1 l2:List α},l1.Nodup->(∀x∈l1,x∈l2)->l1.length<=l2.length
 | [],_,_,_=>by simp
 |x::l1,l2,h,k=>by
  obtain⟨h1,h2⟩:=OW.mp h;have hx:=k x (by simp);have:=bL (l1:=l1) (l2:=l2.erase x) h2 λy hy=>(Tn (λz:y=x=>h1 (z▸hy))).mpr (k y (by simp[hy]));rw[Uq hx]at this;have:=Q9 hx;rw[OB];omega
theorem HE(h1:S[a]?=some (.dct (M.map seD)))(h2:S[b]?=some (.dct (A.map asD))):Zs S a b M A=S:=by
 unfold Zs;have e:∀{T:Sto}{j:Nat}{x:Ob},T[j]?=some x->T.set j x=T:=λ{T j x} h=>by
  apply Qo;intro k;rw[Qa];split
  ·rename_i q;subst q;rw[Oe (Ol.mp h).1,h]
  ·rfl
 rw[e h1,e h2]
noncomputable def aO(M:Se)(w:Int):Nat:=(atW M w).length
noncomputable def hiB(bs:List Tri)(w:Int):Int:=(bN bs w).2.2
noncomputable def loB(bs:List Tri)(w:Int):Int:=(bN bs w).2.1
structure OkC(wss:List (List Int))(ns:List Int)(bs:List Tri)(M:Se):Prop where
 kn:(M.map (·.1)).Nodup
 mem:∀p∈M,p.1∈ns/\p.2∈bA wss p.1
 cap:∀w∈aG bs,(aO M w:Int)<=hiB bs w
def rg(bs:List Tri)(M:Se)(w:Int):Prop:=w∈aG bs/\hiB bs w<=(aO M w:Int)
theorem dc:p∈atW M w↔p∈M/\p.2=w:=by
 unfold atW;rw[OH];simp
theorem yE(h:(M.map (·.1)).Nodup)(w:Int):(atW M w).Nodup:=by
 have:M.Nodup:=by
  rw[List.Nodup,List.pairwise_map]at h;exact h.imp λz e=>z (by rw[e])
 exact this.sublist Q7
theorem sC(h:(M.map (·.1)).Nodup):((bW M n w).map (·.1)).Nodup:=by
 rw[mW];split
 ·exact h
 ·rename_i z;refine QC.mpr ⟨h,by simp,λa ha b hb e=>z ?_⟩;rw[Og.mp hb]at e;exact e▸ha
theorem GO(h:(M.map (·.1)).Nodup):aO (bW M n w) x<=aO M x+(if x=w then 1 else 0):=by
 unfold aO;by_cases e:x=w
 ·rw[Oe e];have:=bL (l1:=atW (bW M n w) x) (l2:=(n,w)::atW M x) (yE (sC h) x) λp hp=>by
   obtain⟨h1,h2⟩:=dc.mp hp;rcases dq.mp h1 with rfl |⟨h3,_⟩
   ·simp
   ·exact OJ _ (dc.mpr ⟨h3,h2⟩)
  simpa using this
 ·rw[Ot e];exact bL (yE (sC h) x) λp hp=>by
   obtain⟨h1,h2⟩:=dc.mp hp;rcases dq.mp h1 with rfl |⟨h3,_⟩
   ·exact absurd h2.symm e
   ·exact dc.mpr ⟨h3,h2⟩
theorem u9(h:OkC wss ns bs M)(hn:n∈ns)(hw:w∈bA wss n)(hr:w∈aG bs->(aO M w:Int)<hiB bs w):OkC wss ns bs (bW M n w)where
 kn:=sC h.kn
 mem:=λp hp=>by
  rcases dq.mp hp with rfl |⟨h1,_⟩
  ·exact⟨hn,hw⟩
  ·exact h.mem p h1
 cap:=λx hx=>by
  have a:=GO (n:=n) (w:=w) (x:=x) h.kn;have b:=h.cap x hx;by_cases e:x=w
  ·rw[Oe e]at a;have c:=hr (e▸hx);rw[<-e]at c;omega
  ·rw[Ot e]at a;omega
def gY(wss:List (List Int))(ns:List Int)(bs:List Tri)(M:Se)(A:List Int)(n:Int)(M':Se)(A':List Int):Prop:=OkC wss ns bs M'/\(∀x,x∈M'.map (·.1)↔x∈M.map (·.1)\/x=n)/\(∀p∈M',p.2∈A->p∈M/\p.1≠n)/\∀x∈A,x∈A'
def oB(wss:List (List Int))(bs:List Tri)(M:Se)(A A':List Int):Prop:=∀x∈A',x∉A->rg bs M x/\∀p∈M,p.2=x->∀w∈bA wss p.1,w∈A'
def wA(wss:List (List Int))(bs:List Tri)(M:Se)(A:List Int)(n:Int)(A':List Int):Prop:=(∀x∈A,x∈A')/\(∀w∈bA wss n,w∈A')/\oB wss bs M A A'
theorem KU(h:OkC wss ns bs M)(hn:n∈ns)(hw:w∈bA wss n)(hA:∀x∈A,x∈A1)(ha:w∉A)(hr:¬rg bs M w):gY wss ns bs M A n (bW M n w) (A1++[w]):=by
 refine⟨u9 h hn hw (λz=>?_),λx=>ye,λp hp hpa=>?_,λx hx=>OZ _ (hA x hx)⟩
 ·have:¬hiB bs w<=(aO M w:Int):=λq=>hr ⟨z,q⟩;omega
 ·rcases dq.mp hp with rfl |z
  ·exact absurd hpa ha
  ·exact z
theorem GB{wss:List (List Int)}{ns:List Int}{bs:List Tri}{M M1:Se}{A A1 B A2:List Int}{n w n1:Int}(h:OkC wss ns bs M)(hn:n∈ns)(hw:w∈bA wss n)(hA:∀x∈A,x∈A1)(hB:∀x∈A1,x∈B)(hwB:w∈B)(ha:w∉A1)(hs:(n1,w)∈M)(hp:gY wss ns bs M B n1 M1 A2):gY wss ns bs M A n (bW M1 n w) A2:=by
 obtain⟨h1,h2,h3,h4⟩:=hp;have hlt:aO M1 w<aO M w:=by
  have:=bL (l1:=(n1,w)::atW M1 w) (l2:=atW M w) (OW.mpr ⟨λz=>by
   obtain⟨z1,_⟩:=dc.mp z;exact(h3 _ z1 hwB).2 rfl,yE h1.kn w⟩) λp hp=>by
   rcases Ow.mp hp with rfl |hp
   ·exact dc.mpr ⟨hs,rfl⟩
   ·obtain⟨z1,z2⟩:=dc.mp hp;exact dc.mpr ⟨(h3 p z1 (by rw[z2];exact hwB)).1,z2⟩
  rw[OB]at this;exact this
 refine⟨u9 h1 hn hw (λz=>by have:=h.cap w z;omega),λx=>?_,λp hp hpa=>?_,λx hx=>h4 x (hB x (hA x hx))⟩
 ·rw[ye,h2];have:n1∈M.map (·.1):=Of.mpr ⟨_,hs,rfl⟩;constructor
  ·rintro((z |rfl) |z)
   ·exact .inl z
   ·exact .inl this
   ·exact .inr z
  ·rintro(z |z)
   ·exact .inl (.inl z)
   ·exact .inr z
 ·rcases dq.mp hp with rfl |⟨z1,z2⟩
  ·exact absurd (hA _ hpa) ha
  ·exact⟨(h3 p z1 (hB _ (hA _ hpa))).1,z2⟩
noncomputable def qR(bs:List Tri)(M:Se)(w:Int):Bool:=!decide (w∈aG bs)||decide ((aO M w:Int)<hiB bs w)
theorem wj:qR bs M w=true↔¬rg bs M w:=by
 unfold qR rg;by_cases h:w∈aG bs
 ·simp[h]
 ·simp[h]
theorem n5(hn:S[n]?=some (.dct (M.map seD)))(hk:(M.map (·.1)).Nodup):iB [.d (.int w),.fd (bs.map bg),.r n] S=.ok (.d (.bl (qR bs M w))) S:=by
 unfold iB;rw[bZ];unfold oY qR;walk_at"mx";rw[M5 (λ_=>rfl)];by_cases h:w∈aG bs
 ·erw[Oi h];erw[j9 hn hk];erw[dxB (λ_=>rfl) h,show(bg (bN bs w)).2=.int (hiB bs w)from rfl];rw[ao,Oa];rfl
 ·erw[Oo h];rw[ao];rfl
theorem yL(ha:a<S.length)(hab:a≠b)(hM:OkC wss ns bs M)(hA0:AOk A0)
  (ih:∀(B:List Int)(n1:Int),(n1,w)∈M->AOk B->(∀x∈A0,x∈B) ->
   (∃M' A',AOk A'/\gY wss ns bs M B n1 M' A'/\bC f [.d (ah wss),.d (.int n1),.fd (bs.map bg),.r a,.r b] (Zs S a b M B)=.ok (.d (.bl true)) (Zs S a b M' A')) \/
   (∃A',AOk A'/\wA wss bs M B n1 A'/\bC f [.d (ah wss),.d (.int n1),.fd (bs.map bg),.r a,.r b] (Zs S a b M B)=.ok (.d (.bl false)) (Zs S a b M A'))) :
  (∃M' A' n1 B,AOk A'/\(n1,w)∈M/\(∀x∈A0,x∈B)/\gY wss ns bs M B n1 M' A'/\b9 (f+1) [.d (ah wss),.d (.int w),.fd (bs.map bg),.r a,.r b] (Zs S a b M A0)=.ok (.d (.bl true)) (Zs S a b M' A')) \/
  (∃A',AOk A'/\(∀x∈A0,x∈A')/\(∀p∈M,p.2=w->∀x∈bA wss p.1,x∈A')/\oB wss bs M A0 A'/\b9 (f+1) [.d (ah wss),.d (.int w),.fd (bs.map bg),.r a,.r b] (Zs S a b M A0)=.ok (.d (.bl false)) (Zs S a b M A')):=by
 rw[b9,kE];unfold nE;walk_at"mx";erw[j9 (z_s ha hab) hM.kn];have q:=iU (show _=ng (b9 f) (bC f) [some (.d (ah wss)),some (.d (.int w)),some (.fd (bs.map bg)),some (.r a),some (.r b),some (.d (.lst ((atW M w).map λp=>D.int p.1))),none] (Zs S a b M A0)from rfl)
  (λv S2=>v=.d (.bl true)/\∃M' A' n1 B,AOk A'/\(n1,w)∈M/\(∀x∈A0,x∈B)/\gY wss ns bs M B n1 M' A'/\S2=Zs S a b M' A')
  (S1:=Zs S a b M A0) (items:=(atW M w).map λp=>Vl.d (.int p.1)) (gd:=none) (by walk_at"mx";rw[Oz];rfl)
  (λi τ S'=>∃x6 B,τ=[some (.d (ah wss)),some (.d (.int w)),some (.fd (bs.map bg)),some (.r a),some (.r b),some (.d (.lst ((atW M w).map λp=>D.int p.1))),x6]/\S'=Zs S a b M B/\AOk B/\(∀x∈A0,x∈B)/\(∀p∈(atW M w).take i,∀x∈bA wss p.1,x∈B)/\oB wss bs M A0 B)
  ⟨none,A0,rfl,rfl,hA0,λ_ h=>h,by simp,λx h1 h2=>absurd h1 h2⟩ (by
   rintro i z τ S' hz ⟨x6,B,rfl,rfl,hB,hsub,hpre,hcl⟩;rw[Ox]at hz;cases q:(atW M w)[i]? with
   |none=>rw[q]at hz;cases hz
   |some p=>
    rw[q]at hz;cases hz;obtain⟨h1,h2⟩:=dc.mp (OG q);have hs:(p.1,w)∈M:=by rw[<-h2];exact h1
    rcases ih B p.1 hs hB hsub with⟨M2,A2,hA2,hP,e⟩ |⟨A2,hA2,hP,e⟩
    ·refine⟨_,_,.rt (.d (.bl true)),_,_,by walk_at"mx";rfl,by
      walk_at"mx";erw[e];rfl,.inr ⟨_,rfl,rfl,M2,A2,p.1,B,hA2,hs,hsub,hP,rfl⟩⟩
    ·refine⟨_,_,.nx,_,_,by walk_at"mx";rfl,by
      walk_at"mx";erw[e];rfl,.inl ⟨.inl rfl,True.intro,_,A2,rfl,rfl,hA2,λx hx=>hP.1 x (hsub x hx),λp' hp' x hx=>?_,λx hx hx0=>?_⟩⟩
     ·rw[take_snoc q]at hp';rcases OI.mp hp' with h |h
      ·exact hP.1 x (hpre p' h x hx)
      ·rw[Og.mp h]at hx;exact hP.2.1 x hx
     ·by_cases hxB:x∈B
      ·obtain⟨c1,c2⟩:=hcl x hxB hx0;exact⟨c1,λp' h3 h4 y hy=>hP.1 y (c2 p' h3 h4 y hy)⟩
      ·exact hP.2.2 x hx hxB)
 rcases q with⟨τ',S',e,x6,B,rfl,rfl,hB,hsub,hpre,hcl⟩ |⟨v,τ',S',e,rfl,M',A',n1,B,hA',hs,hsub,hP,rfl⟩
 ·refine .inr ⟨B,hB,hsub,λp hp hpw x hx=>hpre p ?_ x hx,hcl,?_⟩
  ·rw[Oa,OD];exact dc.mpr ⟨hp,hpw⟩
  ·erw[e];rw[bh,kW]
 ·refine .inl ⟨M',A',n1,B,hA',hs,hsub,hP,?_⟩;erw[e];rw[bh,kW]
theorem OkC.len(h:OkC wss ns bs M)(hn:∀n∈ns,0<=n/\n<(wss.length:Int)):M.length<=wss.length:=by
 have:=ni _ 0 (wss.length:Int) ⋯ (cS (M.map (·.1))) λx hx=>by
  obtain⟨p,hp,rfl⟩:=Of.mp ((dh x _).mp hx);exact hn _ (h.mem p hp).1
 rw[pJ h.kn,Oa]at this;omega
theorem CP(ha:a<S.length)(hb:b<S.length)(hab:a≠b)(hd:∀n∈ns,0<=n/\n<(wss.length:Int))(hw4:wss.length<=4)(hU:∀n∈ns,∀w∈bA wss n,-9<=w/\w<10)(u:Nat) :
  ∀(f:Nat)(M:Se)(A:List Int)(n:Int),unA M A=u->2*u+2<=f->OkC wss ns bs M->AOk A->n∈ns ->
  (∃M' A',AOk A'/\gY wss ns bs M A n M' A'/\bC f [.d (ah wss),.d (.int n),.fd (bs.map bg),.r a,.r b] (Zs S a b M A)=.ok (.d (.bl true)) (Zs S a b M' A')) \/
  (∃A',AOk A'/\wA wss bs M A n A'/\bC f [.d (ah wss),.d (.int n),.fd (bs.map bg),.r a,.r b] (Zs S a b M A)=.ok (.d (.bl false)) (Zs S a b M A')):=by
 induction u using Tj with
 |_ u ih=>
 intro f M A n hu hf hM hA hn
 match f,hf with
 |f+1,hf=>
 obtain⟨f,rfl⟩:∃g,f=g+1:=⟨f-1,by omega⟩;obtain⟨n0,n1⟩:=hd n hn;have hml:=hM.len hd;rw[bC,kE];unfold nG;walk_at"mx";have q:=iU (show _=nM (b9 (f+1)) (bC (f+1)) [some (.d (ah wss)),some (.d (.int n)),some (.fd (bs.map bg)),some (.r a),some (.r b),none] (Zs S a b M A)from rfl)
  (λv S2=>v=.d (.bl true)/\∃M' A',AOk A'/\gY wss ns bs M A n M' A'/\S2=Zs S a b M' A')
  (S1:=Zs S a b M A) (items:=((bA wss n).map D.int).map Vl.d) (gd:=none) (by
   walk_at"mx";unfold ah;rw[aL (fi n0 n1)];unfold ae bA;walk_at"mx")
  (λi τ S'=>∃x5 A1,τ=[some (.d (ah wss)),some (.d (.int n)),some (.fd (bs.map bg)),some (.r a),some (.r b),x5]/\S'=Zs S a b M A1/\AOk A1/\(∀x∈A,x∈A1)/\(∀w∈(bA wss n).take i,w∈A1)/\oB wss bs M A A1)
  ⟨none,A,rfl,rfl,hA,λ_ h=>h,by simp,λx h1 h2=>absurd h1 h2⟩ (by
   rintro i z τ S' hz ⟨x5,A1,rfl,rfl,hA1,hsub,hpre,hcl⟩;obtain⟨w,ew,rfl⟩:=ints_get hz;have hwm:w∈bA wss n:=OG ew;have hlim:=hU n hn w hwm;have hpre':∀{B:List Int},(∀x∈A1,x∈B)->w∈B->∀x∈(bA wss n).take (i+1),x∈B:=λ{B} h1 h2 x hx=>by
    rw[take_snoc ew]at hx;rcases OI.mp hx with z |z
    ·exact h1 x (hpre x z)
    ·rw[Og.mp z];exact h2
   by_cases hin:w∈A1
   ·refine⟨_,_,.ct,_,_,by walk_at"mx";rfl,by
     walk_at"mx";erw[iE (z_a hb),Oi hin];rfl,.inl ⟨.inr rfl,True.intro,_,A1,rfl,rfl,hA1,hsub,hpre' (λ_ h=>h) hin,hcl⟩⟩
   have hA2:=hA1.snoc hin hlim;have hl1:=hA1.len;have eput:eG (aa 4) (aa 5) (xC (.bl true)) [some (.d (ah wss)),some (.d (.int n)),some (.fd (bs.map bg)),some (.r a),some (.r b),some (.d (.int w))] (Zs S a b M A1)=.ok (.nx,[some (.d (ah wss)),some (.d (.int n)),some (.fd (bs.map bg)),some (.r a),some (.r b),some (.d (.int w))]) (Zs S a b M (A1++[w])):=by
    rw[dput (n:=b) (k:=w) (zd:=.bl true) (by walk_at"mx") (by walk_at"mx") (by walk_at"mx") (z_a hb) (by rw[Oa];omega),BW hin,AZ]
   have eput2:∀(M1:Se)(B:List Int),M1.length<1000->eG (aa 3) (aa 1) (aa 5) [some (.d (ah wss)),some (.d (.int n)),some (.fd (bs.map bg)),some (.r a),some (.r b),some (.d (.int w))] (Zs S a b M1 B)=.ok (.nx,[some (.d (ah wss)),some (.d (.int n)),some (.fd (bs.map bg)),some (.r a),some (.r b),some (.d (.int w))]) (Zs S a b (bW M1 n w) B):=λM1 B hl=>by
    rw[dput (n:=a) (k:=n) (zd:=.int w) (by walk_at"mx") (by walk_at"mx") (by walk_at"mx") (z_s ha hab) (by rw[Oa];omega),An,Bo hab]
   by_cases hroom:qR bs M w=true
   ·refine⟨_,_,.rt (.d (.bl true)),_,_,by walk_at"mx";rfl,by
     walk_at"mx";erw[iE (z_a hb),Oo hin];erw[eput];erw[n5 (z_s ha hab) hM.kn,hroom];erw[eput2 M _ ⋯];rfl,.inr ⟨_,rfl,rfl,bW M n w,A1++[w],hA2,KU hM hn hwm hsub (λz=>hin (hsub w z)) (wj.mp hroom),rfl⟩⟩
   have hfull:rg bs M w:=QR λz=>hroom (wj.mpr z);rw[Qv]at hroom;have h2:=lX (M:=M) hsub;rcases yL (f:=f) (w:=w) (A0:=A1++[w]) ha hab hM hA2 (λB n1' hs hB hBs=>by
    have h1:=uS hs hin;have h3:=lX (M:=M) hBs;exact ih _ ⋯ f M B n1' rfl ⋯ hM hB (hM.mem _ hs).1)with⟨M2,A3,n1',B,hA3,hs,hBs,hP,e⟩ |⟨A3,hA3,hs3,hsit,hcl3,e⟩
   ·have hm2:=hP.1.len hd;refine⟨_,_,.rt (.d (.bl true)),_,_,by walk_at"mx";rfl,by
     walk_at"mx";erw[iE (z_a hb),Oo hin];erw[eput];erw[n5 (z_s ha hab) hM.kn,hroom];erw[e];erw[eput2 M2 _ ⋯];rfl,.inr ⟨_,rfl,rfl,bW M2 n w,A3,hA3,GB hM hn hwm hsub (λx hx=>hBs x (OZ _ hx)) (hBs w (by simp)) hin hs hP,rfl⟩⟩
   ·refine⟨_,_,.nx,_,_,by walk_at"mx";rfl,by
     walk_at"mx";erw[iE (z_a hb),Oo hin];erw[eput];erw[n5 (z_s ha hab) hM.kn,hroom];erw[e];rfl,.inl ⟨.inl rfl,True.intro,_,A3,rfl,rfl,hA3,λx hx=>hs3 x (OZ _ (hsub x hx)),hpre' (λx hx=>hs3 x (OZ _ hx)) (hs3 w (by simp)),λx hx hx0=>?_⟩⟩
    by_cases hx1:x∈A1
    ·obtain⟨c1,c2⟩:=hcl x hx1 hx0;exact⟨c1,λp h3 h4 y hy=>hs3 y (OZ _ (c2 p h3 h4 y hy))⟩
    ·by_cases hxw:x=w
     ·subst hxw;exact⟨hfull,hsit⟩
     ·exact hcl3 x hx (by rw[OI,Og];exactλz=>z.elim hx1 hxw))
 rcases q with⟨τ',S',e,x5,A1,rfl,rfl,hA1,hsub,hpre,hcl⟩ |⟨v,τ',S',e,rfl,M',A',hA',hP,rfl⟩
 ·refine .inr ⟨A1,hA1,⟨hsub,λw hw=>hpre w ?_,hcl⟩,?_⟩
  ·rw[show(((bA wss n).map D.int).map Vl.d).length=(bA wss n).length by simp,OD];exact hw
  ·erw[e];rw[bh,kW]
 ·refine .inl ⟨M',A',hA',hP,?_⟩;erw[e];rw[bh,kW]
theorem sL{f:Int->Int}:∀{l1 l2:List Int},l1.Nodup->(∀x∈l1,x∈l2)->(∀x∈l2,0<=f x)->(l1.map f).sum<=(l2.map f).sum
 | [],l2,_,_,h0=>by
  have:∀l:List Int,(∀x∈l,0<=f x)->0<=(l.map f).sum:=λl=>by
   induction l with
   |nil=>intro _;simp
   |cons a l ih=>
    intro h;rw[Oq,Qw];have:=h a (by simp);have:=ih λx hx=>h x (by simp[hx]);omega
  simpa using this l2 h0
 |x::l1,l2,hn,hs,h0=>by
  obtain⟨h1,h2⟩:=OW.mp hn;have hx:=hs x (by simp);have ih:=sL (f:=f) (l1:=l1) (l2:=l2.erase x) h2 (λy hy=>(Tn (λz:y=x=>h1 (z▸hy))).mpr (hs y (by simp[hy]))) λy hy=>h0 y (Vd hy);have e:=pN ((Si hx).map f);rw[Oq,Qw]at e;rw[Oq,Qw,e];omega
theorem lr{f g:Int->Int}{l:List Int}(h:∀x∈l,f x<=g x):(l.map f).sum<=(l.map g).sum:=by
 induction l with
 |nil=>simp
 |cons a l ih=>
  rw[Oq,Oq,Qw,Qw];have:=h a (by simp);have:=ih λx hx=>h x (by simp[hx]);omega
theorem xT{α:Type}{p q:α->Bool}(h:∀x,p x=true->q x=false):∀L:List α,(L.filter λx=>p x||q x).length=(L.filter p).length+(L.filter q).length
 | []=>rfl
 |x::L=>by
  have ih:=xT h L;simp only[P5];cases hp:p x with
  |true=>
   rw[h x hp];simp only[Yc,QL,Pw,QI,OB,ih];omega
  |false=>
   cases hq:q x with
   |true=>
    simp only[Xr,QL,Pw,QI,OB,ih];omega
   |false=>
    simp only[Bool.or_false,Pw,QI,ih]
theorem kI:∀{A:List Int},A.Nodup->(A.map λw=>(aO M w:Int)).sum=((M.filter λp=>decide (p.2∈A)).length:Int)
 | [],_=>by
  rw[show(M.filter λp=>decide (p.2∈([]:List Int)))=[]from UX.mpr λp _=>by simp];rfl
 |w::A,h=>by
  obtain⟨h1,h2⟩:=OW.mp h;rw[Oq,Qw,kI h2];rw[show(λp:Int×Int=>decide (p.2∈w::A))=λp=>decide (p.2=w)||decide (p.2∈A)from by
   funext p;rw[<-Bool.decide_or];exact Uu.mpr Ow]
  rw[xT (p:=λp:Int×Int=>decide (p.2=w)) (q:=λp=>decide (p.2∈A)) (λx hx=>by
   have:x.2=w:=by simpa using hx
   rw[this];exact Oo h1)]
  unfold aO atW;omega
theorem Jx{wss:List (List Int)}{ns:List Int}{bs:List Tri}{M:Se}{A:List Int}{n:Int}(gb:bT bs)(hM:OkC wss ns bs M)(hA:AOk A)(hn:n∈ns)(hnk:n∉M.map (·.1))(hP:wA wss bs M [] n A):bY wss ns bs true (sortI (n::(M.filter λp=>decide (p.2∈A)).map (·.1)))=true:=by
 obtain⟨_,p2,p3⟩:=hP;have nd:(n::(M.filter λp=>decide (p.2∈A)).map (·.1)).Nodup:=OW.mpr ⟨λz=>by
  obtain⟨p,hp,e⟩:=Of.mp z;exact hnk (Of.mpr ⟨p,(OH.mp hp).1,e⟩),hM.kn.sublist (Q7.map _)⟩
 have mem:∀x,x∈sortI (n::(M.filter λp=>decide (p.2∈A)).map (·.1))->x=n\/∃p∈M,p.2∈A/\p.1=x:=λx hx=>by
  rcases Ow.mp ((cC _ x).mp hx)with h |h
  ·exact .inl h
  ·obtain⟨p,hp,e⟩:=Of.mp h;obtain⟨h1,h2⟩:=OH.mp hp;exact .inr ⟨p,h1,by simpa using h2,e⟩
 have hsub:∀x∈aS (aN wss (sortI (n::(M.filter λp=>decide (p.2∈A)).map (·.1)))),x∈A:=λx hx=>by
  rw[dh]at hx;obtain⟨p,hp,hx'⟩:=QJ.mp hx;rcases mem p hp with e0 |⟨q,h1,h2,rfl⟩
  ·exact p2 x (by rw[<-e0];exact hx')
  ·exact(p3 q.2 h2 (by simp)).2 q h1 rfl x hx'
 have hsum:((aS (aN wss (sortI (n::(M.filter λp=>decide (p.2∈A)).map (·.1))))).map λw=>(bN bs w).2.2).sum<=((M.filter λp=>decide (p.2∈A)).length:Int):=by
  rw[<-kI hA.nd];refine Yf (sL ((cS _).imp λz=>by omega) hsub λx _=>(kx gb).2.1) ?_;exact lr λx hx=>(p3 x hx (by simp)).1.2
 unfold bY tooMany;rw[Oe rfl,Oo,Oi (fe nd),Pf.mpr,Pf.mpr,Oi]
 ·rfl
 ·rw[cW,OB,Oa];omega
 ·intro x hx;exact Oi (p3 x (hsub x hx) (by simp)).1.1
 ·intro x hx;rcases mem x hx with rfl |⟨q,h1,_,rfl⟩
  ·exact Oi hn
  ·exact Oi (hM.mem q h1).1
 ·intro z;have:=Pq TF z;rw[cW]at this;simp at this
theorem Cb(ha:S0[a]?=some (.dct []))(gn:cj wss.length ns)(gb:bT bs)(hw4:wss.length<=4)(hU:∀n∈ns,∀w∈bA wss n,-9<=w/\w<10) :
  (∃M:Se,OkC wss ns bs M/\(∀n∈ns,n∈M.map (·.1))/\fE [.d (ah wss),.d (ae ns),.fd (bs.map bg),.r a] S0=.ok (.d (.tup [])) (S0.set a (.dct (M.map seD)))) \/
  (∃(ps:List Int)(M:Se),bY wss ns bs true ps=true/\fE [.d (ah wss),.d (ae ns),.fd (bs.map bg),.r a] S0=.ok (.d (ae ps)) (S0.set a (.dct (M.map seD)))):=by
 have hal:a<S0.length:=(Ol.mp ha).1;have hgl:=gn.le;unfold fE;rw[je];unfold oN;walk_at"mx";have hout:∀{S':Sto}{M:Se},S0.length<=S'.length->S'[a]?=some (.dct (M.map seD))->(∀j,j<S0.length->j≠a->S'[j]?=S0[j]?)->S'.take S0.length=S0.set a (.dct (M.map seD)):=λ{S' M} h1 h2 h3=>by
  apply Qo;intro j;rw[QP,Qa];by_cases hj:j<S0.length
  ·rw[Oe hj];by_cases e:a=j
   ·subst e;rw[Oe rfl,Oe hj,h2]
   ·rw[Ot e,h3 j hj (λz=>e z.symm)]
  ·rw[Ot hj];split
   ·rename_i e;omega
   ·rw[O2 ⋯]
 have q:=iU (show _=pd [some (.d (ah wss)),some (.d (ae ns)),some (.fd (bs.map bg)),some (.r a),none,none] S0 from rfl)
  (λv S2=>∃(ps:List Int)(M:Se),v=.d (ae ps)/\bY wss ns bs true ps=true/\S2.take S0.length=S0.set a (.dct (M.map seD)))
  (S1:=S0) (items:=(ns.map D.int).map Vl.d) (gd:=none) (by unfold ae;walk_at"mx")
  (λi τ S'=>∃(x4 x5:Option Vl)(M:Se),τ=[some (.d (ah wss)),some (.d (ae ns)),some (.fd (bs.map bg)),some (.r a),x4,x5]/\OkC wss ns bs M/\(∀x,x∈M.map (·.1)↔x∈ns.take i)/\S0.length<=S'.length/\S'[a]?=some (.dct (M.map seD))/\∀j,j<S0.length->j≠a->S'[j]?=S0[j]?)
  ⟨none,none,[],rfl,⟨by simp,by simp,λw _=>(kx gb).2.1⟩,by simp,Oj _,ha,λ_ _ _=>rfl⟩ (by
   rintro i z τ S' hz ⟨x4,x5,M,rfl,hM,hk,hl,hs,hr⟩;obtain⟨n,en,rfl⟩:=ints_get hz;have hn:n∈ns:=OG en;have hS2a:(S'++[Ob.dct []])[a]?=some (.dct (M.map seD)):=by rw[OC ⋯];exact hs
   have hS2b:(S'++[Ob.dct []])[S'.length]?=some (.dct (([]:List Int).map asD)):=by simp
   have hid:=HE hS2a hS2b;have hml:=hM.len gn.dom;have hu:unA M []<=4:=by
    have:unA M []<=M.length:=Rj _ _;omega
   have hnk:n∉M.map (·.1):=λz=>by
    have h1:=(hk n).mp z;obtain⟨hi,e2⟩:=Ol.mp en;obtain⟨j,hj,e3⟩:=O1.mp h1;rw[V8]at e3;rw[Pd]at hj;have:=(Wn gn.nd).mp (e3.trans e2.symm);omega
   rcases CP (wss:=wss) (ns:=ns) (bs:=bs) (S:=S'++[Ob.dct []]) (a:=a) (b:=S'.length) (by simp;omega) (by simp) ⋯ gn.dom hw4 hU _ 20 M [] n rfl ⋯ hM ⟨QB,by simp⟩ hn with⟨M2,A2,hA2,hP,e⟩ |⟨A2,hA2,hP,e⟩
   ·rw[hid]at e;refine⟨_,_,.nx,_,Zs (S'++[Ob.dct []]) a S'.length M2 A2,by walk_at"mx";rfl,by
     erw[i9,jd,show f7 [some (.d (ah wss)),some (.d (ae ns)),some (.fd (bs.map bg)),some (.r a),some (.d (.int n)),x5] S'=.ok (.r S'.length) (S'++[.dct []])from rfl];erw[e];rfl,.inl ⟨.inl rfl,True.intro,_,_,M2,rfl,hP.1,λx=>?_,by rw[dQ];simp;omega,z_s (by simp;omega) ⋯,λj hj hja=>?_⟩⟩
    ·rw[hP.2.1,hk,take_snoc en,OI,Og]
    ·unfold Zs;rw[O_ ⋯,O_ (λz=>hja z.symm),OC ⋯];exact hr j hj hja
   ·rw[hid]at e;have hZ1:(Zs (S'++[Ob.dct []]) a S'.length M A2)[a]?=some (.dct (M.map seD)):=z_s (by simp;omega) ⋯;refine⟨_,_,.rt (.d (ae (sortI (n::(M.filter λp=>decide (p.2∈A2)).map (·.1))))),_,Zs (S'++[Ob.dct []]) a S'.length M A2,by walk_at"mx";rfl,by
     erw[i9,jd,show f7 [some (.d (ah wss)),some (.d (ae ns)),some (.fd (bs.map bg)),some (.r a),some (.d (.int n)),x5] S'=.ok (.r S'.length) (S'++[.dct []])from rfl];erw[e];rw[mN (n:=a) (x:=.lst ((M.filter λp=>decide (p.2∈A2)).map λp=>D.int p.1)) rfl hZ1 (by
      show kd [some (.d (ah wss)),some (.d (ae ns)),some (.fd (bs.map bg)),some (.fd (M.map seD)),some (.d (.int n)),some (.r S'.length)] ((Zs (S'++[Ob.dct []]) a S'.length M A2).set a .dead)=_;have hb2:∀acc,(((Zs (S'++[Ob.dct []]) a S'.length M A2).set a .dead)++[Ob.lst acc])[S'.length]?=some (.dct (A2.map asD)):=λacc=>by
       rw[OC (by rw[PJ,dQ];simp),O_ ⋯];exact z_a (by simp)
      obtain⟨acc,Q,e1,_,rfl,rfl⟩:=qZ (show _=kd [some (.d (ah wss)),some (.d (ae ns)),some (.fd (bs.map bg)),some (.fd (M.map seD)),some (.d (.int n)),some (.r S'.length)] ((Zs (S'++[Ob.dct []]) a S'.length M A2).set a .dead)from rfl) (S1:=(Zs (S'++[Ob.dct []]) a S'.length M A2).set a .dead) (items:=M.map λp=>Vl.d (.int p.1)) (by
       unfold i_;walk_at"mx";rw[aC];dsimp only;rw[Oz];rfl) (λi acc Q=>acc=((M.take i).filter λp=>decide (p.2∈A2)).map (λp=>D.int p.1)/\Q=(Zs (S'++[Ob.dct []]) a S'.length M A2).set a .dead) ⟨by simp,rfl⟩ (by
       rintro i z acc Q hz ⟨rfl,rfl⟩ _;rw[Ox]at hz;cases q:M[i]? with
       |none=>rw[q]at hz;cases hz
       |some p=>
        rw[q]at hz;cases hz;have hpm:=OG q;refine⟨decide (p.2∈A2),(Zs (S'++[Ob.dct []]) a S'.length M A2).set a .dead,?_,rfl,λhb=>⟨.int p.1,_,by walk_at"mx",rfl,?_,rfl⟩,λhb=>⟨?_,rfl⟩⟩
        ·walk_at"mx";erw[pk (k:=.inl p.1) rfl (qC hM.kn hpm)];erw[iE (hb2 _)]
        ·rw[take_snoc q,Rb,OX];simp[hb]
        ·rw[take_snoc q,Rb];simp[hb])
      rw[e1,Oa,OD])]
     walk_at"mx";rw[v7 (by
      have:=Rj (λp:Int×Int=>decide (p.2∈A2)) M;simp only[OB,Qf,Oa];omega)]
     walk_at"mx";rw[show(D.int n::(M.filter λp=>decide (p.2∈A2)).map λp=>D.int p.1)=(n::(M.filter λp=>decide (p.2∈A2)).map (·.1)).map D.int by rw[Oq,Oz];rfl,Hd (by
      have:=Rj (λp:Int×Int=>decide (p.2∈A2)) M;simp only[OB,Oa];omega)]
     walk_at"mx";rfl,.inr ⟨_,rfl,_,M,rfl,Jx gb hM hA2 hn hnk hP,hout (by rw[dQ];simp;omega) hZ1 λj hj hja=>?_⟩⟩
    unfold Zs;rw[O_ ⋯,O_ (λz=>hja z.symm),OC ⋯];exact hr j hj hja)
 rcases q with⟨τ',S',e,x4,x5,M,rfl,hM,hk,hl,hs,hr⟩ |⟨v,τ',S',e,ps,M,rfl,hR,hT⟩
 ·refine .inl ⟨M,hM,λn hn=>(hk n).mpr ?_,?_⟩
  ·rw[show((ns.map D.int).map Vl.d).length=ns.length by simp,OD];exact hn
  ·erw[e];rw[bh,hout hl hs hr]
 ·refine .inr ⟨ps,M,hR,?_⟩;erw[e];rw[bh,hT]
theorem GH(hs:(n,pl)∈M):bW M n w=M.map λp=>if p.1=n then(n,w)else p:=by
 unfold bW;rw[Oe (O8.mpr ⟨_,hs,by simp⟩)]
theorem wG(hk:(M.map (·.1)).Nodup)(hs:(n,pl)∈M)(x:Int):aO (bW M n w) x+(if x=pl then 1 else 0)=aO M x+(if x=w then 1 else 0):=by
 rw[GH hs];unfold aO atW
 induction M with
 |nil=>cases hs
 |cons q L ih=>
  rw[Oq,OW]at hk;rcases Ow.mp hs with e |hs'
  ·subst e;have hL:(L.map λp=>if p.1=n then(n,w)else p)=L:=by
    refine(P8 (g:=id) λp hp=>?_).trans (Wm _);rw[Ot]
    ·rfl
    ·intro z;exact hk.1 (Of.mpr ⟨p,hp,z⟩)
   rw[Oq,hL,Oe rfl,P5,P5];by_cases h1:x=pl
   ·by_cases h2:x=w
    ·simp[h1.symm,h2.symm]
    ·have h3:¬w=x:=λz=>h2 z.symm;have h4:¬w=pl:=λz=>h2 (by rw[h1,z]);simp[h1,h4,h3];intro z;exact absurd z.symm h4
   ·have h5:¬pl=x:=λz=>h1 z.symm;by_cases h2:x=w
    ·simp[h2.symm,h1,h5]
    ·have h3:¬w=x:=λz=>h2 z.symm;simp[h1,h2,h3,h5]
  ·have hq:¬q.1=n:=λz=>hk.1 (by rw[z];exact Of.mpr ⟨_,hs',rfl⟩);have:=ih hk.2 hs';rw[Oq,Ot hq,P5,P5];by_cases h:q.2=x
   ·rw[Oi h];simp only[QL,OB];omega
   ·rw[Oo h];simp only[Pw,QI];exact this
structure fO(wss:List (List Int))(ns:List Int)(bs:List Tri)(M:Se)(A:List Int)(w:Int)(M':Se):Prop where
 keys:M'.map (·.1)=M.map (·.1)
 mem:∀p∈M',p.1∈ns/\p.2∈bA wss p.1
 gD:∀p∈M,p.2∈A->p∈M'
 cnt:∃z,z∉A/\loB bs z<(aO M z:Int)/\∀x,aO M' x+(if x=z then 1 else 0)=aO M x+(if x=w then 1 else 0)
def rS(wss:List (List Int))(bs:List Tri)(M:Se)(A A':List Int):Prop:=∀x∈A',x∉A->(∀p∈M,x∈bA wss p.1->p.2∈A')/\(aO M x:Int)<=loB bs x/\∃p∈M,p.2=x
theorem nN(hs:(n,pl)∈M):(bW M n w).map (·.1)=M.map (·.1):=by
 rw[mW,Oe (Of.mpr ⟨_,hs,rfl⟩)]
theorem GS(hk:(M.map (·.1)).Nodup)(hm:∀p∈M,p.1∈ns/\p.2∈bA wss p.1)(hs:(n,pl)∈M)(hw:w∈bA wss n)(hpl:pl∉A)(hsp:loB bs pl<(aO M pl:Int)):fO wss ns bs M A w (bW M n w)where
 keys:=nN hs
 mem:=λp hp=>by
  rcases dq.mp hp with rfl |⟨h1,_⟩
  ·exact⟨(hm _ hs).1,hw⟩
  ·exact hm p h1
 gD:=λp hp hpa=>dq.mpr (.inr ⟨hp,λz=>hpl (by
  have:p=(n,pl):=mY hk hp hs z;rw[this]at hpa;exact hpa)⟩)
 cnt:=⟨pl,hpl,hsp,wG hk hs⟩
theorem Gh{M M1:Se}(hk:(M.map (·.1)).Nodup)(hs:(n,pl)∈M)(hn:n∈ns)(hw:w∈bA wss n)(hpl:pl∉A)(hP:fO wss ns bs M (A++[pl]) pl M1):fO wss ns bs M A w (bW M1 n w):=by
 have hs1:(n,pl)∈M1:=hP.gD _ hs (by simp);have hk1:(M1.map (·.1)).Nodup:=by rw[hP.keys];exact hk
 obtain⟨z,z1,z2,z3⟩:=hP.cnt;refine⟨(nN hs1).trans hP.keys,λp hp=>?_,λp hp hpa=>?_,⟨z,λq=>z1 (OZ _ q),z2,λx=>?_⟩⟩
 ·rcases dq.mp hp with rfl |⟨h1,_⟩
  ·exact⟨hn,hw⟩
  ·exact hP.mem p h1
 ·refine dq.mpr (.inr ⟨hP.gD p hp (OZ _ hpa),λe=>hpl ?_⟩);have:p=(n,pl):=mY hk hp hs e;rw[this]at hpa;exact hpa
 ·have a:=z3 x;have b:=wG (w:=w) hk1 hs1 x;omega
theorem fO.mono(h:fO wss ns bs M B w M')(k:∀x∈A,x∈B):fO wss ns bs M A w M':=
 ⟨h.keys,h.mem,λp hp hpa=>h.gD p hp (k _ hpa),let⟨z,z1,z2,z3⟩:=h.cnt;⟨z,λq=>z1 (k z q),z2,z3⟩⟩
theorem J1:(cY (bs.map bS) (.inl w)).getD (.int 0)=.int (loB bs w):=by
 rw[ze (λ_=>rfl)];by_cases h:w∈aG bs
 ·rw[Oe h];rfl
 ·rw[Ot h];have:bs.find? (λb=>decide (b.1=w))=none:=RL.mpr λb hb z=>h (Of.mpr ⟨b,hb,by simpa using z⟩);unfold loB bN;rw[this];rfl
theorem jj(hn:S[n]?=some (.dct (M.map seD)))(hk:(M.map (·.1)).Nodup):gP [.d (.int w),.fd (bs.map bS),.r n] S=.ok (.d (.bl (decide (loB bs w<(aO M w:Int))))) S:=by
 unfold gP;rw[bZ];unfold nq;walk_at"mx";erw[j9 hn hk];erw[show ox (aa 1) (aa 0) (xC (.int 0)) [some (.d (.int w)),some (.fd (bs.map bS)),some (.r n)] S=.ok (.d ((cY (bs.map bS) (.inl w)).getD (.int 0))) S from rfl,J1];rw[ao,Oa];rfl
theorem DU{i a b:Nat}{τ:Nv}{M:Se}(h1:τ[3]?=some (some (.r a)))(hs:S[a]?=some (.dct (M.map seD)))(hv:∀T:Sto,xN eP (ab (aa 3) af) (τ.set 3 (some (.fd (M.map seD)))) T=.ok (.d (.lst (M.map λp=>D.int p.1))) T):kj 3 (xN eP (ab (aa 3) af)) τ S=.ok (.d (.lst (M.map λp=>D.int p.1))) S:=mN h1 hs (hv _)
theorem rB{M:Se}{p:Int×Int}(hn:S[n]?=some (.dct (M.map seD)))(hk:(M.map (·.1)).Nodup)(hp:p∈M):oDx (.r n) (.d (.int p.1)) S=.ok (.d (.int p.2)) S:=by
 unfold oDx;dsimp only[dk,e_];rw[hn];dsimp only;rw[qC hk hp]
theorem ED{wss:List (List Int)}{bs:List Tri}{S:Sto}(ha:a<S.length)(hb:b<S.length)(hab:a≠b)(hd:∀n∈ns,0<=n/\n<(wss.length:Int))(hU:∀n∈ns,∀w∈bA wss n,-9<=w/\w<10)(u:Nat) :
  ∀(f:Nat)(M:Se)(A:List Int)(w:Int),unA M (A++[w])=u->u+1<=f->(M.map (·.1)).Nodup->M.length<=1000->(∀p∈M,p.1∈ns/\p.2∈bA wss p.1)->AOk A->w∉A->-9<=w/\w<10 ->
  (∃M' A',AOk A'/\fO wss ns bs M (A++[w]) w M'/\cD f [.d (ah wss),.d (.int w),.fd (bs.map bS),.r a,.r b] (Zs S a b M A)=.ok (.d (.bl true)) (Zs S a b M' A')) \/
  (∃A',AOk A'/\(∀x∈A++[w],x∈A')/\(∀p∈M,w∈bA wss p.1->p.2∈A')/\rS wss bs M (A++[w]) A'/\cD f [.d (ah wss),.d (.int w),.fd (bs.map bS),.r a,.r b] (Zs S a b M A)=.ok (.d (.bl false)) (Zs S a b M A')):=by
 induction u using Tj with
 |_ u ih=>
 intro f M A w hu hf hk hml hm hA hw hlim
 match f,hf with
 |f+1,hf=>
 have hA2:=hA.snoc hw hlim;have hl1:=hA.len;rw[cD,kE];unfold nV;walk_at"mx";erw[dput (n:=b) (k:=w) (zd:=.bl true) (by walk_at"mx") (by walk_at"mx") (by walk_at"mx") (z_a hb) (by rw[Oa];omega),BW hw,AZ];have q:=iU (show _=n8 (cD f) [some (.d (ah wss)),some (.d (.int w)),some (.fd (bs.map bS)),some (.r a),some (.r b),none,none] (Zs S a b M (A++[w]))from rfl)
  (λv S2=>v=.d (.bl true)/\∃M' A',AOk A'/\fO wss ns bs M (A++[w]) w M'/\S2=Zs S a b M' A')
  (S1:=Zs S a b M (A++[w])) (items:=M.map λp=>Vl.d (.int p.1)) (gd:=none) (by
   walk_at"mx";rw[DU (i:=0) (b:=0) rfl (z_s ha hab) (λT=>by
    show eP [.fd (M.map seD)] T=_;unfold eP;dsimp only;rw[Oz];rfl)]
   walk_at"mx";rw[Oz];rfl)
  (λi τ S'=>∃x5 x6 B,τ=[some (.d (ah wss)),some (.d (.int w)),some (.fd (bs.map bS)),some (.r a),some (.r b),x5,x6]/\S'=Zs S a b M B/\AOk B/\(∀x∈A++[w],x∈B)/\(∀p∈M.take i,w∈bA wss p.1->p.2∈B)/\rS wss bs M (A++[w]) B)
  ⟨none,none,A++[w],rfl,rfl,hA2,λ_ h=>h,by simp,λx h1 h2=>absurd h1 h2⟩ (by
   rintro i z τ S' hz ⟨x5,x6,B,rfl,rfl,hB,hsub,hpre,hcl⟩;rw[Ox]at hz;cases q:M[i]? with
   |none=>rw[q]at hz;cases hz
   |some p=>
    rw[q]at hz;cases hz;have hp:=OG q;obtain⟨hn,hpw⟩:=hm p hp;obtain⟨n0,n1⟩:=hd _ hn;have est:oIx (.d (ah wss)) (.d (.int p.1)) (Zs S a b M B)=.ok (.d (ae (bA wss p.1))) (Zs S a b M B):=aL (fi n0 n1);have hpre':∀{C:List Int},(∀x∈B,x∈C)->(w∈bA wss p.1->p.2∈C)->∀r∈M.take (i+1),w∈bA wss r.1->r.2∈C:=λ{C} h1 h2 r hr hrw=>by
     rw[take_snoc q]at hr;rcases OI.mp hr with z |z
     ·exact h1 _ (hpre r z hrw)
     ·rw[Og.mp z]at hrw ⊢;exact h2 hrw
    by_cases h1:¬w∈bA wss p.1
    ·refine⟨_,_,.ct,_,_,by walk_at"mx";rfl,by
      walk_at"mx";erw[rB (z_s ha hab) hk hp];erw[est];erw[bw,Oo h1];rfl,.inl ⟨.inr rfl,True.intro,_,_,B,rfl,rfl,hB,hsub,hpre' (λ_ h=>h) (λz=>absurd z h1),hcl⟩⟩
    have h1:=Decidable.of_not_not h1;by_cases h2:p.2∈B
    ·refine⟨_,_,.ct,_,_,by walk_at"mx";rfl,by
      walk_at"mx";erw[rB (z_s ha hab) hk hp];erw[est];erw[bw,Oi h1];erw[iE (z_a hb),Oi h2];rfl,.inl ⟨.inr rfl,True.intro,_,_,B,rfl,rfl,hB,hsub,hpre' (λ_ h=>h) (λ_=>h2),hcl⟩⟩
    have eput:∀(M1:Se)(C:List Int),M1.length<=1000->eG (aa 3) (aa 5) (aa 1) [some (.d (ah wss)),some (.d (.int w)),some (.fd (bs.map bS)),some (.r a),some (.r b),some (.d (.int p.1)),some (.d (.int p.2))] (Zs S a b M1 C)=.ok (.nx,[some (.d (ah wss)),some (.d (.int w)),some (.fd (bs.map bS)),some (.r a),some (.r b),some (.d (.int p.1)),some (.d (.int p.2))]) (Zs S a b (bW M1 p.1 w) C):=λM1 C hl=>by
     rw[dput (n:=a) (k:=p.1) (zd:=.int w) (by walk_at"mx") (by walk_at"mx") (by walk_at"mx") (z_s ha hab) (by rw[Oa];omega),An,Bo hab]
    have hlim2:=hU _ hn _ hpw;by_cases h3:loB bs p.2<(aO M p.2:Int)
    ·refine⟨_,_,.rt (.d (.bl true)),_,_,by walk_at"mx";rfl,by
      walk_at"mx";erw[rB (z_s ha hab) hk hp];erw[est];erw[bw,Oi h1];erw[iE (z_a hb),Oo h2];erw[jj (z_s ha hab) hk,Oi h3];erw[eput M B hml];rfl,.inr ⟨_,rfl,rfl,bW M p.1 w,B,hB,(GS hk hm hp h1 h2 h3).mono hsub,rfl⟩⟩
    have hlt:unA M (B++[p.2])<u:=by
     have a1:=uS (n:=p.1) hp h2;have a2:=lX (M:=M) hsub;omega
    rcases ih _ hlt f M B p.2 rfl ⋯ hk hml hm hB h2 hlim2 with⟨M2,A3,hA3,hP,e⟩ |⟨A3,hA3,hs3,hsit,hcl3,e⟩
    ·have hl2:M2.length<=1000:=by
      have:=Pq TF hP.keys;rw[Oa,Oa]at this;omega
     refine⟨_,_,.rt (.d (.bl true)),_,_,by walk_at"mx";rfl,by
      walk_at"mx";erw[rB (z_s ha hab) hk hp];erw[est];erw[bw,Oi h1];erw[iE (z_a hb),Oo h2];erw[jj (z_s ha hab) hk,Oo h3];erw[e];erw[eput M2 A3 hl2];rfl,.inr ⟨_,rfl,rfl,bW M2 p.1 w,A3,hA3,(Gh hk hp hn h1 h2 hP).mono hsub,rfl⟩⟩
    ·refine⟨_,_,.nx,_,_,by walk_at"mx";rfl,by
      walk_at"mx";erw[rB (z_s ha hab) hk hp];erw[est];erw[bw,Oi h1];erw[iE (z_a hb),Oo h2];erw[jj (z_s ha hab) hk,Oo h3];erw[e];rfl,.inl ⟨.inl rfl,True.intro,_,_,A3,rfl,rfl,hA3,λx hx=>hs3 x (OZ _ (hsub x hx)),hpre' (λx hx=>hs3 x (OZ _ hx)) (λ_=>hs3 _ (by simp)),λx hx hx0=>?_⟩⟩
     by_cases hxB:x∈B
     ·obtain⟨c1,c2⟩:=hcl x hxB hx0;exact⟨λr h4 h5=>hs3 _ (OZ _ (c1 r h4 h5)),c2⟩
     ·by_cases hxp:x=p.2
      ·subst hxp;exact⟨hsit,by omega,p,hp,rfl⟩
      ·exact hcl3 x hx (by rw[OI,Og];exactλz=>z.elim hxB hxp))
 rcases q with⟨τ',S',e,x5,x6,B,rfl,rfl,hB,hsub,hpre,hcl⟩ |⟨v,τ',S',e,rfl,M',A',hA',hP,rfl⟩
 ·refine .inr ⟨B,hB,hsub,λp hp hpw=>hpre p ?_ hpw,hcl,?_⟩
  ·rw[Oa,OD];exact hp
  ·erw[e];rw[bh,kW]
 ·refine .inl ⟨M',A',hA',hP,?_⟩;erw[e];rw[bh,kW]
theorem KG(h:1<=loB bs x):x∈aG bs:=QR λhx=>by
 have:bs.find? (λb=>decide (b.1=x))=none:=RL.mpr λb hb z=>hx (Of.mpr ⟨b,hb,by simpa using z⟩);unfold loB bN at h;rw[this]at h;exact absurd h (by decide)
theorem Iz(gb:bT bs)(hk:(M.map (·.1)).Nodup)(hnd:ns.Nodup)(hall:∀n∈ns,n∈M.map (·.1))(hA:AOk A)(hw:w∈aG bs)(hlow:(aO M w:Int)<loB bs w)(hwA:w∈A)(hsit:∀p∈M,w∈bA wss p.1->p.2∈A)(hcl:rS wss bs M [w] A):bY wss ns bs false (sortI A)=true:=by
 have hkey:∀x∈A,x∈aG bs:=λx hx=>by
  by_cases e:x=w
  ·rw[e];exact hw
  ·obtain⟨_,c2,p,hp,c3⟩:=hcl x hx (by simpa using e);refine KG ?_;have:1<=aO M x:=Q9 (dc.mpr ⟨hp,c3⟩);omega
 have hle:∀x∈A,x≠w->(aO M x:Int)<=loB bs x:=λx hx e=>(hcl x hx (by simpa using e)).2.1;have hsum:(A.map λx=>(aO M x:Int)).sum<(A.map λx=>loB bs x).sum:=by
  have e1:=pN ((Si hwA).map λx=>(aO M x:Int));have e2:=pN ((Si hwA).map λx=>loB bs x);rw[Oq,Qw]at e1 e2;have e3:((A.erase w).map λx=>(aO M x:Int)).sum<=((A.erase w).map λx=>loB bs x).sum:=lr λx hx=>hle x (Vd hx) λz=>by
   rw[z]at hx;exact absurd hx hA.nd.not_mem_erase
  omega
 have hhave:((qG wss ns (sortI A)).length:Int)<=((M.filter λp=>decide (p.2∈A)).length:Int):=by
  have:=bL (l1:=qG wss ns (sortI A)) (l2:=(M.filter λp=>decide (p.2∈A)).map (·.1)) (hnd.sublist Q7) λn hn=>by
   obtain⟨h1,h2⟩:=OH.mp hn;obtain⟨v,hv,hva⟩:=O8.mp h2;have hva:v∈A:=by rw[<-cC A v];simpa using hva
   obtain⟨p,hp,rfl⟩:=Of.mp (hall n h1);refine Of.mpr ⟨p,OH.mpr ⟨hp,Oi ?_⟩,rfl⟩;by_cases e:v=w
   ·exact hsit p hp (by rw[<-e];exact hv)
   ·exact(hcl v hva (by simpa using e)).1 p hp hv
  rw[Oa]at this;omega
 have hsort:(A.map λx=>loB bs x).sum<=((sortI A).map λx=>loB bs x).sum:=sL hA.nd (λx hx=>(cC A x).mpr hx) λx _=>(kx gb).1.1;rw[kI hA.nd]at hsum;unfold bY lR;rw[Ot (by decide),Oo,Oi (fe hA.nd),Pf.mpr,Oi]
 ·rfl
 ·exact Int.lt_of_le_of_lt hhave (Int.lt_of_lt_of_le hsum hsort)
 ·intro x hx;exact Oi (hkey x ((cC A x).mp hx))
 ·intro z;have h1:=Pq TF z;rw[cW,Qf]at h1;have h2:=Q9 hwA;omega
theorem AG(Pr:Vl->Sto->Prop)(I:Nat->Nv->Sto->Prop)(hs:∀k τ S,I (k+1) τ S->∃S1 fl τ' S',t τ S=.ok true S1/\m τ S1=.ok (fl,τ') S'/\((fl=.nx/\I k τ' S')\/∃v,fl=.rt v/\Pr v S'))(he:∀τ S,I 0 τ S->t τ S=.ok false S) :
  ∀{n k:Nat}{τ:Nv}{S:Sto},k<n->I k τ S->(∃τ' S',de n t m τ S=.ok (.nx,τ') S'/\I 0 τ' S')\/∃v τ' S',de n t m τ S=.ok (.rt v,τ') S'/\Pr v S'
 |0,_,_,_,hk,_=>absurd hk ⋯
 |n+1,0,τ,S,_,h=>.inl ⟨τ,S,by
  rw[de];dsimp only;rw[he τ S h];rfl,h⟩
 |n+1,k+1,τ,S,hk,h=>by
  obtain⟨S1,fl,τ1,S2,e1,e2,h1⟩:=hs k τ S h;rcases h1 with⟨rfl,hI⟩ |⟨v,rfl,hv⟩
  ·have st:de (n+1) t m τ S=de n t m τ1 S2:=by
    rw[de];dsimp only;rw[e1,aC,Oe rfl,e2];rfl
   rw[st];exact AG Pr I hs he (n:=n) (k:=k) ⋯ hI
  ·refine .inr ⟨v,τ1,S2,?_,hv⟩;rw[de];dsimp only;rw[e1,aC,Oe rfl,e2];rfl
theorem FX(hW:de n t m τ S=r)(Pr:Vl->Sto->Prop)(I:Nat->Nv->Sto->Prop)(hs:∀k τ S,I (k+1) τ S->∃S1 fl τ' S',t τ S=.ok true S1/\m τ S1=.ok (fl,τ') S'/\((fl=.nx/\I k τ' S')\/∃v,fl=.rt v/\Pr v S'))(he:∀τ S,I 0 τ S->t τ S=.ok false S)(hk:k<n)(hI:I k τ S):(∃τ' S',r=.ok (.nx,τ') S'/\I 0 τ' S')\/∃v τ' S',r=.ok (.rt v,τ') S'/\Pr v S':=by
 subst hW;exact AG Pr I hs he hk hI
theorem asK:eD (A.map asD)=some A:=by
 induction A with
 |nil=>rfl
 |cons x A ih=>
  rw[Oq];show(eD (A.map asD)).map (x::·)=_;rw[ih];rfl
theorem DL(h:A.length<64):i7 [.fd (A.map asD)] S=.ok (.d (.lst ((sortI A).map D.int))) S:=by
 unfold i7 nv;dsimp only;rw[asK];dsimp only;rw[Oe h]
theorem Fs(gb:bT bs):loB bs w<=hiB bs w/\0<=loB bs w/\loB bs w<=4:=by
 unfold loB hiB bN;cases q:bs.find? (λb=>decide (b.1=w))with
 |none=>exact⟨by simp,by simp,by simp⟩
 |some b=>
  have:=gb.lim b (QS q);simp only[SW];omega
structure Jf(wss:List (List Int))(ns:List Int)(bs:List Tri)(S0:Sto)(a:Nat)(M:Se)(S':Sto):Prop where
 ok:OkC wss ns bs M
 all:∀n∈ns,n∈M.map (·.1)
 le:S0.length<=S'.length
 here:S'[a]?=some (.dct (M.map seD))
 rest:∀j,j<S0.length->j≠a->S'[j]?=S0[j]?
theorem A8{S0 S':Sto}{M:Se}(hal:a<S0.length)(h1:S0.length<=S'.length)(h2:S'[a]?=some (.dct (M.map seD)))(h3:∀j,j<S0.length->j≠a->S'[j]?=S0[j]?):S'.take S0.length=S0.set a (.dct (M.map seD)):=by
 apply Qo;intro j;rw[QP,Qa];by_cases hj:j<S0.length
 ·rw[Oe hj];by_cases e:a=j
  ·subst e;rw[Oe rfl,Oe hj,h2]
  ·rw[Ot e,h3 j hj (λz=>e z.symm)]
 ·rw[Ot hj];split
  ·rename_i e;omega
  ·rw[O2 ⋯]
theorem De(gb:bT bs)(hM:OkC wss ns bs M)(hlow:(aO M w:Int)<loB bs w)(hP:fO wss ns bs M [w] w M'):OkC wss ns bs M'/\aO M' w=aO M w+1/\∀v,loB bs v<=(aO M v:Int)->loB bs v<=(aO M' v:Int):=by
 obtain⟨z,z1,z2,z3⟩:=hP.cnt;have hzw:¬w=z:=λe=>z1 (by simp[e]);refine⟨⟨by rw[hP.keys];exact hM.kn,hP.mem,λx hx=>?_⟩,?_,λv hv=>?_⟩
 ·have a:=z3 x;have b:=hM.cap x hx;have c:=Fs (w:=w) gb;by_cases e:x=w
  ·subst e;rw[Oe rfl,Ot hzw]at a;omega
  ·rw[Ot e]at a;omega
 ·have a:=z3 w;rw[Oe rfl,Ot hzw]at a;omega
 ·have a:=z3 v;by_cases e:v=z
  ·subst e;rw[Oe rfl,Ot (λe=>hzw e.symm)]at a;omega
  ·rw[Ot e]at a;omega
theorem G1{wss:List (List Int)}{bs:List Tri}{S0 S':Sto}(hal:a<S0.length)(gn:cj wss.length ns)(gb:bT bs)(hw4:wss.length<=4)(hU:∀n∈ns,∀w∈bA wss n,-9<=w/\w<10)(hw:(aG bs)[i]?=some w)(hJ:Jf wss ns bs S0 a M S')(hl:∀v∈(aG bs).take i,loB bs v<=(aO M v:Int)) :
  (∃τ' S2,iG [some (.d (ah wss)),some (.fd (bs.map bS)),some (.r a),some (.d (.int w)),x4] S'=.ok (.nx,τ') S2/\∃x4' M',τ'=[some (.d (ah wss)),some (.fd (bs.map bS)),some (.r a),some (.d (.int w)),x4']/\Jf wss ns bs S0 a M' S2/\∀v∈(aG bs).take (i+1),loB bs v<=(aO M' v:Int)) \/
  (∃v τ' S2,iG [some (.d (ah wss)),some (.fd (bs.map bS)),some (.r a),some (.d (.int w)),x4] S'=.ok (.rt v,τ') S2/\∃(ps:List Int)(M':Se),v=.d (ae ps)/\bY wss ns bs false ps=true/\S2.take S0.length=S0.set a (.dct (M'.map seD))):=by
 have hwk:w∈aG bs:=OG hw;have hlim:-9<=w/\w<10:=by
  obtain⟨b1,b2⟩:=rO hwk;have:=gb.lim _ b1;rw[b2]at this;omega
 have etest:∀(M:Se)(S':Sto)(x4:Option Vl),Jf wss ns bs S0 a M S'->aA (xOp oLt (xN aU (ab (ai cE (ab (aa 2) (ab (aa 3) af))) af)) (xOp oDx (aa 1) (aa 3))) [some (.d (ah wss)),some (.fd (bs.map bS)),some (.r a),some (.d (.int w)),x4] S'=.ok (decide ((aO M w:Int)<loB bs w)) S':=λM S' x4 hJ=>by
  walk_at"mx";erw[j9 hJ.here hJ.ok.kn];erw[dxB (λ_=>rfl) hwk,show(bS (bN bs w)).2=.int (loB bs w)from rfl];rw[Oa];rfl
 have q:=FX (show _=iG [some (.d (ah wss)),some (.fd (bs.map bS)),some (.r a),some (.d (.int w)),x4] S' from rfl)
  (λv S2=>∃(ps:List Int)(M':Se),v=.d (ae ps)/\bY wss ns bs false ps=true/\S2.take S0.length=S0.set a (.dct (M'.map seD)))
  (λk τ S2=>∃x4' M',τ=[some (.d (ah wss)),some (.fd (bs.map bS)),some (.r a),some (.d (.int w)),x4']/\Jf wss ns bs S0 a M' S2/\(∀v∈(aG bs).take i,loB bs v<=(aO M' v:Int))/\(loB bs w-(aO M' w:Int)).toNat=k)
  (k:=(loB bs w-(aO M w:Int)).toNat) (by
   rintro k τ S2 ⟨x4',M1,rfl,hJ1,hl1,hk⟩;have hlow:(aO M1 w:Int)<loB bs w:=by omega
   have hml:=hJ1.ok.len gn.dom;have hu:unA M1 ([]++[w])<=4:=by
    have:unA M1 ([]++[w])<=M1.length:=Rj _ _;omega
   have hle:=hJ1.le;have hS2a:(S2++[Ob.dct []])[a]?=some (.dct (M1.map seD)):=by rw[OC ⋯];exact hJ1.here
   have hS2b:(S2++[Ob.dct []])[S2.length]?=some (.dct (([]:List Int).map asD)):=by simp
   have hid:=HE hS2a hS2b;refine⟨S2,?_⟩;have hrest:∀(M2:Se)(A:List Int) j,j<S0.length->j≠a->(Zs (S2++[Ob.dct []]) a S2.length M2 A)[j]?=S0[j]?:=λM2 A j hj hja=>by
    unfold Zs;rw[O_ ⋯,O_ (λz=>hja z.symm),OC ⋯];exact hJ1.rest j hj hja
   rcases ED (wss:=wss) (ns:=ns) (bs:=bs) (S:=S2++[Ob.dct []]) (a:=a) (b:=S2.length) (by simp;omega) (by simp) ⋯ gn.dom hU _ 20 M1 [] w rfl ⋯ hJ1.ok.kn ⋯ hJ1.ok.mem ⟨QB,by simp⟩ (by simp) hlim with⟨M2,A2,hA2,hP,e⟩ |⟨A2,hA2,hs2,hsit,hcl,e⟩
   ·rw[hid]at e;obtain⟨o1,o2,o3⟩:=De gb hJ1.ok hlow hP;refine⟨.nx,_,Zs (S2++[Ob.dct []]) a S2.length M2 A2,by rw[etest M1 S2 x4' hJ1,Oi hlow],by
     erw[i9,jd,show f7 [some (.d (ah wss)),some (.fd (bs.map bS)),some (.r a),some (.d (.int w)),x4'] S2=.ok (.r S2.length) (S2++[.dct []])from rfl];erw[e];rfl,.inl ⟨rfl,_,M2,rfl,⟨o1,λn hn=>by rw[hP.keys];exact hJ1.all n hn,by rw[dQ];simp;omega,z_s (by simp;omega) ⋯,hrest M2 A2⟩,λv hv=>o3 v (hl1 v hv),by omega⟩⟩
   ·rw[hid]at e;have hAl:=hA2.len;have hZ1:(Zs (S2++[Ob.dct []]) a S2.length M1 A2)[S2.length]?=some (.dct (A2.map asD)):=z_a (by simp);refine⟨.rt (.d (ae (sortI A2))),_,Zs (S2++[Ob.dct []]) a S2.length M1 A2,by rw[etest M1 S2 x4' hJ1,Oi hlow],by
     erw[i9,jd,show f7 [some (.d (ah wss)),some (.fd (bs.map bS)),some (.r a),some (.d (.int w)),x4'] S2=.ok (.r S2.length) (S2++[.dct []])from rfl];erw[e];rw[mN (n:=S2.length) (kvs:=A2.map asD) (x:=.lst ((sortI A2).map D.int)) rfl hZ1 (by
      show i7 [.fd (A2.map asD)] _=_;exact DL ⋯)]
     walk_at"mx";rfl,.inr ⟨_,rfl,sortI A2,M1,rfl,Iz gb hJ1.ok.kn gn.nd hJ1.all hA2 hwk hlow (hs2 w (by simp)) hsit hcl,A8 hal (by rw[dQ];simp;omega) (z_s (by simp;omega) ⋯) (hrest M1 A2)⟩⟩)
  (by
   rintro τ S2 ⟨x4',M1,rfl,hJ1,hl1,hk⟩;rw[etest M1 S2 x4' hJ1,Oo ⋯])
  (by have:=Fs (w:=w) gb;omega) ⟨x4,M,rfl,hJ,hl,rfl⟩
 rcases q with⟨τ',S2,e,x4',M',rfl,h1,h2,h3⟩ |⟨v,τ',S2,e,h1⟩
 ·refine .inl ⟨_,S2,e,x4',M',rfl,h1,λv hv=>?_⟩;rw[take_snoc hw]at hv;rcases OI.mp hv with z |z
  ·exact h2 v z
  ·rw[Og.mp z];omega
 ·exact .inr ⟨v,τ',S2,e,h1⟩
theorem Eb{wss:List (List Int)}{bs:List Tri}{S0:Sto}{M:Se}(ha:S0[a]?=some (.dct (M.map seD)))(gn:cj wss.length ns)(gb:bT bs)(hw4:wss.length<=4)(hU:∀n∈ns,∀w∈bA wss n,-9<=w/\w<10)(hM:OkC wss ns bs M)(hall:∀n∈ns,n∈M.map (·.1)) :
  (∃M':Se,OkC wss ns bs M'/\(∀n∈ns,n∈M'.map (·.1))/\(∀w∈aG bs,loB bs w<=(aO M' w:Int))/\gS [.d (ah wss),.fd (bs.map bS),.r a] S0=.ok (.d (.tup [])) (S0.set a (.dct (M'.map seD)))) \/
  (∃(ps:List Int)(M':Se),bY wss ns bs false ps=true/\gS [.d (ah wss),.fd (bs.map bS),.r a] S0=.ok (.d (ae ps)) (S0.set a (.dct (M'.map seD)))):=by
 have hal:a<S0.length:=(Ol.mp ha).1;unfold gS;rw[bZ];unfold pZ;walk_at"mx";have q:=iU (show _=qV [some (.d (ah wss)),some (.fd (bs.map bS)),some (.r a),none,none] S0 from rfl)
  (λv S2=>∃(ps:List Int)(M':Se),v=.d (ae ps)/\bY wss ns bs false ps=true/\S2.take S0.length=S0.set a (.dct (M'.map seD)))
  (S1:=S0) (items:=((aG bs).map D.int).map Vl.d) (gd:=none) (by
   unfold i_;walk_at"mx";rw[aC];dsimp only;rw[Oz,Oz];unfold aG;rw[Oz];rfl)
  (λi τ S'=>∃(x3 x4:Option Vl)(M':Se),τ=[some (.d (ah wss)),some (.fd (bs.map bS)),some (.r a),x3,x4]/\Jf wss ns bs S0 a M' S'/\∀v∈(aG bs).take i,loB bs v<=(aO M' v:Int))
  ⟨none,none,M,rfl,⟨hM,hall,Oj _,ha,λ_ _ _=>rfl⟩,by simp⟩ (by
   rintro i z τ S' hz ⟨x3,x4,M',rfl,hJ,hl⟩;obtain⟨w,ew,rfl⟩:=ints_get hz;rcases G1 (x4:=x4) hal gn gb hw4 hU ew hJ hl with⟨τ',S2,e,x4',M2,rfl,h1,h2⟩ |⟨v,τ',S2,e,h1⟩
   ·exact⟨_,_,.nx,_,S2,by walk_at"mx",e,.inl ⟨.inl rfl,True.intro,_,_,M2,rfl,h1,h2⟩⟩
   ·exact⟨_,_,.rt v,τ',S2,by walk_at"mx",e,.inr ⟨v,rfl,h1⟩⟩)
 rcases q with⟨τ',S',e,x3,x4,M',rfl,hJ,hl⟩ |⟨v,τ',S',e,ps,M',rfl,hR,hT⟩
 ·refine .inl ⟨M',hJ.ok,hJ.all,λw hw=>hl w ?_,?_⟩
  ·rw[show(((aG bs).map D.int).map Vl.d).length=(aG bs).length by simp,OD];exact hw
  ·erw[e];rw[bh,A8 hal hJ.le hJ.here hJ.rest]
 ·refine .inr ⟨ps,M',hR,?_⟩;erw[e];rw[bh,hT]
theorem rT(hf:f∈aW wss)(h0:0<=n)(h1:n<(wss.length:Int)):f.getD n.toNat 0∈wss.getD n.toNat []:=by
 have:=la (wss:=wss) wss.length (Oj _) f (by rw[OD];exact hf);exact this.2 n.toNat ⋯
noncomputable def lkM(M:Se)(k:Int):Option Int:=(M.find? λx=>decide (x.1=k)).map (·.2)
noncomputable def iy(wss:List (List Int))(M:Se):List Int:=(Oy wss.length).map λk=>(lkM M (k:Nat)).getD ((wss.getD k []).getD 0 0)
theorem Cv:cY (M.map seD) (.inl k)=(lkM M k).map D.int:=by
 unfold lkM
 induction M with
 |nil=>rfl
 |cons x l ih=>
  rw[Oq];by_cases h:x.1=k
  ·rw[fb (show(seD x).1=.inl k by rw[<-h];rfl)];simp[Py,h,seD]
  ·rw[dX (show¬(seD x).1=.inl k fromλz=>h (Qm z)),ih];simp[Py,h]
theorem Ge(gs:br n m wss):bE [.d (ah wss),.fd (M.map seD)] S=.ok (.d (ae (iy wss M))) S:=by
 unfold bE;rw[bO];unfold fB;have e:cT [some (.d (ah wss)),some (.fd (M.map seD))] S=.ok (.d (.lst ((iy wss M).map D.int))) S:=by
  unfold cT;rw[lcG (items:=cB 0 (wss.map ae)) (S1:=S) (by unfold yZ;rfl) (λz=>match z with | .d (.tup [a,b])=>[some (.d a),some (.d b)] |_=>[none,none]) (λz=>match z with | .d (.tup [.int k,_])=>.int ((lkM M k).getD ((wss.getD k.toNat []).getD 0 0)) |_=>.non) (λ_=>true) ?_ ?_ ?_ ?_]
  ·rw[PQ.mpr (λ_ _=>rfl)];congr 3;refine Qo λi=>?_;rw[Ox,di,Ox];unfold iy;rw[Ox,Ox];by_cases hi:i<wss.length
   ·rw[gV hi,PN hi];simp
   ·rw[O2 ⋯,O2 (by simp;omega)];rfl
  ·intro z hz;obtain⟨i,hi,rfl⟩:=O1.mp hz;obtain⟨x,_,e⟩:=fc (gV hi);rw[e];rfl
  ·intro z hz y hρ S;obtain⟨i,hi,rfl⟩:=O1.mp hz;obtain⟨x,_,e⟩:=fc (gV hi);rw[e]
   match y,hρ with
   | [_,_],_=>walk_at"mx"
  ·intro z hz S;rfl
  ·intro z hz _ S;obtain⟨i,hi,rfl⟩:=O1.mp hz;obtain⟨x,hx,e⟩:=fc (gV hi);rw[e];rw[Ox]at hx;cases q:wss[i]? with
   |none=>rw[q]at hx;cases hx
   |some ws=>
    rw[q]at hx;cases hx;have hws:=gs.all ws (OG q);have hpos:0<ws.length:=hws.pos;dsimp only;rw[Cg (S1:=S) (S2:=S) (S3:=S) (kvs:=M.map seD) (yd:=.int (i:Nat)) (key:=.inl (i:Nat)) (zd:=.int (ws.getD 0 0)) (by walk_at"mx") (by walk_at"mx") (by
     walk_at"mx";exact aL (pA (i:=0) hpos)) rfl,Cv]
    rw[O0,show wss.getD i []=ws by rw[Oc,q];rfl];cases lkM M (i:Nat)<;>rfl
 walk_at"mx";erw[e];rw[ao];rfl
theorem F3(h:(M.map (·.1)).Nodup)(hp:p∈M):lkM M p.1=some p.2:=by
 have:=qC h hp;rw[Cv]at this;cases q:lkM M p.1 with
 |none=>rw[q]at this;cases this
 |some v=>rw[q]at this;cases this;rfl
theorem Hx(h:lkM M k=some v):(k,v)∈M:=by
 unfold lkM at h;cases q:M.find? λx=>decide (x.1=k)with
 |none=>rw[q]at h;cases h
 |some p=>
  rw[q]at h;cases h;have h1:=QS q;have h2:p.1=k:=by simpa using Th q
  rw[<-h2];exact h1
noncomputable def atN(f ns:List Int):List Int:=ns.map λn=>f.getD n.toNat 0
theorem wO(hi:i<wss.length):(iy wss M).getD i 0=(lkM M (i:Nat)).getD ((wss.getD i []).getD 0 0):=by
 unfold iy;rw[Oc,Ox,PN hi];rfl
theorem Fo:oIx (.d (.tup [x,y])) (.d (.int 0)) S=.ok (.d x) S:=aL rfl
theorem EV:oIx (.d (.tup [x,y])) (.d (.int 1)) S=.ok (.d y) S:=aL rfl
structure uw(wss:List (List Int))(ns:List Int)(bs:List Tri)(M:Se):Prop where
 ok:OkC wss ns bs M
 all:∀n∈ns,n∈M.map (·.1)
 low:∀w∈aG bs,loB bs w<=(aO M w:Int)
theorem l7(h:bY wss ns bs nm ps=true):ps≠[]/\ps.Pairwise (· <·)/\(if nm then(∀p∈ps,p∈ns)/\(∀w∈aS (aN wss ps),w∈aG bs)/\((aS (aN wss ps)).map λw=>hiB bs w).sum<(ps.length:Int)else(∀p∈ps,p∈aG bs)/\((qG wss ns ps).length:Int)<(ps.map λw=>loB bs w).sum):=by
 unfold bY at h;cases nm with
 |true=>
  simp only[QL,OQ,Q0,Qj,O7,Pf,tooMany]at h ⊢;exact⟨h.1,h.2.1,h.2.2.1,h.2.2.2.1,h.2.2.2.2⟩
 |false=>
  simp only[Pw,QI,OQ,Q0,Qj,O7,Pf,lR]at h ⊢;exact⟨h.1,h.2.1,h.2.2.1,h.2.2.2⟩
theorem AV(h:bY wss ns bs nm ps=true)(hM:uw wss ns bs M):False:=by
 obtain⟨_,h2,h3⟩:=l7 h;have hnd:ps.Nodup:=h2.imp λz=>by omega
 cases nm with
 |true=>
  obtain⟨h3,h4,h5⟩:=h3;have hU:(aS (aN wss ps)).Nodup:=(cS _).imp λz=>by omega
  have e1:=kI (M:=M) hU;have e2:((aS (aN wss ps)).map λw=>(aO M w:Int)).sum<=((aS (aN wss ps)).map λw=>hiB bs w).sum:=lr λx hx=>hM.ok.cap x (h4 x hx);have e3:=bL (l1:=ps) (l2:=(M.filter λp=>decide (p.2∈aS (aN wss ps))).map (·.1)) hnd λn hn=>by
   obtain⟨p,hp,rfl⟩:=Of.mp (hM.all n (h3 n hn));refine Of.mpr ⟨p,OH.mpr ⟨hp,Oi ?_⟩,rfl⟩;rw[dh];exact QJ.mpr ⟨p.1,hn,(hM.ok.mem p hp).2⟩
  rw[Oa]at e3;omega
 |false=>
  obtain⟨h3,h4⟩:=h3;have e1:=kI (M:=M) hnd;have e2:(ps.map λw=>loB bs w).sum<=(ps.map λw=>(aO M w:Int)).sum:=lr λx hx=>hM.low x (h3 x hx);have e3:=bL (l1:=(M.filter λp=>decide (p.2∈ps)).map (·.1)) (l2:=qG wss ns ps) (hM.ok.kn.sublist (Q7.map _)) λn hn=>by
   obtain⟨p,hp,rfl⟩:=Of.mp hn;obtain⟨q1,q2⟩:=OH.mp hp;obtain⟨q3,q4⟩:=hM.ok.mem p q1;exact OH.mpr ⟨q3,O8.mpr ⟨p.2,q4,q2⟩⟩
  rw[Oa]at e3;omega
noncomputable def zO(f ns:List Int)(bs:List Tri):Bool:=bs.all λb=>!(decide (((atN f ns).count b.1:Int)<b.2.1)||decide (b.2.2<((atN f ns).count b.1:Int)))
noncomputable def Fh(wss:List (List Int))(ns:List Int)(bs:List Tri):List (List Int):=(aW wss).filter λf=>zO f ns bs
theorem Kw:(atN f ns).count w=(ns.filter λn=>decide (f.getD n.toNat 0=w)).length:=by
 unfold atN
 induction ns with
 |nil=>rfl
 |cons n ns ih=>
  rw[Oq,WV,ih,P5];by_cases h:f.getD n.toNat 0=w
  ·rw[Oe (PY.mpr h),Oe (Oi h),OB]
  ·rw[Ot (λz=>h (PY.mp z)),Ot (λz=>h (QX z))];rfl
theorem EU(w:Int)(hk:(M.map (·.1)).Nodup)(hn:ns.Nodup)(h1:∀x,x∈M.map (·.1)↔x∈ns)(h2:∀p∈M,f.getD p.1.toNat 0=p.2):(atN f ns).count w=aO M w:=by
 rw[Kw];unfold aO;refine WS ?_ ?_
 ·have:=bL (l1:=ns.filter λn=>decide (f.getD n.toNat 0=w)) (l2:=(atW M w).map (·.1)) (hn.sublist Q7) λn h=>by
   obtain⟨a,b⟩:=OH.mp h;obtain⟨p,hp,rfl⟩:=Of.mp ((h1 n).mpr a);refine Of.mpr ⟨p,dc.mpr ⟨hp,?_⟩,rfl⟩;rw[<-h2 p hp];simpa using b
  rwa[Oa]at this
 ·have:=bL (l1:=(atW M w).map (·.1)) (l2:=ns.filter λn=>decide (f.getD n.toNat 0=w)) (hk.sublist (Q7.map _)) λn h=>by
   obtain⟨p,hp,rfl⟩:=Of.mp h;obtain⟨a,b⟩:=dc.mp hp;refine OH.mpr ⟨(h1 _).mp (Of.mpr ⟨p,a,rfl⟩),Oi ?_⟩;rw[h2 p a,b]
  rwa[Oa]at this
theorem Bf(gb:bT bs)(hb:b∈bs):bN bs b.1=b:=by
 have hk:b.1∈aG bs:=Of.mpr ⟨b,hb,rfl⟩;obtain⟨h1,h2⟩:=rO hk;exact mY (f:=λb:Tri=>b.1) (gb.rise.imp λz=>by omega) h1 hb h2
theorem vP(gb:bT bs)(h:∀w,(atN f ns).count w=aO M w):zO f ns bs=true↔∀w∈aG bs,loB bs w<=(aO M w:Int)/\(aO M w:Int)<=hiB bs w:=by
 unfold zO;rw[Pf];constructor
 ·intro q w hw;obtain⟨b,hb,rfl⟩:=Of.mp hw;have:=q b hb;simp only[Q0,Ts,Qj,h]at this;unfold loB hiB;rw[Bf gb hb];omega
 ·intro q b hb;have:=q b.1 (Of.mpr ⟨b,hb,rfl⟩);unfold loB hiB at this;rw[Bf gb hb]at this;simp only[Q0,Ts,Qj,h];omega
theorem q_(gs:br n m wss)(gn:cj wss.length ns)(gb:bT bs)(hM:uw wss ns bs M):iy wss M∈Fh wss ns bs:=by
 refine OH.mpr ⟨xZ (by unfold iy;simp) λi hi=>?_,(vP gb λw=>EU w hM.ok.kn gn.nd (λx=>⟨λh=>?_,hM.all x⟩) λp hp=>?_).mpr λw hw=>⟨hM.low w hw,hM.ok.cap w hw⟩⟩
 ·rw[wO hi];cases q:lkM M (i:Nat)with
  |none=>
   have h1:wss.getD i []∈wss:=by rw[Oc,gV hi];exact O5 hi
   have:=(gs.all _ h1).pos;show(wss.getD i []).getD 0 0∈wss.getD i [];cases hw:wss.getD i []with
   |nil=>rw[hw]at this;simp at this
   |cons a l=>simp
  |some v=>
   have:=(hM.ok.mem _ (Hx q)).2;unfold bA at this;simpa using this
 ·obtain⟨p,hp,rfl⟩:=Of.mp h;exact(hM.ok.mem p hp).1
 ·obtain⟨x0,x1⟩:=gn.dom p.1 (hM.ok.mem p hp).1;rw[wO ⋯,show((p.1.toNat:Nat):Int)=p.1 by omega,F3 hM.ok.kn hp];rfl
theorem zb(gn:cj wss.length ns)(gb:bT bs)(h:f∈Fh wss ns bs):uw wss ns bs (ns.map λn=>(n,f.getD n.toNat 0)):=by
 obtain⟨h1,h2⟩:=OH.mp h;have e:(ns.map λn=>(n,f.getD n.toNat 0)).map (·.1)=ns:=by
  rw[Oz];exact(P8 (g:=id) λ_ _=>rfl).trans (Wm _)
 have hk:((ns.map λn=>(n,f.getD n.toNat 0)).map (·.1)).Nodup:=by rw[e];exact gn.nd
 have hc:=(vP (M:=ns.map λn=>(n,f.getD n.toNat 0)) gb λw=>EU w hk gn.nd (λx=>by rw[e]) λp hp=>by
  obtain⟨n,hn,rfl⟩:=Of.mp hp;rfl).mp h2
 refine⟨⟨hk,λp hp=>?_,λw hw=>(hc w hw).2⟩,λn hn=>by rw[e];exact hn,λw hw=>(hc w hw).1⟩;obtain⟨n,hn,rfl⟩:=Of.mp hp;exact⟨hn,rT h1 (gn.dom n hn).1 (gn.dom n hn).2⟩
theorem yh(gs:br n m wss)(hn:n<=4)(hm:m<=4)(gn:cj wss.length ns)(gb:bT bs) :
  (∃M,uw wss ns bs M/\fJ [.d (ah wss),.d (gc ns bs)] S=.ok (.d (.tup [.str "can",ae (iy wss M)])) S) \/
  (∃nm ps,bY wss ns bs nm ps=true/\fJ [.d (ah wss),.d (gc ns bs)] S=.ok (.d (.tup [.str "no",sI nm ps])) S):=by
 have h4:=gs.le;have hU:∀p∈ns,∀w∈bA wss p,-9<=w/\w<10:=λp hp w hww=>by
  have:=(gs.all _ (jA (gn.dom p hp).1 (gn.dom p hp).2)).lim w hww;omega
 have hout:∀z:Ob,(S++[z]).take S.length=S:=λz=>by rw[Sa]
 have ne:∀{ps:List Int}{nm:Bool},bY wss ns bs nm ps=true->∃p0 ps0,ps=p0::ps0:=λ{ps nm} h=>by
  have:=(l7 h).1;cases ps with
  |nil=>exact absurd rfl this
  |cons a l=>exact⟨a,l,rfl⟩
 unfold fJ;rw[bO];unfold o9;walk_at"mx";erw[qO gs hn hm gn gb];erw[show f7 [some (.d (ah wss)),some (.d (gc ns bs)),none,none,none] S=.ok (.r S.length) (S++[.dct []])from rfl];erw[yW];erw[uB];erw[oS gb];rcases Cb (wss:=wss) (ns:=ns) (bs:=bs) (S0:=S++[Ob.dct []]) (a:=S.length) n6 gn gb ⋯ hU with⟨M,hM,hall,e⟩ |⟨ps,M,hR,e⟩
 ·erw[e,iO];simp only[WB,PK];walk_at"mx";erw[uB];erw[qr gb];rcases Eb (wss:=wss) (ns:=ns) (bs:=bs) (S0:=S++[Ob.dct (M.map seD)]) (a:=S.length) n6 gn gb ⋯ hU hM hall with⟨M',hM',hall',hlow,e⟩ |⟨ps,M',hR,e⟩
  ·rw[e,iO];refine .inl ⟨M',⟨hM',hall',hlow⟩,?_⟩;walk_at"mx";simp only[WB,PK];walk_at"mx";rw[mN (n:=S.length) (kvs:=M'.map seD) (x:=ae (iy wss M')) rfl n6 (by
    rw[show∀T:Sto,ai bE (ab (aa 0) (ab (aa 2) af)) ([some (Vl.d (ah wss)),some (.d (gc ns bs)),some (.r S.length),some (.d (.tup [])),some (.d (.tup []))].set 2 (some (.fd (M'.map seD)))) T=noX (bE [.d (ah wss),.fd (M'.map seD)] T)fromλ_=>rfl,Ge gs];rfl)]
   walk_at"mx";rw[bh,hout]
  ·rw[e,iO];refine .inr ⟨false,ps,hR,?_⟩;obtain⟨p0,ps0,rfl⟩:=ne hR;unfold ae;walk_at"mx";simp only[Wd,Pz];walk_at"mx";rw[bh,hout];rfl
 ·rw[e,iO];refine .inr ⟨true,ps,hR,?_⟩;obtain⟨p0,ps0,rfl⟩:=ne hR;unfold ae;walk_at"mx";simp only[Wd,Pz];walk_at"mx";rw[bh,hout];rfl
theorem tQ:p∈iN ds w r↔∃d∈ds,d.1∈r/\d.2.1=w/\d.2.2=p:=by
 unfold iN;simp only[Of,OH,OQ,O7,and_assoc]
def Pth(ds:List Tri):List Int->Int->Int->Prop
 | [],a,b=>a=b
 |w::ws,a,b=>∃d∈ds,d.1=a/\d.2.1=w/\Pth ds ws d.2.2 b
theorem sQ:∀{us ws:List Int}{a b:Int},Pth ds (us++ws) a b↔∃c,Pth ds us a c/\Pth ds ws c b
 | [],ws,a,b=>⟨λh=>⟨a,rfl,h⟩,λ⟨c,e,h⟩=>by cases(show a=c from e);exact h⟩
 |u::us,ws,a,b=>by
  show(∃d∈ds,d.1=a/\d.2.1=u/\Pth ds (us++ws) d.2.2 b)↔∃c,(∃d∈ds,d.1=a/\d.2.1=u/\Pth ds us d.2.2 c)/\Pth ds ws c b;constructor
  ·rintro⟨d,h1,h2,h3,h4⟩;obtain⟨c,k1,k2⟩:=sQ.mp h4;exact⟨c,⟨d,h1,h2,h3,k1⟩,k2⟩
  ·rintro⟨c,⟨d,h1,h2,h3,k1⟩,k2⟩;exact⟨d,h1,h2,h3,sQ.mpr ⟨c,k1,k2⟩⟩
theorem xX:Pth ds [w] a b↔(a,w,b)∈ds:=by
 show(∃d∈ds,d.1=a/\d.2.1=w/\d.2.2=b)↔_;constructor
 ·rintro⟨⟨x,y,z⟩,h,rfl,rfl,rfl⟩;exact h
 ·intro h;exact⟨_,h,rfl,rfl,rfl⟩
theorem qU:∀{ws r:List Int},b∈ws.foldl (λr w=>iN ds w r) r↔∃a∈r,Pth ds ws a b
 | [],r=>⟨λh=>⟨b,h,rfl⟩,λ⟨a,h,e⟩=>by cases(show a=b from e);exact h⟩
 |w::ws,r=>by
  rw[UG,qU];constructor
  ·rintro⟨a,h1,h2⟩;obtain⟨d,k1,k2,k3,rfl⟩:=tQ.mp h1;exact⟨d.1,k2,d,k1,rfl,k3,h2⟩
  ·rintro⟨a,h1,d,k1,rfl,k3,k4⟩;exact⟨d.2.2,tQ.mpr ⟨d,k1,h1,k3,rfl⟩,k4⟩
theorem jo:b∈cb ds ws↔Pth ds ws 0 b:=by
 unfold cb;rw[qU];exact⟨λ⟨a,h,p⟩=>by rw[Og.mp h]at p;exact p,λh=>⟨0,Og.mpr rfl,h⟩⟩
theorem vg(h:∀d∈ds,d∈es):∀{ws:List Int}{a b:Int},Pth ds ws a b->Pth es ws a b
 | [],_,_,e=>e
 |_::_,_,_,⟨d,h1,h2,h3,h4⟩=>⟨d,h d h1,h2,h3,vg h h4⟩
noncomputable def eY(s:Int->Int)(ds:List Tri):List Tri:=ds.map λd=>(s d.2.2,d.2.1,s d.1)
theorem pv(hs:∀x,s (s x)=x):∀{ws:List Int}{a b:Int},Pth (eY s ds) ws.reverse (s b) (s a)↔Pth ds ws a b
 | [],a,b=>⟨λe=>by have:=Pq s (show s b=s a from e);rw[hs,hs]at this;exact this.symm,λe=>by cases(show a=b from e);exact rfl⟩
 |w::ws,a,b=>by
  rw[R0,sQ];show(∃c,Pth (eY s ds) ws.reverse (s b) c/\Pth (eY s ds) [w] c (s a))↔∃d∈ds,d.1=a/\d.2.1=w/\Pth ds ws d.2.2 b;constructor
  ·rintro⟨c,h1,h2⟩;obtain⟨d,k1,k2⟩:=Of.mp (xX.mp h2);have e1:s d.2.2=c:=Pq (·.1) k2;have e2:d.2.1=w:=Pq (·.2.1) k2;have e3:s d.1=s a:=Pq (·.2.2) k2;have e4:=Pq s e3;rw[hs,hs]at e4;exact⟨d,k1,e4,e2,pv hs |>.mp (by rw[e1];exact h1)⟩
  ·rintro⟨d,k1,rfl,rfl,k4⟩;exact⟨s d.2.2,(pv hs).mpr k4,xX.mpr (Of.mpr ⟨d,k1,rfl⟩)⟩
noncomputable def swp(l x:Int):Int:=if x=l then 0 else if x=0 then l else x
theorem oD(l x:Int):swp l (swp l x)=x:=by
 unfold swp;by_cases h1:x=l
 ·rw[Oe h1];by_cases h2:(0:Int)=l
  ·rw[Oe h2];omega
  ·rw[Ot h2,Oe rfl];omega
 ·rw[Ot h1];by_cases h2:x=0
  ·rw[Oe h2,Oe rfl];omega
  ·rw[Ot h2,Ot h1,Ot h2]
theorem FK:vls f ns.reverse=(vls f ns).reverse:=by unfold vls;rw[WC]
theorem sG{l:List Int}:(l.any λp=>decide (p∈[e]))=decide (e∈l):=by
 rw[Ph,O8,RQ];exact⟨λ⟨p,h,q⟩=>by rw[RQ,Og]at q;rw[<-q];exact h,λh=>⟨e,h,by simp⟩⟩
theorem Au{f ns:List Int}:d8 f (.row ns.reverse (eY (swp l) ds) [l])=d8 f (.row ns ds [l]):=by
 show((cb _ _).any λp=>decide (p∈[l]))=((cb _ _).any λp=>decide (p∈[l]));rw[sG,sG,FK];apply Uu.mpr;have e1:swp l l=0:=Oe rfl;have e2:swp l 0=l:=by have:=oD l l;rw[e1]at this;exact this
 have key:=pv (oD l) (ds:=ds) (ws:=vls f ns) (a:=0) (b:=l);rw[e1,e2]at key;rw[jo,jo];exact key
noncomputable def dM(u x:Int)(k q:Nat):List Tri:=if u=x then(if q<k then [((q:Int),u,(q:Int)+1)]else [])else [((q:Int),u,(q:Int))]
noncomputable def cA(us:List Int)(x:Int)(k:Nat):List Tri:=us.flatMap λu=>(Oy (k+1)).flatMap (dM u x k)
theorem rW:(q,w,p)∈cA us x k↔w∈us/\0<=q/\q<=k/\p<=k/\p=q+(if w=x then 1 else 0):=by
 unfold cA dM;simp only[QJ,O3];constructor
 ·rintro⟨u,hu,j,hj,h⟩;by_cases e:u=x
  ·rw[Oe e]at h;by_cases hk:j<k
   ·rw[Oe hk,Og]at h;cases h;rw[Oe e];exact⟨hu,by omega,by omega,by omega,rfl⟩
   ·rw[Ot hk]at h;cases h
  ·rw[Ot e,Og]at h;cases h;rw[Ot e];exact⟨hu,by omega,by omega,by omega,by omega⟩
 ·rintro⟨hu,h0,h1,h2,rfl⟩;obtain⟨j,rfl⟩:=Q6 h0;refine⟨w,hu,j,by omega,?_⟩;by_cases e:w=x
  ·rw[Oe e]at h2 ⊢;rw[Oe e,Oe ⋯];exact Og.mpr rfl
  ·rw[Ot e,Ot e];exact Og.mpr (by rw[Int.add_zero])
theorem sR{us:List Int}{x:Int}{k:Nat}:∀{ws:List Int}{a b:Int},(∀w∈ws,w∈us)->0<=a->a<=k->(Pth (cA us x k) ws a b↔b=a+(ws.count x:Int)/\b<=k)
 | [],a,b,_,_,ha=>by
  show a=b↔b=a+((List.count x []:Nat):Int)/\b<=k;rw[List.count_nil];constructor
  ·rintro rfl;exact⟨by omega,ha⟩
  ·rintro⟨h,_⟩;omega
 |w::ws,a,b,hw,h0,ha=>by
  show(∃d∈cA us x k,d.1=a/\d.2.1=w/\Pth (cA us x k) ws d.2.2 b)↔_;have hc:((w::ws).count x:Int)=(ws.count x:Int)+(if w=x then 1 else 0):=by
   rw[WV];by_cases e:w=x
   ·rw[Oe e,Oe (by rw[e];exact Ui x)];omega
   ·rw[Ot e,Ot (by simpa using e)];omega
  have hi:(0:Int)<=(if w=x then 1 else 0):=by by_cases e:w=x;(· rw[Oe e];decide);(· rw[Ot e];decide)
  rw[hc];generalize hg:(if w=x then(1:Int)else 0)=i at hi ⊢;constructor
  ·rintro⟨⟨q,w',p⟩,h1,rfl,rfl,h4⟩;obtain⟨k1,k2,k3,k4,k5⟩:=rW.mp h1;rw[hg]at k5;obtain⟨e,e2⟩:=(sR (λz hz=>hw z (.tail _ hz)) ⋯ k4).mp h4;exact⟨by omega,e2⟩
  ·rintro⟨rfl,h2⟩;have hpos:(0:Int)<=(ws.count x:Int):=by omega
   exact⟨(a,w,a+i),rW.mpr ⟨hw w (.head _),h0,ha,by omega,by rw[hg]⟩,rfl,rfl,(sR (a:=a+i) (λz hz=>hw z (.tail _ hz)) ⋯ ⋯).mpr ⟨by omega,h2⟩⟩
theorem CC{f ns us:List Int}{x:Int}{k:Nat}(h:∀w∈vls f ns,w∈us):d8 f (.row ns (cA us x k) [(k:Int)])=d8 f (.man ns [(x,(k:Int),(k:Int))]):=by
 show((cb _ _).any λp=>decide (p∈[(k:Int)]))=[(x,(k:Int),(k:Int))].all (inB (vls f ns));rw[sG,Ph,RQ,jo,sR h ⋯ ⋯];simp only[QG,V1,Qk,inB,OQ,O7];omega
theorem EI(h1:∀d∈ds',d∈ds)(h2:∀e∈es',e∈es)(h:d8 f (.row ns ds' es')=true):d8 f (.row ns ds es)=true:=by
 show((cb _ _).any λp=>decide (p∈es))=true;obtain⟨p,k1,k2⟩:=O8.mp (show((cb _ _).any λp=>decide (p∈es'))=true from h);exact O8.mpr ⟨p,jo.mpr (vg h1 (jo.mp k1)),Oi (h2 p (QX k2))⟩
theorem xD{ws:List Int}{j:Nat}{z:Vl}(h:((ws.map D.int).map Vl.d)[j]?=some z):∃w,ws[j]?=some w/\z=.d (.int w):=by
 rw[Oz,Ox]at h;cases e:ws[j]? with
 |none=>rw[e]at h;cases h
 |some w=>rw[e]at h;cases h;exact⟨w,rfl,rfl⟩
theorem sD{vss:List (List Int)}(h:∀ws∈vss,ws.length<=4/\ws.Nodup)(hl:vss.length<=4):∃us:List Int,us.Nodup/\(∀x,x∈us↔∃ws∈vss,x∈ws)/\us.length<=16/\eW [.d (.lst (vss.map ae))] S=.ok (.d (.lst (us.map D.int))) S:=by
 unfold eW;rw[bf];unfold kT;walk_at"mx";obtain⟨τ',S',e,x2,us,rfl,rfl,nd,mem,le⟩:=cx (show _=kR [some (.d (.lst (vss.map ae))),some (.r S.length),none] (S++[.lst []])from rfl) (S1:=S++[.lst []]) (items:=(vss.map ae).map Vl.d) (gd:=none) (by walk_at"mx")
  (λi τ S'=>∃x2 us,τ=[some (.d (.lst (vss.map ae))),some (.r S.length),x2]/\S'=S++[.lst (us.map D.int)]/\us.Nodup/\(∀x,x∈us↔∃ws∈vss.take i,x∈ws)/\us.length<=4*i) ⟨none,[],rfl,rfl,QB,by simp,by simp⟩ (by
   rintro i z τ S' hz ⟨x2,us,rfl,rfl,nd,mem,le⟩;obtain⟨ws,ew,rfl⟩:=nj hz;have hi:=(Ol.mp ew).1;obtain⟨hw4,hwn⟩:=h ws (OG ew);obtain⟨acc,Q,e1,_,rfl,rfl⟩:=qZ (show _=kF [some (.d (.lst (vss.map ae))),some (.r S.length),some (.d (ae ws))] (S++[.lst (us.map D.int)])from rfl) (items:=(ws.map D.int).map Vl.d) (S1:=S++[.lst (us.map D.int)]) (by walk_at"mx";rfl)
    (λj acc Q=>Q=S++[.lst (us.map D.int)]/\acc=((ws.take j).filter λw=>!decide (w∈us)).map D.int) ⟨rfl,rfl⟩ (by
     rintro j z acc Q hz ⟨rfl,rfl⟩ _;obtain⟨w,ew,rfl⟩:=xD hz;refine⟨!decide (w∈us),_,?_,rfl,λhb=>⟨.int w,_,?_,rfl,rfl,?_⟩,λhb=>⟨rfl,?_⟩⟩
     ·walk_at"mx";erw[Bu (ns:=us) (by simp)]
     ·walk_at"mx"
     ·rw[take_snoc ew,Rb,OX,P5,Oe hb];rfl
     ·rw[take_snoc ew,Rb,OX,P5,Ot (by rw[hb];exact OF)];simp)
   rw[show((ws.map D.int).map Vl.d).length=ws.length by simp,OD]at e1;have hfl:=Rj (λw=>!decide (w∈us)) ws;refine⟨_,_,.nx,_,_,by walk_at"mx";rfl,by
    walk_at"mx";erw[e1];erw[Cp (by simp only[Oa];omega)];rfl,.inl rfl,True.intro,some (.d (ae ws)),us++ws.filter (λw=>!decide (w∈us)),rfl,by rw[OX],?_,?_,by rw[Pj];omega⟩
   ·rw[QC];refine⟨nd,hwn.filter _,λx hx y hy e=>?_⟩;subst e;have:=(OH.mp hy).2;simp[hx]at this
   ·intro x;rw[OI,mem,OH,take_snoc ew];constructor
    ·rintro(⟨v,h1,h2⟩ |⟨h1,_⟩)
     ·exact⟨v,OZ _ h1,h2⟩
     ·exact⟨ws,OT _ (Og.mpr rfl),h1⟩
    ·rintro⟨v,h1,h2⟩;rcases OI.mp h1 with h1 |h1
     ·exact .inl ⟨v,h1,h2⟩
     ·rw[Og.mp h1]at h2;by_cases hx:x∈us
      ·exact .inl ((mem x).mp hx)
      ·exact .inr ⟨h2,by simp[hx]⟩)
 rw[show((vss.map ae).map Vl.d).length=vss.length by simp]at mem le;rw[OD]at mem;erw[e];erw[yf fm ⋯];refine⟨sortI us,(fe nd).imp λh=>by omega,λx=>by rw[cC];exact mem x,by rw[cW];omega,?_⟩;rw[eh]
theorem rY{α d:Type}{f:α->List d}(g:d->α):∀{l:List α},l.Nodup->(∀a∈l,(f a).Nodup)->(∀a∈l,∀b∈f a,g b=a)->(l.flatMap f).Nodup
 | [],_,_,_=>QB
 |a::l,h,hf,hg=>by
  obtain⟨h1,h2⟩:=OW.mp h;rw[R3,QC];refine⟨hf a (.head _),rY g h2 (λb hb=>hf b (.tail _ hb)) λb hb=>hg b (.tail _ hb),λx hx y hy e=>?_⟩;obtain⟨b,hb,hy⟩:=QJ.mp hy;have e1:=hg a (.head _) x hx;have e2:=hg b (.tail _ hb) y hy;exact h1 (by rw[<-e1,e,e2];exact hb)
theorem uT(h:d∈dM u x k q):d.2.1=u/\d.1.toNat=q:=by
 unfold dM at h;by_cases e:u=x
 ·rw[Oe e]at h;by_cases hk:q<k
  ·rw[Oe hk]at h;rw[Og.mp h];exact⟨rfl,by simp⟩
  ·rw[Ot hk]at h;cases h
 ·rw[Ot e]at h;rw[Og.mp h];exact⟨rfl,by simp⟩
theorem sy:(dM u x k q).Nodup/\(dM u x k q).length<=1:=by
 unfold dM;by_cases e:u=x
 ·rw[Oe e];by_cases hk:q<k
  ·rw[Oe hk];simp
  ·rw[Ot hk];simp
 ·rw[Ot e];simp
theorem GK(h:us.Nodup):(cA us x k).Nodup:=by
 refine rY (·.2.1) h (λu _=>rY (λd=>d.1.toNat) SY (λ_ _=>sy.1) λq _ d hd=>(uT hd).2) λu _ d hd=>?_;obtain⟨q,_,hd⟩:=QJ.mp hd;exact(uT hd).1
theorem lF{α y:Type}{f:α->List y}{c:Nat}:∀{l:List α},(∀a∈l,(f a).length<=c)->(l.flatMap f).length<=l.length*c
 | [],_=>by simp
 |a::l,h=>by
  have h1:=h a (.head _);have h2:=lF (l:=l) λb hb=>h b (.tail _ hb);rw[R3,Pj,OB,Yg];omega
theorem Di{wss:List (List Int)}{ns us:List Int}(gn:cj wss.length ns)(hu:us.Nodup)(hl:∀u∈us,-9<=u/\u<=9)(hk:k<=2)(h:(cA us x k).length<13):bx wss.length (.row ns (cA us x k) [(k:Int)]):=by
 refine⟨gn,⟨by omega,GK hu,λ⟨q,w,p⟩ hd=>?_⟩,by simp,by simp;omega,by simp⟩;obtain⟨h1,h2,h3,h4,h5⟩:=rW.mp hd;refine⟨⟨h2,by simp only;omega⟩,hl w h1,?_,by simp only;omega⟩;simp only;by_cases e:w=x
 ·rw[Oe e]at h5;omega
 ·rw[Ot e]at h5;omega
theorem HL(h:((Oy n).map λi=>Vl.d (.int (i:Nat)))[j]?=some z):j<n/\z=.d (.int (j:Int)):=by
 have hj:j<n:=by simpa using(Ol.mp h).1
 rw[Ox,PN hj]at h;cases h;exact⟨hj,rfl⟩
theorem F_{a0 a1 x6:Option Vl}{x u:Int}{k:Nat}{ds:List Tri}(hl:ds.length<=1000)(hk:k<=2):∃x6',ia [a0,a1,some (.d (.int x)),some (.d (.int (k:Int))),some (.r S.length),some (.d (.int u)),x6] (S++[.lst (ds.map av)])=.ok (.nx,[a0,a1,some (.d (.int x)),some (.d (.int (k:Int))),some (.r S.length),some (.d (.int u)),x6']) (S++[.lst ((ds++(Oy (k+1)).flatMap (dM u x k)).map av)]):=by
 obtain⟨τ',S',e,x6',rfl,rfl⟩:=cx (show _=ia [a0,a1,some (.d (.int x)),some (.d (.int (k:Int))),some (.r S.length),some (.d (.int u)),x6] (S++[.lst (ds.map av)])from rfl) (S1:=S++[.lst (ds.map av)]) (items:=(Oy ((k:Int)+1).toNat).map λi=>Vl.d (.int (i:Nat))) (gd:=none) (by walk_at"mx";walk_at"mm")
  (λj τ S'=>∃x6',τ=[a0,a1,some (.d (.int x)),some (.d (.int (k:Int))),some (.r S.length),some (.d (.int u)),x6']/\S'=S++[.lst ((ds++(Oy j).flatMap (dM u x k)).map av)]) ⟨x6,rfl,by simp⟩ (by
   rintro j z τ S' hz ⟨x6',rfl,rfl⟩;obtain⟨hj,rfl⟩:=HL hz;have hf:=lF (l:=Oy j) (f:=dM u x k) (c:=1) λ_ _=>sy.2;rw[QY]at hf;have hb:(Ye av (ds++(Oy j).flatMap (dM u x k))).length<100000:=by rw[Oa,Pj];omega
   have sn:(Oy (j+1)).flatMap (dM u x k)=(Oy j).flatMap (dM u x k)++dM u x k j:=by
    rw[Te,Vy,R3,Ut,Qp]
   rw[sn,<-QZ];generalize ds++(Oy j).flatMap (dM u x k)=es at hb;unfold dM;by_cases hu:u=x
   ·rw[Oe hu];by_cases hq:j<k
    ·rw[Oe hq];refine⟨_,_,.nx,_,_,by walk_at"mx";rfl,by
      walk_at"mx";erw[Oi hu];erw[Oi (show(j:Int)<(k:Int) by omega)];erw[qI hb];rfl,.inl rfl,True.intro,some (.d (.int (j:Int))),rfl,?_⟩
     rw[OX];rfl
    ·rw[Ot hq,Qp];refine⟨_,_,.nx,_,_,by walk_at"mx";rfl,by
      walk_at"mx";erw[Oi hu];rw[Oo (show¬(j:Int)<(k:Int) by omega)];walk_at"mx",.inl rfl,True.intro,some (.d (.int (j:Int))),rfl,rfl⟩
   ·rw[Ot hu];refine⟨_,_,.nx,_,_,by walk_at"mx";rfl,by
     walk_at"mx";erw[Oo hu];erw[qI hb];rfl,.inl rfl,True.intro,some (.d (.int (j:Int))),rfl,?_⟩
    rw[OX];rfl)
 refine⟨x6',?_⟩;rw[e,show((Oy ((k:Int)+1).toNat).map λi=>Vl.d (.int (i:Nat))).length=k+1 by simp]
theorem xj{wss:List (List Int)}{ns:List Int}{n m x:Int}{k:Nat}(gs:br n m wss)(hm:m<=4)(h4:wss.length<=4)(gn:cj wss.length ns)(hk:k<=2):∃us:List Int,us.Nodup/\(∀w,w∈us↔∃i∈ns,w∈wss.getD i.toNat [])/\fG [.d (ah wss),.d (ae ns),.d (.int x),.d (.int (k:Int))] S=.ok (.d (if(cA us x k).length<13 then wiD (.row ns (cA us x k) [(k:Int)])else .non)) S:=by
 have gl:=gn.le;have hat:∀i∈ns,wss.getD i.toNat []∈wss:=λi hi=>by
  have:=gn.dom i hi;rw[Oc,gV (show i.toNat<wss.length by omega)];exact O5 _
 obtain⟨us,hnd,hmem,hlen,e0⟩:=sD (S:=S++[.lst []]) (vss:=ns.map λi=>wss.getD i.toNat []) (λws h=>by
  obtain⟨i,hi,rfl⟩:=Of.mp h;have g:=gs.all _ (hat i hi);exact⟨by have:=g.le;omega,g.rise.imp λh=>by omega⟩) (by rw[Oa];omega)
 refine⟨us,hnd,λw=>?_,?_⟩
 ·rw[hmem];constructor
  ·rintro⟨ws,h1,h2⟩;obtain⟨i,hi,rfl⟩:=Of.mp h1;exact⟨i,hi,h2⟩
  ·rintro⟨i,hi,h⟩;exact⟨_,Of.mpr ⟨i,hi,rfl⟩,h⟩
 unfold fG;rw[je];unfold mw;walk_at"mx";have e1:=cI (show _=mf [some (.d (ah wss)),some (.d (ae ns)),some (.d (.int x)),some (.d (.int (k:Int))),some (.r S.length),none,none] (S++[.lst []])from rfl) (xs:=ns.map D.int) (S1:=S++[.lst []]) (by walk_at"mx";rfl) (λd=>match d with | .int i=>ae (wss.getD i.toNat []) |z=>z) (by
  intro z hz S;obtain⟨i,hi,rfl⟩:=Of.mp hz;have:=gn.dom i hi;unfold ah;walk_at"mx";rw[aL (fi this.1 this.2)])
 rw[Oz]at e1;obtain⟨τ',S',e,x5,x6,rfl,rfl⟩:=cx (show _=mr [some (.d (ah wss)),some (.d (ae ns)),some (.d (.int x)),some (.d (.int (k:Int))),some (.r S.length),none,none] (S++[.lst []])from rfl) (S1:=S++[.lst []]) (items:=(us.map D.int).map Vl.d) (gd:=none) (by
   walk_at"mx";erw[e1];rw[show(ns.map ((λd:D=>match d with | .int i=>ae (wss.getD i.toNat []) |z=>z)∘D.int))=(ns.map λi=>wss.getD i.toNat []).map ae by rw[Oz];rfl,e0];walk_at"mx")
  (λj τ S'=>∃x5 x6,τ=[some (.d (ah wss)),some (.d (ae ns)),some (.d (.int x)),some (.d (.int (k:Int))),some (.r S.length),x5,x6]/\S'=S++[.lst ((cA (us.take j) x k).map av)]) ⟨none,none,rfl,rfl⟩ (by
   rintro j z τ S' hz ⟨x5,x6,rfl,rfl⟩;obtain⟨u,eu,rfl⟩:=xD hz;have hl:(cA (us.take j) x k).length<=1000:=by
    have h1:=lF (l:=us.take j) (f:=λu=>(Oy (k+1)).flatMap (dM u x k)) (c:=3) λu _=>by
     have:=lF (l:=Oy (k+1)) (f:=dM u x k) (c:=1) λ_ _=>sy.2;rw[QY]at this;omega
    have h2:(us.take j).length<=us.length:=by rw[Pd];omega
    unfold cA;omega
   obtain⟨x6',e2⟩:=F_ (S:=S) (a0:=some (.d (ah wss))) (a1:=some (.d (ae ns))) (x6:=x6) (x:=x) (u:=u) hl hk;refine⟨_,_,.nx,_,_,by walk_at"mx",e2,.inl rfl,True.intro,some (.d (.int u)),x6',rfl,?_⟩;rw[take_snoc eu];unfold cA;rw[Vy,R3,Ut,Qp])
 rw[show((us.map D.int).map Vl.d).length=us.length by simp,OD]at e;erw[e];erw[qt fm];rw[Oa];by_cases h:(cA us x k).length<13
 ·erw[Oe h,Oi (show((cA us x k).length:Int)<13 by omega)];erw[B3 fm];rw[eh];rfl
 ·erw[Ot h,Oo (show¬((cA us x k).length:Int)<13 by omega)];rw[eh]
theorem sd:zO f ns bs=d8 f (.man ns bs):=by
 show(bs.all λb=>_)=bs.all (inB (vls f ns));congr 1;funext b;show _=(decide (b.2.1<=((vls f ns).count b.1:Int))&&decide (((vls f ns).count b.1:Int)<=b.2.2));show(!(decide (((vls f ns).count b.1:Int)<b.2.1)||decide (b.2.2<((vls f ns).count b.1:Int))))=_;rw[Ph];simp only[Q0,Ts,Qj,OQ,O7];omega
theorem EK(gs:br n m wss)(gn:cj wss.length ns)(hf:f∈aW wss):∀v∈vls f ns,-9<=v/\v<=9:=by
 intro v hv;obtain⟨i,hi,rfl⟩:=Of.mp hv;have:=gn.dom i hi;exact(gs.all _ (jA this.1 this.2)).lim _ (rT hf this.1 this.2)
theorem Ho(hf:f∈aW wss):f.length=wss.length:=(la wss.length (Oj _) f (by rw[OD];exact hf)).1
theorem kP(gs:br n m wss)(h4:wss.length<=4)(g:bx wss.length wi)(hf:f∈aW wss):cF [.d (wiD wi),.d (ae f)] S=.ok (.d (.bl (d8 f wi))) S:=zg g h4 (Ho hf) (EK gs (gp g) hf)
theorem xU(h:f∈iA wss [wi]):f∈aW wss/\d8 f wi=true:=by
 obtain⟨h1,h2⟩:=OH.mp h;exact⟨h1,by simpa using h2⟩
theorem xK(h1:f∈aW wss)(h2:d8 f wi=true):f∈iA wss [wi]:=OH.mpr ⟨h1,by simpa using h2⟩
theorem ne_nil:oNe (.d (.lst [])) (.d (.lst [])) S=.ok (.d (.bl false)) S:=rfl
theorem eq_nil:oEq (.d (.lst [])) (.d (.lst [])) S=.ok (.d (.bl true)) S:=rfl
theorem Hh(gs:br 4 4 wss)(gr:bx wss.length (.row ns ds es))(go:bx wss.length (.man ns bs))(hs:∀f∈aW wss,d8 f (.row ns ds es)=d8 f (.man ns bs)) :
  eB [.d (ah wss),.d (wiD (.row ns ds es)),.d (wiD (.man ns bs)),.d (.lst ((aW wss).map ae))] S=.ok (.d (.bl true)) S:=by
 have h4:wss.length<=4:=by have:=gs.le;omega
 obtain⟨gn,gb⟩:=id go;have hd:∀d∈ds,0<=d.2.2/\d.2.2<=3:=λd h=>(gr.2.1.lim d h).2.2;unfold eB;rw[je];unfold jR;walk_at"mx";erw[k9 gr h4];erw[k9 go h4];rw[c9 (show _=jz [some (.d (ah wss)),some (.d (wiD (.row ns ds es))),some (.d (wiD (.man ns bs))),some (.d (.lst ((aW wss).map ae))),none,none] S from rfl) (d:=ae) (g:=λ_=>D.int 1) (xs:=aW wss) (S1:=S) (by walk_at"mx";rw[Oz];rfl) (λ_=>false) (by
  intro f hf S;walk_at"mx";erw[kP gs h4 gr hf];rw[kP gs h4 go hf,<-hs f hf];walk_at"mx") (λ_ _ h=>by cases h),show((aW wss).filter λ_=>false)=[] by simp]
 walk_at"mx";erw[ne_nil];rcases lV (S:=S) gs gr with⟨hno,hR,e⟩ |⟨f,hf,e⟩
 ·erw[e];rcases yh (S:=S++[.lst ((bo ds wss ns (ns.length+1)).map ae)]) gs (by decide) (by decide) gn gb with⟨M,hM,e2⟩ |⟨nm,ps,hR2,e2⟩
  ·have h1:=OH.mp (q_ gs gn gb hM);have h2:=xK (wi:=.row ns ds es) h1.1 (by rw[hs _ h1.1,<-sd];exact h1.2);rw[hno]at h2;cases h2
  ·have hpl:ps.length<=60:=by
    obtain⟨_,q2,q3⟩:=l7 hR2;have hnd:ps.Nodup:=q2.imp λz=>by omega
    have hbl:=gb.le;have hnl:=gn.le;cases nm with
    |true=>have:=bL hnd q3.1;omega
    |false=>
     have:=bL hnd q3.1;unfold aG at this;rw[Oa]at this;omega
   erw[show wiD (.man ns bs)=gc ns bs from rfl,e2];have hP:∀s∈bo ds wss ns (ns.length+1),s.length<=60:=λs h=>by have:=(El hd s h).1;omega
   generalize hp:bo ds wss ns (ns.length+1)=P at hR hP;erw[show dn (.pr (.str "no") S.length) (.d (.int 0)) (S++[.lst (P.map ae)])=.ok (.d (.str "no")) (S++[.lst (P.map ae)])from rfl];erw[Fo];erw[show dn (.pr (.str "no") S.length) (.d (.int 0)) (S++[.lst (P.map ae)])=.ok (.d (.str "no")) (S++[.lst (P.map ae)])from rfl];erw[show decide ((OS "no":Str)=OS "can")=false by decide];erw[show dn (.pr (.str "no") S.length) (.d (.int 1)) (S++[.lst (P.map ae)])=.ok (.r S.length) (S++[.lst (P.map ae)])from rfl];erw[Fc fm];erw[wK gs (by decide) (by decide) gr hP,hR];erw[EV];erw[ur gs (by decide) (by decide) gn gb hpl,hR2];rw[eh]
 ·erw[e];obtain⟨hf1,hf2⟩:=xU hf;rcases yh (S:=S) gs (by decide) (by decide) gn gb with⟨M,hM,e2⟩ |⟨nm,ps,hR2,e2⟩
  ·have h1:=OH.mp (q_ gs gn gb hM);erw[show wiD (.man ns bs)=gc ns bs from rfl,e2];erw[show dn (.d (.tup [.str "can",ae f])) (.d (.int 0)) S=.ok (.d (.str "can")) S from rfl];erw[Fo];erw[show dn (.d (.tup [.str "can",ae f])) (.d (.int 0)) S=.ok (.d (.str "can")) S from rfl];erw[show dn (.d (.tup [.str "can",ae f])) (.d (.int 1)) S=.ok (.d (ae f)) S from rfl];erw[show gc ns bs=wiD (.man ns bs)from rfl,kP gs h4 go hf1,<-hs f hf1,hf2];erw[EV];erw[kP gs h4 gr h1.1,hs _ h1.1,<-sd,h1.2];rw[ao]
  ·exact(AV hR2 (zb gn gb (OH.mpr ⟨hf1,by rw[sd,<-hs f hf1];exact hf2⟩))).elim
theorem Gx(hC:xLC it 1 (gNm 0) t e τ S=r)(hit:it τ S=.ok ⟨items,none⟩ S1)(hs:∀z∈items,∀Q:Sto,∃J,t (some z::τ) (S1++.lst []::Q)=.ok false (S1++.lst []::(Q++J))):∃Q,r=.ok (.d (.lst [])) (S1++Q):=by
 have key:∀(zs:List Vl)(Q:Sto)(o:Option Vl),(∀z∈zs,z∈items)->∃Q',eM (gNm 0) t e S1.length none zs [] (o::τ) (S1++.lst []::Q)=.ok [] (S1++.lst []::Q'):=by
  intro zs
  induction zs with
  |nil=>
   intro Q o _;exact⟨Q,by rw[eM,Oe (by simp)]⟩
  |cons z zs ih=>
   intro Q o h;obtain⟨J,e1⟩:=hs z (h z (.head _)) Q;obtain⟨Q',e2⟩:=ih (Q++J) (some z) λy hy=>h y (.tail _ hy);refine⟨Q',?_⟩;rw[eM,show gNm 0 z (o::τ) (S1++.lst []::Q)=.ok (some z::τ) (S1++.lst []::Q)from oh,aC,e1,aC,Ot OF,Oe (show gok none (S1++.lst []::(Q++J))from True.intro)];exact e2
 obtain⟨Q',e1⟩:=key items [] none λ_ h=>h;rw[<-hC];show∃Q,pO lE it 1 (gNm 0) t e τ S=_;unfold pO;rw[hit,aC];show∃Q,(eM (gNm 0) t e S1.length none items [] (none::τ) (S1++[.lst []])).bind _=_;rw[e1,aC];unfold lE;by_cases hl:(S1++Ob.lst []::Q').length=S1.length+1
 ·exact⟨[],by rw[Oe hl,Sa,Qp]⟩
 ·exact⟨.dead::Q',by rw[Ot hl];simp⟩
theorem E5:dW xs (some 1) none=xs.drop 1:=DW (k:=1)
theorem Nk:oSl (.d (.tup xs)) (some 1) none S=.ok (.d (.tup (xs.drop 1))) S:=by rw[FH,E5]
theorem EC{wss:List (List Int)}{ns es es':List Int}{ds ds':List Tri}(g:bx wss.length (.row ns ds es))(h1:ds'.Sublist ds)(h2:es'.Sublist es):bx wss.length (.row ns ds' es'):=by
 obtain⟨gn,gd,g1,g2,g3⟩:=g;exact⟨gn,⟨PC h1.length_le gd.le,gd.nd.sublist h1,λd h=>gd.lim d (h1.subset h)⟩,g1.sublist h2,λe h=>g2 e (h2.subset h),PC h2.length_le g3⟩
theorem Hc(h:iA wss [.row ns ds es]=[])(h1:ds'.Sublist ds)(h2:es'.Sublist es):iA wss [.row ns ds' es']=[]:=by
 cases q:iA wss [.row ns ds' es']with
 |nil=>rfl
 |cons f l=>
  obtain⟨a,b⟩:=xU (wss:=wss) (f:=f) (wi:=.row ns ds' es') (by rw[q];exact .head _);have:=xK a (EI (λd hd=>h1.subset hd) (λe he=>h2.subset he) b);rw[h]at this;cases this
theorem HA(gs:br 4 4 wss)(g:bx wss.length (.row ns ds es)):eA [.d (ah wss),.d (wiD (.row ns ds es))] S=.ok (.d (.bl true)) S:=by
 have r1:wiD (.row ns (ds.drop 1) es)=.tup [.str "row",ae ns,.tup ((ds.map av).drop 1),ae es]:=by rw[<-Vp];rfl
 have r2:wiD (.row ns ds (es.drop 1))=.tup [.str "row",ae ns,.tup (ds.map av),.tup ((es.map D.int).drop 1)]:=by rw[<-Vp];rfl
 have w1:∀S,oIx (.d (wiD (.row ns ds es))) (.d (.int 1)) S=.ok (.d (ae ns)) S:=λ_=>aL rfl;have w2:∀S,oIx (.d (wiD (.row ns ds es))) (.d (.int 2)) S=.ok (.d (.tup (ds.map av))) S:=λ_=>aL rfl;have w3:∀S,oIx (.d (wiD (.row ns ds es))) (.d (.int 3)) S=.ok (.d (ae es)) S:=λ_=>aL rfl;unfold eA;rw[bO];unfold j5;walk_at"mx";erw[w1];erw[w2];erw[E5,w3];erw[w1];erw[w2];erw[w3];erw[show oSl (.d (ae es)) (some 1) none S=.ok (.d (.tup ((es.map D.int).drop 1))) S from Nk];rw[<-r1,<-r2];rcases lV (S:=S) gs g with⟨hno,hR,e⟩ |⟨f,hf,e⟩
 ·erw[e];generalize hP:S++[Ob.lst ((bo ds wss ns (ns.length+1)).map ae)]=SP;erw[show dn (.pr (.str "no") S.length) (.d (.int 0)) SP=.ok (.d (.str "no")) SP from rfl];erw[show decide ((OS "no":Str)=OS "can")=false by decide];obtain⟨Q,e2⟩:=Gx (show _=jC [some (.d (ah wss)),some (.d (wiD (.row ns ds es))),some (.d (.lst [wiD (.row ns (ds.drop 1) es),wiD (.row ns ds (es.drop 1))]))] SP from rfl) (S1:=SP) (items:=[.d (wiD (.row ns (ds.drop 1) es)),.d (wiD (.row ns ds (es.drop 1)))]) (by walk_at"mx") (by
   intro z hz Q;have go:∀(ds':List Tri)(es':List Int),ds'.Sublist ds->es'.Sublist es->∃J,aA (xOp oEq (xOp dn (ai cV (ab (aa 1) (ab (aa 0) af))) (xC (.int 0))) (xC (.str "can"))) (some (.d (wiD (.row ns ds' es'))) :: [some (.d (ah wss)),some (.d (wiD (.row ns ds es))),some (.d (.lst [wiD (.row ns (ds.drop 1) es),wiD (.row ns ds (es.drop 1))]))]) (SP++.lst []::Q)=.ok false (SP++.lst []::(Q++J)):=by
    intro ds' es' h1 h2;rcases lV (S:=SP++.lst []::Q) gs (EC g h1 h2)with⟨_,_,e⟩ |⟨f,hf,_⟩
    ·refine⟨[.lst ((bo ds' wss ns (ns.length+1)).map ae)],?_⟩;walk_at"mx";erw[e];erw[show∀(n:Nat)(T:Sto),dn (.pr (.str "no") n) (.d (.int 0)) T=.ok (.d (.str "no")) T fromλ_ _=>rfl];rw[show decide ((OS "no":Str)=OS "can")=false by decide];simp
    ·rw[Hc hno h1 h2]at hf;cases hf
   rcases Ow.mp hz with rfl |hz
   ·exact go _ _ (We 1 ds) (Wf _)
   ·rw[Og.mp hz];exact go _ _ (Wf _) (We 1 es))
  erw[e2];erw[eq_nil];rw[<-hP,QZ,eh]
 ·erw[e];erw[show dn (.d (.tup [.str "can",ae f])) (.d (.int 0)) S=.ok (.d (.str "can")) S from rfl];rw[ao]
theorem yc(hl:0<=l/\l<=3)(hx:0<=x/\x<=3):0<=swp l x/\swp l x<=3:=by
 unfold swp;by_cases h1:x=l
 ·rw[Oe h1];omega
 ·rw[Ot h1];by_cases h2:x=0
  ·rw[Oe h2];omega
  ·rw[Ot h2];omega
theorem B8(g:bx k (.row ns ds [l])):bx k (.row ns.reverse (eY (swp l) ds) [l]):=by
 obtain⟨gn,gd,g1,g2,g3⟩:=g;have hl:=g2 l (.head _);refine⟨⟨λn hn=>gn.dom n (List.mem_reverse.mp hn),by rw[Sr];exact gn.pos,by rw[Sr];exact gn.le,(List.reverse_perm ns).nodup_iff.mpr gn.nd⟩,⟨by unfold eY;rw[Oa];exact gd.le,?_,?_⟩,g1,g2,g3⟩
 ·refine qW gd.nd λa _ b _ e=>?_;obtain⟨a1,a2,a3⟩:=a;obtain⟨b1,b2,b3⟩:=b;have e1:swp l a3=swp l b3:=Pq (·.1) e;have e2:a2=b2:=Pq (·.2.1) e;have e3:swp l a1=swp l b1:=Pq (·.2.2) e;have e4:=Pq (swp l) e1;have e5:=Pq (swp l) e3;rw[oD,oD]at e4 e5;rw[e2,e4,e5]
 ·intro d hd;obtain⟨a,ha,rfl⟩:=Of.mp hd;have:=gd.lim a ha;exact⟨yc hl this.2.2,this.2.1,yc hl this.1⟩
noncomputable def J2(l:Int):List D:=[.tup [.int 0,.int 0],.tup [.int 1,.int 1],.tup [.int 2,.int 2],.tup [.int 3,.int 3],.tup [.int 0,.int l],.tup [.int l,.int 0]]
noncomputable def yY(l:Int):List (Key×D):=cu [] [(.inl 0,.int 0),(.inl 1,.int 1),(.inl 2,.int 2),(.inl 3,.int 3),(.inl 0,.int l),(.inl l,.int 0)]
theorem Aw(hl:0<=l/\l<=3)(hq:0<=q/\q<=3):cY (yY l) (.inl q)=some (.int (swp l q)):=by
 have a:l=0\/l=1\/l=2\/l=3:=by omega
 have b:q=0\/q=1\/q=2\/q=3:=by omega
 rcases a with rfl |rfl |rfl |rfl<;>rcases b with rfl |rfl |rfl |rfl<;>rfl
theorem K6:fDL [.d (.lst (J2 l))] S=.ok (.r S.length) (S++[.dct (yY l)]):=rfl
theorem Cn(gs:br 4 4 wss)(g:bx wss.length (.row ns ds es)):dw [.d (ah wss),.d (wiD (.row ns ds es)),.d (.lst ((aW wss).map ae))] S=.ok (.d (.bl true)) S:=by
 have h4:wss.length<=4:=by have:=gs.le;omega
 have w1:∀S,oIx (.d (wiD (.row ns ds es))) (.d (.int 1)) S=.ok (.d (ae ns)) S:=λ_=>aL rfl;have w2:∀S,oIx (.d (wiD (.row ns ds es))) (.d (.int 2)) S=.ok (.d (.tup (ds.map av))) S:=λ_=>aL rfl;have w3:∀S,oIx (.d (wiD (.row ns ds es))) (.d (.int 3)) S=.ok (.d (ae es)) S:=λ_=>aL rfl;unfold dw;rw[bZ];unfold ir;walk_at"mx";erw[w3];erw[b8];by_cases h1:es.length=1
 ·obtain⟨l,rfl⟩:=List.length_eq_one_iff.mp h1;have hl:=g.2.2.2.1 l (.head _);erw[show decide ((([l]:List Int).length:Int)=1)=true from rfl];erw[w3];erw[show oIx (.d (ae [l])) (.d (.int 0)) S=.ok (.d (.int l)) S from aL rfl];erw[c9 (show _=ip [some (.d (ah wss)),some (.d (wiD (.row ns ds [l]))),some (.d (.lst ((aW wss).map ae))),some (.d (.int l)),none,none,none] S from rfl) (d:=λi:Nat=>D.int (i:Int)) (g:=λi=>D.tup [.int (i:Int),.int (i:Int)]) (xs:=Oy 4) (S1:=S) (by walk_at"mx";walk_at"mm";rfl) (λ_=>true) (λ_ _ _=>rfl) (λi _ _ S=>by walk_at"mx")];erw[v7 (by show(6:Nat)<=100000;decide),show((Oy 4).filter λ_=>true).map (λi:Nat=>D.tup [.int (i:Int),.int (i:Int)])++[.tup [.int 0,.int l],.tup [.int l,.int 0]]=J2 l from rfl];erw[K6];erw[ou (R:=[])];have e2:eO [some (.d (ah wss)),some (.d (wiD (.row ns ds [l]))),some (.d (.lst ((aW wss).map ae))),some (.d (.int l)),some (.fd (yY l)),none,none] (S++[.dead])=.ok (.d (.lst ((eY (swp l) ds).map av))) (S++[.dead]):=by
   unfold eO;rw[lcG (items:=(ds.map av).map Vl.d) (S1:=S++[.dead]) (by walk_at"mx";rw[w2];walk_at"mx") (λz=>match z with | .d (.tup [a,b,c])=>[some (.d a),some (.d b),some (.d c)] |_=>[none,none,none]) (λz=>match z with | .d (.tup [.int a,b,.int c])=>.tup [.int (swp l c),b,.int (swp l a)] |_=>.non) (λ_=>true) ?_ ?_ ?_ ?_]
   ·rw[PQ.mpr (λ_ _=>rfl),Oz,Oz];unfold eY;rw[Oz];rfl
   ·intro z hz;obtain⟨x,hx,rfl⟩:=Of.mp hz;obtain⟨b,hb,rfl⟩:=Of.mp hx;rfl
   ·intro z hz y hρ S;obtain⟨x,hx,rfl⟩:=Of.mp hz;obtain⟨b,hb,rfl⟩:=Of.mp hx
    match y,hρ with
    | [_,_,_],_=>
     unfold av;walk_at"mx"
   ·intro z hz S;rfl
   ·intro z hz _ S;obtain⟨x,hx,rfl⟩:=Of.mp hz;obtain⟨b,hb,rfl⟩:=Of.mp hx;have hd:=g.2.1.lim b hb;unfold av;dsimp only;walk_at"mx";erw[pk (k:=.inl b.2.2) rfl (Aw hl hd.2.2)];erw[pk (k:=.inl b.1) rfl (Aw hl hd.1)]
  erw[e2];erw[w1];erw[show vZ (.d (ae ns)) (.d (.int (-1))) (S++[.dead])=.ok (.d (ae ns.reverse)) (S++[.dead]) by unfold ae;rw[ET,WC]];rw[show D.tup [.str "row",ae ns.reverse,.tup ((eY (swp l) ds).map av),.tup [.int l]]=wiD (.row ns.reverse (eY (swp l) ds) [l])from rfl];have gt:=B8 g;rw[c9 (show _=iq [some (.d (ah wss)),some (.d (wiD (.row ns ds [l]))),some (.d (.lst ((aW wss).map ae))),some (.d (.int l)),some (.fd (yY l)),some (.d (.tup ((eY (swp l) ds).map av))),some (.d (wiD (.row ns.reverse (eY (swp l) ds) [l])))] (S++[.dead])from rfl) (d:=ae) (g:=λ_=>D.int 1) (xs:=aW wss) (S1:=S++[.dead]) (by walk_at"mx";rw[Oz];rfl) (λ_=>false) (by
   intro f hf S;walk_at"mx";erw[kP gs h4 g hf];rw[kP gs h4 gt hf,Au];walk_at"mx") (λ_ _ h=>by cases h),show((aW wss).filter λ_=>false)=[] by simp]
  walk_at"mx";erw[eq_nil];rw[eh]
 ·erw[show decide ((es.length:Int)=1)=false from Oo ⋯];rw[ao]
theorem KC{R:Sto}(hp:Pen o)(gs:br 4 4 wss):∃(o':Ob)(y10 y11:Option Vl),Pen o'/\wz [x0,some (.r 0),x2,some (.d (ah wss)),some (.d (.lst ((aW wss).map ae))),x5,x6,x7,x8,x9,x10,x11] (o::R)=.ok (.nx,[x0,some (.r 0),x2,some (.d (ah wss)),some (.d (.lst ((aW wss).map ae))),x5,x6,x7,x8,x9,y10,y11]) (o'::R):=by
 obtain⟨τ',S',e,o',y10,y11,hp',rfl,rfl⟩:=cx (show _=wz [x0,some (.r 0),x2,some (.d (ah wss)),some (.d (.lst ((aW wss).map ae))),x5,x6,x7,x8,x9,x10,x11] (o::R)from rfl) (S1:=o::R) (items:=(Oy 2).map λi=>Vl.d (.int (i:Nat))) (gd:=none) (by walk_at"mm";rfl)
  (λi τ S'=>∃(o':Ob)(y10 y11:Option Vl),Pen o'/\τ=[x0,some (.r 0),x2,some (.d (ah wss)),some (.d (.lst ((aW wss).map ae))),x5,x6,x7,x8,x9,y10,y11]/\S'=o'::R) ⟨o,x10,x11,hp,rfl,rfl⟩ (by
   rintro i z τ S' hz ⟨o',y10,y11,hp',rfl,rfl⟩;obtain⟨hi,rfl⟩:=gE hz;obtain⟨ns,ds,es,o1,gw,hp1,e1⟩:=CO (R:=R) hp' gs (by decide) (by decide);exact⟨_,_,.nx,_,_,by walk_at"mx";rfl,by
    walk_at"mx";erw[e1];erw[HA gs gw];erw[Cn gs gw];rfl,.inl rfl,True.intro,o1,_,_,hp1,rfl,rfl⟩)
 exact⟨o',y10,y11,hp',e⟩
theorem DX(sc:List Int):zN [.sc sc] []=.ok (.d (.bl true)) []:=by
 unfold zN;rw[bf];unfold Bh;obtain⟨o,hp,e0⟩:=GJ sc;walk_at"mx";erw[e0];obtain⟨τ',S',e,o',x2,x3,x4,x5,x6,x7,x8,x9,x10,x11,hp',rfl,rfl⟩:=cx (show _=AQ [some (.sc sc),some (.r 0),none,none,none,none,none,none,none,none,none,none] [o]from rfl) (S1:=[o]) (items:=(Oy 2).map λi=>Vl.d (.int (i:Nat))) (gd:=none) (by walk_at"mm";rfl)
  (λi τ S'=>∃(o':Ob)(x2 x3 x4 x5 x6 x7 x8 x9 x10 x11:Option Vl),Pen o'/\τ=[some (.sc sc),some (.r 0),x2,x3,x4,x5,x6,x7,x8,x9,x10,x11]/\S'=[o']) ⟨o,none,none,none,none,none,none,none,none,none,none,hp,rfl,rfl⟩ (by
   rintro i z τ S' hz ⟨o',x2,x3,x4,x5,x6,x7,x8,x9,x10,x11,hp',rfl,rfl⟩;obtain⟨hi,rfl⟩:=gE hz;obtain⟨o1,hp1,e1⟩:=Gq (R:=[]) hp';obtain⟨wss,o2,gs,hp2,e2⟩:=CN (R:=[]) (names:=4) (most:=4) hp1 (by decide) (by decide) (by decide) (by decide);have h4:wss.length<=4:=by have:=gs.le;omega
   have e3:=t9 (S:=[o2]) (wss:=wss) (λws hw=>by have:=(gs.all ws hw).le;omega) h4;obtain⟨ns,o4,gn,hp4,e4⟩:=ml (R:=[]) (wss:=wss) hp2 gs.pos ⋯;obtain⟨x,o5,hx,hp5,e5⟩:=xP (R:=[]) hp4 gs (by decide) (by decide);obtain⟨k',o6,k0,k1,hp6,e6⟩:=aZ (R:=[]) (m:=3) hp5 (by decide) (by decide);obtain⟨k,rfl⟩:=Q6 k0;obtain⟨us,hnd,hmem,e7⟩:=xj (S:=[o6]) (x:=x) (k:=k) gs (by decide) h4 gn ⋯;have hlim:∀u∈us,-9<=u/\u<=9:=λu hu=>by
    obtain⟨j,hj,hw⟩:=(hmem u).mp hu;have:=gn.dom j hj;exact(gs.all _ (jA this.1 this.2)).lim u hw
   have go:bx wss.length (.man ns [(x,(k:Int),(k:Int))]):=⟨gn,⟨by simp,by simp,λb hb=>by
    rw[Og.mp hb];exact⟨hx,by simp only;omega,UW _,by simp only;omega⟩⟩⟩
   obtain⟨o8,y10,y11,hp8,e8⟩:=KC (R:=[]) (x0:=some (.sc sc)) (x2:=some (.d (.int (i:Nat)))) (x5:=some (.d (ae ns))) (x6:=some (.d (.int x))) (x7:=some (.d (.int (k:Int)))) (x8:=some (.d (if(cA us x k).length<13 then wiD (.row ns (cA us x k) [(k:Int)])else .non))) (x9:=some (.d (wiD (.man ns [(x,(k:Int),(k:Int))])))) (x10:=x10) (x11:=x11) hp6 gs;refine⟨_,_,.nx,_,_,by walk_at"mx";rfl,?_,.inl rfl,True.intro,o8,some (.d (.int (i:Nat))),some (.d (ah wss)),some (.d (.lst ((aW wss).map ae))),some (.d (ae ns)),some (.d (.int x)),some (.d (.int (k:Int))),some (.d (if(cA us x k).length<13 then wiD (.row ns (cA us x k) [(k:Int)])else .non)),some (.d (wiD (.man ns [(x,(k:Int),(k:Int))]))),y10,y11,hp8,rfl,rfl⟩;walk_at"mx";erw[e1];erw[e2];erw[e3];erw[e4];erw[e5];erw[e6];erw[e7];rw[show D.tup [.str "many",ae ns,.tup [.tup [.int x,.int (k:Int),.int (k:Int)]]]=wiD (.man ns [(x,(k:Int),(k:Int))])from rfl];by_cases hc:(cA us x k).length<13
   ·rw[Oe hc]at e8 ⊢;erw[show iL (.d (wiD (.row ns (cA us x k) [(k:Int)]))) (.d .non) [o6]=.ok (.d (.bl true)) [o6]from rfl];rw[Hh gs (Di gn hnd hlim ⋯ hc) go λf hf=>CC λv hv=>by
     obtain⟨j,hj,rfl⟩:=Of.mp hv;have:=gn.dom j hj;exact(hmem _).mpr ⟨j,hj,rT hf this.1 this.2⟩]
    walk_at"mx";exact e8
   ·rw[Ot hc]at e8 ⊢;erw[show iL (.d .non) (.d .non) [o6]=.ok (.d (.bl false)) [o6]from rfl];exact e8)
 erw[e];rw[bh];rfl
noncomputable def top(i:Nat):Stmt:=Tt.main.body.getD i (.Pass ⟨0,0,0,0⟩)
structure Txt(K:Oh)(mg:Str->Option Value):Prop where
 is_whole:Df K mg "is_whole" (top 5)
 is_within:Df K mg "is_within" (top 6)
 are_within:Df K mg "are_within" (top 7)
 are_rising:Df K mg "are_rising" (top 8)
 are_unlike:Df K mg "are_unlike" (top 9)
 are_some_of:Df K mg "are_some_of" (top 10)
 is_span:Df K mg "is_span" (top 11)
 are_names:Df K mg "are_names" (top 12)
 is_bound:Df K mg "is_bound" (top 13)
 are_bounds:Df K mg "are_bounds" (top 14)
 is_door:Df K mg "is_door" (top 15)
 are_doors:Df K mg "are_doors" (top 16)
 is_many:Df K mg "is_many" (top 17)
 is_row:Df K mg "is_row" (top 19)
 is_of_its_kind:Df K mg "is_of_its_kind" (top 21)
 many_holds:Df K mg "many_holds" (top 22)
 row_holds:Df K mg "row_holds" (top 24)
 holds:Df K mg "holds" (top 27)
 are_worths:Df K mg "are_worths" (top 29)
 is_stand:Df K mg "is_stand" (top 30)
 is_wish:Df K mg "is_wish" (top 31)
 filling_with:Df K mg "filling_with" (top 32)
 fulfils:Df K mg "fulfils" (top 33)
 is_wish_of:Df K mg "is_wish_of" (top 34)
 need_stand:Df K mg "need_stand" (top 35)
 need_wish:Df K mg "need_wish" (top 36)
 need:Df K mg "need" (top 37)
 need_kind:Df K mg "need_kind" (top 38)
 step_on:Df K mg "step_on" (top 40)
 walk_can:Df K mg "walk_can" (top 41)
 leads_within:Df K mg "leads_within" (top 42)
 walk_paper:Df K mg "walk_paper" (top 43)
 doors_onward:Df K mg "doors_onward" (top 45)
 is_end_of_row:Df K mg "is_end_of_row" (top 46)
 row_can:Df K mg "row_can" (top 47)
 row_paper:Df K mg "row_paper" (top 48)
 worths_of:Df K mg "worths_of" (top 50)
 seated_at:Df K mg "seated_at" (top 51)
 has_room:Df K mg "has_room" (top 52)
 make_room:Df K mg "make_room" (top 53)
 find_seat:Df K mg "find_seat" (top 54)
 seat_all:Df K mg "seat_all" (top 55)
 lows_of:Df K mg "lows_of" (top 57)
 highs_of:Df K mg "highs_of" (top 58)
 can_spare:Df K mg "can_spare" (top 59)
 bring_one:Df K mg "bring_one" (top 60)
 fill_up:Df K mg "fill_up" (top 61)
 many_can:Df K mg "many_can" (top 62)
 are_too_many:Df K mg "are_too_many" (top 63)
 has_one_of:Df K mg "has_one_of" (top 64)
 are_too_short:Df K mg "are_too_short" (top 65)
 many_paper:Df K mg "many_paper" (top 66)
 l_spread:Df K mg "_law_spread" (top 68)
 l_open:Df K mg "_law_open" (top 69)
 l_anew:Df K mg "_law_anew" (top 70)
 l_take:Df K mg "_law_take" (top 71)
 l_worths:Df K mg "_law_worths" (top 72)
 l_stand:Df K mg "_law_stand" (top 73)
 l_some_names:Df K mg "_law_some_names" (top 74)
 l_near_worth:Df K mg "_law_near_worth" (top 75)
 l_doors:Df K mg "_law_doors" (top 77)
 l_wish_of:Df K mg "_law_wish_of" (top 78)
 l_fillings:Df K mg "_law_fillings" (top 79)
 l_worths_of:Df K mg "_law_worths_of" (top 80)
 l_counting:Df K mg "_law_counting" (top 81)
 l_pair_right:Df K mg "_law_pair_right" (top 82)
 l_less_right:Df K mg "_law_less_right" (top 83)
 l_turned_right:Df K mg "_law_turned_right" (top 84)
 law:Df K mg "law" (top 85)
 z_ValueError:mg "ValueError"=none
 z_all:mg "all"=none
 z_any:mg "any"=none
 z_bool:mg "bool"=none
 z_dict:mg "dict"=none
 z_enumerate:mg "enumerate"=none
 z_int:mg "int"=none
 z_isinstance:mg "isinstance"=none
 dQ:mg "len"=none
 z_list:mg "list"=none
 z_max:mg "max"=none
 z_min:mg "min"=none
 z_range:mg "range"=none
 z_set:mg "set"=none
 z_sorted:mg "sorted"=none
 z_sum:mg "sum"=none
 z_tuple:mg "tuple"=none
 z_zip:mg "zip"=none
theorem qF:bootBuiltins "all"=some (.builtin "all"):=by decide+kernel
theorem Ag:bootBuiltins "any"=some (.builtin "any"):=by decide+kernel
theorem Ht:bootBuiltins "bool"=some (.type "bool"):=by decide+kernel
theorem yw:bootBuiltins "dict"=some (.type "dict"):=by decide+kernel
theorem Iw:bootBuiltins "int"=some (.type "int"):=by decide+kernel
theorem kH:bootBuiltins "len"=some (.builtin "len"):=by decide+kernel
theorem kL:bootBuiltins "list"=some (.type "list"):=by decide+kernel
theorem K9:bootBuiltins "max"=some (.builtin "max"):=by decide+kernel
theorem Kz:bootBuiltins "min"=some (.builtin "min"):=by decide+kernel
theorem A7:bootBuiltins "set"=some (.type "set"):=by decide+kernel
theorem gU:bootBuiltins "sorted"=some (.builtin "sorted"):=by decide+kernel
theorem Jv:bootBuiltins "sum"=some (.builtin "sum"):=by decide+kernel
theorem jm:bootBuiltins "tuple"=some (.type "tuple"):=by decide+kernel
theorem Jj:bootBuiltins "zip"=some (.type "zip"):=by decide+kernel
local macro_rules | `(tactic| exists $ts,*) => do
 let i := fun (s : String) => VZ s.toName
 let ts := ts.getElems
 let some cs := ts[0]!.raw.isStrLit? | Xa
 let T := ("rv $;aq _ _;ax;cJ;aJ _;bj # hr _;aI _ _;bc _;cy _ _;?;bD q;df q _;dz _ _ _;cM;dF _;lO hZ @ q _ _ _ _;a_ hV jv T.dQ kH _;I_ _ _;rt0;gK kJ kC _ _;cp wI,hu uW _ _;fF;ed _;HY _;dR;cK _;ja _;Dj _ _;sm _;RW.rt _;c8 _ _ _;gK HW uI,_ _ _;cp BF,hu A6 _ _;kz _;oq _ _;ll;gK Jl uI,_ _ _;nO rfl T.z_range _;BI _;jx T.z_isinstance T.z_tuple jm _;a_ jQ,rfl lN T.z_all qF _;dj gL iC T.z_tuple jm _;sJ _;uG _;yl _;Gw;Ke _;Li IS Ga _;fV wI,hu uW _ _;Iu _ _;Gp _;JJ _ _ ML F8;IL _ _;cp zU dZ,_ _ _;md hu _ _;cp Fz dZ,_ _ _;gK IH IM,_ _ _;BG _ _;CK qY dZ,_ qY dZ,_ _ _ _;fV zU dZ,_ _ _;fV u5,hu uP _ _;Hg;cp sf,hu sH _ _;E9 PySem.F.slot_list_extend PySem.F.type_list_extend GU BE _ _;Hb _;Ji _ _;Es;dj zx,rfl yB T.z_dict yw _;JN _ _ _;gK JV uI,_ _ _;a_ qD tW T.z_sorted gU _;HV;a_ sU,rfl wa T.z_any Ag _;GN hu _ _ _;Ck T.doors_onward;Ck T.is_end_of_row;fV Fz dZ,_ _ _;a_ Bk,rfl DQ T.z_sum Jv _;fV HJ HN _ _;IK _ _ _;dj zl zi T.z_list kL _;Eg rfl T.z_enumerate _;cp Mi dZ,_ _ _;gK F5 uI,_ _ _;ug rfl rfl T.z_list rfl T.z_range kL _;E9 PySem.F.slot_list_pop PySem.F.type_list_pop Ec Ea _ _;a_ Cf,rfl En T.z_min Kz _;a_ Ca,rfl Eh T.z_max K9 _;Ky _ _ _;jx T.z_isinstance T.z_int Iw _;jx T.z_isinstance T.z_bool Ht _;Ay _;Ls rfl rfl T.dQ rfl T.z_set kH A7 hu _;Bg rfl T.z_range _;fV qY dZ,_ _ _;LD PySem.F.slot_list_count PySem.F.type_list_count z_ CI _ _;cp u5,hu uP _ _;Dt qY dZ,_ qY dZ,_ _ _ _;Ez rfl T.z_enumerate _;fV Gv,hu Eu _ _;Nb _ _;LY rfl rfl T.z_sorted rfl T.z_set gU A7 _;fV qv,hu og _ _;LG hZ @ q _ _ _ _;dj rh,rfl rq T.z_list kL _;Im _ _;cp Ed Dn _ _".splitOn ";").toArray
 let mut r := #[]
 let mut n := 0
 let mut k := 0
 for g in (cs.drop 1).toString.splitOn " " do
  let mut st : Array Lean.Term := #[]
  let mut pg := 0
  let mut pr := ""
  for c in (if r.size == 0 then g else (g.drop 1).toString).toList do
   let mut w := #[]
   let mut x := 0
   if pr != "" then
    w := (pr.splitOn " ").toArray
    x := c.toNat - 48
    pr := ""
   else if c == '~' then
    pg := 91
    continue
   else
    let j := c.toNat
    let s := T[(if j > 92 then j - 35 else if j > 34 then j - 34 else 0) + pg]!
    pg := 0
    if s.contains '@' || s.contains '#' || s.contains '$' then
     pr := s
     continue
    w := (s.splitOn " ").toArray
   if w[0]! == "?" then
    st := st.push (← `(?$(i s!"h{n}")))
    n := n + 1
    continue
   let b := st.size - (w.filter (· == "_")).size
   let mut y := b
   let mut a : Array Lean.Term := #[]
   for z in w.toList.tail do
    if z == "_" then
     a := a.push st[y]!
     y := y + 1
    else if z == "@" then a := a.push ts[x]!
    else if z == "#" then a := a.push (← `($(ts[x]!) $(i "T")))
    else if z == "$" then a := a.push (Lean.quote x)
    else if z == "%" then a := a.push (← `(by decide))
    else if z == "_," then a := a.push (← `(_))
    else
     let l := z.splitOn ","
     let q ← l.tail.toArray.mapM fun x => if x == "_" then `(_) else if x == "%" then `(by decide) else pure (i x)
     a := a.push (← `($(i l.head!) $q*))
   let h ← if w[0]! == ".cons" then `(.cons) else if w[0]! == ".nil" then `(.nil) else pure (i w[0]!)
   st := (st.shrink b).push (← `($h $a*))
  if r.size == 0 then r := r.push (← `(tactic| refine' $(st[0]!)))
  else
   let q ← (("_ _ _ _ q;_ _ _ _".splitOn ";")[((g.take 1).toString.toNat!)]!.splitOn " ").toArray.mapM fun x => if x == "_" then `(_) else pure (i x)
   r := r.push (← `(tactic| (case $(i s!"h{k}"):ident => intro $q*; exact $(st[0]!))))
   k := k + 1
 let u ← `(tactic| have $(i "hu") := $(i "hr.units"))
 if cs.startsWith "x" then `(tactic| (refine fn_x $(ts[1]!) $(ts[2]!) fun _ _ _ _ _ _ _ _ $(i "hr") $(i "q") $(i "hx") $(i "hmk") => ?_; $u; $[$r];*))
 else `(tactic| (refine gh $(ts[1]!) $(ts[2]!) fun _ _ _ _ _ _ _ _ $(i "hr") $(i "q") => ?_; $u; $[$r];*))
section
variable{P:Program}{w:World}{K:Oh}{mg:Str->Option Value}
theorem Bs(T:Txt K mg):OkE P w K mg 1 "_law_open" ["script"] lx:=by
 exists "z!0`%Tg$#s-!0%T%Tgt,,O==P!1!2%A*!35!1!2%AUV&@!1M%%$###N)&((",["script","cells","k","cell"],T.l_open
theorem w4(T:Txt K mg):OkE P w K mg 1 "_law_spread" ["cell","at"] fP:=by
 exists "z!0%%hu!0)&/.!0%A%F!1%F5%5%A-!2!2F!1%F5!0%A5%A-!3!3F!2%F5%5%A-!2%F!35%F!45)&((((",["cell","at","one","two","three"],T.l_spread
theorem d9(T:Txt K mg):OkE P w K mg 2 "_law_take" ["pen","many"] aP:=by
 exists "z!0%*!1W!0%*-%-!2!0%*$#2W!0%*!2*-&!0%*$#2%Y!0%*!2%F%5!0%*$#2A*%%h!25A-&/.&.!2%5!0%UV!3!2$##'3!0%UV&((((/.!0%*!1A-!0%*!1v!0%UV!4)&(((",["pen","many","at","cell","found"],T.l_take,w4
theorem wQ(T:Txt K mg):OkE P w K mg 3 "_law_worths" ["pen","most","near"] iK:=by
 exists "z$N-%!0!1$##'35$#G,!2!0%$##'35-!0%$##'3%6!0%$##'3%Z-&/.!5!3a!3!5[>&/.&((@!3$#i$#K)&((",["pen","most","near","found","k","worth"],T.l_worths,d9
theorem zj(T:Txt K mg):OkE P w K mg 4 "_law_stand" ["pen","names","most"] jG:=by
 exists "z!0%$##'3%Z-%!0!1$##'35$#G+4+14$#K)&( 0, 1!1!3!4$###'5",["pen","names","most","near"],T.l_stand,d9,["name","pen","names","most","near"],wQ
theorem BK(T:Txt K mg):OkE P w K mg 1 "_law_anew" ["pen"] lG:=by
 exists "z%!0%UV!0)&(",["pen"],T.l_anew
theorem t6(T:Txt K mg):OkE P w K mg 1 "_law_fillings" ["stand"] fA:=by
 exists "z$8$#H-!00,$N-!10,!3!20+4+13b>&@!3M-&((@!1)&(( 0, 1!5!0$#85",["stand","found","worths","longer","filling"],T.l_fillings,["worth","stand","found","worths","longer","filling"]
theorem jI(T:Txt K mg):OkE P w K mg 3 "_law_some_names" ["pen","stand"] c7:=by
 exists "z!1$#2$#w-%!0!2$#2$##'35-!0%$##'3%Y!2$#2-&/.!3$#G+4+14$#K)&((( 0, 1!3!1!3$#2$##'3x",["pen","stand","left","many"],T.l_some_names,d9,["k","pen","stand","left","many"]
theorem jN(T:Txt K mg):OkE P w K mg 3 "_law_near_worth" ["pen","stand"] c_:=by
 exists "z!0%$##'3%6!0%$##'3%Z)&/.!1!0!1$#2$##'3*-!2!0!2$#2$##'3*%%%%%Q$#####H!0%$##'3*5-%Q%!3$##y$##z)&(((",["pen","stand","worths","worth"],T.l_near_worth,d9
theorem rX(T:Txt K mg):OkE P w K mg 1 "_law_worths_of" ["stand"] eW:=by
 exists "z$N-!00,!1!20+++13b>&@!1$#i)&(( 0, 1!0!2aL 1!0",["stand","found","worths"],T.l_worths_of,["worth","stand","found","worths"]
theorem t5(T:Txt K mg):OkE P w K mg 2 "_law_counting" ["stand","names","worth","many"] fG:=by
 exists "z$N-!10+4+14$#'30,!3%5$#G,!5!2B!4!6!5!6$###8[>&!6!3W!4!6!5!6%5$###8[>&/.&.&@&@!4$#2%W7!1!4$#K!3$#8$####8j{)&(( 0, 1!1!0*",["stand","names","worth","many","doors","one","q"],T.l_counting,rX,["name","stand","names","worth","many","doors","one","q"]
theorem xn(T:Txt K mg):OkE P w K mg 1 "is_whole" ["thing"] iz:=by
 exists "z!0|!0}~!93)&",["thing"],T.is_whole
theorem fH(T:Txt K mg):OkE P w K mg 2 "is_within" ["thing","low","high"] bQ:=by
 exists "z!0$#'3!1!0!2]93)&",["thing","low","high"],T.is_within,xn
theorem ib(T:Txt K mg):OkE P w K mg 3 "are_within" ["thing","low","high"] c5:=by
 exists "z!0I!00+4+13$#J93)& 0, 1!0!2!3$###'4",["thing","low","high"],T.are_within,["part","thing","low","high"],fH
theorem my(T:Txt K mg):OkE P w K mg 1 "are_unlike" ["things"] cL:=by
 exists "z!0~#!0$#2R)&",["things"],T.are_unlike
theorem wk(T:Txt K mg):OkE P w K mg 4 "are_names" ["thing"] gQ:=by
 exists "z!0%%$###'3%!0$#2%]!0$#'4933)&",["thing"],T.are_names,ib,my
theorem dG(T:Txt K mg):OkE P w K mg 1 "are_rising" ["things"] bI:=by
 exists "z%!0$#2$##~$+4+13$#J)& 0, 1!1!0%Z*!1!0*^",["things"],T.are_rising,["at","things"]
theorem zv(T:Txt K mg):OkE P w K mg 3 "is_span" ["low","high","least","most"] jB:=by
 exists "z!0!2!3$###'3!1!2!3$###'3!0!1~%933)&",["low","high","least","most"],T.is_span,fH
theorem xu(T:Txt K mg):OkE P w K mg 4 "is_bound" ["thing"] iF:=by
 exists "z!0I;<!0$#2%BCD?:)&/.!0%*%Q%$###'3!0%*!0%*%%$####'493)&(",["thing"],T.is_bound,fH,zv
theorem t7(T:Txt K mg):OkE P w K mg 5 "are_bounds" ["thing"] f6:=by
 exists "z!0I;<!0$#2%YCD?:)&/.!00+4+13$#J!00+4+13$#'493)&( 0, 1!0$#'5 0, 1!0%*",["thing"],T.are_bounds,["part","thing"],dG,xu
theorem yN(T:Txt K mg):OkE P w K mg 6 "is_many" ["wish"] jK:=by
 exists "z!0$#2%R!0%*$#'393)&",["wish"],T.is_many,t7
theorem zo(T:Txt K mg):OkE P w K mg 3 "is_door" ["thing"] j4:=by
 exists "z!0I;<!0$#2%BCD?:)&/.!0%*%%$###'3!0%*%Q%$###'3!0%*%%$###'3933)&(",["thing"],T.is_door,fH
theorem wy(T:Txt K mg):OkE P w K mg 4 "are_doors" ["thing"] gG:=by
 exists "z!0I;<!0$#2%YCD?:)&/.!00+4+13$#J!0$#'493)&( 0, 1!0$#'5",["thing"],T.are_doors,["part","thing"],my,zo
theorem AF(T:Txt K mg):OkE P w K mg 5 "is_row" ["wish"] lI:=by
 exists "z!0$#2%R!0%*$#'3!0%*%%$###'4!0%*$#'59333)&",["wish"],T.is_row,wy,ib,dG
theorem oG(T:Txt K mg):OkE P w K mg 7 "is_of_its_kind" ["wish"] dr:=by
 exists "z!0%*-!176E/.!176!0$#'3)&/.!176E/.!176!0$#'4)&/.E(((((",["wish","word"],T.is_of_its_kind,yN,AF
theorem qX(T:Txt K mg):OkE P w K mg 8 "is_wish" ["thing"] fw:=by
 exists "z!0I;<!0$#2%WCD?:)&/.!0%*$#'3!0$#'493)&(",["thing"],T.is_wish,wk,oG
theorem ok_many_holds(T:Txt K mg):OkE P w K mg 1 "many_holds" ["worths","bounds"] m_many_holds:=by
 exists "z!10+4+13$#J)& 0,,,O===P 1!1!3!0~&!2]",["worths","bounds"],T.many_holds,["worth","low","high","worths","bounds"]
theorem ok_row_holds(T:Txt K mg):OkE P w K mg 1 "row_holds" ["worths","doors","ends"] m_row_holds:=by
 exists "z%$#H-!00,!10+++13-&@!30+4+14$#k)&(( 0, 1!0%*!4~'!0%*!56cd?L 1!0%* 0, 1!0!3_",["worths","doors","ends","reached","worth"],T.row_holds,["door","worths","doors","ends","reached","worth"],["place","worths","doors","ends","reached","worth"]
theorem ok_holds(T:Txt K mg):OkE P w K mg 2 "holds" ["wish","worths"] m_holds:=by
 exists "z!0%*-!276E/.!276!1!0%*$##'3)&/.!276E/.!276!1!0%*!0%*$###'4)&/.E(((((",["wish","worths","word"],T.holds,ok_many_holds,ok_row_holds
theorem pS(T:Txt K mg):OkE P w K mg 3 "fulfils" ["wish","filling"] cF:=by
 exists "z!0!0%*0+4+14$##'3)& 0, 1!2!0*",["wish","filling"],T.fulfils,ok_holds,["name","wish","filling"]
theorem ua(T:Txt K mg):OkE P w K mg 4 "are_worths" ["thing"] gf:=by
 exists "z!0%Q%$###'3%!0$#2%]!0$#'4933)&",["thing"],T.are_worths,ib,dG
theorem w_(T:Txt K mg):OkE P w K mg 5 "is_stand" ["thing"] iu:=by
 exists "z!0I;<%!0$#2%~(<CD?:)&/.!00+4+13$#J)&( 0, 1!0$#'4",["thing"],T.is_stand,["part","thing"],ua
theorem uc(T:Txt K mg):OkE P w K mg 6 "need_stand" ["stand"] fC:=by
 exists "z!0$#'3;<e&/.&",["stand"],T.need_stand,w_
theorem uf(T:Txt K mg):OkE P w K mg 9 "is_wish_of" ["stand","thing"] f9:=by
 exists "z!1$#'3!1%*0+4+14$#J93)& 0, 1!0!1$#2^",["stand","thing"],T.is_wish_of,qX,["name","stand","thing"]
theorem wM(T:Txt K mg):OkE P w K mg 10 "need_wish" ["stand","wish","number"] gR:=by
 exists "z!0!1$##'3;<e&/.&",["stand","wish","number"],T.need_wish,uf
theorem HB(T:Txt K mg):OkE P w K mg 11 "need" ["stand","wish"] qj:=by
 exists "z!0$#'3>!0!1%$###'4>&(",["stand","wish"],T.need,uc,wM
theorem gg(T:Txt K mg):OkE P w K mg 12 "need_kind" ["stand","wish","word"] bJ:=by
 exists "z!0!1$##'3>!1%*!2Be&/.&(",["stand","wish","word"],T.need_kind,HB
theorem j3(T:Txt K mg):OkE P w K mg 1 "doors_onward" ["wish","at","place","worth"] b7:=by
 exists "z!0%*0+++13)& 0, 1!0%*!36!0%*!46cd?L 1!0%*",["wish","at","place","worth"],T.doors_onward,["door","wish","at","place","worth"]
theorem zB(T:Txt K mg):OkE P w K mg 2 "step_on" ["stand","wish","at","ways","onward"] jW:=by
 refine gh ["stand","wish","at","ways","onward","further","place","worth","reached"] T.step_on λ_ _ _ _ _ _ _ _ hr q=>?_;have hu:=hr.units;exact(aI (df q ow)
 (aI (c8 (nC (rv 3)) (bD q) (aJ (c8 (dF (cy (rv 0) (cy (cy (rv 1) cJ) (rv 2)))) (bD q) (aJ (c8 (dF (l5 (oA (j3 T) qK) hr (aq (rv 1) (aq (rv 2) (aq (rv 6) (aq (rv 7) ax)))))) (bD q) (aJ (kO hu (rv 5) (rv 8) (gK kJ kC (md hu (rv 3) (rv 6)) (ed (aq (rv 7) ax))))))))))
 (aJ (bc (uG (rv 5))))))
theorem jh(T:Txt K mg):OkE P w K mg 1 "is_end_of_row" ["wish","place"] bG:=by
 exists "z!1!0%*_)&",["wish","place"],T.is_end_of_row
theorem jV(T:Txt K mg):OkE P w K mg 1 "filling_with" ["stand","chosen"] bE:=by
 exists "z!0~)+4+13$#K)& 0,,O==P 1!3!0!1%*l",["stand","chosen"],T.filling_with,["name","worths","stand","chosen"]
theorem xt(T:Txt K mg):OkE P w K mg 3 "walk_can" ["stand","wish","onward","is_end"] du:=by
 refine gh ["stand","wish","onward","is_end","ways","paper","at","place"] T.walk_can λ_ _ _ _ _ _ _ _ hr q=>?_;have hu:=hr.units;exact(aI (df q (uG (GC (GZ cJ (ed ax) Ie))))
 (aI (df q (yl (aq (ed (aq cJ ax)) ax)))
 (aI (c8 (nO rfl T.z_range (aq (a_ hV jv T.dQ kH (aq (cy (rv 1) cJ) ax)) ax)) (bD q) (aI (df q (bj (zB T) hr (aq (rv 0) (aq (rv 1) (aq (rv 6) (aq (rv 4) (aq (rv 2) ax)))))))
 (aJ (sm (BG (rv 5) (dj gL iC T.z_tuple jm (aq (a_ (qy rfl) rn T.z_sorted gU (aq (rv 4) ax)) ax)))))))
 (aI (c8 (nC (rv 4)) (bD q) (aJ (dz (cK (l5 (oA (jh T) qK) hr (aq (rv 1) (aq (rv 7) ax)))) (aJ (bc (xB (aq fF (aq (bj (jV T) hr (aq (rv 0) (aq (uG (zp rfl rfl T.z_dict rfl T.z_zip yw Jj (aq (cy (rv 1) cJ) (aq (md hu (rv 4) (rv 7)) ax)))) ax))) ax))))) cM)))
 (aJ (bc (xB (aq fF (aq (rv 5) ax)))))))))
theorem p9(T:Txt K mg):OkE P w K mg 13 "row_can" ["stand","wish"] cV:=by
 exists "z!0!17$###'3>!0!1mn$####'4)&(",["stand","wish"],T.row_can,gg,xt
theorem fL(T:Txt K mg):OkE P w K mg 1 "seated_at" ["seats","worth"] cE:=by
 refine gh ["seats","worth"] T.seated_at λ_ _ _ _ _ _ _ _ hr q=>?_;have hu:=hr.units;refine'(aJ (bc (mQ 0 (lO hZ ["name","seats","worth"] q (nC (rv 0)) ?g0 ?t0 ?e0))))
 (case g0=>intro _ _ _ _ q;exact(bD q))
 (case t0=>intro _ _ _ _;exact(sJ (cp (wI hu) uW (md hu (rv 1) (rv 0)) (rv 2))))
 (case e0=>intro _ _ _ _;exact(rv 0))
theorem wY(T:Txt K mg):OkE P w K mg 2 "has_room" ["worth","highs","seats"] iB:=by
 exists "z!0!1~*!2!0$##'3$#2!1!0X^9~+)&",["worth","highs","seats"],T.has_room,fL
theorem h_(T:Txt K mg):∀n:Nat,OkE P w K mg (2+n+1) "make_room" ["stand","worth","highs","seats","asked"] (b9 n)/\OkE P w K mg (2+n+1) "find_seat" ["stand","name","highs","seats","asked"] (bC n)
 |0=>⟨gh ["stand","worth","highs","seats","asked","seated","name"] T.make_room λ_ _ _ _ _ _ _ _ hr q=>ll,gh ["stand","name","highs","seats","asked","worth"] T.find_seat λ_ _ _ _ _ _ _ _ hr q=>ll⟩
 |n+1=>by
  have ih:=h_ T n;have m6:=λ(_:Txt K mg)=>ih.1;have jt:=λ(_:Txt K mg)=>ih.2;refine⟨?_,?_⟩
  · refine gh ["stand","worth","highs","seats","asked","seated","name"] T.make_room λ_ _ _ _ _ _ _ _ hr q=>?_
    exact(aI (df q (bj (fL T) hr (aq (rv 3) (aq (rv 1) ax)) ⋯))
 (aI (c8 (dF (rv 5)) (bD q) (aJ (dz (cK (bj (jt T) hr (aq (rv 0) (aq (rv 6) (aq (rv 2) (aq (rv 3) (aq (rv 4) ax))))) ⋯)) (aJ (bc dR)) cM)))
 (aJ (bc dR))))
  · refine gh ["stand","name","highs","seats","asked","worth"] T.find_seat λ_ _ _ _ _ _ _ _ hr q=>?_
    have hu:=hr.units;exact(aI (c8 (dF (cy (rv 0) (rv 1))) (bD q) (aI (dz (cp (qv hu) og (rv 5) (rv 4)) (aJ xy) cM)
 (aI (kO hu (rv 4) (rv 5) dR)
 (aJ (dz (RW.rt (oq (cK (bj (wY T) hr (aq (rv 5) (aq (rv 2) (aq (rv 3) ax))) ⋯)) (kz (cK (bj (m6 T) hr (aq (rv 0) (aq (rv 5) (aq (rv 2) (aq (rv 3) (aq (rv 4) ax))))) ⋯))))) (aI (kO hu (rv 3) (rv 1) (rv 5))
 (aJ (bc dR))) cM)))))
 (aJ (bc dR)))
theorem m6(T:Txt K mg):OkE P w K mg 23 "make_room" ["stand","worth","highs","seats","asked"] (b9 20):=(h_ T 20).1
theorem jt(T:Txt K mg):OkE P w K mg 23 "find_seat" ["stand","name","highs","seats","asked"] (bC 20):=(h_ T 20).2
theorem wR(T:Txt K mg):OkE P w K mg 24 "seat_all" ["stand","names","highs","seats"] fE:=by
 refine gh ["stand","names","highs","seats","name","asked"] T.seat_all λ_ _ _ _ _ _ _ _ hr q=>?_;have hu:=hr.units;refine'(aI (c8 (dF (rv 1)) (bD q) (aI (df q ow)
 (aJ (dz (ja (cK (bj (jt T) hr (aq (rv 0) (aq (rv 4) (aq (rv 2) (aq (rv 3) (aq (rv 5) ax)))))))) (aJ (bc (dj gL iC T.z_tuple jm (aq (a_ qD tW T.z_sorted gU (aq (gK kJ kC (BI (aq (rv 4) ax)) (mQ 3 (lO hZ ["other","stand","names","highs","seats","name","asked"] q (nC (rv 3)) ?g0 ?t0 ?e0))) ax)) ax)))) cM))))
 (aJ (bc (ed ax))))
 (case g0=>intro _ _ _ _ q;exact(bD q))
 (case t0=>intro _ _ _ _;exact(sJ (cp (qv hu) og (md hu (rv 4) (rv 0)) (rv 6))))
 (case e0=>intro _ _ _ _;exact(rv 0))
theorem oQ(T:Txt K mg):OkE P w K mg 1 "highs_of" ["bounds"] fN:=by
 exists "z!00+4+13$#fM)& 0,,,O===P 1!0!2$##8",["bounds"],T.highs_of,["worth","low","high","bounds"]
theorem wB(T:Txt K mg):OkE P w K mg 2 "can_spare" ["worth","lows","seats"] gP:=by
 exists "z!2!0$##'3$#2!1!0%lo)&",["worth","lows","seats"],T.can_spare,fL
theorem mM(T:Txt K mg):∀n:Nat,OkE P w K mg (2+n+1) "bring_one" ["stand","worth","lows","seats","asked"] (cD n)
 |0=>gh ["stand","worth","lows","seats","asked","name","place"] T.bring_one λ_ _ _ _ _ _ _ _ hr q=>ll
 |n+1=>by
  have ih:=mM T n;have jk:=λ(_:Txt K mg)=>ih
  · refine gh ["stand","worth","lows","seats","asked","name","place"] T.bring_one λ_ _ _ _ _ _ _ _ hr q=>?_
    have hu:=hr.units;exact(aI (kO hu (rv 4) (rv 1) dR)
 (aI (c8 (dF (mQ 3 (dj (rh rfl) rq T.z_list kL (aq (rv 3) ax)))) (bD q) (aI (df q (md hu (rv 3) (rv 5)))
 (aI (dz (RW.rt (oq (cp (sf hu) sH (rv 1) (cy (rv 0) (rv 5))) (kz (cp (qv hu) og (rv 6) (rv 4))))) (aJ xy) cM)
 (aJ (dz (RW.rt (oq (cK (bj (wB T) hr (aq (rv 6) (aq (rv 2) (aq (rv 3) ax))) ⋯)) (kz (cK (bj (jk T) hr (aq (rv 0) (aq (rv 6) (aq (rv 2) (aq (rv 3) (aq (rv 4) ax))))) ⋯))))) (aI (kO hu (rv 3) (rv 5) (rv 1))
 (aJ (bc dR))) cM)))))
 (aJ (bc dR))))
theorem jk(T:Txt K mg):OkE P w K mg 23 "bring_one" ["stand","worth","lows","seats","asked"] (cD 20):=(mM T 20)
theorem yQ(T:Txt K mg):OkE P w K mg 24 "fill_up" ["stand","lows","seats"] gS:=by
 refine gh ["stand","lows","seats","worth","asked"] T.fill_up λ_ _ _ _ _ _ _ _ hr q=>?_;have hu:=hr.units;exact(aI (c8 (nC (rv 1)) (bD q) (aJ (DF (cp zU (dZ _) (a_ hV jv T.dQ kH (aq (bj (fL T) hr (aq (rv 2) (aq (rv 3) ax))) ax)) (md hu (rv 1) (rv 3))) (aI (df q ow)
 (aJ (dz (ja (cK (bj (jk T) hr (aq (rv 0) (aq (rv 3) (aq (rv 1) (aq (rv 2) (aq (rv 4) ax)))))))) (aJ (bc (dj gL iC T.z_tuple jm (aq (mQ 4 (a_ (qy rfl) rn T.z_sorted gU (aq (rv 4) ax))) ax)))) cM))))))
 (aJ (bc (ed ax))))
theorem p_(T:Txt K mg):OkE P w K mg 1 "lows_of" ["bounds"] g_:=by
 exists "z!00+4+13$#fM)& 0,,,O===P 1!0!1$##8",["bounds"],T.lows_of,["worth","low","high","bounds"]
theorem wV(T:Txt K mg):OkE P w K mg 25 "many_can" ["stand","wish"] fJ:=by
 refine gh ["stand","wish","seats","crowd","short"] T.many_can λ_ _ _ _ _ _ _ _ hr q=>?_;exact(aI (sm (bj (gg T) hr (aq (rv 0) (aq (rv 1) (aq fF ax)))))
 (aI (df q ow)
 (aI (df q (bj (wR T) hr (aq (rv 0) (aq (cy (rv 1) cJ) (aq (bj (oQ T) hr (aq (cy (rv 1) cJ) ax)) (aq (rv 2) ax))))))
 (aI (dz (cK (rv 3)) (aJ (bc (ed (aq fF (aq (ed (aq fF (aq (rv 3) ax))) ax))))) cM)
 (aI (df q (bj (yQ T) hr (aq (rv 0) (aq (bj (p_ T) hr (aq (cy (rv 1) cJ) ax)) (aq (rv 2) ax)))))
 (aI (dz (cK (rv 4)) (aJ (bc (ed (aq fF (aq (ed (aq fF (aq (rv 4) ax))) ax))))) cM)
 (aJ (bc (ed (aq fF (aq (mQ 2 (bj (jV T) hr (aq (rv 0) (aq (rv 2) ax)))) ax)))))))))))
theorem qT(T:Txt K mg):OkE P w K mg 2 "leads_within" ["stand","wish","at","paper","onward"] eE:=by
 refine gh ["stand","wish","at","paper","onward","place","worth"] T.leads_within λ_ _ _ _ _ _ _ _ hr q=>?_;have hu:=hr.units;refine'(aI (c8 (dF (cy (rv 3) (rv 2))) (bD q) (aJ (c8 (dF (cy (rv 0) (cy (cy (rv 1) cJ) (rv 2)))) (bD q) (aJ (dz (ja (cK (a_ (jQ rfl) lN T.z_all qF (aq (lO hZ ["reached","stand","wish","at","paper","onward","place","worth"] q (dF (l5 (oA (j3 T) qK) hr (aq (rv 1) (aq (rv 2) (aq (rv 5) (aq (rv 6) ax)))))) ?g0 rt0 ?e0) ax)))) (aJ (bc dR)) cM)))))
 (aJ (bc dR)))
 (case g0=>intro _ _ _ _ q;exact(bD q))
 (case e0=>intro _ _ _ _;exact(fV (u5 hu) uP (rv 0) (cy (rv 4) (gK kJ kC (rv 3) cJ))))
theorem tZ(T:Txt K mg):OkE P w K mg 3 "walk_paper" ["stand","wish","paper","onward","is_end"] fW:=by
 refine gh ["stand","wish","paper","onward","is_end","many"] T.walk_paper λ_ _ _ _ _ _ _ _ hr q=>?_;have hu:=hr.units;refine'(aI (df q (a_ hV jv T.dQ kH (aq (cy (rv 1) cJ) ax)))
 (aI (dz (RW.rt (oq (ja (cK (jx T.z_isinstance T.z_list kL (rv 2)))) (kz (cp (BF hu) A6 (a_ hV jv T.dQ kH (aq (rv 2) ax)) (gK kJ kC (rv 5) cJ))))) (aJ (bc dR)) cM)
 (aI (dz (RW.rt (oq (ja (cK (a_ (jQ rfl) lN T.z_all qF (aq (lO hZ ["places","stand","wish","paper","onward","is_end","many"] q (dF (rv 2)) ?g0 rt0 ?e0) ax)))) (kz (cp (sf hu) sH cJ (cy (rv 2) cJ))))) (aJ (bc dR)) cM)
 (aI (dz (ja (cK (a_ (jQ rfl) lN T.z_all qF (aq (lO hZ ["at","stand","wish","paper","onward","is_end","many"] q (nO rfl T.z_range (aq (rv 5) ax)) ?g1 rt0 ?e1) ax)))) (aJ (bc dR)) cM)
 (aJ (bc (Ay (a_ (sU rfl) wa T.z_any Ag (aq (lO hZ ["place","stand","wish","paper","onward","is_end","many"] q (dF (cy (rv 2) (rv 5))) ?g2 rt0 ?e2) ax)))))))))
 (case g0=>intro _ _ _ _ q;exact(bD q))
 (case e0=>intro _ _ _ _;exact(bj (dG T) hr (aq (rv 0) ax)))
 (case g1=>intro _ _ _ _ q;exact(bD q))
 (case e1=>intro _ _ _ _;exact(bj (qT T) hr (aq (rv 1) (aq (rv 2) (aq (rv 0) (aq (rv 3) (aq (rv 4) ax)))))))
 (case g2=>intro _ _ _ _ q;exact(bD q))
 (case e2=>intro _ _ _ _;exact(l5 (oA (jh T) qK) hr (aq (rv 2) (aq (rv 0) ax))))
theorem wm(T:Txt K mg):OkE P w K mg 13 "row_paper" ["stand","wish","paper"] gJ:=by
 exists "z!0!17$###'3>!0!1!2mn$#####'4)&(",["stand","wish","paper"],T.row_paper,gg,tZ
theorem si(T:Txt K mg):OkE P w K mg 2 "are_some_of" ["thing","things"] cm:=by
 exists "z!0I;<!0$#2%6CD?:)&/.!00+4+13$#J!0$#'493)&( 0, 1!0!2_",["thing","things"],T.are_some_of,["part","thing","things"],dG
theorem wd(T:Txt K mg):OkE P w K mg 1 "worths_of" ["stand","names"] gI:=by
 exists "z$N-!10,!2!0!3*b>&@!2~,)&((",["stand","names","found","name"],T.worths_of
theorem qm(T:Txt K mg):OkE P w K mg 2 "are_too_many" ["stand","names","highs"] ez:=by
 exists "z!0!1$##'3-!30+4+14$#J;<:)&/.!30+4+14$#p!1$#2^)&(( 0, 1!0!3~- 0, 1!3!0X",["stand","names","highs","worths"],T.are_too_many,wd,["worth","stand","names","highs","worths"]
theorem uh(T:Txt K mg):OkE P w K mg 1 "has_one_of" ["stand","name","worths"] fQ:=by
 exists "z!0!1*0+4+13$#k)& 0, 1!0!3_",["stand","name","worths"],T.has_one_of,["worth","stand","name","worths"]
theorem pL(T:Txt K mg):OkE P w K mg 2 "are_too_short" ["stand","names","worths","lows"] dS:=by
 exists "z!10+++~.3!20+4+14$#p!4$#2o)&( 0, 1!1!0!3$###'5;L 1!0 0, 1!4!0X",["stand","names","worths","lows","havers"],T.are_too_short,["name","stand","names","worths","lows","havers"],["worth","stand","names","worths","lows","havers"],uh
theorem ub(T:Txt K mg):OkE P w K mg 13 "many_paper" ["stand","wish","paper"] gj:=by
 exists "z!0!17$###'3>!2I;<!2$#2%BCD?:)&/.!2%*-!2%*76!3!1%*$##'4!0!3!1%*$#'6$###'593)&/.!1%*$#'7-!2%*7R!3!4$#~/$##'4!0!1%*!3!4$####'8933)&(((((",["stand","wish","paper","some","lows"],T.many_paper,gg,si,qm,oQ,p_,pL
theorem qf(T:Txt K mg):OkE P w K mg 26 "_law_pair_right" ["stand","one","other","some"] eB:=by
 exists "z!1$#'3;<!2$#'3;<CD?:)&/.!30+++14$HB:)&/.!0!1$##'5-!0!2$##'6-!4%S!5%*B:)&/.!4%S76!2!4%SM$##'7!1!5%*$##'793)&/.!0!1!4%SM$###'8:q!0!2!5%*$###'9:q93)&(((((( 0, 1!2!0$##'7!3!0$##'7BL 1%",["stand","one","other","some","here","there"],T.l_pair_right,qX,["filling","stand","one","other","some","here","there"],p9,wV,pS,wm,ub
theorem zX(T:Txt K mg):OkE P w K mg 4 "_law_doors" ["pen","stand"] jU:=by
 exists "z%!0%$##'35-$N-!0%$##'3$#G,!0!2$##'3-!5!0!1$##'4!0!2$##'3!5%5!2A$##H!0%$##'3*$###8-!6!3a!3!6[>&/.&((@!3$#K)&(((",["pen","stand","states","found","k","q","door"],T.l_doors,d9,jN
theorem vC(T:Txt K mg):OkE P w K mg 5 "_law_wish_of" ["pen","stand","kind"] gH:=by
 exists "z!0!1$##'3-!2%6E/.!2%6E/.!2%6E/.!2%6%$#G+++14$#K-7!3!0!1$##'5!:$####8)&(/.E((((( 0, 1!1%$##'6%6L 1!0",["pen","stand","kind","names","weights","total","name","weight","low","high","ends"],T.l_wish_of,jI,["p","pen","stand","kind","names","weights","total","name","weight","low","high","ends"],zX,d9
theorem qB(T:Txt K mg):OkE P w K mg 14 "_law_less_right" ["stand","wish"] eA:=by
 exists "z7!1%*!1%*%T`r!1%*$####87!1%*!1%*!1%*%T`r$####8$##H-!0!1$##'3%S76:)&/.!20+++14$HR)&(( 0, 1!1!0$##'3%S76L 1%",["stand","wish","less"],T.l_less_right,p9,["one","stand","wish","less"]
theorem oF(T:Txt K mg):OkE P w K mg 4 "_law_turned_right" ["stand","wish","some"] dw:=by
 exists "z!1%*$#2%B:)&/.!1%*%*-%$#G+4+13%!3$##8!3%$##8$##H5$#fM-!1%*0+4+14$#K-7!1%*%Q~0!5!3$#8$####8-!20+++15$HR)&((((( 0, 1!0!0$##8 0,,,O===P 1!7!2X!1!7!0X$###8 0, 1!2!0$##'6!7!0$##'6BL 1%",["stand","wish","some","last","way","doors","other"],T.l_turned_right,["q","stand","wish","some","last","way","doors","other"],["q","worth","p","stand","wish","some","last","way","doors","other"],["filling","stand","wish","some","last","way","doors","other"],pS
theorem Kg(T:Txt K mg):OkE P w K mg 27 "law" ["script"] zN:=by
 exists "z!0$#'3-%$#G,!1$#'5%%$###'4-!3$#'6-!1!3$##'7-!1!3$##'8-!1%$##'9-!3!5!6!7$####':-7!5!6!7!7$###8$#8$###8-!8j~1!3!8!9!4$####';;<cd?:)&/.%$#G,!1!3%$###'<-!3!;$##'=;<!3!;!4$###'>;<CD?:)&/.&(@&((((((((@:)&((",["script","pen","turn","stand","some","names","worth","many","row","other","k","wish"],T.law,Bs,zj,BK,t6,jI,jN,d9,t5,qf,vC,qB,oF
end
end My
namespace PySem.W.Fast
def tw10219448307775154933:=()
def tw4109791322057412144:=()
def tw8466717965622675020:=()
def tw10901389598501117862:=()
def tw7297673259252380885:=()
def tw16873789984613372714:=()
def tw6529874903523861614:=()
def tw10780267874036536470:=()
def tw2616690638155874891:=()
def tw15707128769428111158:=()
def tw6049390883690069335:=()
def tw2845733347717289562:=()
def tw7018606892781533711:=()
def tw7916206484557902025:=()
def tw10457390812504277582:=()
def tw11613338221111821902:=()
def tw9633245257166675411:=()
def tw17937370343371379318:=()
def tw8011749683468284211:=()
def tw4091932878076361051:=()
def tw6161794150005198013:=()
def tw5758465596076529128:=()
def tw7004408466372948959:=()
def tw7776272204757157857:=()
def tw11894504254943737995:=()
def tw14207405069907947732:=()
def tw16417056366888148546:=()
def tw16428067025574181789:=()
def tw15061135778103056849:=()
def tw4060386716376321185:=()
def tw14763143540778800089:=()
def tw2572630455782108508:=()
def tw6344662013357276782:=()
def tw4207009803585263930:=()
def tw4137548161505681170:=()
def tw5964855784769083317:=()
def tw1423358366515299279:=()
def tw13483308835138324187:=()
def tw480578805855194886:=()
def tw6197507778551786811:=()
def tw2185367489183397988:=()
def tw15064999873476453178:=()
def tw14133547448222143655:=()
def tw12186238221652503750:=()
def tw4050359708048678081:=()
def tw5240014606215383621:=()
def tw10154582937647024980:=()
def tw14349451785779546386:=()
def tw12119216166957521559:=()
def tw4563199978421299111:=()
def tw17352336968726088362:=()
def tw9184158687379780688:=()
def tw16566907985256966925:=()
def tw10236242667979896837:=()
def tw15390510728818754802:=()
def tw16974681590671695339:=()
def tw2403529264380156576:=()
def tw2826485690058305362:=()
def tw14637471094186753424:=()
def tw11219994085635748053:=()
def tw18057727792283721680:=()
def tw10375540681316358617:=()
def tw10619654303660201940:=()
def tw3084680842651221904:=()
def tw12726788300965864505:=()
def tw670097862796805010:=()
def tw15556413730773962122:=()
def tw15950237832185956370:=()
def tw1737798134264648386:=()
def tw291524939433627214:=()
def tw6155239628926484966:=()
def tw13683911208256928036:=()
def tw9733554360240251663:=()
def tw14734121816450274660:=()
def tw17126230332450113025:=()
def tw14847383032464826292:=()
def tw6676240511050450881:=()
def tw17536497050367930308:=()
def tw15306982555336417963:=()
def tw6048135316367694754:=()
def tw3480979808742451139:=()
def tw9310989300748950757:=()
def tw7389884262108899528:=()
def tw15418680129098336490:=()
def tw4338164466484838307:=()
def tw518002037834099849:=()
def tw13297473929426442766:=()
def tw13603403041033099979:=()
def tw12589294427136166093:=()
def tw3093631658675964397:=()
def tw6990598190722386222:=()
def tw182396071740770213:=()
def tw8436492404210019807:=()
def tw15702674016884558297:=()
def tw7073409636015476195:=()
def tw1623379998568859843:=()
def tw2813613811901073287:=()
def tw1645040736939059936:=()
def tw16105039386685213174:=()
def tw1189707747736998860:=()
def tw12555469698543475866:=()
def tw9777204707294042919:=()
def tw3799230078990864290:=()
def tw2717845659817174205:=()
def tw5377699388143414865:=()
def tw15307875791837474791:=()
def tw4892745587863706867:=()
def tw13311905624329008446:=()
def tw16866943582572390339:=()
def tw7664341649783610896:=()
def tw16259729513512052579:=()
def tw10334147060726387439:=()
def tw6239989914705818898:=()
def tw3285521496549637149:=()
def tw1844246778404820853:=()
def tw16850258255157293920:=()
def tw13155592944491115718:=()
def tw7801705955739581578:=()
def tw16510399813003623873:=()
def tw9550532513865159204:=()
def tw13671988805594506951:=()
def tw631149578810298914:=()
def tw6927613335377871906:=()
def tw2855573580101138397:=()
def tw3666030305893158725:=()
def tw627023969854211212:=()
def tw11889884813123424379:=()
def tw1262646637021865736:=()
def tw11540623840762668221:=()
def tw5888261227186803413:=()
def tw5621111230592241856:=()
def tw17646462608633934358:=()
def tw17599431687889009516:=()
def tw14642124122732005912:=()
def tw8144842043609775631:=()
def tw5614033492036194355:=()
def tw5889479283459779401:=()
def tw17325964894001044611:=()
def tw18403374885265347419:=()
def tw8727990707004431918:=()
def tw3773867751862078009:=()
def tw7579434730384842062:=()
def tw7890531340976004736:=()
def tw9224372511756345239:=()
def tw10312457220425880703:=()
def tw8978538151181595828:=()
def tw1458837379140902239:=()
def tw7122817612979815434:=()
def tw2250999949810159255:=()
def tw7664286397660418736:=()
def tw16208014202665296019:=()
def tw4178746437252447927:=()
def tw17871218063507541960:=()
def tw5112250996864051538:=()
def tw6454794270384475728:=()
def tw4706802335143009343:=()
def tw8355993447744248127:=()
def tw15597095533803377745:=()
def tw5245110313854435001:=()
def tw18091059134017880973:=()
def tw8749773509714464404:=()
def tw17098874432806074812:=()
def tw1685756396053373125:=()
def tw13308882592178782776:=()
def tw12707522740229082597:=()
def tw12045230854252185711:=()
def tw17347656301544978486:=()
def tw7300373743403296574:=()
def tw12288171267189000233:=()
def tw11791559814398721503:=()
def tw10130008654971870391:=()
def tw18430737475790391736:=()
def tw9211145750967480363:=()
def tw14847619614545212275:=()
def tw5439186274964472342:=()
def tw13074295785221060224:=()
def tw5238369716060067972:=()
def tw5647221947728234612:=()
def tw92954307928933574:=()
def tw9960944514164944943:=()
def tw6317599660723328238:=()
def tw2431821315605675659:=()
def tw17726464211831004427:=()
def tw11699241184853248685:=()
def tw17802944722096631812:=()
def tw14868623141702572963:=()
def tw6443191954752039020:=()
def tw16738948380507939604:=()
def tw14045602268521597017:=()
def tw13084127999550119901:=()
def tw12899293177650875853:=()
def tw12237431577299005909:=()
def tw3803638162342047917:=()
def tw15494562348073666961:=()
def tw6910338132997683077:=()
def tw1559887774390627957:=()
def tw2830075605001901476:=()
def tw5376160807252379134:=()
def tw11480940425038624003:=()
def tw9414246236996760857:=()
def tw14987449225744659635:=()
def tw6407408707581978404:=()
def tw2682897027120263782:=()
def tw15671712807584611079:=()
def tw17101120024916749507:=()
def tw18162868745834723469:=()
def tw12584438504884509266:=()
def tw5178595034928860965:=()
def tw6534181245244288934:=()
def tw6164453268206071744:=()
def tw12839296470767922877:=()
def tw12985454468143672618:=()
def tw3308239882411259836:=()
def tw14528582937956803267:=()
def tw7087160592809263335:=()
def tw4126085799015534323:=()
def tw17455679228716173647:=()
def tw8806459214766047178:=()
def tw7690705630771672677:=()
def tw1577044510588591712:=()
def tw4131805053024320720:=()
def tw6904960556952373028:=()
def tw5816405542758933837:=()
def tw11144294392765482051:=()
def tw17495703512689844640:=()
def tw10957905455342809301:=()
def tw2769933815546011196:=()
def tw13460223969395470809:=()
def tw13815041210539083643:=()
def tw10649672537153965534:=()
def tw599316730323229756:=()
def tw2164753605091501933:=()
def tw15814306082556070437:=()
def tw15508061288494323156:=()
def tw12867618333100431887:=()
def tw12040991047146514493:=()
def tw10856682997946622050:=()
def tw10612281446717830105:=()
def tw13534411012585210014:=()
def tw2052762161751988242:=()
def tw5878690910119718682:=()
def tw1637363453534078115:=()
def tw13206220474058986580:=()
def tw9756159639369269752:=()
def tw3203473351892698727:=()
def tw17900787320547673462:=()
def tw15043948165135686976:=()
def tw7005936853237795460:=()
def tw15563380195168880475:=()
def tw15560288601974593036:=()
def tw9066294940814019634:=()
def tw8312876116198255203:=()
def tw7312395225385534553:=()
def tw5213559976612474309:=()
def tw5201235812435186095:=()
def tw1521992954615904776:=()
def tw2231927056578680723:=()
def tw12901155254149824197:=()
def tw9098082139251080247:=()
def tw4890330577760563455:=()
def tw17100432063579024353:=()
def tw8063414751164151989:=()
def tw5577822298023854233:=()
def tw16730661596427677042:=()
def tw7949963674771675143:=()
def tw5218779542610688103:=()
def tw503325661654820154:=()
def tw8448580370118354211:=()
def tw15924761982975318233:=()
def tw16191479751091698328:=()
def tw11776203773638553484:=()
def tw6462934283401779792:=()
def tw18228665868013257476:=()
def tw8794061987213294194:=()
def tw15558186268473850990:=()
def tw830750894326474558:=()
def tw7325722570705884361:=()
def tw11772666090127955906:=()
def tw8135627574679630818:=()
def tw4492627932253953456:=()
def tw792219474405330073:=()
def tw3643978132057904877:=()
def tw14544898053332218405:=()
def tw3129823084007085607:=()
def tw13022865992804827687:=()
def tw8053991608294122989:=()
def tw14744484825130607151:=()
def tw515986640525981751:=()
def tw17804513269600139982:=()
def tw332094222195367493:=()
def tw16290172617238184112:=()
def tw10606179661229004099:=()
def tw18061064874279971487:=()
def tw4306808107389310524:=()
def tw4643584085745579820:=()
def tw14649689719456627398:=()
def tw7608036590127837768:=()
def tw18220790992630397162:=()
def tw15660395635981431228:=()
def tw11668080421653813253:=()
end PySem.W.Fast
namespace My
open PySem L2
noncomputable def zD(K:Oh):Sp:=λvs H Q _=>∃(l:Addr)(ns:List Int),vs=[.ref l]/\SqL K H l (ns.map V.int)/\ns.length<=63/\∀H',Q (.bl true) H'
theorem all_mk{l:PySem.W.OpenLaw}{w:World}{K:Oh}{mg:Str->Option Value}{fa:Addr}(hfa:mg "law"=some (.ref fa))(T:Txt K mg) :
  ∃fd:FuncData,(∀(s:Shared)(v:Value),BindsTo s fd ⟨[v],[]⟩ [("script",v)])/\∀base:Heap,K.In base->base.Ns mainGlobals mg->dY l.prog w K mg base CX0 27 fa fd ["script"] (zD K):=by
 obtain⟨f,fd,m,kp,b,F⟩:=Kg (P:=l.prog) (w:=w) T;have e2:f=fa:=(T4 (OV (hfa.symm.trans m))).symm;subst e2;refine⟨fd,λs v=>.of_eq (b [v] rfl),λbase _ _=>(F base).imp λvs H Q E h=>?_⟩;obtain⟨l,ns,rfl,hS,hl,hQ⟩:=h;refine⟨λ_=>l,[],[.sc ns],⟨λn o h=>(by cases h),λn m o o' h=>(by cases h)⟩,.cons ⟨l,rfl,SqL.mono (λb o h=>bB h (by rintro⟨n,o',e,_⟩;cases e)) hS⟩ .nil,?_⟩;rw[DX ns];intro b μ' H' st r;cases r;exact hQ H'
theorem walk{l:PySem.W.OpenLaw}{q:Program}{loose:List Str}{XP:(Str->Option Value)->Heap->Prop}{YP:World->Heap->Prop}{d:DefRec}{K:Params->Oh}(hn:l.most=some 63)(hdf:d.params.defaults=[])
  (hY:∀(w:World)(h:Heap),YP w h->(K w.params).In h)
  (F:∀(w:World)(mg:Str->Option Value)(fa:Addr)(h:Heap),(K w.params).In h->h.Ns mainGlobals mg->mg d.name=some (.ref fa) ->
   ∃fd:FuncData,(∀(s:Shared)(u:Value),BindsTo s fd ⟨[u],[]⟩ [("script",u)])/\∀base:Heap,(K w.params).In base->base.Ns mainGlobals mg->dY l.prog w (K w.params) mg base CX0 27 fa fd ["script"] (zD (K w.params))) :
  Xh q loose XP YP l.row.toRowW d [] (λf vs=>WI f vs):=
 L2.F7 (n:=63) (k:=27) (x:="script") (CX:=λ_=>CX0) (sp:=λw=>zD (K w.params)) hn (by decide) hdf ⟨rfl,by decide,by decide⟩ hY F (λ_ _ a ns hl _ hS=>⟨a,ns,rfl,hS,hl,λ_=>rfl⟩) λ_ _ _ _ _ z=>z
end My
open PySem PySem.W PyProof.Rows
set_option maxRecDepth 100000 in
set_option maxHeartbeats 0 in
theorem PySem.Challenge.cw_wishstrike_k27_whole_rows_and_other_wish_holds : PySem.Challenge.rw_wishstrike_k27_whole_rows_and_other_wish.Holds := by
  w_on;o_law;k_head;(case hw=>w_witness2)
  k_fill
  refine My.walk (l:=Q3) rfl rfl (λw h Y=>PySem.W.kIn_of Y) ?F
  case F=>
    intro w mg fa h KX G hmg
    refine' My.all_mk hmg ?T
    (case T=>constructor<;>first |(refine' PySem.W.mg_none_of KX G ?z;(case z=>k_is)) |(refine' L2.LP KX G ?a ?l ?c ?k;(case a=>k_is);(case l=>k_is);(case c=>k_is);(case k=>k_is)))
#print axioms PySem.Challenge.cw_wishstrike_k27_whole_rows_and_other_wish_holds
